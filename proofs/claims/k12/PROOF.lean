import PyProof.Rows.All
import Wide.All
import OpenK.AllK
import Wide.FinOn
import Lean
import PyProof.EqAt
import PyProof.EqKinds
import PyProof.TupleCall
import PyProof.NeKinds
import PyProof.ConsumeWalk
import PyProof.ReprRoads
import PyProof.ReprLen
import PyProof.ZipIter
import PyProof.Draws
import PyProof.EnumMake
import PyProof.SumWalkG
import PyProof.Rows.SortWalk
import PyProof.ListMulRoad
import PyProof.FactsAll.tuple_2
import PyProof.WalksMore
import PyProof.RaisesMany
import PyProof.ExcClass2
import OpenK.KOwn
import PyProof.ExcBaseAll.ValueError
import PyProof.RulesAs
import KE.KTryMore
import KE.KLam
import KE.KIsNot
import PyProof.ExcArgsOwn
import PyProof.ExcAttrAll.ValueError
import KE.KMinKey
import KE.KRevIter
import PySem.Challenge.RW_platerest_k12_rows_refused
set_option Elab.async false
set_option linter.all false
set_option maxRecDepth 100000
abbrev n0_:=@List.getElem?_eq_getElem
abbrev n1_:=@PySem.wpAny_bind
abbrev n2_:=@PySem.Heap.get?_push_of_some
abbrev n3_:=@List.getElem?_map
abbrev n4_:=@List.length_map
abbrev n5_:=@Nat.le_refl
abbrev n6_:=@List.mem_of_getElem?
abbrev n7_:=@List.size_toArray
abbrev n8_:=@List.mem_singleton
abbrev n9_:=@Nat.lt_of_lt_of_le
abbrev n10_:=@PySem.wpAny_pure
abbrev n11_:=@PySem.Heap.get?_push_size
abbrev n12_:=@List.mem_cons_of_mem
abbrev n13_:=@PySem.Heap.lt_size
abbrev n14_:=@decide_eq_false
abbrev n15_:=@List.mem_cons_self
abbrev n16_:=@List.length_cons
abbrev n17_:=@List.length_append
abbrev n18_:=@List.mem_cons
abbrev n19_:=@List.getD_eq_getElem?_getD
abbrev n20_:=@Nat.lt_of_le_of_lt
abbrev n21_:=@Bool.false_ne_true
abbrev n22_:=@Bool.and_eq_true
abbrev n23_:=@Nat.le_of_ble_eq_true
abbrev n24_:=@Nat.le_trans
abbrev n25_:=@List.not_mem_nil
abbrev n26_:=@decide_eq_true
abbrev n27_:=@of_decide_eq_true
abbrev n28_:=@PySem.mem_of_lookup
abbrev n29_:=@List.mem_map
abbrev n30_:=@List.mem_append_right
abbrev n31_:=@Option.map_eq_some_iff
abbrev n32_:=@List.take_succ_eq_append_getElem
abbrev n33_:=@List.getElem?_eq_some_iff
abbrev n34_:=@List.mem_append
abbrev n35_:=@PySem.W.mg_none_of
abbrev n36_:=@Nat.ne_of_lt
abbrev n37_:=@List.length_nil
abbrev n38_:=@Rat.intCast_mul
abbrev n39_:=@Nat.pow_le_pow_right
abbrev n40_:=@List.length_replicate
abbrev n41_:=@List.getElem_mem
abbrev n42_:=@List.all_eq_true
abbrev n43_:=@Nat.one_lt_two_pow
abbrev n44_:=@List.length_drop
abbrev n45_:=@List.getElem_of_mem
abbrev n46_:=@List.mem_of_mem_take
abbrev n47_:=@PySem.Builtin.SmallTypes.nextOf
abbrev n48_:=@List.mem_of_mem_drop
abbrev n49_:=@Int.mul_comm
abbrev n50_:=@Int.natAbs_mul
abbrev n51_:=@PyProof.Rows.callWith_type1
abbrev n52_:=@List.getElem?_zipWith
abbrev n53_:=@PySem.W.kia_one
abbrev n54_:=@PySem.W.mg_of
abbrev n55_:=@Nat.zero_le
abbrev n56_:=@List.getElem?_append_left
abbrev n57_:=@Int.fmod_nonneg_of_pos
abbrev n58_:=@PySem.Heap.get?_update_other
abbrev n59_:=@List.take_length
abbrev n60_:=@Int.toNat_natCast
abbrev n61_:=@List.getElem?_append_right
abbrev n62_:=@List.length_zipWith
abbrev n63_:=@List.foldl_append
abbrev n64_:=@Int.gcd_dvd_right
abbrev n65_:=@PySem.Heap.size_push
abbrev n66_:=@PySem.wpAny_holding
abbrev n67_:=@PySem.wpAny_mono
abbrev n68_:=@List.length_take
abbrev n69_:=@PySem.Builtin.SmallTypes.ownedTupleIsFree
abbrev n70_:=@Nat.lt_irrefl
abbrev n71_:=@Int.fmod_lt_of_pos
namespace L2
open PySem PySem.W PyProof.Rows
def topRunT (tb : String → Option Builtin) (p : Program) (w : World) (n0 : Nat) (ann : Option Value) : Nat → SharedT → Thread → Option SharedT
  | 0, _, _ => none
  | n + 1, s, t => match through t with
    | true => some s
    | false => match stepOk n0 ann t with
      | false => none
      | true => match stepT (denote tb) p w s t with
        | some (s', t') => topRunT tb p w n0 ann n s' t'
        | none => none
theorem Zgc {tb : String → Option Builtin} {p : Program} {w : World} {n0 : Nat} {ann : Option Value} : ∀ {n : Nat} {s s' : SharedT} {t : Thread}, topRunT tb p w n0 ann n s t = some s' → topRun tb p w n0 ann n s.abs t = some s'.abs
  | 0, _, _, _, h => by cases h
  | n + 1, s, s', t, h => by
    unfold topRunT at h;unfold topRun;cases he : through t with
    | true => rw [he] at h; cases h; rfl
    | false =>
      rw [he] at h;cases hk : stepOk n0 ann t with
      | false => rw [hk] at h; cases h
      | true =>
        rw [hk] at h;cases hs : stepT (denote tb) p w s t with
        | none => rw [hs] at h; cases h
        | some r => obtain ⟨s2, t2⟩ := r; rw [hs] at h; rw [stepT_spec hs]; exact Zgc h
def btOf : List Obj → Nat → BT → BT
  | [], _, t => t
  | o :: os, n, t => btOf os (n + 1) (t.ins n o)
theorem Zhs {p q : Program} {loose : List Str} {Xt : Shared → Bool} {α : Type} {Yf : Shared → α} {Ya : World → α} {N : Nat} {g0 : Bool} {T0 : Params → BT} {n0 : Nat} {life : Life} {ann : Option Value}
    (e : opening p = plainProg p.main.scope.names) (hN : Nat.ble 600 N = true) (f : ∀ s, fenceModules? p s = some s)
    (h0 : ∀ P, absHeap (T0 P) n0 life = boot_heap P)
    (size : ∀ P, ((boot_heap P).isNs mainGlobals, (boot_heap P).objs.size, (boot_heap P).nsMap mainGlobals "__annotations__") = (true, n0, ann))
    (run : ∀ (w : World) (os : OsState), (topRunT treeTable p w n0 ann N ⟨T0 w.params, n0, life, Array.mk [], boot_drawn, boot_toks, os⟩ (topStub p)).map (fun s => ((staticsOk (importedModules p.main.body) (boot_heap w.params) s.abs.heap && namesBound p s.abs.heap && gensDone s.abs && laidKept (boot_heap w.params) s.abs.heap), openSeen q loose (importedModules p.main.body) Xt g0 s.abs, Yf s.abs)) = some (true, openGood q loose, Ya w)) : LeftO p q loose Xt Yf Ya N g0 := fun w => by
  obtain ⟨⟨h, gs, d, k, os⟩, e1, e2⟩ := n31_.mp (boot_open e hN f w);obtain ⟨rfl, rfl, rfl, rfl⟩ : h = boot_heap w.params ∧ gs = Array.mk [] ∧ d = boot_drawn ∧ k = boot_toks := by simpa using e2
  obtain ⟨z1, z2, z3⟩ : _ ∧ _ ∧ _ := by simpa only [Prod.mk.injEq] using size w.params
  obtain ⟨s, r1, r2⟩ := n31_.mp (run w os);obtain ⟨l1, l2, l3⟩ : _ ∧ _ ∧ _ := by simpa only [Prod.mk.injEq] using r2
  have r := Zgc r1
  have ha : SharedT.abs ⟨T0 w.params, n0, life, Array.mk [], boot_drawn, boot_toks, os⟩ = ⟨boot_heap w.params, Array.mk [], boot_drawn, boot_toks, os⟩ := by
    unfold SharedT.abs;rw [h0]
  rw [ha] at r
  have t : topFrom treeTable p w N ⟨boot_heap w.params, Array.mk [], boot_drawn, boot_toks, os⟩ = some s.abs := by
    unfold topFrom;dsimp only;rw [z1, z2, z3, r];show (match staticsOk (importedModules p.main.body) (boot_heap w.params) s.abs.heap && namesBound p s.abs.heap && gensDone s.abs && laidKept (boot_heap w.params) s.abs.heap with | true => _ | false => _) = _
    rw [l1]
  unfold openEnds;rw [e1];show (topFrom treeTable p w N _).map _ = _
  rw [t];exact congrArg some (Prod.ext l2 l3)
lay_quick L2.topRunT
end L2
namespace L2
open PySem PySem.W PyProof.Rows
theorem Zhc {p q : Program} {loose : List Str} {Xt : Shared → Bool} {α : Type} {Yf : Shared → α} {Ya : World → α} {g0 : Bool} {R : World → OsState → Option SharedT}
    (h1 : ∀ w os, (R w os).map (fun s => (staticsOk (importedModules p.main.body) (boot_heap w.params) s.abs.heap && namesBound p s.abs.heap && gensDone s.abs && laidKept (boot_heap w.params) s.abs.heap)) = some true)
    (h2 : ∀ w os, (R w os).map (fun s => openSeen q loose (importedModules p.main.body) Xt g0 s.abs) = some (openGood q loose))
    (h3 : ∀ w os, (R w os).map (fun s => Yf s.abs) = some (Ya w)) (w : World) (os : OsState) :
    (R w os).map (fun s => ((staticsOk (importedModules p.main.body) (boot_heap w.params) s.abs.heap && namesBound p s.abs.heap && gensDone s.abs && laidKept (boot_heap w.params) s.abs.heap), openSeen q loose (importedModules p.main.body) Xt g0 s.abs, Yf s.abs)) = some (true, openGood q loose, Ya w) := by
  have a := h1 w os;have b := h2 w os;have c := h3 w os;cases e : R w os with
  | none => rw [e] at a; cases a
  | some s =>
    rw [e] at a b c;exact congrArg some (Prod.ext (Option.some.inj a) (Prod.ext (Option.some.inj b) (Option.some.inj c)))
noncomputable abbrev bootT (P : Params) : BT := btOf (boot_heap P).objs.toList 0 .nil
noncomputable def topK (p : Program) (N : Nat) (w : World) (os : OsState) : Option SharedT := topRunT treeTable p w 11 (some (.ref 6)) N ⟨bootT w.params, 11, {}, Array.mk [], boot_drawn, boot_toks, os⟩ (topStub p)
theorem Zm3 : ∀ P, absHeap (bootT P) 11 {} = boot_heap P := fun P => by kernel_rfl
theorem Zle : ∀ P, ((boot_heap P).isNs mainGlobals, (boot_heap P).objs.size, (boot_heap P).nsMap mainGlobals "__annotations__") = (true, 11, some (.ref 6)) := fun P => by kernel_rfl
def Zpn (p : Program) (names : List Str) : List Str := ((p.main.body.flatMap bindsAtTop).filter fun x => !startupNames.contains x && !names.contains x).eraseDups
end L2

namespace My
open PySem PySem.W PyProof.Rows L2
noncomputable abbrev pw : Program := PySem.Challenge.pw_platerest_k12_rows_refused
noncomputable abbrev rr : OpenRow := OpenLaw.row PySem.Challenge.rw_platerest_k12_rows_refused
noncomputable abbrev qq : Program := view pw [88]
noncomputable abbrev ll : List Str := Zpn pw ["law"]
set_option maxRecDepth 1000000
set_option maxHeartbeats 0
theorem ws : OpenLaw.wellSaid PySem.Challenge.rw_platerest_k12_rows_refused = true := by kernel_rfl
theorem h1 : ∀ w os, (topK pw 14934 w os).map (fun s => (staticsOk (importedModules pw.main.body) (boot_heap w.params) s.abs.heap && namesBound pw s.abs.heap && gensDone s.abs && laidKept (boot_heap w.params) s.abs.heap)) = some true := fun w os => by
  unfold topK topStub;rw [PySem.W.Fast.te4652649595001227023, PySem.W.Fast.te14364793385576792824, PySem.W.Fast.te17154629097778926822, PySem.W.Fast.te12822647523644345616]
  kernel_rfl
theorem h2 : ∀ w os, (topK pw 14934 w os).map (fun s => openSeen qq ll (importedModules pw.main.body) (fun s => xlAt qq [] s && recOk (RowW.records (OpenRow.toRowW rr)) s) true s.abs) = some (openGood qq ll) := fun w os => by
  unfold topK topStub;rw [PySem.W.Fast.te4652649595001227023, PySem.W.Fast.te14364793385576792824, PySem.W.Fast.te17154629097778926822, PySem.W.Fast.te12822647523644345616, PySem.W.Fast.te4187177175401517315]
  kernel_rfl
end My
noncomputable section
set_option Elab.async false
set_option linter.all false
set_option maxRecDepth 100000
namespace L2
open PySem PySem.Spec PyProof.Rows
theorem z0_:0≤sizeLine:=by decide
theorem z1_:1≤sizeLine:=by decide
theorem z2_:2≤sizeLine:=by decide
theorem z3_:3≤sizeLine:=by decide
theorem z4_:4≤sizeLine:=by decide
theorem z5_:5≤sizeLine:=by decide
abbrev Key:=Sum Int Str
def Zqc:Key→Value→Bool
 | .inl k,v=>Value.isInt k v
 | .inr x,v=>Value.isStrOf x v
def keyH (w:World):Key→Int
 | .inl k=>hashInt k
 | .inr x=>hashStr w x
theorem Yn:∀ {k:Key} {v:Value},Zqc k v=true→(∃ i t,k=Sum.inl i∧v=Value.int i t)∨(∃ x t,k=Sum.inr x∧v=Value.str x t)
 | .inl i,v,h=>by
   obtain ⟨t,e⟩:=Value.isInt_shape (k:=i) (v:=v) h;exact .inl ⟨i,t,rfl,e⟩
 | .inr x,v,h=>by
   obtain ⟨t,e⟩:=Value.isStrOf_shape (x:=x) (v:=v) h;exact .inr ⟨x,t,rfl,e⟩
theorem Zp2 (a b:Int):decide ((Sum.inl a:Key)=Sum.inl b)=(a == b):=by
 by_cases e:a=b
 · subst e; simp
 · have h:¬ (Sum.inl a:Key)=Sum.inl b:=fun q=>e (Sum.inl.inj q);rw [n14_ h];exact (beq_eq_false_iff_ne.mpr e).symm
theorem Zpz (a b:Str):decide ((Sum.inr a:Key)=Sum.inr b)=decide (a=b):=by
 by_cases e:a=b
 · subst e; simp
 · have h:¬ (Sum.inr a:Key)=Sum.inr b:=fun q=>e (Sum.inr.inj q);rw [n14_ h,n14_ e]
theorem Zqv (a:Int) (b:Str):decide ((Sum.inl a:Key)=Sum.inr b)=false:=n14_ (fun q=>nomatch q)
theorem Zqn (a:Str) (b:Int):decide ((Sum.inr a:Key)=Sum.inl b)=false:=n14_ (fun q=>nomatch q)
def Zid (prog:Program) (w:World):PySem.KeyKind prog w Key where
 is:=Zqc
 hash:=keyH w
 inj:=fun v a b ha hb=>by
  rcases Yn ha with ⟨i,t,rfl,rfl⟩ | ⟨x,t,rfl,rfl⟩
  · rcases Yn hb with ⟨j,u,rfl,e⟩ | ⟨y,u,rfl,e⟩
    · injection e with e1 _; rw [e1]
    · exact nomatch e
  · rcases Yn hb with ⟨j,u,rfl,e⟩ | ⟨y,u,rfl,e⟩
    · exact nomatch e
    · injection e with e1 _; rw [e1]
 byValue:=fun k v h=>by
  rcases Yn h with ⟨i,t,rfl,rfl⟩ | ⟨x,t,rfl,rfl⟩ <;> rfl
 pyHash:=fun hv h=>by
  rcases Yn hv with ⟨i,t,rfl,rfl⟩ | ⟨x,t,rfl,rfl⟩
  · exact wpAny_pyHash_int h
  · exact wpAny_pyHash_str h
 eqBool:=fun hu hv h=>by
  rcases Yn hu with ⟨i,t,rfl,rfl⟩ | ⟨x,t,rfl,rfl⟩
  · rcases Yn hv with ⟨j,u,rfl,rfl⟩ | ⟨y,u,rfl,rfl⟩
    · rw [Zp2] at h; exact wpAny_eqBool_int h
    · rw [Zqv] at h; exact SeqAt.EqAt.int_str i t y u _ _ _ _ h
  · rcases Yn hv with ⟨j,u,rfl,rfl⟩ | ⟨y,u,rfl,rfl⟩
    · rw [Zqn] at h; exact SeqAt.EqAt.str_int x t j u _ _ _ _ h
    · rw [Zpz] at h; exact wpAny_eqBool_str h
 «strs»:=fun k x t v h=>by
  rcases Yn h with ⟨i,u,rfl,e⟩ | ⟨y,u,rfl,e⟩
  · exact nomatch e
  · injection e with e1 _
    subst e1;cases v <;> rfl
end L2
namespace L2
open PySem PySem.Spec PyProof.Rows
inductive V where
 | non | bl (b:Bool) | int (i:Int) | str (x:Str) | byt (b:Array UInt8) | flt (b:UInt64) | ref (a:Addr) | ty (n:String)
 deriving DecidableEq
def RelV:V→Value→Prop
 | .non,u=>u=Value.none
 | .bl b,u=>u=Value.bool b
 | .int i,u=>∃ t,u=Value.int i t
 | .str x,u=>∃ t,u=Value.str x t
 | .byt b,u=>∃ t,u=Value.bytes b t
 | .flt b,u=>∃ t,u=Value.float b t
 | .ref a,u=>u=Value.ref a
 | .ty n,u=>u=Value.type n
abbrev Vals:List V→List Value→Prop:=Paired RelV
theorem Vals.length {xs:List V} {us:List Value} (r:Vals xs us):xs.length=us.length:=Paired.length r
theorem Vals.get:∀ {xs:List V} {us:List Value} {i:Nat} {x:V},Vals xs us→xs[i]? = some x→∃ u,us[i]? = some u∧RelV x u
 | _,_,_,_,.nil,e=>by simp at e
 | _,_,0,_,.cons r _,e=>by simp at e; subst e; exact ⟨_,rfl,r⟩
 | _,_,i+1,x,.cons _ t,e=>by
   obtain ⟨u,h1,h2⟩:=Vals.get (i:=i) (x:=x) t (by simpa using e);exact ⟨u,by simpa using h1,h2⟩
theorem Vals.set {x:V} {u:Value} (r:RelV x u):∀ {xs:List V} {us:List Value} (i:Nat),Vals xs us→Vals (xs.set i x) (us.set i u)
 | _,_,_,.nil=>.nil
 | _,_,0,.cons _ t=>.cons r t
 | _,_,i+1,.cons q t=>.cons q (Vals.set r i t)
theorem Vals.append:∀ {xs ys:List V} {us ws:List Value},Vals xs us→Vals ys ws→Vals (xs++ys) (us++ws)
 | _,_,_,_,.nil,s=>s
 | _,_,_,_,.cons r t,s=>.cons r (Vals.append t s)
theorem Vals.take:∀ {xs:List V} {us:List Value} (n:Nat),Vals xs us→Vals (xs.take n) (us.take n)
 | _,_,0,_=>.nil
 | _,_,_+1,.nil=>.nil
 | _,_,n+1,.cons r t=>.cons r (Vals.take n t)
theorem Vals.drop:∀ {xs:List V} {us:List Value} (n:Nat),Vals xs us→Vals (xs.drop n) (us.drop n)
 | _,_,0,r=>r
 | _,_,_+1,.nil=>.nil
 | _,_,n+1,.cons _ t=>Vals.drop n t
def RelO:Option V→Option Value→Prop
 | some v,some u=>RelV v u
 | none,none=>True
 | _,_=>False
def KV {κ:Type}:List (κ×V)→List (κ×Value)→Prop:=Paired fun (p:κ×V) (q:κ×Value)=>p.1=q.1∧RelV p.2 q.2
def kV:Key→V
 | .inl i=>.int i
 | .inr x=>.str x
inductive HO where
 | lst (xs:List V)
 | tup (xs:List V)
 | dK (kvs:List (Key×V)) | dT (kvs:List (List Key×V))
 | set (S:Int→Bool) (n:Nat)
 | ins (C dx:Addr) (fs:List (Str×V))
 | own (x:Addr)
 | xd (fs:List (Str×V))
 | met (f x:Addr)
 | rng (lo hi:Int)
 | frz (o:Obj) (u:HO)
 | tbl (ps:Array Value)
 | ext (φ:Heap→Prop)
abbrev Hp:=Addr→Option HO
def upd (H:Hp) (a:Addr) (o:HO):Hp:=fun b=>if b=a then some o else H b
theorem Zc {H:Hp} {a:Addr} {o:HO}:upd H a o a=some o:=by unfold upd; rw [if_pos rfl]
theorem Zo {H:Hp} {a b:Addr} {o:HO} (h:b≠a):upd H a o b=H b:=by unfold upd; rw [if_neg h]
theorem Zh2 {H:Hp} {a b:Addr} {o u:HO} (h:H a=some o) (h':H b=some u) (d:o≠u):a≠b:=by
 intro e; subst e; rw [h] at h'; exact d (Option.some.inj h')
theorem Zk {H:Hp} {a b:Addr} {o:HO} (h:H a=some o) (h':H b=none):a≠b:=by
 intro e; subst e; rw [h] at h'; cases h'
section
variable (P:Program) (w:World)
def ObjOk (H:Hp) (h:Heap) (a:Addr):HO→Prop
 | .lst xs=>xs.length≤sizeLine∧∃ (its:List Value) (n:Nat),Vals xs its∧h.get? a=some { cls:=.type "list",data:=.seq its.toArray n }
 | .tup xs=>xs.length≤sizeLine∧∃ its:List Value,Vals xs its∧IsTup h a its.toArray
 | .dK kvs=>kvs.length≤sizeLine∧(a == sysModules)=false∧∃ vs,KV kvs vs∧h.DictOf (Zid P w) a vs
 | .dT kvs=>kvs.length≤sizeLine∧(a == sysModules)=false∧∃ xs:List (List Key×Addr×Value),
    Paired (fun (p:List Key×V) (q:List Key×Addr×Value)=>p.1=q.1∧H q.2.1=some (.tup (p.1.map kV))∧RelV p.2 q.2.2) kvs xs ∧
    ∃ o es ep,h.get? a=some o∧o.ExactDict∧o.data=.dict es ep∧es.toList=xs.map (entryOfKey (tupleKind (Zid P w)))∧(xs.map (·.1)).Nodup
 | .set S n=>h.SetOf (intKind P w) a S n
 | .ins C dx fs=>H dx=some (.own a)∧fs.length≤1000∧dx≠a∧h.get? a=some (PySem.W.instObj C dx) ∧
    ∃ mA,h.Ns1 dx mA∧(∀ f,RelO (fs.lookup f) (mA f))∧PySem.Within mA (fs.map (·.1))
 | .own _=>∃ o,h.get? a=some o
 | .xd fs=>∃ mA,h.Ns1 a mA∧∀ f,RelO (fs.lookup f) (mA f)
 | .rng lo hi=>∃ t u v,h.get? a=some { cls:=.type "range",data:=.fields #[.int lo t,.int hi u,.int 1 v] }
 | .frz o u=>h.get? a=some o∧ObjOk H h a u
 | .tbl ps=>h.get? a=some { cls:=.none,data:=.fields ps }
 | .met f x=>h.get? a=some (PySem.W.methodObj (.ref f) (.ref x))
 | .ext φ=>φ h∧(∃ o,h.get? a=some o)∧∀ h1 h2:Heap,φ h1→(∀ o,h1.get? a=some o→h2.get? a=some o)→φ h2
def HOk (H:Hp) (h:Heap):Prop:=∀ a o,H a=some o→ObjOk P w H h a o
end
section
variable {P:Program} {w:World} {H H':Hp} {h h':Heap} {a:Addr} {o:HO}
theorem ObjOk.lt (x:ObjOk P w H h a o):a < h.objs.size:=by
 cases o with
 | lst xs=>obtain ⟨_,_,_,_,e⟩:=x; exact n13_ e
 | tup xs=>obtain ⟨_,_,_,p⟩:=x; exact p.lt
 | dK kvs=>obtain ⟨_,_,_,_,o,_,_,e,_⟩:=x; exact n13_ e
 | dT kvs=>obtain ⟨_,_,_,_,o,_,_,e,_⟩:=x; exact n13_ e
 | set S n=>obtain ⟨o,_,_,_,e,_⟩:=x; exact n13_ e
 | ins C dx fs=>obtain ⟨_,_,_,e,_⟩:=x; exact n13_ e
 | own y=>obtain ⟨_,e⟩:=x; exact n13_ e
 | xd fs=>obtain ⟨_,⟨_,_,_,e,_⟩,_⟩:=x; exact n13_ e
 | rng lo hi=>obtain ⟨_,_,_,e⟩:=x; exact n13_ e
 | frz ob u=>obtain ⟨e,_⟩:=x; exact n13_ e
 | tbl ps=>exact n13_ (show h.get? a=some _ from x)
 | met f y=>exact n13_ (show h.get? a=some _ from x)
 | ext φ=>obtain ⟨_,⟨_,e⟩,_⟩:=x; exact n13_ e
theorem Paired.mapP {α β:Type} {F G:α→β→Prop}:∀ {l₁:List α} {l₂:List β},Paired F l₁ l₂→(∀ a b,F a b→G a b)→Paired G l₁ l₂
 | _,_,.nil,_=>.nil
 | _,_,.cons r t,f=>.cons (f _ _ r) (Paired.mapP t f)
theorem ObjOk.stay (x:ObjOk P w H h a o) (k:∀ b u,(b=a∨H b=some (.own a))→h.get? b=some u→h'.get? b=some u)
 (ho:∀ b,H b=some (.own a)→H' b=some (.own a)) (ht:∀ b xs,H b=some (.tup xs)→H' b=some (.tup xs)):ObjOk P w H' h' a o:=by
 induction o with
 | lst xs=>obtain ⟨z,its,n,r,e⟩:=x; exact ⟨z,its,n,r,k _ _ (.inl rfl) e⟩
 | tup xs=>obtain ⟨z,its,r,ob,e,c⟩:=x; exact ⟨z,its,r,ob,k _ _ (.inl rfl) e,c⟩
 | dK kvs=>obtain ⟨z,y,vs,r,ob,es,ep,e,c⟩:=x; exact ⟨z,y,vs,r,ob,es,ep,k _ _ (.inl rfl) e,c⟩
 | dT kvs =>
   obtain ⟨z,y,xs,r,ob,es,ep,e,c⟩:=x;exact ⟨z,y,xs,Paired.mapP r fun p q z=>⟨z.1,ht _ _ z.2.1,z.2.2⟩,ob,es,ep,k _ _ (.inl rfl) e,c⟩
 | set S n=>obtain ⟨ob,es,ep,t,e,c⟩:=x; exact ⟨ob,es,ep,t,k _ _ (.inl rfl) e,c⟩
 | ins C dx fs =>
   obtain ⟨d,z,ne,e,mA,⟨od,es,ep,e2,c⟩,r⟩:=x;exact ⟨ho _ d,z,ne,k _ _ (.inl rfl) e,mA,⟨od,es,ep,k _ _ (.inr d) e2,c⟩,r⟩
 | own y=>obtain ⟨ob,e⟩:=x; exact ⟨ob,k _ _ (.inl rfl) e⟩
 | xd fs=>obtain ⟨mA,⟨od,es,ep,e,c⟩,r⟩:=x; exact ⟨mA,⟨od,es,ep,k _ _ (.inl rfl) e,c⟩,r⟩
 | rng lo hi=>obtain ⟨t,u,v,e⟩:=x; exact ⟨t,u,v,k _ _ (.inl rfl) e⟩
 | frz ob u ih=>obtain ⟨e,q⟩:=x; exact ⟨k _ _ (.inl rfl) e,ih q⟩
 | tbl ps =>
   have e:h.get? a=some { cls:=.none,data:=.fields ps }:=x;show h'.get? a=some { cls:=.none,data:=.fields ps }
   exact k a _ (.inl rfl) e
 | met f y =>
   have e:h.get? a=some (PySem.W.methodObj (.ref f) (.ref y)):=x;show h'.get? a=some (PySem.W.methodObj (.ref f) (.ref y))
   exact k a _ (.inl rfl) e
 | ext φ=>obtain ⟨p,⟨o,e⟩,st⟩:=x; exact ⟨st _ _ p fun o q=>k _ _ (.inl rfl) q,⟨o,k _ _ (.inl rfl) e⟩,st⟩
theorem HOk.lt (x:HOk P w H h) (e:H a=some o):a < h.objs.size:=(x a o e).lt
theorem HOk.fresh (x:HOk P w H h) (e:h.objs.size≤a):H a=none:=by
 cases q:H a with
 | none=>rfl
 | some u=>exact absurd (n9_ (x.lt q) e) (n70_ _)
theorem HOk.kept (x:HOk P w H h) (k:∀ b u,h.get? b=some u→h'.get? b=some u):HOk P w H h':=fun a o e =>
 (x a o e).stay (fun b u _ q=>k b u q) (fun _ q=>q) fun _ _ q=>q
theorem HOk.laid (x:HOk P w H h) (k:∀ b u,h.get? b=some u→h'.get? b=some u) (hp:h.objs.size≤a) (new:ObjOk P w (upd H a o) h' a o):HOk P w (upd H a o) h':=fun b u e=>by
 have hn:=x.fresh hp
 by_cases hb:b=a
 · subst hb; rw [Zc] at e; cases e; exact new
 · rw [Zo hb] at e;exact (x b u e).stay (fun c v _ q=>k c v q) (fun c q=>by rw [Zo (Zk q hn)]; exact q) fun c xs q=>by rw [Zo (Zk q hn)]; exact q
end
def Rd (H:Hp) (a:Addr) (u:HO):Prop:=H a=some u∨∃ o,H a=some (.frz o u)
theorem Rd.ok {P:Program} {w:World} {H:Hp} {h:Heap} {a:Addr} {u:HO} (r:Rd H a u) (x:HOk P w H h):ObjOk P w H h a u:=by
 rcases r with r | ⟨o,r⟩
 · exact x a u r
 · obtain ⟨_,q⟩:=x a _ r;exact q
def Mut:Option HO→Prop
 | some (.lst _)=>True
 | some (.dK _)=>True
 | some (.dT _)=>True
 | some (.set _ _)=>True
 | some (.ins _ _ _)=>True
 | some (.ext _)=>True
 | _=>False
section
variable {P:Program} {w:World} {H:Hp} {h h':Heap} {x e:Addr} {o':HO}
theorem HOk.write (ok:HOk P w H h) (mu:Mut (H x)) (he:e=x∨H e=some (.own x)) (k:∀ b u,b≠e→h.get? b=some u→h'.get? b=some u) (heo:∃ u,h'.get? e=some u)
 (new:ObjOk P w (upd H x o') h' x o'):HOk P w (upd H x o') h':=fun b u q=>by
 have nown:∀ c y,H c=some (.own y)→c≠x:=fun c y r z=>by subst z; rw [r] at mu; exact mu
 have ntup:∀ c xs,H c=some (.tup xs)→c≠x:=fun c xs r z=>by subst z; rw [r] at mu; exact mu
 by_cases hb:b=x
 · subst hb; rw [Zc] at q; cases q; exact new
 · rw [Zo hb] at q
   by_cases hbe:b=e
   · have q':H b=some (.own x):=by
      rcases he with z | z
      · exact absurd (hbe.trans z) hb
      · rw [hbe]; exact z
     rw [q] at q'; cases q';obtain ⟨v,hv⟩:=heo;exact ⟨v,by rw [hbe]; exact hv⟩
   · refine (ok b u q).stay (fun c v hc r=>k c v ?_ r) (fun c r=>by rw [Zo (nown c b r)]; exact r) fun c xs r=>by rw [Zo (ntup c xs r)]; exact r
     rcases hc with rfl | hc
     · exact hbe
     · rintro rfl
       rcases he with z | z
       · exact nown c b hc z
       · rw [hc] at z; cases z; exact hb rfl
end
structure Un (fs ex:List Addr) (H H':Hp) (h h':Heap):Prop where
 keep:∀ b o,h.get? b=some o→H b=none→b∉fs→b∉ex→h'.get? b=some o
 slot:∀ b o,h.get? b=some o→H b=none→b∈fs→b∉ex→∃ sl,h'.get? b=some { o with slots:=sl }
 free:∀ b o,h.get? b=some o→H b=none→b∉ex→H' b=none
 there:∀ b o,h.get? b=some o→b∉ex→∃ o',h'.get? b=some o'
 tups:∀ b xs,H b=some (.tup xs)→H' b=some (.tup xs)
 frzs:∀ b o u,H b=some (.frz o u)→H' b=some (.frz o u)
 tbls:∀ b ps,H b=some (.tbl ps)→∃ more,H' b=some (.tbl (ps++more))
section
variable {fs fs' ex ex':List Addr} {H H1 H2:Hp} {h h1 h2 h':Heap} {a x e:Addr} {o:HO}
theorem Un.any (u:Un fs ex H H1 h h1) {b:Addr} {ob:Obj} (q:h.get? b=some ob) (n:H b=none) (hx:b∉ex):∃ sl,h1.get? b=some { ob with slots:=sl }:=by
 by_cases hb:b∈fs
 · exact u.slot b ob q n hb hx
 · exact ⟨ob.slots,u.keep b ob q n hb hx⟩
theorem Un.kept (k:∀ b u,h.get? b=some u→h'.get? b=some u):Un fs ex H H h h' :=
 ⟨fun b ob q _ _ _=>k b ob q,fun b ob q _ _ _=>⟨ob.slots,k b ob q⟩,fun _ _ _ n _=>n,fun b ob q _=>⟨ob,k b ob q⟩,fun _ _ q=>q,fun _ _ _ q=>q,fun _ ps q=>⟨#[],by rw [q]; simp⟩⟩
theorem Un.refl:Un fs ex H H h h:=Un.kept fun _ _ q=>q
theorem Un.laid (k:∀ b u,h.get? b=some u→h'.get? b=some u) (hp:h.objs.size≤a) (hn:H a=none):Un fs ex H (upd H a o) h h' where
 keep:=fun b u q _ _ _=>k b u q
 slot:=fun b u q _ _ _=>⟨u.slots,k b u q⟩
 free:=fun b u q n _=>by rw [Zo (n36_ (n9_ (n13_ q) hp))]; exact n
 there:=fun b u q _=>⟨u,k b u q⟩
 tups:=fun b xs q=>by rw [Zo (Zk q hn)]; exact q
 frzs:=fun b u xs q=>by rw [Zo (Zk q hn)]; exact q
 tbls:=fun b ps q=>⟨#[],by rw [Zo (Zk q hn),q]; simp⟩
theorem Un.write (mu:Mut (H x)) (he:e=x∨H e=some (.own x)) (k:∀ b u,b≠e→h.get? b=some u→h'.get? b=some u) (heo:∃ u,h'.get? e=some u):Un fs ex H (upd H x o) h h':=by
 have hx:∀ b,H b=none→b≠x:=fun b n z=>by subst z; rw [n] at mu; exact mu
 have hb:∀ b,H b=none→b≠e:=fun b n z=>by
  subst z
  rcases he with r | r
  · exact hx b n r
  · rw [n] at r; cases r
 have hm:∀ b u,H b=some u→¬ Mut (some u)→b≠x:=fun b u q nm z=>by subst z; rw [q] at mu; exact nm mu
 refine ⟨fun b u q n _ _=>k b u (hb b n) q,fun b u q n _ _=>⟨u.slots,k b u (hb b n) q⟩,fun b u q n _=>by rw [Zo (hx b n)]; exact n,fun b u q _=>?_,
  fun b xs q=>by rw [Zo (hm b _ q fun z=>z)]; exact q,fun b u xs q=>by rw [Zo (hm b _ q fun z=>z)]; exact q,fun b ps q=>⟨#[],by rw [Zo (hm b _ q fun z=>z),q]; simp⟩⟩
 by_cases hbe:b=e
 · subst hbe; exact heo
 · exact ⟨u,k b u hbe q⟩
end
def trk (h:Heap) (H:Hp):List Addr:=(List.range h.objs.size).filter fun a=>(H a).isSome
def hidT (h:Heap) (H:Hp):Heap:=PySem.W.hideAll h (trk h H)
theorem Zmm (h:Heap) (H:Hp):(hidT h H).objs.size=h.objs.size:=PySem.W.hideAll_size _ _
theorem Zm9 {h:Heap} {H:Hp} {b:Addr} {o:Obj} (e:h.get? b=some o) (n:H b=none):(hidT h H).get? b=some o :=
 PySem.W.hideAll_get _ e fun hm=>by
  have q:(H b).isSome=true:=(List.mem_filter.mp hm).2;rw [n] at q; simp at q
theorem Zow {h:Heap} {H:Hp} {b:Addr} {o:Obj} (e:(hidT h H).get? b=some o):h.get? b=some o∧H b=none:=by
 have e':h.get? b=some o:=PySem.W.of_hideAll (trk h H) e;refine ⟨e',?_⟩;cases q:H b with
 | none=>rfl
 | some x =>
   have hm:b∈trk h H:=List.mem_filter.mpr ⟨List.mem_range.mpr (n13_ e'),by simp [q]⟩;have z:(hidT h H).get? b=none:=PySem.W.hideAll_none (trk h H) hm;rw [z] at e; cases e
end L2
namespace L2
open PySem PySem.Spec PyProof.Rows
structure Mod (K:PySem.W.Frag) (mg:Str→Option Value) (base:Heap):Prop where
 kin:K.In base
 glob:base.Ns mainGlobals mg
 blt:∃ mb,base.Ns builtinsNs mb∧∀ x:Str,x ≠ "__name__" → mb x=bootBuiltins x
 nolimit:base.NoLimit
structure Cx where
 prog:Program
 w:World
 K:PySem.W.Frag
 mg:Str→Option Value
 base:Heap
 A:Around
 N:List Str
 s₀:Shared
 H₀:Hp
 env:Env
 outer:List Env
 stack:List Env
 ex:List Addr
 fn:Str→Bool
 calm:Bool
 pn:List (Addr×Obj)
 xe:Value→Shared→Prop
def frs (l:List Env):List Addr:=l.filterMap (·.frame)
abbrev Cx.fs (X:Cx):List Addr:=frs X.outer
def Vis (sc:Scope) (x:Str):Prop:=sc.names.lookup x=some .local∨sc.names.lookup x=some .cell∨sc.names.lookup x=some .free
def Loc (sc:Scope) (x:Str):Prop:=sc.names.lookup x=some .local∨sc.names.lookup x=some .cell
def Look (env:Env) (h:Heap) (m:Str→Option Value) (x:Str) (u:Value):Prop :=
 (env.kindOf x=some .local∧m x=some u)∨((env.kindOf x=some .cell∨env.kindOf x=some .free)∧∃ c,env.cells.lookup x=some c∧h.IsCell c (some u))
structure Cx.Ok (X:Cx):Prop where
 mod:Mod X.K X.mg X.base
 kind:X.env.scope.kind=.function
 glob:X.env.globals=mainGlobals
 blt:X.env.builtins=builtinsNs
 above:X.s₀.heap.objs.size≤X.env.locals
 inj:∀ x y c,X.env.cells.lookup x=some c→X.env.cells.lookup y=some c→x=y
 has:∀ x,(X.env.kindOf x=some .cell∨X.env.kindOf x=some .free)→∃ c,X.env.cells.lookup x=some c
 cab:∀ x c,X.fn x=true→X.env.cells.lookup x=some c→X.s₀.heap.objs.size≤c
 hd:X.calm=true→X.A.handled=none
 frames:X.A.frames=some X.stack
 stk:X.stack=X.outer∨(X.stack=X.env :: X.outer∧X.env.frame=some X.env.locals)
 exf:∀ b∈X.ex,b≠X.env.locals∧∀ x c,X.env.cells.lookup x=some c→c≠b
 bs:∀ b o,X.base.get? b=some o→X.s₀.heap.get? b=some o∧X.H₀ b=none
 bsz:X.base.objs.size≤X.s₀.heap.objs.size
 noex:∀ b o,X.base.get? b=some o→b∉X.ex
 exfs:∀ b∈X.ex,b∉X.fs
 funs:X.s₀.heap.FunFrames X.base X.outer
 frf:∀ b∈X.fs,X.H₀ b=none
structure Inv (X:Cx) (pins:List (Addr×Obj)) (σ:List (Option V)) (H:Hp) (s:Shared):Prop where
 ok:X.Ok
 os:s.os=X.s₀.os
 bare:AllBare s.gens
 base:Un X.fs X.ex X.H₀ H X.s₀.heap s.heap
 loc:∃ m,s.heap.Ns X.env.locals m∧∀ (i:Nat) (x:Str) (v:V),X.N[i]? = some x→σ[i]? = some (some v)→Vis X.env.scope x→∃ u,RelV v u∧Look X.env s.heap m x u
 cell:∀ x c,X.env.cells.lookup x=some c→∃ v,s.heap.IsCell c v
 free:H X.env.locals=none
 freeC:∀ x c,X.env.cells.lookup x=some c→H c=none∨(X.fn x=false∧∃ o u,H c=some (.frz o u))
 pin:∀ p∈X.pn++pins,s.heap.get? p.1=some p.2∧H p.1=none∧p.1≠X.env.locals∧p.1∉X.fs∧∀ v,p.2.data≠.cell v
 hok:HOk X.prog X.w H s.heap
 len:σ.length=X.N.length
section
variable {X:Cx} {pins:List (Addr×Obj)} {σ:List (Option V)} {H H':Hp} {s:Shared} {h':Heap}
theorem Cx.Ok.nofr (ok:X.Ok) {b:Addr} {o:Obj} (e:X.base.get? b=some o):b∉X.fs:=fun hb=>by
 have:=(ok.funs.mem hb).1
 rw [e] at this; cases this
theorem Inv.bs (I:Inv X pins σ H s):∀ b o,X.base.get? b=some o→s.heap.get? b=some o∧H b=none:=fun b o e =>
 ⟨I.base.keep b o (I.ok.bs b o e).1 (I.ok.bs b o e).2 (I.ok.nofr e) (I.ok.noex b o e),I.base.free b o (I.ok.bs b o e).1 (I.ok.bs b o e).2 (I.ok.noex b o e)⟩
theorem Inv.bk (I:Inv X pins σ H s):∀ b o,X.base.get? b=some o→s.heap.get? b=some o:=fun b o e=>(I.bs b o e).1
theorem Inv.mod (I:Inv X pins σ H s):Mod X.K X.mg X.base:=I.ok.mod
theorem Inv.kIn (I:Inv X pins σ H s):X.K.In s.heap:=I.ok.mod.kin.keeps I.bk
theorem Inv.lt (I:Inv X pins σ H s):X.env.locals < s.heap.objs.size:=let ⟨_,hn,_⟩:=I.loc; hn.lt
theorem Inv.sz (I:Inv X pins σ H s):X.s₀.heap.objs.size≤s.heap.objs.size:=n24_ I.ok.above (Nat.le_of_lt I.lt)
theorem Inv.nofs (I:Inv X pins σ H s) {a:Addr} (h:s.heap.objs.size≤a):a∉X.fs:=fun hb=>by
 obtain ⟨_,o,ho,_⟩:=I.ok.funs.mem hb;exact absurd (n9_ (n13_ ho) (n24_ I.sz h)) (n70_ _)
theorem Inv.cne (I:Inv X pins σ H s):∀ x c,X.env.cells.lookup x=some c→c≠X.env.locals:=fun x c e z=>by
 obtain ⟨v,o,ho,hd⟩:=I.cell x c e;obtain ⟨m,⟨o',es,ep,ho',hd',_⟩,_⟩:=I.loc;rw [z,ho'] at ho; cases ho; rw [hd'] at hd; cases hd
theorem Inv.funs (I:Inv X pins σ H s):s.heap.FunFrames X.base X.outer:=by
 have all:∀ (l:List Env),(∀ b∈frs l,b∈X.fs)→X.s₀.heap.FunFrames X.base l→s.heap.FunFrames X.base l:=by
  intro l
  induction l with
  | nil=>intro _ _; trivial
  | cons env r ih =>
    intro hs hl;obtain ⟨hk,⟨L,o,hf,hn,ho,hd⟩,hr⟩:=hl;have hL:L∈X.fs:=hs L (by unfold frs; rw [List.filterMap_cons,hf]; exact n15_);obtain ⟨sl,e⟩:=I.base.slot L o ho (I.ok.frf L hL) hL fun z=>I.ok.exfs L z hL;exact ⟨hk,⟨L,_,hf,hn,e,hd⟩,ih (fun b hb=>hs b (by unfold frs; rw [List.filterMap_cons,hf]; exact n12_ _ hb)) hr⟩
 exact all X.outer (fun _ hb=>hb) I.ok.funs
theorem Inv.stack (I:Inv X pins σ H s):s.heap.FunFrames X.base X.stack:=by
 rcases I.ok.stk with e | ⟨e,hf⟩
 · rw [e]; exact I.funs
 · rw [e];obtain ⟨m,hn,_⟩:=I.loc;refine .cons (by rw [I.ok.kind]; decide) hf hn ?_ I.funs;exact Heap.get?_none_of_le (n24_ I.ok.bsz I.ok.above)
theorem Inv.stkSub (I:Inv X pins σ H s):∀ b∈frs X.stack,b∈X.env.locals :: X.fs:=fun b hb=>by
 rcases I.ok.stk with e | ⟨e,hf⟩
 · rw [e] at hb; exact n12_ _ hb
 · rw [e] at hb;unfold frs at hb;rw [List.filterMap_cons,hf] at hb;exact hb
theorem Inv.stkFree (I:Inv X pins σ H s):∀ b∈frs X.stack,H b=none:=fun b hb=>by
 rcases n18_.mp (I.stkSub b hb) with e | hb
 · rw [e]; exact I.free
 · obtain ⟨_,o,ho,_⟩:=I.ok.funs.mem hb;exact I.base.free b o ho (I.ok.frf b hb) fun z=>I.ok.exfs b z hb
theorem Inv.step {g':Array GenState} {t':Nat} {d':Drawn} {ch:List Addr} (I:Inv X pins σ H s)
 (hch:∀ b∈ch,(b∈X.ex∨X.s₀.heap.objs.size≤b)∧b≠X.env.locals∧(∀ x c,X.env.cells.lookup x=some c→c≠b)∧∀ p∈X.pn++pins,p.1≠b)
 (keep:∀ b o,b≠X.env.locals→b∉X.fs→b∉ch→s.heap.get? b=some o→H b=none→h'.get? b=some o)
 (slot:∀ b o,b≠X.env.locals→b∈X.fs→b∉ch→s.heap.get? b=some o→H b=none→∃ sl,h'.get? b=some { o with slots:=sl }) (free:∀ b o,b∉ch→s.heap.get? b=some o→H b=none→H' b=none)
 (there:∀ b o,b∉ch→s.heap.get? b=some o→∃ o',h'.get? b=some o')
 (tups:∀ b xs,H b=some (.tup xs)→H' b=some (.tup xs)) (frzs:∀ b o u,H b=some (.frz o u)→H' b=some (.frz o u)) (tbls:∀ b ps,H b=some (.tbl ps)→∃ more,H' b=some (.tbl (ps++more)))
 (ns:∀ m,s.heap.Ns X.env.locals m→h'.Ns X.env.locals m) (hok:HOk X.prog X.w H' h') (hg:AllBare g') :
 Inv X pins σ H' { s with heap:=h',gens:=g',drawn:=d',toks:=t' }:=by
 have neL:∀ b o,X.s₀.heap.get? b=some o→b≠X.env.locals:=fun b o e=>n36_ (n9_ (n13_ e) I.ok.above)
 have neC:∀ b o,X.s₀.heap.get? b=some o→b∉X.ex→b∉ch:=fun b o e hx hb=>by
  rcases (hch b hb).1 with z | z
  · exact hx z
  · exact absurd (n9_ (n13_ e) z) (n70_ _)
 have cellK:∀ x c,X.env.cells.lookup x=some c→∀ v,s.heap.IsCell c v→h'.IsCell c v:=fun x c e v ⟨o,ho,hd⟩=>by
  have nch:c∉ch:=fun z=>(hch c z).2.2.1 x c e rfl
  rcases I.freeC x c e with fz | ⟨_,o',u',fz⟩
  · by_cases hc:c∈X.fs
    · obtain ⟨sl,q⟩:=slot c o (I.cne x c e) hc nch ho fz;exact ⟨_,q,hd⟩
    · exact ⟨o,keep c o (I.cne x c e) hc nch ho fz,hd⟩
  · have h1:=(I.hok c _ fz).1;rw [ho] at h1; cases h1;exact ⟨o,(hok c _ (frzs c o u' fz)).1,hd⟩
 refine ⟨I.ok,I.os,hg,⟨fun b o e n hb hx=>?_,fun b o e n hb hx=>?_,fun b o e n hx=>?_,fun b o e hx=>?_,fun b xs e=>tups b xs (I.base.tups b xs e),fun b o xs e=>frzs b o xs (I.base.frzs b o xs e),fun b ps e=>?_⟩,?_,fun x c e=>?_,?_,fun x c e=>?_,fun p hp=>?_,hok,I.len⟩
 · exact keep b o (neL b o e) hb (neC b o e hx) (I.base.keep b o e n hb hx) (I.base.free b o e n hx)
 · obtain ⟨sl,e1⟩:=I.base.slot b o e n hb hx;obtain ⟨sl',e2⟩:=slot b _ (neL b o e) hb (neC b o e hx) e1 (I.base.free b o e n hx);exact ⟨sl',e2⟩
 · obtain ⟨o',e1⟩:=I.base.there b o e hx;exact free b o' (neC b o e hx) e1 (I.base.free b o e n hx)
 · obtain ⟨o',e1⟩:=I.base.there b o e hx;exact there b o' (neC b o e hx) e1
 · obtain ⟨m1,e1⟩:=I.base.tbls b ps e;obtain ⟨m2,e2⟩:=tbls b _ e1;exact ⟨m1++m2,by rw [e2,Array.append_assoc]⟩
 · obtain ⟨m,hn,hl⟩:=I.loc;refine ⟨m,ns m hn,fun i x v e1 e2 e3=>?_⟩;obtain ⟨u,r,l⟩:=hl i x v e1 e2 e3;refine ⟨u,r,?_⟩
   rcases l with l | ⟨k,c,e,z⟩
   · exact .inl l
   · exact .inr ⟨k,c,e,cellK x c e _ z⟩
 · obtain ⟨v,z⟩:=I.cell x c e;exact ⟨v,cellK x c e v z⟩
 · obtain ⟨m,⟨o,_,_,ho,_⟩,_⟩:=I.loc;exact free _ o (fun z=>(hch _ z).2.1 rfl) ho I.free
 · obtain ⟨v,o,ho,hd⟩:=I.cell x c e;exact (I.freeC x c e).imp (fun fz=>free c o (fun z=>(hch c z).2.2.1 x c e rfl) ho fz) fun ⟨q,o',u',fz⟩=>⟨q,o',u',frzs c o' u' fz⟩
 · obtain ⟨e,n,ne,nf,d⟩:=I.pin p hp;have nch:p.1∉ch:=fun z=>(hch p.1 z).2.2.2 p hp rfl;exact ⟨keep p.1 p.2 ne nf nch e n,free p.1 p.2 nch e n,ne,nf,d⟩
theorem Inv.un {t':Nat} (I:Inv X pins σ H s) (u:Un X.fs [] H H' s.heap h') (hok:HOk X.prog X.w H' h'):Inv X pins σ H' { s with heap:=h',toks:=t' }:=by
 obtain ⟨m,⟨o,es,ep,ho,r⟩,_⟩:=id I.loc;obtain ⟨sl,hL⟩:=u.any ho I.free (by simp)
 exact I.step (g':=s.gens) (d':=s.drawn) (ch:=[]) (fun _ z=>nomatch z) (fun b o _ hb _ e n=>u.keep b o e n hb (by simp)) (fun b o _ hb _ e n=>u.slot b o e n hb (by simp)) (fun b o _ e n=>u.free b o e n (by simp)) (fun b o _ e=>u.there b o e (by simp)) u.tups u.frzs u.tbls (fun m' hm=>by
  obtain ⟨o',es',ep',ho',r'⟩:=hm;rw [ho] at ho'; cases ho';exact ⟨_,es',ep',hL,r'⟩) hok I.bare
theorem Inv.call {g':Array GenState} {t':Nat} {d':Drawn} {ch:List Addr} (I:Inv X pins σ H s) (u:Un (frs X.stack) ch H H' s.heap h') (hok:HOk X.prog X.w H' h') (hg:AllBare g')
 (hch:∀ b∈ch,(b∈X.ex∨X.s₀.heap.objs.size≤b)∧b≠X.env.locals∧(∀ x c,X.env.cells.lookup x=some c→c≠b)∧∀ p∈X.pn++pins,p.1≠b) :
 Inv X pins σ H' { s with heap:=h',gens:=g',drawn:=d',toks:=t' }:=by
 obtain ⟨m,⟨o,es,ep,ho,r⟩,_⟩:=id I.loc;obtain ⟨sl,hL⟩:=u.any ho I.free fun z=>(hch _ z).2.1 rfl
 exact I.step (ch:=ch) hch (fun b o hL hb hc e n=>u.keep b o e n (fun z=>(n18_.mp (I.stkSub b z)).elim hL hb) hc) (fun b o _ _ hc e n=>u.any e n hc) (fun b o hc e n=>u.free b o e n hc) (fun b o hc e=>u.there b o e hc) u.tups u.frzs u.tbls (fun m' hm=>by
  obtain ⟨o',es',ep',ho',r'⟩:=hm;rw [ho] at ho'; cases ho';exact ⟨_,es',ep',hL,r'⟩) hok hg
theorem Inv.turned {t':Nat} {it:Addr} (I:Inv X pins σ H s) (k:∀ b o,b≠it→s.heap.get? b=some o→h'.get? b=some o) (hn:H it=none) (hL:it≠X.env.locals)
 (h1:it∈X.ex∨X.s₀.heap.objs.size≤it) (h2:∀ x c,X.env.cells.lookup x=some c→c≠it) (h3:∀ p∈X.pn++pins,p.1≠it):Inv X pins σ H { s with heap:=h',toks:=t' }:=by
 have nit:∀ b u,H b=some u→b≠it:=fun b u e z=>by rw [z,hn] at e; cases e
 refine I.step (g':=s.gens) (d':=s.drawn) (ch:=[it]) (fun b hb=>?_) (fun b o _ _ hc e _=>k b o (fun z=>hc (by simp [z])) e) (fun b o _ _ hc e _=>⟨o.slots,k b o (fun z=>hc (by simp [z])) e⟩) (fun _ _ _ _ n=>n)
  (fun b o hc e=>⟨o,k b o (fun z=>hc (by simp [z])) e⟩) (fun _ _ e=>e) (fun _ _ _ e=>e) (fun b ps e=>⟨#[],by rw [e]; simp⟩) (fun m hm=>?_) (fun b u e=>?_) I.bare
 · have e:b=it:=by simpa using hb
   subst e;exact ⟨h1,hL,h2,h3⟩
 · obtain ⟨o,es,ep,ho,r⟩:=hm;exact ⟨o,es,ep,k _ o (Ne.symm hL) ho,r⟩
 · refine (I.hok b u e).stay (fun c v hc q=>k c v ?_ q) (fun _ q=>q) fun _ _ q=>q
   rcases hc with z | z
   · rw [z]; exact nit b u e
   · exact nit c _ z
theorem Inv.tok (I:Inv X pins σ H s) (t:Nat):Inv X pins σ H { s with toks:=t }:=I.un (h':=s.heap) (t':=t) Un.refl I.hok
theorem Inv.kept {t':Nat} (I:Inv X pins σ H s) (k:∀ b u,s.heap.get? b=some u→h'.get? b=some u):Inv X pins σ H { s with heap:=h',toks:=t' }:=I.un (Un.kept k) (I.hok.kept k)
theorem Inv.laid {a:Addr} {o:HO} {t':Nat} (I:Inv X pins σ H s) (k:∀ b u,s.heap.get? b=some u→h'.get? b=some u) (hp:s.heap.objs.size≤a) (new:ObjOk X.prog X.w (upd H a o) h' a o) :
 Inv X pins σ (upd H a o) { s with heap:=h',toks:=t' }:=I.un (Un.laid k hp (I.hok.fresh hp)) (I.hok.laid k hp new)
theorem Inv.write {x e:Addr} {o:HO} {t':Nat} (I:Inv X pins σ H s) (mu:Mut (H x)) (he:e=x∨H e=some (.own x)) (k:∀ b u,b≠e→s.heap.get? b=some u→h'.get? b=some u) (heo:∃ u,h'.get? e=some u)
 (new:ObjOk X.prog X.w (upd H x o) h' x o):Inv X pins σ (upd H x o) { s with heap:=h',toks:=t' }:=I.un (Un.write mu he k heo) (I.hok.write mu he k heo new)
theorem Inv.pins_of {pins':List (Addr×Obj)} (I:Inv X pins σ H s) (h:∀ p∈pins',s.heap.get? p.1=some p.2∧H p.1=none∧p.1≠X.env.locals∧p.1∉X.fs∧∀ v,p.2.data≠.cell v):Inv X pins' σ H s :=
 ⟨I.ok,I.os,I.bare,I.base,I.loc,I.cell,I.free,I.freeC,fun p hp=>(n34_.mp hp).elim (fun z=>I.pin p (List.mem_append_left _ z)) (h p),I.hok,I.len⟩
theorem Ziv {N:List Str} (hN:N.Nodup) {i j:Nat} {x:Str} (a:N[i]? = some x) (b:N[j]? = some x):i=j:=by
 obtain ⟨h1,e1⟩:=n33_.mp a;obtain ⟨h2,e2⟩:=n33_.mp b;exact (List.getElem_inj hN).mp (e1.trans e2.symm)
theorem Zlp {M:Model} {A:Around} {E:Value→Shared→Prop} {i:Nat} {x:Str} {v:V} {u:Value} {Q:Unit→Shared→Prop} (I:Inv X pins σ H s) (hN:X.N.Nodup) (hi:X.N[i]? = some x) (hx:Loc X.env.scope x) (r:RelV v u)
 (h:∀ s',Inv X pins (σ.set i (some v)) H s'→(∃ a,Heap.SameBut a s.heap s'.heap∧(a=X.env.locals∨X.env.cells.lookup x=some a))→Q () s') (hf:X.fn x=true∨X.env.scope.names.lookup x=some .local:=by first | exact .inl rfl | exact .inr rfl | assumption):wpAny M A (storeName X.env x u) Q E s:=by
 obtain ⟨m,hn,hl⟩:=id I.loc;have hcls:(X.env.scope.kind == .class || (X.env.scope.kind == .module && X.env.locals != X.env.globals))=false:=by rw [I.ok.kind]; rfl
 have hiσ:i < σ.length:=by rw [I.len]; exact (n33_.mp hi).1
 have cne:=I.cne
 have tracked:∀ {a:Addr} {h':Heap},(∃ o,s.heap.get? a=some o∧H a=none)→Heap.SameBut a s.heap h'→HOk X.prog X.w H h':=fun {a h'} ha hs b ob e=>by
  obtain ⟨_,_,hfree⟩:=ha;refine (I.hok b ob e).stay (fun c w' hc q=>(hs.2 c ?_).trans q) (fun _ q=>q) fun _ _ q=>q;rintro rfl
  rcases hc with rfl | hc
  · rw [hfree] at e; cases e
  · rw [hfree] at hc; cases hc
 rcases hx with hk | hk
 · refine wpAny_storeName_local hk hn (fun h' hn' hs=>?_) hcls;obtain ⟨oL,_,_,hoL,_⟩:=id hn;refine h _ ⟨I.ok,I.os,I.bare,⟨fun b o e n hb hx=>?_,fun b o e n hb hx=>?_,I.base.free,fun b o e hx=>?_,I.base.tups,I.base.frzs,I.base.tbls⟩,⟨_,hn',fun j y v' e1 e2 e3=>?_⟩,fun y c e=>?_,I.free,I.freeC,fun p hp=>?_,tracked ⟨oL,hoL,I.free⟩ hs,by simpa using I.len⟩ ⟨_,hs,.inl rfl⟩
   · exact (hs.2 b (n36_ (n9_ (n13_ e) I.ok.above))).trans (I.base.keep b o e n hb hx)
   · obtain ⟨sl,e1⟩:=I.base.slot b o e n hb hx;exact ⟨sl,(hs.2 b (n36_ (n9_ (n13_ e) I.ok.above))).trans e1⟩
   · obtain ⟨o',e1⟩:=I.base.there b o e hx;exact ⟨o',(hs.2 b (n36_ (n9_ (n13_ e) I.ok.above))).trans e1⟩
   · by_cases hj:j=i
     · subst hj;rw [hi] at e1; cases e1;rw [List.getElem?_set_self hiσ] at e2;cases e2
       exact ⟨u,r,.inl ⟨hk,by simp⟩⟩
     · rw [List.getElem?_set_ne (Ne.symm hj)] at e2;obtain ⟨u',r',q⟩:=hl j y v' e1 e2 e3;refine ⟨u',r',?_⟩
       rcases q with ⟨k,e⟩ | ⟨k,c,e,z⟩
       · refine .inl ⟨k,?_⟩
         have:y≠x:=fun e=>hj (Ziv hN e1 (e ▸ hi))
         simp [this,e]
       · exact .inr ⟨k,c,e,z.sameBut hs (cne y c e)⟩
   · obtain ⟨w',z⟩:=I.cell y c e;exact ⟨w',z.sameBut hs (cne y c e)⟩
   · obtain ⟨e,n,ne,nf,d⟩:=I.pin p hp;exact ⟨(hs.2 p.1 ne).trans e,n,ne,nf,d⟩
 · have hfn:X.fn x=true:=by
    rcases hf with z | z
    · exact z
    · rw [z] at hk; cases hk
   obtain ⟨c,hc⟩:=I.ok.has x (.inl hk);obtain ⟨w',z⟩:=I.cell x c hc;refine wpAny_storeName_cell I.ok.kind hk hc z (fun h' hc' hs=>?_);obtain ⟨oc,hoc,hocd⟩:=id z;refine h { s with heap:=h' } ⟨I.ok,I.os,I.bare,⟨fun b o e n hb hx=>?_,fun b o e n hb hx=>?_,I.base.free,fun b o e hx=>?_,I.base.tups,I.base.frzs,I.base.tbls⟩,⟨m,hn.sameBut hs (Ne.symm (cne x c hc)),fun j y v' e1 e2 e3=>?_⟩,fun y c' e=>?_,I.free,I.freeC,fun p hp=>?_,tracked ⟨oc,hoc,(I.freeC x c hc).elim id fun z=>(by rw [hfn] at z; cases z.1)⟩ hs,by simpa using I.len⟩ ⟨c,hs,.inr hc⟩
   · exact (hs.2 b (n36_ (n9_ (n13_ e) (I.ok.cab x c hfn hc)))).trans (I.base.keep b o e n hb hx)
   · obtain ⟨sl,e1⟩:=I.base.slot b o e n hb hx;exact ⟨sl,(hs.2 b (n36_ (n9_ (n13_ e) (I.ok.cab x c hfn hc)))).trans e1⟩
   · obtain ⟨o',e1⟩:=I.base.there b o e hx;exact ⟨o',(hs.2 b (n36_ (n9_ (n13_ e) (I.ok.cab x c hfn hc)))).trans e1⟩
   · by_cases hj:j=i
     · subst hj;rw [hi] at e1; cases e1;rw [List.getElem?_set_self hiσ] at e2;cases e2
       exact ⟨u,r,.inr ⟨.inl hk,c,hc,hc'⟩⟩
     · rw [List.getElem?_set_ne (Ne.symm hj)] at e2;obtain ⟨u',r',q⟩:=hl j y v' e1 e2 e3;refine ⟨u',r',?_⟩
       rcases q with q | ⟨k,c',e,z'⟩
       · exact .inl q
       · refine .inr ⟨k,c',e,z'.sameBut hs ?_⟩;rintro rfl
         exact hj (Ziv hN e1 (I.ok.inj _ _ _ e hc ▸ hi))
   · by_cases hcc:c'=c
     · subst hcc; exact ⟨_,hc'⟩
     · obtain ⟨w2,z2⟩:=I.cell y c' e;exact ⟨w2,z2.sameBut hs hcc⟩
   · obtain ⟨e,n,ne,nf,d⟩:=I.pin p hp;refine ⟨(hs.2 p.1 ?_).trans e,n,ne,nf,d⟩;intro q;rw [q,hoc] at e;have q':oc=p.2:=Option.some.inj e;exact d w' (by rw [← q']; exact hocd)
theorem Za2 {M:Model} {A:Around} {E:Value→Shared→Prop} {i:Nat} {x:Str} {v:V} {u:Value} {Q:Unit→Shared→Prop} (I:Inv X pins σ H s) (hN:X.N.Nodup) (hi:X.N[i]? = some x) (hx:Loc X.env.scope x) (r:RelV v u)
 (h:∀ s',Inv X pins (σ.set i (some v)) H s'→Q () s') (hf:X.fn x=true∨X.env.scope.names.lookup x=some .local:=by first | exact .inl rfl | exact .inr rfl | assumption):wpAny M A (storeName X.env x u) Q E s :=
 Zlp I hN hi hx r (fun s' I' _=>h s' I') hf
theorem Inv.call' {s':Shared} {ch:List Addr} (I:Inv X pins σ H s) (ho:s'.os=s.os) (u:Un (frs X.stack) ch H H' s.heap s'.heap) (hok:HOk X.prog X.w H' s'.heap) (hg:AllBare s'.gens)
 (hch:∀ b∈ch,(b∈X.ex∨X.s₀.heap.objs.size≤b)∧b≠X.env.locals∧(∀ x c,X.env.cells.lookup x=some c→c≠b)∧∀ p∈X.pn++pins,p.1≠b):Inv X pins σ H' s':=by
 obtain ⟨h',g',d',t',o'⟩:=s';have e:o'=s.os:=ho;subst e;exact I.call (g':=g') (t':=t') (d':=d') u hok hg hch
end
abbrev XK:=Value→Option Addr→Hp→Prop
abbrev St:=List (Option V)
abbrev VK:=V→Hp→Prop
abbrev TE:=St→Hp→VK→Prop
abbrev TT:=St→Hp→(Bool→Hp→Prop)→Prop
abbrev TA:=St→Hp→(List V→Hp→Prop)→Prop
structure Ends where
 nx:St→Hp→Prop
 rt:VK
 bk:St→Hp→Prop:=fun _ _=>False
 ct:St→Hp→Prop:=fun _ _=>False
abbrev TS:=Ends→St→Hp→Prop
def EP (X:Cx) (pins:List (Addr×Obj)) (σ:St) (Q:VK) (u:Value) (s':Shared):Prop:=∃ v H',Inv X pins σ H' s'∧RelV v u∧Q v H'
def TP (X:Cx) (pins:List (Addr×Obj)) (σ:St) (Q:Bool→Hp→Prop) (b:Bool) (s':Shared):Prop:=∃ H',Inv X pins σ H' s'∧Q b H'
def AP (X:Cx) (pins:List (Addr×Obj)) (σ:St) (Q:List V→Hp→Prop) (us:List Value) (s':Shared):Prop:=∃ vs H',Inv X pins σ H' s'∧Vals vs us∧Q vs H'
def SP (X:Cx) (pins:List (Addr×Obj)) (D:Ends) (f:Flow) (s':Shared):Prop :=
 match f with
 | .next=>∃ σ' H',Inv X pins σ' H' s'∧D.nx σ' H'
 | .brk=>∃ σ' H',Inv X pins σ' H' s'∧D.bk σ' H'
 | .cont=>∃ σ' H',Inv X pins σ' H' s'∧D.ct σ' H'
 | .ret u=>∃ v σ' H',Inv X pins σ' H' s'∧RelV v u∧D.rt v H'
def PE (X:Cx) (e:Expr) (t:TE):Prop :=
 ∀ (pins:List (Addr×Obj)) (s:Shared) (σ:St) (H:Hp) (Q:VK),Inv X pins σ H s→t σ H Q→wpAny (model X.prog X.w) X.A (eval e X.env) (EP X pins σ Q) X.xe s
def PT (X:Cx) (e:Expr) (t:TT):Prop :=
 ∀ (pins:List (Addr×Obj)) (s:Shared) (σ:St) (H:Hp) (Q:Bool→Hp→Prop),Inv X pins σ H s→t σ H Q→wpAny (model X.prog X.w) X.A (isTrue e X.env (eval e X.env)) (TP X pins σ Q) X.xe s
def PW (X:Cx) (e:Expr) (t:TT):Prop :=
 ∀ (whole:Sem Value) (pins:List (Addr×Obj)) (s:Shared) (σ:St) (H:Hp) (Q:Bool→Hp→Prop),Inv X pins σ H s→t σ H Q→wpAny (model X.prog X.w) X.A (isTrue e X.env whole) (TP X pins σ Q) X.xe s
theorem PW.pt {X:Cx} {e:Expr} {t:TT} (h:PW X e t):PT X e t:=h _
def PA (X:Cx) (es:List Expr) (t:TA):Prop :=
 ∀ (pos:Pos) (pins:List (Addr×Obj)) (s:Shared) (σ:St) (H:Hp) (Q:List V→Hp→Prop),Inv X pins σ H s→t σ H Q→wpAny (model X.prog X.w) X.A (spliced (backTo pos (starEach es X.env))) (AP X pins σ Q) X.xe s
def PS (X:Cx) (st:Stmt) (t:TS):Prop :=
 ∀ (pins:List (Addr×Obj)) (s:Shared) (σ:St) (H:Hp) (D:Ends),Inv X pins σ H s→t D σ H→wpAny (model X.prog X.w) X.A (exec st X.env) (SP X pins D) X.xe s
def PSs (X:Cx) (st:List Stmt) (t:TS):Prop :=
 ∀ (pins:List (Addr×Obj)) (s:Shared) (σ:St) (H:Hp) (D:Ends),Inv X pins σ H s→t D σ H→wpAny (model X.prog X.w) X.A (execs st X.env) (SP X pins D) X.xe s
theorem thn {α:Type} {t:Sem α} {Q Q':α→Shared→Prop} {M:Model} {A:Around} {E:Value→Shared→Prop} {s:Shared} (h:wpAny M A t Q E s) (hQ:∀ a s,Q a s→Q' a s):wpAny M A t Q' E s:=n67_ h hQ fun _ _ x=>x
end L2
namespace L2
open PySem PySem.Spec PyProof.Rows
section
variable {X:Cx}
def tVar (i:Nat):TE:=fun σ H Q=>∃ v,σ[i]? = some (some v)∧Q v H
def tC (v:V):TE:=fun _ H Q=>Q v H
theorem Zol {i:Nat} {x:Str} {pos:Pos} (hN:X.N[i]? = some x) (hv:Vis X.env.scope x) (hd:(x == ("__debug__" : Str))=false:=by decide) (hcd:(x == ("__classdict__" : Str))=false:=by decide):PE X (.Name x pos) (tVar i):=by
 intro pins s σ H Q I h;obtain ⟨v,e,h⟩:=h;obtain ⟨m,hn,hl⟩:=I.loc;obtain ⟨u,r,l⟩:=hl i x v hN e hv;have fin:EP X pins σ Q u s:=⟨v,H,I,r,h⟩
 rcases l with ⟨hk,hm⟩ | ⟨hk,c,hc,hcell⟩
 · exact wpAny_Name (wpAny_loadName_local I.ok.kind hk hn hm fin) hd
 · rcases hk with hk | hk
   · exact wpAny_Name (wpAny_loadName_cell I.ok.kind hk hc hcell fin) hd
   · exact wpAny_Name (wpAny_loadName_free I.ok.kind hk hc hcell fin hcd) hd
theorem Zg {i j pos}:PE X (.Constant (.int i) j pos) (tC (.int i)):=fun _ _ _ H _ I h=>wpAny_Constant_int ⟨.int i,H,I.tok _,⟨_,rfl⟩,h⟩
theorem Zad {b j pos}:PE X (.Constant (.bool b) j pos) (tC (.bl b)):=fun _ _ _ H _ I h=>Constant_bool ⟨.bl b,H,I,rfl,h⟩
theorem Zer {j pos}:PE X (.Constant .none j pos) (tC .non):=fun _ _ _ H _ I h=>Constant_none ⟨.non,H,I,rfl,h⟩
theorem Z6 {x j pos}:PE X (.Constant (.str x) j pos) (tC (.str x)):=fun _ _ _ H _ I h=>Calls.Constant_str ⟨.str x,H,I.tok _,⟨_,rfl⟩,h⟩
def Gl (X:Cx) (x:Str):Prop:=X.env.kindOf x=some .globalImplicit
theorem Zc7 {E:Value→Shared→Prop} {pins:List (Addr×Obj)} {s:Shared} {σ:St} {H:Hp} {x:Str} {u:Value} {pos:Pos} {Q:Value→Shared→Prop} (I:Inv X pins σ H s) (hg:Gl X x) (hm:X.mg x=some u) (h:Q u s)
 (hd:(x == ("__debug__" : Str))=false:=by decide):wpAny (model X.prog X.w) X.A (eval (.Name x pos) X.env) Q E s :=
 Calls.Name_function_global I.ok.kind hg (Calls.loadGlobal_global (by rw [I.ok.glob]; exact I.mod.glob.keeps I.bk) hm h) hd
theorem Zbe {E:Value→Shared→Prop} {pins:List (Addr×Obj)} {s:Shared} {σ:St} {H:Hp} {x:Str} {u:Value} {pos:Pos} {Q:Value→Shared→Prop} (I:Inv X pins σ H s) (hg:Gl X x) (hm:X.mg x=none) (hv:bootBuiltins x=some u) (h:Q u s)
 (hn:x ≠ "__name__" := by decide) (hd:(x == ("__debug__" : Str))=false:=by decide):wpAny (model X.prog X.w) X.A (eval (.Name x pos) X.env) Q E s:=by
 obtain ⟨mb,h1,h2⟩:=I.mod.blt;exact Calls.Name_function_global I.ok.kind hg (Calls.loadGlobal_builtin (by rw [I.ok.glob]; exact I.mod.glob.keeps I.bk) hm (by rw [I.ok.blt]; exact h1.keeps I.bk) ((h2 x hn).trans hv) h) hd
theorem Zz {x:Str} {v:V} {u:Value} {pos:Pos} (hg:Gl X x) (hm:X.mg x=some u) (r:RelV v u) (hd:(x == ("__debug__" : Str))=false:=by decide):PE X (.Name x pos) (tC v) :=
 fun _ _ _ H _ I h=>Zc7 I hg hm ⟨v,H,I,r,h⟩ hd
theorem Yy {x:Str} {v:V} {u:Value} {pos:Pos} (hg:Gl X x) (hm:X.mg x=none) (hv:bootBuiltins x=some u) (r:RelV v u) (hn:x ≠ "__name__" := by decide) (hd:(x == ("__debug__" : Str))=false:=by decide):PE X (.Name x pos) (tC v) :=
 fun _ _ _ H _ I h=>Zbe I hg hm hv ⟨v,H,I,r,h⟩ hn hd
variable {a b:Expr} {ta tb:TE} {pos:Pos}
variable {tA tB':TT} {rest:List Expr}
def tAnd (t u:TT):TT:=fun σ H Q=>t σ H fun c H1=>if c=true then u σ H1 Q else Q false H1
def tOr (t u:TT):TT:=fun σ H Q=>t σ H fun c H1=>if c=true then Q true H1 else u σ H1 Q
def tNot (t:TT):TT:=fun σ H Q=>t σ H fun c H1=>Q (!c) H1
theorem Zdj (ha:PT X a tA):PW X (.BoolOp .And [a] pos) tA:=by
 intro wh pins s σ H Q I h;refine isTrue_and (thn (ha pins s σ H Q I h) fun c s1 e=>?_);cases c with
 | true=>exact isTrue_and_nil e
 | false=>exact e
theorem Zcr (ha:PT X a tA):PW X (.BoolOp .Or [a] pos) tA:=by
 intro wh pins s σ H Q I h;refine isTrue_or (thn (ha pins s σ H Q I h) fun c s1 e=>?_);cases c with
 | false=>exact isTrue_or_nil e
 | true=>exact e
theorem Zes (ha:PT X a tA) (hb:PW X (.BoolOp .And (b :: rest) pos) tB'):PW X (.BoolOp .And (a :: b :: rest) pos) (tAnd tA tB'):=by
 intro wh pins s σ H Q I h;refine isTrue_and (thn (ha pins s σ H _ I h) fun c s1 ⟨H1,I1,q1⟩=>?_);cases c with
 | true=>exact hb wh pins s1 σ H1 Q I1 q1
 | false=>exact ⟨H1,I1,q1⟩
theorem Zdw (ha:PT X a tA) (hb:PW X (.BoolOp .Or (b :: rest) pos) tB'):PW X (.BoolOp .Or (a :: b :: rest) pos) (tOr tA tB'):=by
 intro wh pins s σ H Q I h;refine isTrue_or (thn (ha pins s σ H _ I h) fun c s1 ⟨H1,I1,q1⟩=>?_);cases c with
 | true=>exact ⟨H1,I1,q1⟩
 | false=>exact hb wh pins s1 σ H1 Q I1 q1
theorem Xb (ha:PT X a tA):PT X (.UnaryOp .Not a pos) (tNot tA):=by
 intro pins s σ H Q I h;exact isTrue_not (ha pins s σ H (fun c H1=>Q (!c) H1) I h)
def Zrm (ta tb:TE):TE:=fun σ H Q=>ta σ H fun x H1=>∃ c,x=.bl c∧if c=true then tb σ H1 Q else Q (.bl false) H1
def Zry (ta:TE):TE:=fun σ H Q=>ta σ H fun x H1=>∃ c,x=.bl c∧Q (.bl (!c)) H1
theorem Zgr {op} {t:TE} (h:PE X a t):PE X (.BoolOp op [a] pos) t:=fun pins s σ H Q I hw=>BoolOp_one (h pins s σ H Q I hw)
theorem Zeq (ha:PE X a ta) (hb:PE X (.BoolOp .And (b :: rest) pos) tb):PE X (.BoolOp .And (a :: b :: rest) pos) (Zrm ta tb):=by
 intro pins s σ H Q I h;refine BoolOp_and (thn (ha pins s σ H _ I h) fun v s1 ⟨x,H1,I1,r1,q1⟩=>?_);obtain ⟨c,rfl,q1⟩:=q1;cases r1
 refine wpAny_truthy_bool ?_;cases c with
 | true=>exact hb pins s1 σ H1 Q I1 q1
 | false=>exact ⟨.bl false,H1,I1,rfl,q1⟩
theorem Zn0 (ha:PE X a ta):PE X (.UnaryOp .Not a pos) (Zry ta):=by
 intro pins s σ H Q I h;refine UnaryOp_ (thn (ha pins s σ H _ I h) fun v s1 ⟨x,H1,I1,r1,q1⟩=>?_);obtain ⟨c,rfl,q1⟩:=q1;cases r1
 exact not_of (wpAny_truthy_bool ⟨.bl (!c),H1,I1,rfl,q1⟩)
def tIf (t:TT) (ta tb:TE):TE:=fun σ H Q=>t σ H fun c H1=>if c=true then ta σ H1 Q else tb σ H1 Q
theorem Zbq {c:Expr} (hc:PT X c tA) (ha:PE X a ta) (hb:PE X b tb):PE X (.IfExp c a b pos) (tIf tA ta tb):=by
 intro pins s σ H Q I h;refine wpAny_IfExp (thn (hc pins s σ H _ I h) fun d s1 ⟨H1,I1,q1⟩=>?_);cases d with
 | true=>exact ha pins s1 σ H1 Q I1 q1
 | false=>exact hb pins s1 σ H1 Q I1 q1
end
end L2
namespace L2
open PySem PySem.Spec PyProof.Rows
def SqL (K:PySem.W.Frag) (H:Hp) (a:Addr) (xs:List V):Prop :=
 Rd H a (.lst xs) ∨
  ∃ (o:Obj) (its:Array Value) (n:Nat),K.lookup a=some o∧o.cls=.type "list" ∧ o.dict=none∧o.data=.seq its n∧its.size≤sizeLine∧Vals xs its.toList
def SqT (K:PySem.W.Frag) (H:Hp) (a:Addr) (xs:List V):Prop :=
 Rd H a (.tup xs) ∨
  ∃ (o:Obj) (its:Array Value) (n:Nat),K.lookup a=some o∧o.cls=.type "tuple" ∧ o.data=.seq its n∧its.size≤sizeLine∧Vals xs its.toList
def absV:Value→Option V
 | .none=>some .non
 | .bool b=>some (.bl b)
 | .int i _=>some (.int i)
 | .str x _=>some (.str x)
 | .bytes b _=>some (.byt b)
 | .float b _=>some (.flt b)
 | .ref a=>some (.ref a)
 | .type n=>some (.ty n)
 | _=>none
theorem RelV.abs {x:V} {u:Value} (r:RelV x u):absV u=some x:=by
 cases x with
 | non=>cases r; rfl
 | bl _=>cases r; rfl
 | int _=>obtain ⟨t,rfl⟩:=r; rfl
 | str _=>obtain ⟨t,rfl⟩:=r; rfl
 | byt _=>obtain ⟨t,rfl⟩:=r; rfl
 | flt _=>obtain ⟨t,rfl⟩:=r; rfl
 | ref _=>cases r; rfl
 | ty _=>cases r; rfl
theorem RelV.inj {x y:V} {u:Value} (r:RelV x u) (q:RelV y u):x=y:=Option.some.inj (r.abs.symm.trans q.abs)
theorem Vals.inj:∀ {xs ys:List V} {us:List Value},Vals xs us→Vals ys us→xs=ys
 | _,_,_,.nil,.nil=>rfl
 | _,_,_,.cons r t,.cons r' t'=>by rw [r.inj r',Vals.inj t t']
section
variable {X:Cx} {pins:List (Addr×Obj)} {σ:St} {H:Hp} {s:Shared} {a:Addr} {xs ys:List V}
theorem SqL.of {K:PySem.W.Frag} (h:H a=some (.lst xs)):SqL K H a xs:=.inl (.inl h)
theorem SqT.of {K:PySem.W.Frag} (h:H a=some (.tup xs)):SqT K H a xs:=.inl (.inl h)
theorem Inv.list (I:Inv X pins σ H s) (h:SqL X.K H a xs):∃ its:List Value,Vals xs its∧PlainL s.heap a its.toArray∧xs.length≤sizeLine:=by
 rcases h with h | ⟨o,its,n,hk,hc,hd,hs,hz,r⟩
 · obtain ⟨z,its,n,r,e⟩:=h.ok I.hok;exact ⟨its,r,⟨_,n,e,rfl,rfl,rfl⟩,z⟩
 · refine ⟨its.toList,r,⟨o,n,I.kIn a o hk,hc,hd,by simpa using hs⟩,?_⟩;have e:=r.length;simp only [Array.length_toList] at e;omega
theorem Inv.tuple (I:Inv X pins σ H s) (h:SqT X.K H a xs):∃ its:List Value,Vals xs its∧IsTup s.heap a its.toArray∧xs.length≤sizeLine:=by
 rcases h with h | ⟨o,its,n,hk,hc,hs,hz,r⟩
 · obtain ⟨z,its,r,p⟩:=h.ok I.hok;exact ⟨its,r,p,z⟩
 · refine ⟨its.toList,r,⟨o,I.kIn a o hk,hc,n,by simpa using hs⟩,?_⟩;have e:=r.length;simp only [Array.length_toList] at e;omega
theorem Inv.list_inj (I:Inv X pins σ H s) (h:SqL X.K H a xs) (h':SqL X.K H a ys):xs=ys:=by
 obtain ⟨its,r,⟨o,n,e,_,_,d⟩,_⟩:=I.list h;obtain ⟨its',r',⟨o',n',e',_,_,d'⟩,_⟩:=I.list h';rw [e] at e'; cases e';rw [d] at d';injection d' with d1 _
 have:its=its':=by simpa using congrArg Array.toList d1
 subst this;exact r.inj r'
theorem Inv.tuple_inj (I:Inv X pins σ H s) (h:SqT X.K H a xs) (h':SqT X.K H a ys):xs=ys:=by
 obtain ⟨its,r,⟨o,e,_,n,d⟩,_⟩:=I.tuple h;obtain ⟨its',r',⟨o',e',_,n',d'⟩,_⟩:=I.tuple h';rw [e] at e'; cases e';rw [d] at d';injection d' with d1 _
 have:its=its':=by simpa using congrArg Array.toList d1
 subst this;exact r.inj r'
end
abbrev Cx.wish (X:Cx) (E:Value→Shared→Prop):Cx:={ X with xe:=E }
abbrev Cx.nox (X:Cx):Cx:=X.wish fun _ _=>False
theorem Cx.Ok.wish {X:Cx} (ok:X.Ok) (E:Value→Shared→Prop):(X.wish E).Ok :=
 ⟨ok.mod,ok.kind,ok.glob,ok.blt,ok.above,ok.inj,ok.has,ok.cab,ok.hd,ok.frames,ok.stk,ok.exf,ok.bs,ok.bsz,ok.noex,ok.exfs,ok.funs,ok.frf⟩
theorem Cx.Ok.unwish {X:Cx} {E:Value→Shared→Prop} (ok:(X.wish E).Ok):X.Ok :=
 ⟨ok.mod,ok.kind,ok.glob,ok.blt,ok.above,ok.inj,ok.has,ok.cab,ok.hd,ok.frames,ok.stk,ok.exf,ok.bs,ok.bsz,ok.noex,ok.exfs,ok.funs,ok.frf⟩
section
variable {X:Cx} {pins:List (Addr×Obj)} {σ:St} {H:Hp} {s:Shared} {E:Value→Shared→Prop}
theorem Inv.wish (I:Inv X pins σ H s) (E:Value→Shared→Prop):Inv (X.wish E) pins σ H s:=⟨I.ok.wish E,I.os,I.bare,I.base,I.loc,I.cell,I.free,I.freeC,I.pin,I.hok,I.len⟩
theorem Inv.unwish (I:Inv (X.wish E) pins σ H s):Inv X pins σ H s:=⟨I.ok.unwish,I.os,I.bare,I.base,I.loc,I.cell,I.free,I.freeC,I.pin,I.hok,I.len⟩
theorem SP.unwish {D:Ends} {f:Flow} {s':Shared} (h:SP (X.wish E) pins D f s'):SP X pins D f s':=by
 cases f with
 | next=>obtain ⟨σ',H',I,q⟩:=h; exact ⟨σ',H',I.unwish,q⟩
 | brk=>obtain ⟨σ',H',I,q⟩:=h; exact ⟨σ',H',I.unwish,q⟩
 | cont=>obtain ⟨σ',H',I,q⟩:=h; exact ⟨σ',H',I.unwish,q⟩
 | ret u=>obtain ⟨v,σ',H',I,r,q⟩:=h; exact ⟨v,σ',H',I.unwish,r,q⟩
theorem PSs.nox {st:List Stmt} {t:TS} (h:PSs X.nox st t):PSs X st t:=fun pins s σ H D I hw =>
 n67_ (h pins s σ H D (I.wish _) hw) (fun _ _ q=>q.unwish) fun _ _ z=>False.elim z
end
section
variable {X:Cx} {st:Stmt} {rest:List Stmt} {t u:TS} {e:Expr} {te:TE} {pos:Pos}
def Zqz:TS:=fun D σ H=>D.nx σ H
def tSeq (t u:TS):TS:=fun D σ H=>t { D with nx:=u D } σ H
theorem Z2:PSs X [] Zqz:=fun _ _ σ H _ I h=>wpAny_execs_nil ⟨σ,H,I,h⟩
theorem Zd (h1:PS X st t) (h2:PSs X rest u):PSs X (st :: rest) (tSeq t u):=by
 intro pins s σ H D I h;refine wpAny_execs_cons (thn (h1 pins s σ H { D with nx:=u D } I h) fun f s1 q=>?_);cases f with
 | next =>
   obtain ⟨σ',H',I',q⟩:=q;exact h2 pins s1 σ' H' D I' q
 | ret v=>exact q
 | brk=>exact q
 | cont=>exact q
theorem Zi (h1:PS X st t):PSs X [st] t:=by
 intro pins s σ H D I h;refine wpAny_execs_cons (thn (h1 pins s σ H D I h) fun f s1 q=>?_);cases f with
 | next=>exact wpAny_execs_nil q
 | ret v=>exact q
 | brk=>exact q
 | cont=>exact q
def Zqd:TS:=fun D σ H=>D.bk σ H
theorem Zng:PS X (.Break pos) Zqd:=fun _ _ σ H _ I h=>wpAny_Break ⟨σ,H,I,h⟩
theorem Inv.quiet {pins:List (Addr×Obj)} {σ:St} {H:Hp} {s:Shared} (I:Inv X pins σ H s):interactive X.env=false:=by simp [interactive,I.ok.kind]
def Zrt (te:TE):TS:=fun D σ H=>te σ H fun _ H1=>D.nx σ H1
theorem Yx (he:PE X e te) (hs:swapsWith e none pos.line X.env=pure false:=by rfl):PS X (.Expr e pos) (Zrt te):=by
 intro pins s σ H D I h;exact wpAny_Expr_any (thn (he pins s σ H _ I h) fun v s1 ⟨x,H1,I1,r1,q1⟩=>⟨σ,H1,I1,q1⟩) I.quiet hs
def tRet (te:TE):TS:=fun D σ H=>te σ H D.rt
theorem Zm (he:PE X e te):PS X (.Return (some e) pos) (tRet te):=by
 intro pins s σ H D I h;exact wpAny_Return_some (thn (he pins s σ H _ I h) fun v s1 ⟨x,H1,I1,r1,q1⟩=>⟨x,σ,H1,I1,r1,q1⟩)
def tIfS (c:TT) (t u:TS):TS:=fun D σ H=>c σ H fun b H1=>if b=true then t D σ H1 else u D σ H1
theorem Y3 {c:Expr} {a b:List Stmt} {tc:TT} (hc:PT X c tc) (ha:PSs X a t) (hb:PSs X b u):PS X (.If c a b pos) (tIfS tc t u):=by
 intro pins s σ H D I h;refine wpAny_If (thn (hc pins s σ H _ I h) fun d s1 ⟨H1,I1,q1⟩=>?_);cases d with
 | true=>exact ha pins s1 σ H1 D I1 q1
 | false=>exact hb pins s1 σ H1 D I1 q1
def Zqa:TS:=fun _ _ _=>False
theorem Zlo {sts:List Stmt}:PSs X sts Zqa:=fun _ _ _ _ _ _ h=>h.elim
end
abbrev TG:=V→St→Hp→(St→Hp→Prop)→Prop
abbrev TGs:=List V→St→Hp→(St→Hp→Prop)→Prop
def PG (X:Cx) (target:Expr) (t:TG):Prop :=
 ∀ (pins:List (Addr×Obj)) (s:Shared) (σ:St) (H:Hp) (v:V) (u:Value) (Q:St→Hp→Prop),Inv X pins σ H s→RelV v u→t v σ H Q →
   wpAny (model X.prog X.w) X.A (assign target X.env u) (fun _ s'=>∃ σ' H',Inv X pins σ' H' s'∧Q σ' H') X.xe s
def PGs (X:Cx) (ts:List Expr) (t:TGs):Prop :=
 ∀ (pins:List (Addr×Obj)) (s:Shared) (σ:St) (H:Hp) (vs:List V) (us:List Value) (Q:St→Hp→Prop),Inv X pins σ H s→Vals vs us→t vs σ H Q →
   wpAny (model X.prog X.w) X.A (assignInOrder ((assignEach ts X.env).map (·.2)) us) (fun _ s'=>∃ σ' H',Inv X pins σ' H' s'∧Q σ' H') X.xe s
abbrev TSet:=V→V→V→Hp→(Hp→Prop)→Prop
def PSet (X:Cx) (t:TSet):Prop :=
 ∀ (pins:List (Addr×Obj)) (s:Shared) (σ:St) (H:Hp) (o i v:V) (ov iv u:Value) (Q:Hp→Prop),Inv X pins σ H s→RelV o ov→RelV i iv→RelV v u→t o i v H Q →
   wpAny (model X.prog X.w) X.A (setItem ov iv u) (fun _ s'=>∃ H',Inv X pins σ H' s'∧Q H') X.xe s
abbrev TIp:=V→V→Hp→VK→Prop
def PIp (X:Cx) (op:Operator) (t:TIp):Prop :=
 ∀ (pins:List (Addr×Obj)) (s:Shared) (σ:St) (H:Hp) (x y:V) (v u:Value) (Q:VK),Inv X pins σ H s→RelV x v→RelV y u→t x y H Q →
   wpAny (model X.prog X.w) X.A (inplaceOp op v u) (EP X pins σ Q) X.xe s
section
variable {X:Cx} {pos:Pos}
def Z5 (i:Nat):TG:=fun v σ H Q=>Q (σ.set i (some v)) H
theorem Zs {i:Nat} {x:Str} (hN:X.N.Nodup) (hi:X.N[i]? = some x) (hx:Loc X.env.scope x) (hf:X.fn x=true∨X.env.scope.names.lookup x=some .local:=by first | exact .inl rfl | exact .inr rfl | assumption):PG X (.Name x pos) (Z5 i):=by
 intro pins s σ H v u Q I r h;exact wpAny_assign_Name (Za2 I hN hi hx r (fun s' I'=>⟨_,H,I',h⟩) hf)
def gNil:TGs:=fun vs σ H Q=>vs=[]∧Q σ H
def Z8 (t:TG) (u:TGs):TGs:=fun vs σ H Q=>∃ v r,vs=v :: r∧t v σ H fun σ' H'=>u r σ' H' Q
theorem Zy:PGs X [] gNil:=by
 intro pins s σ H vs us Q I r h;obtain ⟨e,h⟩:=h;subst e;cases r
 exact assignInOrder_nil ⟨σ,H,I,h⟩
theorem Zj {e:Expr} {es:List Expr} {t:TG} {u:TGs} (h1:PG X e t) (h2:PGs X es u)
 (hs:(assignEach (e :: es) X.env).map (·.2)=assign e X.env :: (assignEach es X.env).map (·.2):=by rfl):PGs X (e :: es) (Z8 t u):=by
 intro pins s σ H vs us Q I r h;obtain ⟨v,vr,e1,h⟩:=h;subst e1;cases r with
 | cons r rr =>
   rw [hs];refine assignInOrder_cons (thn (h1 pins s σ H _ _ _ I r h) fun _ s1 ⟨σ1,H1,I1,q1⟩=>?_);exact h2 pins s1 σ1 H1 _ _ Q I1 rr q1
def gTup (K:PySem.W.Frag) (n:Nat) (t:TGs):TG:=fun v σ H Q=>∃ a xs,v=.ref a∧SqT K H a xs∧xs.length=n∧t xs σ H Q
theorem Yb {es:List Expr} {k:Nat} {t:TGs} {n:Nat} (hc:X.calm=true) (h:PGs X es t)
 (hn:(assignEach es X.env).length=n:=by rfl) (hst:(assignEach es X.env).findIdx? (·.1)=none:=by rfl):PG X (.Tuple es k pos) (gTup X.K n t):=by
 intro pins s σ H v u Q I r hw;obtain ⟨a,xs,e1,hq,hl,hw⟩:=hw;subst e1;cases r
 obtain ⟨its,rv,ht,hz⟩:=I.tuple hq;refine assign_Tuple_tuple (I.ok.hd hc) ht (by simp [hn,← hl,rv.length]) hst fun h' hx=>?_;have I1:Inv X pins σ H { s with heap:=h' }:=I.kept (t':=s.toks) fun b o e=>hx b o (n36_ (n13_ e)) e;exact h pins _ σ H xs _ Q I1 (by simpa using rv) hw
def gSub (to ti:TE) (t:TSet):TG:=fun v σ H Q=>to σ H fun o H1=>ti σ H1 fun i H2=>t o i v H2 fun H3=>Q σ H3
theorem Zin {o i:Expr} {to ti:TE} {t:TSet} (ho:PE X o to) (hi:PE X i ti) (hs:PSet X t)
 (ha:∀ v,assign (.Subscript o i pos) X.env v=(do
   let ov ← holding [v] (eval o X.env)
   let iv ← holding [v,ov] (eval i X.env)
   standAt pos
   holding [v,ov,iv] (setItem ov iv v)
   release [v,ov,iv] []):=by intro _; rfl):PG X (.Subscript o i pos) (gSub to ti t):=by
 intro pins s σ H v u Q I r h;rw [ha];refine n1_ (n66_ (thn (ho pins s σ H _ I h) fun ov s1 ⟨x,H1,I1,r1,q1⟩=>?_));refine n1_ (n66_ (thn (hi pins s1 σ H1 _ I1 q1) fun iv s2 ⟨y,H2,I2,r2,q2⟩=>?_));refine n1_ (wpAny_standAt (n1_ (n66_ (thn (hs pins s2 σ H2 x y v ov iv u _ I2 r1 r2 r q2) fun _ s3 ⟨H3,I3,q3⟩=>?_))));exact wpAny_release ⟨σ,H3,I3,q3⟩
def tAsg (te:TE) (g:TG):TS:=fun D σ H=>te σ H fun x H1=>g x σ H1 D.nx
theorem Zam {tg e:Expr} {te:TE} {g:TG} (he:PE X e te) (hg:PG X tg g) (hs:swapsWithSole [tg] e pos.line X.env=pure false:=by rfl) (hw:swappedStores [tg] e X.env=pure none:=by rfl)
 (h1:(assignEach [tg] X.env).map (·.2)=[assign tg X.env]:=by rfl):PS X (.Assign [tg] e pos) (tAsg te g):=by
 intro pins s σ H D I h;refine wpAny_Assign_stores (thn (he pins s σ H _ I h) fun v s1 ⟨x,H1,I1,r1,q1⟩=>?_) hs hw;rw [h1];exact thn (hg pins s1 σ H1 x v _ I1 r1 q1) fun _ s2 q=>q
theorem Zr {i:Nat} {x:Str} {e:Expr} {te:TE} {pos':Pos} (hN:X.N.Nodup) (hi:X.N[i]? = some x) (hx:Loc X.env.scope x) (he:PE X e te) (hs:swapsWith e (some (.Name x pos')) pos.line X.env=pure false:=by rfl) (hf:X.fn x=true∨X.env.scope.names.lookup x=some .local:=by first | exact .inl rfl | exact .inr rfl | assumption) :
 PS X (.Assign [.Name x pos'] e pos) (tAsg te (Z5 i)):=by
 intro pins s σ H D I h;refine wpAny_Assign_Name (thn (he pins s σ H _ I h) fun v s1 ⟨y,H1,I1,r1,q1⟩=>?_) hs;exact Za2 I1 hN hi hx r1 (fun s2 I2=>⟨_,H1,I2,q1⟩) hf
def tPar (i j:Nat) (ta:TA):TS:=fun D σ H=>ta σ H fun vs H1=>∃ v w,vs=[v,w]∧D.nx ((σ.set i (some v)).set j (some w)) H1
theorem Zix {i j:Nat} {x y:Str} {a b:Expr} {ta:TA} {px py pt:Pos} {kt k2 pt2} (hc:X.calm=true) (hN:X.N.Nodup) (hi:X.N[i]? = some x) (hj:X.N[j]? = some y) (hij:i≠j)
 (hx:X.env.scope.names.lookup x=some .local) (hy:X.env.scope.names.lookup y=some .local) (ha:PA X [a,b] ta)
 (hw:swappedStores [.Tuple [.Name x px,.Name y py] kt pt] (.Tuple [a,b] k2 pt2) X.env=pure (some [x,y]))
 (hs:swapsWithSole [.Tuple [.Name x px,.Name y py] kt pt] (.Tuple [a,b] k2 pt2) pos.line X.env=pure false:=by rfl) :
 PS X (.Assign [.Tuple [.Name x px,.Name y py] kt pt] (.Tuple [a,b] k2 pt2) pos) (tPar i j ta):=by
 intro pins s σ H D I h;rw [exec_Assign_arm];refine n1_ (wpAny_standAt ?_);rw [hs];refine n1_ (n10_ ?_);rw [if_neg (by decide)];refine n1_ (Tuple_ (thn (ha _ pins s σ H _ I h) fun us s1 ⟨vs,H1,I1,r1,q1⟩=>?_));obtain ⟨v,w,e1,q1⟩:=q1;subst e1
 obtain ⟨u1,u2,rfl,rv,rw'⟩:∃ u1 u2,us=[u1,u2]∧RelV v u1∧RelV w u2:=by
  cases r1 with
  | cons p q =>
    cases q with
    | cons p' q' =>
      cases q'
      exact ⟨_,_,rfl,p,p'⟩
 refine wpAny_newObj_type ?_ (z2_);have I2:Inv X pins σ H1 { s1 with heap:=s1.heap.push { cls:=.type "tuple",data:=.seq [u1,u2].toArray } }:=I1.kept (t':=s1.toks) fun b o e=>n2_ _ e;rw [hw];refine n1_ (n10_ ?_);show wpAny (model X.prog X.w) X.A (do rule "assign.swapped-stores"; let items ← unpackItems (.ref s1.heap.objs.size) 2 none; assignInOrder [fun v=>bindName X.env y v,fun v=>bindName X.env x v] items.reverse; pure Flow.next) _ _ _
 refine n1_ (wpAny_rule (n1_ (unpackItems_tuple (items:=#[u1,u2]) (I.ok.hd hc) (IsTup.new s1.heap _) fun h' hx'=>?_)));have I3:=I2.kept (h':=h') (t':=s1.toks) fun b o e=>hx' b o (n36_ (n13_ e)) e;show wpAny _ _ (assignInOrder [fun v=>bindName X.env y v,fun v=>bindName X.env x v] [u2,u1] >>= fun _=>pure Flow.next) _ _ _
 refine n1_ (assignInOrder_cons (wpAny_bindName (Za2 I3 hN hj (.inl hy) rw' (fun s2 I4=>?_) (.inr hy))));refine assignInOrder_cons (wpAny_bindName (Za2 I4 hN hi (.inl hx) rv (fun s3 I5=>assignInOrder_nil (n10_ ?_)) (.inr hx)));rw [List.set_comm _ _ (Ne.symm hij)] at I5;exact ⟨_,H1,I5,q1⟩
def tAug (i:Nat) (te:TE) (ti:TIp):TS:=fun D σ H=>∃ x,σ[i]? = some (some x)∧te σ H fun y H1=>ti x y H1 fun z H2=>D.nx (σ.set i (some z)) H2
theorem Zmh {i:Nat} {x:Str} {e:Expr} {te:TE} {op:Operator} {ti:TIp} {pos':Pos} (hN:X.N.Nodup) (hi:X.N[i]? = some x) (hx:Loc X.env.scope x) (he:PE X e te) (ho:PIp X op ti) (hf:X.fn x=true∨X.env.scope.names.lookup x=some .local:=by first | exact .inl rfl | exact .inr rfl | assumption) :
 PS X (.AugAssign (.Name x pos') op e pos) (tAug i te ti):=by
 intro pins s σ H D I h;obtain ⟨v,e1,h⟩:=h;obtain ⟨m,hn,hl⟩:=I.loc;have vis:Vis X.env.scope x:=by rcases hx with k | k; exact .inl k; exact .inr (.inl k)
 obtain ⟨u,r,l⟩:=hl i x v hi e1 vis;refine wpAny_AugAssign_Name ?_
 have go:wpAny (model X.prog X.w) X.A (eval e X.env) (fun w s₂=>wpAny (model X.prog X.w) X.A (inplaceOp op u w) (fun r s₃=>wpAny (model X.prog X.w) X.A (storeName X.env x r) (fun _=>SP X pins D .next) X.xe s₃) X.xe s₂) X.xe s:=by
  refine thn (he pins s σ H _ I h) fun w s1 ⟨y,H1,I1,r1,q1⟩=>?_;refine thn (ho pins s1 σ H1 v y u w _ I1 r r1 q1) fun z s2 ⟨zv,H2,I2,r2,q2⟩=>?_;exact Za2 I2 hN hi hx r2 (fun s3 I3=>⟨_,H2,I3,q2⟩) hf
 rcases l with ⟨hk,hm⟩ | ⟨hk,c,hc,hcell⟩
 · exact wpAny_loadName_local I.ok.kind hk hn hm go
 · rcases hk with hk | hk
   · exact wpAny_loadName_cell I.ok.kind hk hc hcell go
   · rcases hx with k | k
     · have:X.env.scope.names.lookup x=some .free:=hk
       rw [k] at this; cases this
     · have:X.env.scope.names.lookup x=some .free:=hk
       rw [k] at this; cases this
end
section
variable {X:Cx} {pos:Pos}
def Zns (c:TT) (tb:TS):TS:=fun D σ H=>∃ W:Nat→St→Hp→Prop,(∃ m,W m σ H)∧∀ m σ H,W m σ H →
 c σ H fun b H1=>if b=true then ∃ N:St→Hp→Prop,(∀ σ' H',N σ' H'→∃ m',m' < m∧W m' σ' H')∧tb { D with nx:=N,ct:=N,bk:=D.nx } σ H1 else D.nx σ H1
theorem Zfl {c:Expr} {body:List Stmt} {tc:TT} {tb:TS} (hp:PassesOwn (model X.prog X.w) X.A X.env X.xe) (hc:PT X c tc) (hb:PSs X body tb):PS X (.While c body [] pos) (Zns tc tb):=by
 intro pins s σ H D I h;obtain ⟨W,⟨m0,w0⟩,turn⟩:=h;refine wpAny_While (codeAny_whileLoop (fun n s'=>∃ σ' H',Inv X pins σ' H' s'∧W n σ' H') ?_ m0 ⟨σ,H,I,w0⟩);rintro n s1 ⟨σ1,H1,I1,w1⟩
 refine wpAny_passesOwn hp (thn (hc pins s1 σ1 H1 _ I1 (turn n σ1 H1 w1)) fun b s2 ⟨H2,I2,q2⟩=>?_);cases b with
 | true =>
   obtain ⟨N,hN,q2⟩:=q2;rw [if_pos rfl];refine wpAny_passesOwn hp (thn (hb pins s2 σ1 H2 _ I2 q2) fun f s3 q3=>?_);cases f with
   | next =>
     obtain ⟨σ3,H3,I3,n3⟩:=q3;obtain ⟨m',hm,w3⟩:=hN σ3 H3 n3;exact ⟨m',hm,σ3,H3,I3,w3⟩
   | cont =>
     obtain ⟨σ3,H3,I3,n3⟩:=q3;obtain ⟨m',hm,w3⟩:=hN σ3 H3 n3;exact ⟨m',hm,σ3,H3,I3,w3⟩
   | brk=>exact q3
   | ret v=>exact q3
 | false =>
   rw [if_neg n21_];exact wpAny_execs_nil ⟨σ1,H2,I2,q2⟩
end
structure It where
 go:Nat→Hp→Prop
 yld:Nat→Hp→V→Hp→Prop
 stop:Nat→Hp→Prop
def FpOk (X:Cx) (pins:List (Addr×Obj)) (H:Hp) (b:Addr):Prop :=
 H b=none∧b≠X.env.locals∧b∉X.fs∧(b∈X.ex∨X.s₀.heap.objs.size≤b)∧(∀ x c,X.env.cells.lookup x=some c→c≠b)∧∀ p∈X.pn++pins,p.1≠b
theorem Inv.fpOk {X:Cx} {pins:List (Addr×Obj)} {σ:St} {H H':Hp} {s:Shared} {b:Addr} (I:Inv X pins σ H s) (hb:s.heap.objs.size≤b) (hn:H' b=none):FpOk X pins H' b:=by
 refine ⟨hn,Nat.ne_of_gt (n9_ I.lt hb),I.nofs hb,.inr (n24_ I.sz hb),fun x c e z=>?_,fun p hp z=>?_⟩
 · obtain ⟨v,q⟩:=I.cell x c e;exact absurd (n9_ q.lt (by rw [z]; exact hb)) (n70_ _)
 · exact absurd (n9_ (n13_ (I.pin p hp).1) (by rw [z]; exact hb)) (n70_ _)
structure Turn (P:Program) (w:World) (K:PySem.W.Frag) (tg:Expr) (J:It) (fp:List Addr) (it:Addr) (tn:Nat→Heap→Prop):Prop where
 mem:it∈fp
 obj:∀ i h,tn i h→∀ b∈fp,∃ o,h.get? b=some o∧∀ v,o.data≠.cell v
 keep:∀ i h h',tn i h→(∀ b∈fp,∀ o,h.get? b=some o→h'.get? b=some o)→tn i h'
 item:∀ (X:Cx),X.prog=P→X.w=w→X.K=K→X.calm=true→∀ (i:Nat) (pins:List (Addr×Obj)) (s:Shared) (σ:St) (H:Hp) (E:Value→Shared→Prop),Inv X pins σ H s→(∀ b∈fp,FpOk X pins H b)→tn i s.heap→J.go i H →
  wpAny (model P w) X.A (pyNext (.ref it)) (fun r s1=>∃ u,r=some u ∧
   wpAny (model P w) X.A (letOwnedTupleGo tg (.ref it) u) (fun _ s2=>∃ x H',Inv X pins σ H' s2∧RelV x u∧J.yld i H x H'∧tn (i+1) s2.heap∧∀ b∈fp,H' b=none) E s1) E s
 done:∀ (X:Cx),X.prog=P→X.w=w→X.K=K→X.calm=true→∀ (i:Nat) (pins:List (Addr×Obj)) (s:Shared) (σ:St) (H:Hp) (E:Value→Shared→Prop),Inv X pins σ H s→(∀ b∈fp,FpOk X pins H b)→tn i s.heap→J.stop i H →
  wpAny (model P w) X.A (pyNext (.ref it)) (fun r s1=>r=none∧Inv X pins σ H s1) E s
 self:∀ (A:Around) (i:Nat) (s:Shared) (Q:Value→Shared→Prop) (E:Value→Shared→Prop),tn i s.heap→Q (.ref it) s→wpAny (model P w) A (pyIter (.ref it)) Q E s
abbrev TI:=St→Hp→(It→Hp→Prop)→Prop
def PIE (X:Cx) (pins:List (Addr×Obj)) (σ:St) (tg:Expr) (R:It→Hp→Prop) (itv:Value) (s2:Shared):Prop :=
 ∃ (it:Addr) (fp:List Addr) (tn:Nat→Heap→Prop) (J:It) (H':Hp),itv=.ref it∧Inv X pins σ H' s2∧Turn X.prog X.w X.K tg J fp it tn∧tn 0 s2.heap∧(∀ b∈fp,FpOk X pins H' b)∧R J H'
def PI (X:Cx) (tg iter:Expr) (wi:TI):Prop :=
 ∀ (pins:List (Addr×Obj)) (s:Shared) (σ:St) (H:Hp) (R:It→Hp→Prop),Inv X pins σ H s→wi σ H R →
   wpAny (model X.prog X.w) X.A (eval iter X.env) (fun v s1=>wpAny (model X.prog X.w) X.A (pyIter v) (PIE X pins σ tg R) X.xe s1) X.xe s
theorem Zmw {M:Model} {A:Around} {E:Value→Shared→Prop} {s:Shared} {tg:Expr} {it:Addr} {u:Value} {o:Obj} {n:String} {vs:Array Value} {Q:Unit→Shared→Prop} (ho:s.heap.get? it=some o) (hc:o.cls=.type n) (hd:o.data=.fields vs)
 (hn:["enumerate","zip","dict_itemiterator","dict_reverseitemiterator","odict_iterator","itertools.zip_longest","itertools.pairwise"].contains n=false) (hQ:Q () s):wpAny M A (letOwnedTupleGo tg (.ref it) u) Q E s:=by
 unfold letOwnedTupleGo
 cases tg <;> first
  | exact n10_ hQ
  | (cases u <;> first
      | exact n10_ hQ
      | (refine n1_ (wpAny_load ho ?_)
         rw [hc,hd];show wpAny M A (if (["enumerate","zip","dict_itemiterator","dict_reverseitemiterator","odict_iterator","itertools.zip_longest","itertools.pairwise"].contains n && vs[0]? == some (rawInt _))=true then _ else _) Q E s
         rw [if_neg (by intro h; rw [hn,Bool.false_and] at h; cases h)];exact n10_ hQ))
def Itl (K:PySem.W.Frag) (a:Addr):It :=
 ⟨fun i H=>∃ xs x,SqL K H a xs∧xs[i]? = some x,fun i H x H'=>H'=H∧∀ xs,SqL K H a xs→xs[i]? = some x,fun i H=>∃ xs,SqL K H a xs∧xs.length≤i⟩
def Itt (K:PySem.W.Frag) (a:Addr):It :=
 ⟨fun i H=>∃ xs x,SqT K H a xs∧xs[i]? = some x,fun i H x H'=>H'=H∧∀ xs,SqT K H a xs→xs[i]? = some x,fun i H=>∃ xs,SqT K H a xs∧xs.length≤i⟩
def Itr (lo:Int) (n:Nat):It:=⟨fun i _=>i < n,fun i H x H'=>H'=H∧x=.int (lo+i),fun i _=>n≤i⟩
theorem Zgp {P:Program} {w:World} {K:PySem.W.Frag} {tg:Expr} (a it:Addr):Turn P w K tg (Itl K a) [it] it (fun i h=>h.IsListIter it a i) where
 mem:=by simp
 obj:=fun i h st b hb=>by
  have e:b=it:=by simpa using hb
  subst e;obtain ⟨o,e,c,d⟩:=st;exact ⟨o,e,fun v z=>by rw [d] at z; cases z⟩
 keep:=fun i h h' st k=>st.at fun o e=>k it (by simp) o e
 item:=by
  intro X hP hw hK hc i pins s σ H E I hf st hg;subst hP hw hK;obtain ⟨xs,x,hq,hx⟩:=hg;obtain ⟨its,rv,p,hz⟩:=I.list hq;obtain ⟨u,hu,ru⟩:=rv.get hx;obtain ⟨f0,f1,f2,f3,f4,f5⟩:=hf it (by simp);refine wpAny_pyNext_list_item st p.isList (x:=u) (by simpa using hu) fun h' st' sb=>?_;have I1:Inv X pins σ H { s with heap:=h' }:=I.turned (t':=s.toks) (fun b o hb e=>(sb.2 b hb).trans e) f0 f1 f3 f4 f5;obtain ⟨o,e,c,d⟩:=id st';exact ⟨u,rfl,Zmw (s:={ s with heap:=h' }) e c d (by decide) ⟨x,H,I1,ru,⟨rfl,fun ys hy=>by rw [I.list_inj hy hq]; exact hx⟩,st',fun b hb=>(hf b hb).1⟩⟩
 done:=by
  intro X hP hw hK hc i pins s σ H E I hf st hg;subst hP hw hK;obtain ⟨xs,hq,hx⟩:=hg;obtain ⟨its,rv,p,hz⟩:=I.list hq;obtain ⟨f0,f1,f2,f3,f4,f5⟩:=hf it (by simp);have hl:=rv.length;exact wpAny_pyNext_list_end (I.ok.hd hc) st p.isList (by simp; omega) fun h' eb=>⟨rfl,I.turned (t':=s.toks) (fun b o hb e=>eb b o hb e) f0 f1 f3 f4 f5⟩
 self:=fun _ _ _ _ _ st h=>wpAny_pyIter_listiter st h
theorem Zex {P:Program} {w:World} {K:PySem.W.Frag} {tg:Expr} (a it:Addr):Turn P w K tg (Itt K a) [it] it (fun i h=>h.IsTupleIter it a i) where
 mem:=by simp
 obj:=fun i h st b hb=>by
  have e:b=it:=by simpa using hb
  subst e;obtain ⟨o,e,c,d⟩:=st;exact ⟨o,e,fun v z=>by rw [d] at z; cases z⟩
 keep:=fun i h h' st k=>st.at fun o e=>k it (by simp) o e
 item:=by
  intro X hP hw hK hc i pins s σ H E I hf st hg;subst hP hw hK;obtain ⟨xs,x,hq,hx⟩:=hg;obtain ⟨its,rv,p,hz⟩:=I.tuple hq;obtain ⟨u,hu,ru⟩:=rv.get hx;obtain ⟨f0,f1,f2,f3,f4,f5⟩:=hf it (by simp);refine wpAny_pyNext_tuple_item st (show s.heap.IsTuple a its.toArray from p) (x:=u) (by simpa using hu) fun h' st' sb=>?_;have I1:Inv X pins σ H { s with heap:=h' }:=I.turned (t':=s.toks) (fun b o hb e=>(sb.2 b hb).trans e) f0 f1 f3 f4 f5;obtain ⟨o,e,c,d⟩:=id st';exact ⟨u,rfl,Zmw (s:={ s with heap:=h' }) e c d (by decide) ⟨x,H,I1,ru,⟨rfl,fun ys hy=>by rw [I.tuple_inj hy hq]; exact hx⟩,st',fun b hb=>(hf b hb).1⟩⟩
 done:=by
  intro X hP hw hK hc i pins s σ H E I hf st hg;subst hP hw hK;obtain ⟨xs,hq,hx⟩:=hg;obtain ⟨its,rv,p,hz⟩:=I.tuple hq;obtain ⟨f0,f1,f2,f3,f4,f5⟩:=hf it (by simp);have hl:=rv.length;exact wpAny_pyNext_tuple_end (I.ok.hd hc) st (show s.heap.IsTuple a its.toArray from p) (by simp; omega) fun h' eb=>⟨rfl,I.turned (t':=s.toks) (fun b o hb e=>eb b o hb e) f0 f1 f3 f4 f5⟩
 self:=fun _ _ _ _ _ st h=>wpAny_pyIter_tupleiter st h
theorem Zkb {P:Program} {w:World} {K:PySem.W.Frag} {tg:Expr} (it:Addr) (lo:Int) (n:Nat):Turn P w K tg (Itr lo n) [it] it (fun i h=>IsRangeIter h it (lo+(i:Nat) * 1) ((n:Int) - (i:Nat)) 1) where
 mem:=by simp
 obj:=fun i h st b hb=>by
  have e:b=it:=by simpa using hb
  subst e
  exact ⟨_,st,fun v z=>by
   have z':Data.fields _=Data.cell v:=z;cases z'⟩
 keep:=fun i h h' st k=>k it (by simp) _ st
 item:=by
  intro X hP hw hK hc i pins s σ H E I hf st hg;subst hP hw hK;obtain ⟨f0,f1,f2,f3,f4,f5⟩:=hf it (by simp);have W:=Walks.range (prog:=X.prog) (w:=X.w) (I.ok.hd hc) it lo 1 n;refine W.item i s _ _ hg st fun v h' tk hv st' kk=>?_;obtain ⟨t,rfl⟩:=hv;have I1:Inv X pins σ H { s with heap:=h',toks:=tk }:=I.turned (fun b o hb e=>kk b o (by simpa using hb) e) f0 f1 f3 f4 f5;refine ⟨_,rfl,Zmw (s:={ s with heap:=h',toks:=tk }) (n := "range_iterator") st' rfl rfl (by decide) ⟨.int (lo+i),H,I1,⟨t,?_⟩,⟨rfl,rfl⟩,st',fun b hb=>(hf b hb).1⟩⟩;rw [Int.mul_one]
 done:=by
  intro X hP hw hK hc i pins s σ H E I hf st hg;subst hP hw hK;obtain ⟨f0,f1,f2,f3,f4,f5⟩:=hf it (by simp);exact wpAny_pyNext_range_end (I.ok.hd hc) st (by have:n≤i:=hg; omega) fun h' eb=>⟨rfl,I.turned (t':=s.toks) (fun b o hb e=>eb b o hb e) f0 f1 f3 f4 f5⟩
 self:=fun _ _ _ _ _ st h=>wpAny_pyIter_rangeiter st h
end L2
namespace L2
open PySem PySem.Spec PyProof.Rows
section
variable {X:Cx} {tg:Expr}
def Zp4 (K:PySem.W.Frag) (tl:TE):TI:=fun σ H R=>tl σ H fun x H1=>∃ a,x=.ref a∧(∃ xs,SqL K H1 a xs)∧R (Itl K a) H1
def iTup (K:PySem.W.Frag) (tl:TE):TI:=fun σ H R=>tl σ H fun x H1=>∃ a,x=.ref a∧(∃ xs,SqT K H1 a xs)∧R (Itt K a) H1
theorem Yi {l:Expr} {tl:TE} (hl:PE X l tl):PI X tg l (Zp4 X.K tl):=by
 intro pins s σ H R I h;refine thn (hl pins s σ H _ I h) fun v s1 ⟨x,H1,I1,r1,q1⟩=>?_;obtain ⟨a,e,⟨xs,hq⟩,q⟩:=q1;subst e;cases r1
 obtain ⟨its,rv,p,hz⟩:=I1.list hq;refine wpAny_pyIter_list p.isList ?_;refine ⟨s1.heap.objs.size,[s1.heap.objs.size],_,_,H1,rfl,I1.kept (t':=s1.toks) fun b o e=>n2_ _ e,Zgp a _,⟨_,n11_ _ rfl,rfl,rfl⟩,fun b hb=>?_,q⟩;have e:b=s1.heap.objs.size:=by simpa using hb
 subst e;exact I1.fpOk (n5_ _) (I1.hok.fresh (n5_ _))
theorem Zdb {l:Expr} {tl:TE} (hl:PE X l tl):PI X tg l (iTup X.K tl):=by
 intro pins s σ H R I h;refine thn (hl pins s σ H _ I h) fun v s1 ⟨x,H1,I1,r1,q1⟩=>?_;obtain ⟨a,e,⟨xs,hq⟩,q⟩:=q1;subst e;cases r1
 obtain ⟨its,rv,p,hz⟩:=I1.tuple hq;refine wpAny_pyIter_tuple (show s1.heap.IsTuple a its.toArray from p) ?_;refine ⟨s1.heap.objs.size,[s1.heap.objs.size],_,_,H1,rfl,I1.kept (t':=s1.toks) fun b o e=>n2_ _ e,Zex a _,⟨_,n11_ _ rfl,rfl,rfl⟩,fun b hb=>?_,q⟩;have e:b=s1.heap.objs.size:=by simpa using hb
 subst e;exact I1.fpOk (n5_ _) (I1.hok.fresh (n5_ _))
theorem Znh {pins:List (Addr×Obj)} {σ:St} {H:Hp} {s:Shared} {R:It→Hp→Prop} {E:Value→Shared→Prop} {lo hi:Int} {t u v:Tok} {tk:Nat} (I:Inv X pins σ H s) (h1:-(2 ^ 62)≤lo) (h2:lo < 2 ^ 62) (h3:-(2 ^ 62)≤hi) (h4:hi < 2 ^ 62)
 (q:R (Itr lo (hi - lo).toNat) H):wpAny (model X.prog X.w) X.A (pyIter (.ref s.heap.objs.size)) (PIE X pins σ tg R) E { s with heap:=s.heap.push { cls:=.type "range",data:=.fields #[.int lo t,.int hi u,.int 1 v] },toks:=tk }:=by
 refine wpAny_pyIter_range (IsRange.new ..) (small_one h1 h2 h3 h4) ?_;have I1:Inv X pins σ H { s with heap:=s.heap.push { cls:=.type "range",data:=.fields #[.int lo t,.int hi u,.int 1 v] },toks:=tk }:=I.kept fun b o e=>n2_ _ e
 refine ⟨(s.heap.push { cls:=.type "range",data:=.fields #[.int lo t,.int hi u,.int 1 v] }).objs.size,[(s.heap.push { cls:=.type "range",data:=.fields #[.int lo t,.int hi u,.int 1 v] }).objs.size],_,_,H,rfl,
  I1.kept (t':=tk) fun b o e=>n2_ _ e,Zkb _ lo (hi - lo).toNat,?_,fun b hb=>?_,q⟩
 · have e1:lo+((0:Nat):Int) * 1=lo:=by simp
   have e2:(((hi - lo).toNat:Nat):Int) - ((0:Nat):Int)=Builtin.Range.rangeSize lo hi 1:=by rw [rangeSize_one]; split <;> omega
   show IsRangeIter _ _ (lo+((0:Nat):Int) * 1) ((((hi - lo).toNat:Nat):Int) - ((0:Nat):Int)) 1
   rw [e1,e2];exact n11_ _ rfl
 · have e:b=(s.heap.push { cls:=.type "range",data:=.fields #[.int lo t,.int hi u,.int 1 v] }).objs.size:=by simpa using hb
   subst e;exact I1.fpOk (n5_ _) (I1.hok.fresh (n5_ _))
def Zrs (ta:TA):TI:=fun σ H R=>ta σ H fun vs H1=>∃ j:Int,vs=[.int j]∧-(2 ^ 62)≤j∧j < 2 ^ 62∧R (Itr 0 j.toNat) H1
theorem Xp {a:Expr} {ta:TA} {p pos:Pos} (hg:Gl X "range") (hm:X.mg "range" = none) (ha:PA X [a] ta) (hs:starEach [a] X.env=[(false,eval a X.env)]:=by rfl):PI X tg (.Call (.Name "range" p) [a] [] pos) (Zrs ta):=by
 intro pins s σ H R I h;refine Call_ (Zbe I hg hm boot_range (n51_ (thn (ha pos pins s σ H _ I h) fun us s1 ⟨vs,H1,I1,r1,q1⟩=>?_) hs rfl));obtain ⟨j,e,q1,q2,q⟩:=q1;subst e;cases r1 with
 | cons r rr =>
   cases rr
   obtain ⟨t,rfl⟩:=r;exact call_range_1 (Znh I1 (by omega) (by omega) q1 q2 (by simpa using q))
def tFor (wi:TI) (g:TG) (tb:TS):TS:=fun D σ H=>wi σ H fun J H1=>∃ W:Nat→Nat→St→Hp→Prop,(∃ m,W 0 m σ H1)∧∀ i m σ H,W i m σ H →
 (J.stop i H∧D.nx σ H)∨(J.go i H∧∃ N:St→Hp→Prop,(∀ σ' H',N σ' H'→∃ m',m' < m∧W (i+1) m' σ' H')∧∀ x H',J.yld i H x H'→g x σ H' fun σ2 H2=>tb { D with nx:=N,ct:=N,bk:=D.nx } σ2 H2)
def Zik (fp:List Addr) (h:Heap):List (Addr×Obj):=fp.filterMap fun b=>(h.get? b).map fun o=>(b,o)
theorem X9 {fp:List Addr} {h:Heap} {b:Addr} {o:Obj} (hb:b∈fp) (e:h.get? b=some o):(b,o)∈Zik fp h:=List.mem_filterMap.mpr ⟨b,hb,by rw [e]; rfl⟩
theorem Zmn {fp:List Addr} {h:Heap} {p:Addr×Obj} (hp:p∈Zik fp h):p.1∈fp∧h.get? p.1=some p.2:=by
 obtain ⟨b,hb,e⟩:=List.mem_filterMap.mp hp;cases q:h.get? b with
 | none=>rw [q] at e; cases e
 | some o =>
   rw [q] at e;have e':(b,o)=p:=Option.some.inj e;subst e';exact ⟨hb,q⟩
theorem Inv.pinned {pins:List (Addr×Obj)} {σ:St} {H:Hp} {s:Shared} {fp:List Addr} (I:Inv X pins σ H s) (hf:∀ b∈fp,FpOk X pins H b) (ho:∀ b∈fp,∃ o,s.heap.get? b=some o∧∀ v,o.data≠.cell v):Inv X (pins++Zik fp s.heap) σ H s :=
 I.pins_of fun p hp=>(n34_.mp hp).elim (fun z=>I.pin p (n30_ _ z)) fun z=>by
  obtain ⟨hb,e⟩:=Zmn z;obtain ⟨f0,f1,f2,_⟩:=hf p.1 hb;obtain ⟨o,e',d⟩:=ho p.1 hb;rw [e] at e'; cases e';exact ⟨e,f0,f1,f2,d⟩
theorem Inv.unpinned {pins pl:List (Addr×Obj)} {σ:St} {H:Hp} {s:Shared} (I:Inv X (pins++pl) σ H s):Inv X pins σ H s:=I.pins_of fun p hp=>I.pin p (n30_ _ (List.mem_append_left _ hp))
theorem Zai {iter:Expr} {body:List Stmt} {wi:TI} {g:TG} {tb:TS} {pos:Pos} (hp:PassesOwn (model X.prog X.w) X.A X.env X.xe) (hc:X.calm=true) (hi:PI X tg iter wi) (hg:PG X tg g) (hb:PSs X body tb)
 (hs:∀ x,foldedSetIterable iter X.env x=pure x:=by intro _; rfl):PS X (.For tg iter body [] pos) (tFor wi g tb):=by
 intro pins s σ H D I h;refine wpAny_For (thn (hi pins s σ H _ I h) fun v s1 h1=>thn h1 fun itv s2 h2=>?_) hs;obtain ⟨it,fp,tn,J,H2,e,I2,T,st2,f2,W,⟨m0,w0⟩,turn⟩:=h2;subst e;have stat:∀ {H':Hp},(∀ b∈fp,H' b=none)→∀ b∈fp,FpOk X pins H' b:=fun hn b hb=>⟨hn b hb,(f2 b hb).2⟩;refine codeAny_forLoop_any (fun n s'=>∃ i σ' H',Inv X pins σ' H' s'∧tn i s'.heap∧(∀ b∈fp,H' b=none)∧W i n σ' H') ?_ m0 ⟨0,σ,H2,I2,st2,fun b hb=>(f2 b hb).1,w0⟩;rintro n s3 ⟨i,σ3,H3,I3,st3,fr3,w3⟩
 rcases turn i n σ3 H3 w3 with ⟨stop,qn⟩ | ⟨go,N,hN,step⟩
 · refine wpAny_passesOwn hp (thn (T.done X rfl rfl rfl hc i pins s3 σ3 H3 X.xe I3 (stat fr3) st3 stop) fun r s4 ⟨hr,I4⟩=>?_);subst hr;exact wpAny_execs_nil ⟨σ3,H3,I4,qn⟩
 · refine wpAny_passesOwn hp (thn (T.item X rfl rfl rfl hc i pins s3 σ3 H3 X.xe I3 (stat fr3) st3 go) fun r s4 ⟨u,hr,h4⟩=>?_);subst hr;refine wpAny_passesOwn hp (thn h4 fun _ s5 ⟨x,H5,I5,r5,y5,st5,fr5⟩=>?_);have I5':=I5.pinned (stat fr5) (T.obj _ _ st5);refine wpAny_passesOwn hp (thn (hg _ s5 σ3 H5 x u _ I5' r5 (step x H5 y5)) fun _ s6 ⟨σ6,H6,I6,q6⟩=>?_);refine wpAny_passesOwn hp (thn (hb _ s6 σ6 H6 _ I6 q6) fun f s7 q7=>?_)
   have again:∀ {σ7:St} {H7:Hp},Inv X (pins++Zik fp s5.heap) σ7 H7 s7→N σ7 H7→∃ m,m < n∧∃ i σ' H',Inv X pins σ' H' s7∧tn i s7.heap∧(∀ b∈fp,H' b=none)∧W i m σ' H':=fun {σ7 H7} I7 n7=>by
    obtain ⟨m',hm,w7⟩:=hN σ7 H7 n7;refine ⟨m',hm,i+1,σ7,H7,I7.unpinned,T.keep _ _ _ st5 fun b hb o e=>(I7.pin (b,o) (n30_ _ (n30_ _ (X9 hb e)))).1,fun b hb=>?_,w7⟩;obtain ⟨o,e,d⟩:=T.obj _ _ st5 b hb;exact (I7.pin (b,o) (n30_ _ (n30_ _ (X9 hb e)))).2.1
   cases f with
   | next=>obtain ⟨σ7,H7,I7,n7⟩:=q7; exact again I7 n7
   | cont=>obtain ⟨σ7,H7,I7,n7⟩:=q7; exact again I7 n7
   | brk=>obtain ⟨σ7,H7,I7,q7⟩:=q7; exact ⟨σ7,H7,I7.unpinned,q7⟩
   | ret v=>obtain ⟨x7,σ7,H7,I7,r7,q7⟩:=q7; exact ⟨x7,σ7,H7,I7.unpinned,r7,q7⟩
end
theorem Zdz {lo:Int} {n:Nat} {g:TG} {tb:TS} {D:Ends} {σ:St} {H:Hp} (Pv:Nat→St→Hp→Prop) (h0:Pv 0 σ H)
 (hs:∀ i σ H,i < n→Pv i σ H→g (.int (lo+i)) σ H fun σ2 H2=>tb { D with nx:=Pv (i+1),ct:=Pv (i+1),bk:=D.nx } σ2 H2) (hd:∀ σ H,Pv n σ H→D.nx σ H) :
 ∃ W:Nat→Nat→St→Hp→Prop,(∃ m,W 0 m σ H)∧∀ i m σ H,W i m σ H →
   ((Itr lo n).stop i H∧D.nx σ H)∨((Itr lo n).go i H∧∃ N:St→Hp→Prop,(∀ σ' H',N σ' H'→∃ m',m' < m∧W (i+1) m' σ' H')∧∀ x H',(Itr lo n).yld i H x H'→g x σ H' fun σ2 H2=>tb { D with nx:=N,ct:=N,bk:=D.nx } σ2 H2):=by
 refine ⟨fun i m σ H=>m=n - i∧i≤n∧Pv i σ H,⟨n,by simp,n55_ _,h0⟩,?_⟩;rintro i m σ H ⟨rfl,hi,p⟩
 by_cases hlt:i < n
 · refine .inr ⟨hlt,Pv (i+1),fun σ' H' p'=>⟨n - (i+1),by omega,rfl,hlt,p'⟩,fun x H' y=>?_⟩;obtain ⟨e,y⟩:=y;subst e y;exact hs i σ _ hlt p
 · have e:i=n:=by omega
   subst e;exact .inl ⟨n5_ _,hd σ H p⟩
theorem Zfb {c:TT} {tb:TS} {D:Ends} {σ:St} {H:Hp} (Pv:St→Hp→Prop) (μ:St→Hp→Nat) (h0:Pv σ H)
 (hs:∀ σ H,Pv σ H→c σ H fun b H1=>if b=true then tb { D with nx:=fun σ' H'=>Pv σ' H'∧μ σ' H' < μ σ H,ct:=fun σ' H'=>Pv σ' H'∧μ σ' H' < μ σ H,bk:=D.nx } σ H1 else D.nx σ H1)
 (mono:∀ σ H Q Q',(∀ b H1,Q b H1→Q' b H1)→c σ H Q→c σ H Q'):Zns c tb D σ H:=by
 refine ⟨fun m σ H=>m=μ σ H∧Pv σ H,⟨_,rfl,h0⟩,?_⟩;rintro m σ H ⟨rfl,p⟩
 refine mono σ H _ _ (fun b H1 q=>?_) (hs σ H p);cases b with
 | true=>exact ⟨_,fun σ' H' ⟨p',l⟩=>⟨_,l,rfl,p'⟩,q⟩
 | false=>exact q
end L2
namespace L2
open PySem PySem.Spec PyProof.Rows
abbrev R2:=V→V→Hp→VK→Prop
def OpR (X:Cx) (f:Value→Value→Sem Value) (r:R2):Prop :=
 ∀ (pins:List (Addr×Obj)) (s:Shared) (σ:St) (H:Hp) (x y:V) (v u:Value) (Q:VK),Inv X pins σ H s→RelV x v→RelV y u→r x y H Q →
   wpAny (model X.prog X.w) X.A (f v u) (EP X pins σ Q) X.xe s
def UnR (X:Cx) (f:Value→Sem Value) (r:V→Hp→VK→Prop):Prop :=
 ∀ (pins:List (Addr×Obj)) (s:Shared) (σ:St) (H:Hp) (x:V) (v:Value) (Q:VK),Inv X pins σ H s→RelV x v→r x H Q →
   wpAny (model X.prog X.w) X.A (f v) (EP X pins σ Q) X.xe s
def Zak (X:Cx) (f:Value) (r:List V→Hp→VK→Prop):Prop :=
 ∀ (pins:List (Addr×Obj)) (s:Shared) (σ:St) (H:Hp) (xs:List V) (us:List Value) (Q:VK),Inv X pins σ H s→Vals xs us→r xs H Q →
   wpAny (model X.prog X.w) X.A (call f us) (EP X pins σ Q) X.xe s
def TruR (X:Cx) (r:V→Hp→(Bool→Hp→Prop)→Prop):Prop :=
 ∀ (pins:List (Addr×Obj)) (s:Shared) (σ:St) (H:Hp) (x:V) (v:Value) (Q:Bool→Hp→Prop),Inv X pins σ H s→RelV x v→r x H Q →
   wpAny (model X.prog X.w) X.A (truthy v) (TP X pins σ Q) X.xe s
def tOp (r:R2) (ta tb:TE):TE:=fun σ H Q=>ta σ H fun x H1=>tb σ H1 fun y H2=>r x y H2 Q
def tUn (r:V→Hp→VK→Prop) (ta:TE):TE:=fun σ H Q=>ta σ H fun x H1=>r x H1 Q
def rI (C:Int→Int→Prop) (g:Int→Int→V):R2:=fun x y H Q=>∃ i j,x=.int i∧y=.int j∧C i j∧Q (g i j) H
def rI0 (g:Int→Int→V):R2:=fun x y H Q=>∃ i j,x=.int i∧y=.int j∧Q (g i j) H
def rU (g:Int→V):V→Hp→VK→Prop:=fun x H Q=>∃ i,x=.int i∧Q (g i) H
section
variable {X:Cx} {a b c:Expr} {ta tb tc:TE} {pos:Pos}
theorem binT (ha:PE X a ta) (hb:PE X b tb) {pins:List (Addr×Obj)} {s:Shared} {σ:St} {H:Hp} {R:V→V→Hp→Prop} (I:Inv X pins σ H s)
 (h:ta σ H fun x H1=>tb σ H1 fun y H2=>R x y H2) {Q:Value→Shared→Prop} {f:Value→Value→Sem Value}
 (hf:∀ v u s2 x y H2,Inv X pins σ H2 s2→RelV x v→RelV y u→R x y H2→wpAny (model X.prog X.w) X.A (f v u) Q X.xe s2) :
 wpAny (model X.prog X.w) X.A (eval a X.env) (fun v s₁=>wpAny (model X.prog X.w) X.A (eval b X.env) (fun u s₂=>wpAny (model X.prog X.w) X.A (f v u) Q X.xe s₂) X.xe s₁) X.xe s:=by
 refine thn (ha pins s σ H _ I h) fun v s1 ⟨x,H1,I1,r1,q1⟩=>?_;refine thn (hb pins s1 σ H1 _ I1 q1) fun u s2 ⟨y,H2,I2,r2,q2⟩=>?_;exact hf v u s2 x y H2 I2 r1 r2 q2
theorem Zq {op:Operator} {r:R2} (ho:OpR X (binaryOp op) r) (ha:PE X a ta) (hb:PE X b tb):PE X (.BinOp a op b pos) (tOp r ta tb):=by
 intro pins s σ H Q I h;exact wpAny_BinOp (binT ha hb I h fun v u s2 x y H2 I2 rx ry q=>ho pins s2 σ H2 x y v u Q I2 rx ry q)
theorem Zgw {op:UnaryOp} {r:V→Hp→VK→Prop} (ho:UnR X (unaryOp op) r) (ha:PE X a ta):PE X (.UnaryOp op a pos) (tUn r ta):=by
 intro pins s σ H Q I h;exact UnaryOp_ (thn (ha pins s σ H _ I h) fun v s1 ⟨x,H1,I1,r1,q1⟩=>ho pins s1 σ H1 x v Q I1 r1 q1)
theorem opI {f:Value→Value→Sem Value} {C:Int→Int→Prop} {g:Int→Int→Int}
 (rule:∀ (i j:Int) (t u:Tok) (s:Shared) (Q:Value→Shared→Prop) (E:Value→Shared→Prop),C i j→Q (.int (g i j) s.toks) { s with toks:=s.toks+1 }→wpAny (model X.prog X.w) X.A (f (.int i t) (.int j u)) Q E s) :
 OpR X f (rI C fun i j=>.int (g i j)):=by
 intro pins s σ H x y v u Q I rx ry h;obtain ⟨i,j,rfl,rfl,hc,q⟩:=h;obtain ⟨t,rfl⟩:=rx;obtain ⟨t',rfl⟩:=ry;exact rule i j t t' s _ _ hc ⟨.int (g i j),H,I.tok _,⟨_,rfl⟩,q⟩
theorem opI0 {f:Value→Value→Sem Value} {g:Int→Int→Int}
 (rule:∀ (i j:Int) (t u:Tok) (s:Shared) (Q:Value→Shared→Prop) (E:Value→Shared→Prop),Q (.int (g i j) s.toks) { s with toks:=s.toks+1 }→wpAny (model X.prog X.w) X.A (f (.int i t) (.int j u)) Q E s) :
 OpR X f (rI0 fun i j=>.int (g i j)):=by
 intro pins s σ H x y v u Q I rx ry h;obtain ⟨i,j,rfl,rfl,q⟩:=h;obtain ⟨t,rfl⟩:=rx;obtain ⟨t',rfl⟩:=ry;exact rule i j t t' s _ _ ⟨.int (g i j),H,I.tok _,⟨_,rfl⟩,q⟩
theorem opB0 {f:Value→Value→Sem Value} {g:Int→Int→Bool}
 (rule:∀ (i j:Int) (t u:Tok) (s:Shared) (Q:Value→Shared→Prop) (E:Value→Shared→Prop),Q (.bool (g i j)) s→wpAny (model X.prog X.w) X.A (f (.int i t) (.int j u)) Q E s) :
 OpR X f (rI0 fun i j=>.bl (g i j)):=by
 intro pins s σ H x y v u Q I rx ry h;obtain ⟨i,j,rfl,rfl,q⟩:=h;obtain ⟨t,rfl⟩:=rx;obtain ⟨t',rfl⟩:=ry;exact rule i j t t' s _ _ ⟨.bl (g i j),H,I,rfl,q⟩
def CPow (i j:Int):Prop:=0≤j∧j≤1000000∧i.natAbs < 2 ^ 64
theorem Xu:OpR X (binaryOp .Add) (rI0 fun i j=>.int (i+j)):=opI0 fun _ _ _ _ _ _ _ q=>add_int q
theorem Zgm:OpR X (binaryOp .Sub) (rI0 fun i j=>.int (i - j)):=opI0 fun _ _ _ _ _ _ _ q=>sub_int q
theorem Zav:OpR X (binaryOp .Mod) (rI (fun _ j=>j≠0) fun i j=>.int (i.fmod j)):=opI fun _ _ _ _ _ _ _ hc q=>mod_int' hc q
theorem Zmo:OpR X (binaryOp .Pow) (rI CPow fun i j=>.int (i ^ j.toNat)):=opI fun _ _ _ _ _ _ _ hc q=>pow_int_small hc.1 hc.2.1 hc.2.2 q
theorem unI {f:Value→Sem Value} {g:Int→Int}
 (rule:∀ (i:Int) (t:Tok) (s:Shared) (Q:Value→Shared→Prop) (E:Value→Shared→Prop),Q (.int (g i) s.toks) { s with toks:=s.toks+1 }→wpAny (model X.prog X.w) X.A (f (.int i t)) Q E s) :
 UnR X f (rU fun i=>.int (g i)):=by
 intro pins s σ H x v Q I rx h;obtain ⟨i,rfl,q⟩:=h;obtain ⟨t,rfl⟩:=rx;exact rule i t s _ _ ⟨.int (g i),H,I.tok _,⟨_,rfl⟩,q⟩
theorem Zct:UnR X (unaryOp .USub) (rU fun i=>.int (-i)):=unI fun _ _ _ _ _ q=>neg_int q
end
def scal:V→V→Bool
 | .non,.non=>true | .non,.int _=>true | .int _,.non=>true | .non,.bl _=>true | .bl _,.non=>true | .non,.str _=>true | .str _,.non=>true
 | .int _,.int _=>true | .bl _,.bl _=>true | .str _,.str _=>true | .byt _,.byt _=>true
 | .int _,.str _=>true | .str _,.int _=>true | .bl _,.str _=>true | .str _,.bl _=>true
 | _,_=>false
def rEq:R2:=fun x y H Q=>scal x y=true∧Q (.bl (decide (x=y))) H
def rNe:R2:=fun x y H Q=>scal x y=true∧Q (.bl (!decide (x=y))) H
theorem Zla {i j:Int}:decide (V.int i=V.int j)=(i == j):=by
 rw [Bool.eq_iff_iff]
 simp
theorem Zoe {i j:Bool}:decide (V.bl i=V.bl j)=(i == j):=by
 rw [Bool.eq_iff_iff]
 simp
theorem Zmp {i j:Str}:decide (V.str i=V.str j)=(i == j):=by
 rw [Bool.eq_iff_iff]
 simp
theorem Zlh {i j:Array UInt8}:decide (V.byt i=V.byt j)=(i.toList == j.toList):=by
 rw [Bool.eq_iff_iff];cases i
 cases j
 simp
section
variable {X:Cx} {a b c:Expr} {ta tb tc:TE} {pos:Pos}
theorem Ye {pins:List (Addr×Obj)} {σ:St} {H:Hp} {s:Shared} {Q:VK} {k k':Bool} (I:Inv X pins σ H s) (q:Q (.bl k) H) (e:k=k'):EP X pins σ Q (.bool k') s:=by
 subst e;exact ⟨.bl k,H,I,rfl,q⟩
theorem Zfj:OpR X (compareOp .Eq) rEq:=by
 intro pins s σ H x y v u Q I rx ry h;obtain ⟨hs,q⟩:=h;cases x with
 | non =>
   cases rx
   cases y with
   | non=>cases ry; exact PySem.EqNone.eq_none_none (Ye I q (by simp))
   | bl j=>cases ry; exact PySem.EqNone.eq_none_bool (Ye I q (by simp))
   | int j=>obtain ⟨t',rfl⟩:=ry; exact PySem.EqNone.eq_none_int (Ye I q (by simp))
   | str j=>obtain ⟨t',rfl⟩:=ry; exact PySem.EqNone.eq_none_str (Ye I q (by simp))
   | _=>exact absurd (show false=true from hs) n21_
 | bl i =>
   cases rx
   cases y with
   | non=>cases ry; exact PySem.EqNone.eq_bool_none (Ye I q (by simp))
   | bl j=>cases ry; exact eq_bool (Ye I q Zoe)
   | str j=>obtain ⟨t',rfl⟩:=ry; exact PySem.EqMixed.eq_bool_str (Ye I q (by simp))
   | _=>exact absurd (show false=true from hs) n21_
 | int i =>
   obtain ⟨t,rfl⟩:=rx;cases y with
   | non=>cases ry; exact PySem.EqNone.eq_int_none (Ye I q (by simp))
   | int j=>obtain ⟨t',rfl⟩:=ry; exact eq_int (Ye I q Zla)
   | str j=>obtain ⟨t',rfl⟩:=ry; exact PySem.EqMixed.eq_int_str (Ye I q (by simp))
   | _=>exact absurd (show false=true from hs) n21_
 | str i =>
   obtain ⟨t,rfl⟩:=rx;cases y with
   | non=>cases ry; exact PySem.EqNone.eq_str_none (Ye I q (by simp))
   | bl j=>cases ry; exact PySem.EqMixed.eq_str_bool (Ye I q (by simp))
   | int j=>obtain ⟨t',rfl⟩:=ry; exact PySem.EqMixed.eq_str_int (Ye I q (by simp))
   | str j=>obtain ⟨t',rfl⟩:=ry; exact eq_str (Ye I q Zmp)
   | _=>exact absurd (show false=true from hs) n21_
 | byt i =>
   obtain ⟨t,rfl⟩:=rx;cases y with
   | byt j=>obtain ⟨t',rfl⟩:=ry; exact PySem.W.eq_bytes (Ye I q Zlh)
   | _=>exact absurd (show false=true from hs) n21_
 | _=>cases y <;> exact absurd (show false=true from hs) n21_
theorem Ze1:OpR X (compareOp .NotEq) rNe:=by
 intro pins s σ H x y v u Q I rx ry h;obtain ⟨hs,q⟩:=h;cases x with
 | non =>
   cases rx
   cases y with
   | non=>cases ry; exact PySem.EqNone.ne_none_none (Ye I q (by simp))
   | bl j=>cases ry; exact PySem.EqNone.ne_none_bool (Ye I q (by simp))
   | int j=>obtain ⟨t',rfl⟩:=ry; exact PySem.EqNone.ne_none_int (Ye I q (by simp))
   | str j=>obtain ⟨t',rfl⟩:=ry; exact PySem.EqNone.ne_none_str (Ye I q (by simp))
   | _=>exact absurd (show false=true from hs) n21_
 | bl i =>
   cases rx
   cases y with
   | non=>cases ry; exact PySem.EqNone.ne_bool_none (Ye I q (by simp))
   | bl j=>cases ry; exact ne_bool (Ye I q (congrArg not Zoe))
   | str j=>obtain ⟨t',rfl⟩:=ry; exact PySem.EqMixed.ne_bool_str (Ye I q (by simp))
   | _=>exact absurd (show false=true from hs) n21_
 | int i =>
   obtain ⟨t,rfl⟩:=rx;cases y with
   | non=>cases ry; exact PySem.EqNone.ne_int_none (Ye I q (by simp))
   | int j=>obtain ⟨t',rfl⟩:=ry; exact ne_int (Ye I q (congrArg not Zla))
   | str j=>obtain ⟨t',rfl⟩:=ry; exact PySem.EqMixed.ne_int_str (Ye I q (by simp))
   | _=>exact absurd (show false=true from hs) n21_
 | str i =>
   obtain ⟨t,rfl⟩:=rx;cases y with
   | non=>cases ry; exact PySem.EqNone.ne_str_none (Ye I q (by simp))
   | bl j=>cases ry; exact PySem.EqMixed.ne_str_bool (Ye I q (by simp))
   | int j=>obtain ⟨t',rfl⟩:=ry; exact PySem.EqMixed.ne_str_int (Ye I q (by simp))
   | str j=>obtain ⟨t',rfl⟩:=ry; exact ne_str (Ye I q (congrArg not Zmp))
   | _=>exact absurd (show false=true from hs) n21_
 | byt i =>
   obtain ⟨t,rfl⟩:=rx;cases y with
   | byt j=>obtain ⟨t',rfl⟩:=ry; exact PySem.W.ne_bytes (Ye I q (congrArg not Zlh))
   | _=>exact absurd (show false=true from hs) n21_
 | _=>cases y <;> exact absurd (show false=true from hs) n21_
theorem Zkd:OpR X (compareOp .Lt) (rI0 fun i j=>.bl (decide (i < j))):=opB0 fun _ _ _ _ _ _ _ q=>lt_int q
theorem Zeb:OpR X (compareOp .Gt) (rI0 fun i j=>.bl (decide (j < i))):=opB0 fun _ _ _ _ _ _ _ q=>gt_int q
theorem Zpu:OpR X (compareOp .Is) (fun x y H Q=>y=.non∧Q (.bl (decide (x=.non))) H):=by
 intro pins s σ H x y v u Q I rx ry h;obtain ⟨rfl,q⟩:=h;cases ry
 refine is_none_gen (Ye I q ?_)
 cases x <;> first
  | (cases rx; rfl)
  | (obtain ⟨t,rfl⟩:=rx; rfl)
theorem Zpc:OpR X (compareOp .IsNot) (fun x y H Q=>y=.non∧Q (.bl (!decide (x=.non))) H):=by
 intro pins s σ H x y v u Q I rx ry h;obtain ⟨rfl,q⟩:=h;cases ry
 refine isnot_none_gen (Ye I q ?_)
 cases x <;> first
  | (cases rx; rfl)
  | (obtain ⟨t,rfl⟩:=rx; rfl)
theorem Z4 (b:Expr) {op:CmpOp} (h:op≠.In:=by decide) (h2:op≠.NotIn:=by decide):behindInMarks op b=false:=by
 have e1:(op == CmpOp.In)=false:=by cases op <;> first | rfl | exact absurd rfl h
 have e2:(op == CmpOp.NotIn)=false:=by cases op <;> first | rfl | exact absurd rfl h2
 cases b <;> simp [behindInMarks,e1,e2]
theorem Zas {op:CmpOp} {r:R2} (ho:OpR X (compareOp op) r) (ha:PE X a ta) (hb:PE X b tb) (hm:behindInMarks op b=false):PE X (.Compare a [op] [b] pos) (tOp r ta tb):=by
 intro pins s σ H Q I h;exact wpAny_Compare1 (binT ha hb I h fun v u s2 x y H2 I2 rx ry q=>ho pins s2 σ H2 x y v u Q I2 rx ry q) hm
def Zrx (t:TE):TT:=fun σ H Q=>t σ H fun x H'=>∃ k,x=.bl k∧Q k H'
theorem Z0 {op:CmpOp} {r:R2} (ho:OpR X (compareOp op) r) (ha:PE X a ta) (hb:PE X b tb) (hm:behindInMarks op b=false):PT X (.Compare a [op] [b] pos) (Zrx (tOp r ta tb)):=by
 intro pins s σ H Q I h
 refine wpAny_isTrue_Compare1 (thn (ha pins s σ H _ I h) fun v s1 ⟨x,H1,I1,r1,q1⟩=>thn (hb pins s1 σ H1 _ I1 q1) fun u s2 ⟨y,H2,I2,r2,q2⟩ =>
  thn (ho pins s2 σ H2 x y v u _ I2 r1 r2 q2) fun c s3 ⟨z,H3,I3,r3,k,e,q3⟩=>?_) hm
 subst e;cases r3
 exact wpAny_truthy_bool ⟨H3,I3,q3⟩
def TruV (K:PySem.W.Frag) (x:V) (H:Hp) (k:Bool):Prop :=
 match x with
 | .non=>k=false
 | .bl b=>k=b
 | .int i=>k=(i != 0)
 | .str y=>y.length≤sizeLine∧k=((y.length:Int) != 0)
 | .byt y=>y.size≤sizeLine∧k=((y.size:Int) != 0)
 | .ref p=>(∃ xs,SqL K H p xs∧k = !xs.isEmpty)∨(∃ xs,SqT K H p xs∧k = !xs.isEmpty)∨∃ kvs,H p=some (.dK kvs)∧k = !kvs.isEmpty
 | _=>False
theorem Zka {κ:Type} {kvs:List (κ×V)} {vs:List (κ×Value)} (r:KV kvs vs):(!vs.isEmpty) = !kvs.isEmpty:=by
 cases r <;> rfl
theorem Zej {xs:List V} {its:List Value} (r:Vals xs its):(!its.toArray.isEmpty) = !xs.isEmpty:=by
 cases r <;> simp
theorem Zg3:(sizeLine:Nat) < 2 ^ 63:=by rw [sizeLine_eq]; decide
theorem Zp6:TruR X (fun x H Q=>∃ k,TruV X.K x H k∧Q k H):=by
 intro pins s σ H x v Q I rx h;obtain ⟨k,e,q⟩:=h;have hl:=Zg3;have hs:sizeLine=16777216:=sizeLine_eq;cases x with
 | non =>
   cases rx
   have e':k=false:=e;subst e';exact truthy_none ⟨H,I,q⟩
 | bl b =>
   cases rx
   have e':k=b:=e;subst e';exact wpAny_truthy_bool ⟨H,I,q⟩
 | int i =>
   obtain ⟨t,rfl⟩:=rx;have e':k=(i != 0):=e;subst e';exact PySem.P.truthy_int ⟨H,I,q⟩
 | str y =>
   obtain ⟨t,rfl⟩:=rx;obtain ⟨hy,e'⟩:y.length≤sizeLine∧k=((y.length:Int) != 0):=e;subst e';exact PySem.P.truthy_str (by omega) ⟨H,I.tok _,q⟩
 | byt y =>
   obtain ⟨t,rfl⟩:=rx;obtain ⟨hy,e'⟩:y.size≤sizeLine∧k=((y.size:Int) != 0):=e;subst e';exact PySem.W.truthy_bytes (by omega) ⟨H,I.tok _,q⟩
 | ref p =>
   cases rx
   have e':(∃ xs,SqL X.K H p xs∧k = !xs.isEmpty)∨(∃ xs,SqT X.K H p xs∧k = !xs.isEmpty)∨∃ kvs,H p=some (.dK kvs)∧k = !kvs.isEmpty:=e
   rcases e' with ⟨xs,hx,e'⟩ | ⟨xs,hx,e'⟩ | ⟨kvs,hx,e'⟩
   · subst e';obtain ⟨its,r,pl,hz⟩:=I.list hx;have hlen:=r.length;exact wpAny_truthy_list pl.isList (by simp only [n7_]; omega) ⟨H,I.tok _,by rw [Zej r]; exact q⟩
   · subst e';obtain ⟨its,r,pl,hz⟩:=I.tuple hx;have hlen:=r.length;exact truthy_tuple pl (by simp only [n7_]; omega) ⟨H,I.tok _,by rw [Zej r]; exact q⟩
   · subst e';obtain ⟨hz,hS,vs,r,m⟩:kvs.length≤sizeLine∧(p == sysModules)=false∧∃ vs,KV kvs vs∧s.heap.DictOf (Zid X.prog X.w) p vs:=I.hok p _ hx;have hlen:kvs.length=vs.length:=Paired.length r;exact wpAny_truthy_dict hS m (by omega) ⟨H,I.tok _,by rw [Zka r]; exact q⟩
 | _=>exact (show False from e).elim
theorem Zx (ha:PE X a ta) (he:∀ whole,isTrue a X.env whole=(do let v ← whole; standAt a.pos; holding [v] (truthy v))) :
 PT X a (fun σ H Q=>ta σ H fun x H'=>∃ k,TruV X.K x H' k∧Q k H'):=by
 intro pins s σ H Q I h;exact isTrue_plain (thn (ha pins s σ H _ I h) fun v s1 ⟨x,H1,I1,r1,q1⟩=>Zp6 pins s1 σ H1 x v Q I1 r1 q1) (he _)
theorem Zj2 {x:V} {us:List Value} (r:Vals [x] us):∃ u,us=[u]∧RelV x u:=by
 cases r with
 | cons r1 r2=>cases r2; exact ⟨_,rfl,r1⟩
theorem Zqo {x y:V} {us:List Value} (r:Vals [x,y] us):∃ u w',us=[u,w']∧RelV x u∧RelV y w':=by
 cases r with
 | cons r1 r2 =>
   cases r2 with
   | cons r3 r4=>cases r4; exact ⟨_,_,rfl,r1,r3⟩
theorem Zaz:Zak X (.builtin "abs") (fun xs H Q=>∃ i,xs=[.int i]∧Q (.int (if i < 0 then -i else i)) H):=by
 intro pins s σ H xs us Q I r h;obtain ⟨i,rfl,q⟩:=h;obtain ⟨u,rfl,t,rfl⟩:=Zj2 r;exact call_abs_int fun u tk=>⟨.int (if i < 0 then -i else i),H,I.tok _,⟨_,rfl⟩,q⟩
theorem Zha (hc:X.calm=true):Zak X (.builtin "max") (fun xs H Q=>∃ i j,xs=[.int i,.int j]∧Q (.int (if j > i then j else i)) H):=by
 intro pins s σ H xs us Q I r h;obtain ⟨i,j,rfl,q⟩:=h;obtain ⟨u,w',rfl,⟨t,rfl⟩,⟨t',rfl⟩⟩:=Zqo r;refine max_two_ints (I.ok.hd hc) fun h' tk k=>⟨_,H,I.kept k,?_,q⟩
 by_cases hj:j > i
 · rw [if_pos hj,if_pos hj]; exact ⟨_,rfl⟩
 · rw [if_neg hj,if_neg hj]; exact ⟨_,rfl⟩
theorem Zgq (hc:X.calm=true):Zak X (.builtin "min") (fun xs H Q=>∃ i j,xs=[.int i,.int j]∧Q (.int (if j < i then j else i)) H):=by
 intro pins s σ H xs us Q I r h;obtain ⟨i,j,rfl,q⟩:=h;obtain ⟨u,w',rfl,⟨t,rfl⟩,⟨t',rfl⟩⟩:=Zqo r;refine min_two_ints (I.ok.hd hc) fun h' tk k=>⟨_,H,I.kept k,?_,q⟩
 by_cases hj:j < i
 · rw [if_pos hj,if_pos hj]; exact ⟨_,rfl⟩
 · rw [if_neg hj,if_neg hj]; exact ⟨_,rfl⟩
theorem Zlu:Zak X (.type "int") (fun xs H Q=>(∃ i,xs=[.int i]∧Q (.int i) H)∨∃ k,xs=[.bl k]∧Q (.int (if k then 1 else 0)) H):=by
 intro pins s σ H xs us Q I r h
 rcases h with ⟨i,rfl,q⟩ | ⟨k,rfl,q⟩
 · obtain ⟨u,rfl,t,rfl⟩:=Zj2 r;exact call_int_int ⟨.int i,H,I,⟨_,rfl⟩,q⟩
 · obtain ⟨u,rfl,r1⟩:=Zj2 r;cases r1
   exact call_int_bool ⟨.int (if k then 1 else 0),H,I.tok _,⟨_,rfl⟩,q⟩
end
end L2
namespace L2
open PySem PySem.Spec PyProof.Rows
structure ObjM (h:Heap) (x dx C:Addr) (mA:Str→Option Value):Prop where
 obj:h.get? x=some (PySem.W.instObj C dx)
 ns:h.Ns1 dx mA
 ne:dx≠x
theorem Zl6 {h:Heap} {dx:Addr} {mA:Str→Option Value} (n:h.Ns1 dx mA):∃ od,h.get? dx=some od∧∀ name,PySem.W.lookIn name od=some (mA name):=by
 obtain ⟨o,es,ep,ho,hd,hk,_,hm⟩:=n;refine ⟨o,ho,fun name=>?_⟩;have e:=hm name;unfold nsFind findBy at e;rw [← Array.find?_toList] at e;unfold PySem.W.lookIn;rw [hd];dsimp only;split
 · rename_i y q
   rw [q] at e;exact congrArg some e
 · rename_i q
   rw [q] at e
   have a:es.toList.any (·.refKey)=false:=by
    rw [List.any_eq_false];intro y hy;obtain ⟨z,t,hkey⟩:=hk y (Array.mem_toList_iff.mp hy);simp [DictEntry.refKey,hkey]
   have a':¬ es.toList.any (·.refKey)=true:=by rw [a]; exact n21_
   rw [if_neg a'];exact congrArg some e
theorem ObjM.look {h:Heap} {x dx C:Addr} {mA:Str→Option Value} (I:ObjM h x dx C mA):∃ od,PySem.W.InstAt h x (PySem.W.instObj C dx) C (some od)∧∀ name,PySem.W.lookIn name od=some (mA name) :=
 let ⟨od,ho,hl⟩:=Zl6 I.ns
 ⟨od,⟨I.obj,rfl,rfl,ho⟩,hl⟩
section
variable {prog:Program} {w:World} {A:Around} {E:Value→Shared→Prop} {s:Shared} {K:PySem.W.Frag} {x dx C f:Addr} {mA:Str→Option Value} {name:Str} {v:Value}
end
section
variable {P:Program} {w:World} {H H':Hp} {h h':Heap} {a C dx:Addr} {fs fs':List (Str×V)}
theorem Zpm (hok:HOk P w H h) (e:H a=some (.ins C dx fs)):∃ mA,ObjM h a dx C mA∧(∀ f,RelO (fs.lookup f) (mA f))∧PySem.Within mA (fs.map (·.1))∧fs.length≤1000∧H dx=some (.own a):=by
 obtain ⟨d,z,ne,ob,mA,n,r,q⟩:=(show ObjOk P w H h a (.ins C dx fs) from hok a _ e);exact ⟨mA,⟨ob,n,ne⟩,r,q,z,d⟩
end
structure Cls (K:PySem.W.Frag) (C:Addr):Prop where
 pg:PySem.W.plainGet K C Str.empty=true
 hd:PySem.W.hasDictIn K C=true
 po:PySem.W.plainOver K C=true
 sa:PySem.W.findIn K (.ref C) "__setattr__" = some (some (.builtin "object.__setattr__"))
theorem Cls.get {K:PySem.W.Frag} {C:Addr} (c:Cls K C) (f:Str):PySem.W.plainGet K C f=true:=c.pg
section
variable {X:Cx} {pins:List (Addr×Obj)} {σ:St} {H:Hp} {s:Shared} {a C dx:Addr} {fs:List (Str×V)} {f:Str} {v:V} {A:Around} {E:Value→Shared→Prop}
end
section
variable {X:Cx} {o e value:Expr} {f:Str} {pos pos' tpos:Pos} {ta tv:TE}
end
section
variable {X:Cx} {pins:List (Addr×Obj)} {σ:St} {H:Hp} {s:Shared} {A:Around} {E:Value→Shared→Prop} {Q:Value→Shared→Prop} {c:Value} {b:Bool}
inductive TyOf (K:PySem.W.Frag) (H:Hp):V→Value→Prop where
 | non:TyOf K H .non (.type "NoneType")
 | bl (x:Bool):TyOf K H (.bl x) (.type "bool")
 | int (i:Int):TyOf K H (.int i) (.type "int")
 | str (x:Str):TyOf K H (.str x) (.type "str")
 | flt (x:UInt64):TyOf K H (.flt x) (.type "float")
 | lst {a:Addr} {xs:List V} (e:H a=some (.lst xs)):TyOf K H (.ref a) (.type "list")
 | frz {a:Addr} {o:Obj} {xs:List V} (e:H a=some (.frz o (.lst xs))):TyOf K H (.ref a) (.type "list")
 | tup {a:Addr} {xs:List V} (e:H a=some (.tup xs)):TyOf K H (.ref a) (.type "tuple")
 | dK {a:Addr} {kvs:List (Key×V)} (e:H a=some (.dK kvs)):TyOf K H (.ref a) (.type "dict")
 | dT {a:Addr} {kvs:List (List Key×V)} (e:H a=some (.dT kvs)):TyOf K H (.ref a) (.type "dict")
 | ins {a C dx:Addr} {fs:List (Str×V)} (e:H a=some (.ins C dx fs)) (cl:Cls K C) (ha:PySem.W.findIn K (.ref C) "__class__" = some (some (.builtin "object.__class__")))
    (hn:PySem.W.specialIn K (.builtin "object.__class__") "__get__" = some (some (.builtin "getset_descriptor.__get__"))) (htk:PySem.W.takesIn K (.builtin "object.__class__")=some true)
    (hm:PySem.W.mroIn K C (.type "object")=some true):TyOf K H (.ref a) (.ref C)
theorem Zk4 {x:V} {u t:Value} (I:Inv X pins σ H s) (rx:RelV x u) (ty:TyOf X.K H x t) (e:PySem.W.kitOne X.K t c=some b) (h:∀ tk,Q (.bool b) { s with toks:=tk }) :
 wpAny (model X.prog X.w) A (call (.builtin "isinstance") [u,c]) Q E s:=by
 cases ty with
 | non=>cases (show u=Value.none from rx); exact n53_ PySem.W.kitx_none I.kIn True.intro e (fun z=>nomatch z) h
 | bl y=>cases (show u=Value.bool y from rx); exact n53_ PySem.W.kitx_bool I.kIn True.intro e (fun z=>nomatch z) h
 | int i=>obtain ⟨t,q⟩:=(show ∃ t,u=Value.int i t from rx); cases q; exact n53_ PySem.W.kitx_int I.kIn True.intro e (fun z=>nomatch z) h
 | str y=>obtain ⟨t,q⟩:=(show ∃ t,u=Value.str y t from rx); cases q; exact n53_ PySem.W.kitx_str I.kIn True.intro e (fun z=>nomatch z) h
 | flt y=>obtain ⟨t,q⟩:=(show ∃ t,u=Value.float y t from rx); cases q; exact n53_ PySem.W.kitx_float I.kIn True.intro e (fun z=>nomatch z) h
 | @lst a xs ea =>
   cases (show u=Value.ref a from rx)
   obtain ⟨_,_,n,_,h1⟩:=(show ObjOk X.prog X.w H s.heap a (.lst xs) from I.hok a _ ea);exact n53_ PySem.W.kitx_list I.kIn ⟨_,h1,rfl⟩ e (fun z=>nomatch z) h
 | @frz a ob xs ea =>
   cases (show u=Value.ref a from rx)
   obtain ⟨_,_,_,n,_,h1⟩:=(show ObjOk X.prog X.w H s.heap a (.frz ob (.lst xs)) from I.hok a _ ea);exact n53_ PySem.W.kitx_list I.kIn ⟨_,h1,rfl⟩ e (fun z=>nomatch z) h
 | @tup a xs ea =>
   cases (show u=Value.ref a from rx)
   obtain ⟨_,_,_,p⟩:=(show ObjOk X.prog X.w H s.heap a (.tup xs) from I.hok a _ ea);obtain ⟨o,h1,h2,_⟩:=p;exact n53_ PySem.W.kitx_tuple I.kIn ⟨o,h1,h2⟩ e (fun z=>nomatch z) h
 | @dK a kvs ea =>
   cases (show u=Value.ref a from rx)
   obtain ⟨_,_,vs,_,p⟩:=(show ObjOk X.prog X.w H s.heap a (.dK kvs) from I.hok a _ ea);obtain ⟨o,es,ep,h1,h2,_⟩:=p;exact n53_ PySem.W.kitx_dict I.kIn ⟨o,h1,h2.1⟩ e (fun z=>nomatch z) h
 | @dT a kvs ea =>
   cases (show u=Value.ref a from rx)
   obtain ⟨_,_,xs,_,o,es,ep,h1,h2,_⟩:=(show ObjOk X.prog X.w H s.heap a (.dT kvs) from I.hok a _ ea);exact n53_ PySem.W.kitx_dict I.kIn ⟨o,h1,h2.1⟩ e (fun z=>nomatch z) h
 | @ins a C dx fs ea cl ha hn htk hm =>
   cases (show u=Value.ref a from rx)
   obtain ⟨mA,O,_⟩:=Zpm I.hok ea;obtain ⟨od,J,_⟩:=O.look;exact n53_ (PySem.W.kitx_own (cl.get _) cl.hd ha hn htk hm) I.kIn J e (fun z=>nomatch z) h
end
end L2
namespace L2
open PySem PySem.Spec PyProof.Rows
structure Room (k:Nat) (A:Around):Prop where
 hd:A.handled=none
 dp:A.depth+3 * k+5 < recursionLimit
 un:A.units+16 * k+200 < cLine
 gd:A.guards=some []
theorem Room.mono {j k:Nat} {A:Around} (r:Room k A) (h:j≤k):Room j A:=⟨r.hd,by have:=r.dp; omega,by have:=r.un; omega,r.gd⟩
theorem Room.deeper {k:Nat} {A:Around} (r:Room (k+1) A) (env:Env):Room k (A.deeper env) :=
 ⟨r.hd,by have:=r.dp; show A.depth+1+3 * k+5 < _; omega,by have:=r.un; show A.units+3+16 * k+200 < _; omega,r.gd⟩
theorem Room.in1 {k:Nat} {A:Around} (r:Room (k+1) A):Room k A.in1 :=
 ⟨r.hd,by have:=r.dp; show A.depth+3 * k+5 < _; omega,by have:=r.un; show A.units+1+16 * k+200 < _; omega,r.gd⟩
theorem Room.depth {k:Nat} {A:Around} (r:Room k A):A.depth < recursionLimit:=by have:=r.dp; omega
theorem Room.units {k:Nat} {A:Around} (r:Room k A):A.units+64 < cLine:=by have:=r.un; omega
def tNil:TA:=fun _ H Q=>Q [] H
def Zrp (ta:TE) (tr:TA):TA:=fun σ H Q=>ta σ H fun x H1=>tr σ H1 fun xs H2=>Q (x :: xs) H2
section
variable {X:Cx} {e:Expr} {es:List Expr} {te:TE} {t:TA} {pos:Pos}
theorem Zb:PA X [] tNil:=fun _ _ _ _ H Q I h=>Calls.spliced_nil ⟨[],H,I,.nil,h⟩
theorem Za (ha:PE X e te) (hr:PA X es t) (hs:starEach (e :: es) X.env=(false,eval e X.env) :: starEach es X.env:=by rfl):PA X (e :: es) (Zrp te t):=by
 intro pos pins s σ H Q I h;rw [hs];show wpAny _ _ (spliced ((false,eval e X.env) :: backTo pos (starEach es X.env))) _ _ s
 refine Calls.spliced_cons (thn (ha pins s σ H _ I h) fun u s1 ⟨x,H1,I1,r1,q1⟩=>?_);exact thn (hr pos pins s1 σ H1 _ I1 q1) fun us s2 ⟨xs,H2,I2,r2,q2⟩=>⟨x :: xs,H2,I2,.cons r1 r2,q2⟩
def tTup (t:TA):TE:=fun σ H Q=>t σ H fun xs H1=>xs.length≤sizeLine∧∀ p,H1 p=none→Q (.ref p) (upd H1 p (.tup xs))
def tLst (t:TA):TE:=fun σ H Q=>t σ H fun xs H1=>xs.length≤sizeLine∧∀ p,H1 p=none→Q (.ref p) (upd H1 p (.lst xs))
theorem Zn {x1} (h:PA X es t):PE X (.Tuple es x1 pos) (tTup t):=by
 intro pins s σ H Q I hq;refine wpAny_Tuple_spliced (thn (h pos pins s σ H _ I hq) fun us s1 ⟨xs,H1,I1,r,z,q⟩=>⟨by rw [← r.length]; exact z,?_⟩);have hf:H1 s1.heap.objs.size=none:=I1.hok.fresh (n5_ _);refine ⟨.ref s1.heap.objs.size,upd H1 s1.heap.objs.size (.tup xs),I1.laid (t':=s1.toks) (fun b u e=>n2_ _ e) (n5_ _) ?_,rfl,q _ hf⟩;exact ⟨z,us,r,⟨_,n11_ _ rfl,rfl,_,rfl⟩⟩
theorem Yd (h:PA X es t):PE X (.List es pos) (tLst t):=by
 intro pins s σ H Q I hq;refine wpAny_List_spliced (thn (h pos pins s σ H _ I hq) fun us s1 ⟨xs,H1,I1,r,z,q⟩=>⟨by rw [← r.length]; exact z,?_⟩);have hf:H1 s1.heap.objs.size=none:=I1.hok.fresh (n5_ _);refine ⟨.ref s1.heap.objs.size,upd H1 s1.heap.objs.size (.lst xs),I1.laid (t':=s1.toks) (fun b u e=>n2_ _ e) (n5_ _) ?_,rfl,q _ hf⟩;exact ⟨z,us,0,r,n11_ _ rfl⟩
end
abbrev Sp:=List V→Hp→VK→XK→Prop
abbrev CXT:=List Env→Hp→Shared→XK→Value→Shared→Prop
structure Env0 (P:Program) (w:World) (K:PySem.W.Frag) (mg:Str→Option Value) (base:Heap) (A:Around) (outer:List Env) (s:Shared) (H:Hp):Prop where
 frames:A.frames=some outer
 mod:Mod K mg base
 bs:∀ b o,base.get? b=some o→s.heap.get? b=some o∧H b=none
 bsz:base.objs.size≤s.heap.objs.size
 funs:s.heap.FunFrames base outer
 frf:∀ b∈frs outer,H b=none
 hok:HOk P w H s.heap
 bare:AllBare s.gens
def CE (outer:List Env) (P:Program) (w:World) (H:Hp) (s:Shared) (Q:VK) (u:Value) (s':Shared):Prop :=
 ∃ v H',s'.os=s.os∧AllBare s'.gens∧Un (frs outer) [] H H' s.heap s'.heap∧HOk P w H' s'.heap∧RelV v u∧Q v H'
def CR (CX:CXT) (outer:List Env) (P:Program) (w:World) (H:Hp) (s:Shared) (Q:VK) (E:XK) (r:Result) (s':Shared):Prop :=
 match r with
 | .ok (.ret u)=>CE outer P w H s Q u s'
 | .ok _=>False
 | .error e=>CX outer H s E e s'
structure FnOk (P:Program) (w:World) (K:PySem.W.Frag) (mg:Str→Option Value) (base:Heap) (CX:CXT) (k:Nat) (f:Addr) (fd:FuncData) (ps:List Str) (sp:Sp):Prop where
 len:∀ vs H Q E,sp vs H Q E→vs.length=ps.length
 run:∀ (A:Around) (outer:List Env) (s:Shared) (H:Hp) (args:Args) (us:List Value) (vs:List V) (Q:VK) (E:XK),Room k A→Env0 P w K mg base A outer s H→BindsTo s fd args (ps.zip us)→Vals vs us→sp vs H Q E →
  codeAny (model P w) A (.call (.ref f) args) (CR CX outer P w H s Q E) s
section
variable {X:Cx} {pins:List (Addr×Obj)} {σ:St} {H:Hp} {s s':Shared}
theorem Inv.env0 (I:Inv X pins σ H s):Env0 X.prog X.w X.K X.mg X.base X.A X.stack s H :=
 ⟨I.ok.frames,I.ok.mod,I.bs,n24_ I.ok.bsz I.sz,I.stack,I.stkFree,I.hok,I.bare⟩
theorem Inv.after {Q:VK} {u:Value} (I:Inv X pins σ H s) (h:CE X.stack X.prog X.w H s Q u s'):EP X pins σ Q u s':=by
 obtain ⟨v,H',os,bare,un,hok,r,q⟩:=h;obtain ⟨hh,g,d,t,os'⟩:=s';obtain rfl:os'=s.os:=os;exact ⟨v,H',I.call (h':=hh) (g':=g) (d':=d) (t':=t) (ch:=[]) un hok bare (fun b z=>absurd z (by simp)),r,q⟩
end
def Zpq (sp:Sp) (dvs:List V) (E:XK) (t:TA):TE:=fun σ H Q=>t σ H fun vs H1=>sp (vs++dvs) H1 Q E
def Binds (K:PySem.W.Frag) (fd:FuncData) (ps:List Str) (ds:List Value):Prop :=
 ∀ (s:Shared) (us:List Value),K.In s.heap→(us++ds).length=ps.length→BindsTo s fd ⟨us,[]⟩ (ps.zip (us++ds))
theorem Binds.all {K:PySem.W.Frag} {fd:FuncData} {ps:List Str} (h:∀ us:List Value,us.length=ps.length→bindArgs fd ⟨us,[]⟩=pure (ps.zip us)):Binds K fd ps []:=fun s us _ hl=>by
 rw [List.append_nil] at hl ⊢;exact .of_eq (h us hl)
def Zdq (CX:CXT) (X:Cx) (E:XK):Prop:=∀ (pins:List (Addr×Obj)) (σ:St) (H:Hp) (s:Shared) (e:Value) (s':Shared),Inv X pins σ H s→CX X.stack H s E e s'→X.xe e s'
section
variable {X:Cx} {CX:CXT} {k:Nat} {f C:Addr} {fd:FuncData} {ps:List Str} {sp:Sp} {dvs:List V} {ds:List Value} {E:XK} {x m:Str} {p pos apos:Pos} {e o:Expr} {es:List Expr} {ta:TE} {t:TA}
theorem Zpt {pins:List (Addr×Obj)} {σ:St} {H:Hp} {s:Shared} {Q:VK} {us:List Value} {vs:List V} (F:FnOk X.prog X.w X.K X.mg X.base CX k f fd ps sp) (hr:Room k X.A) (hb:Binds X.K fd ps ds) (hd:Vals dvs ds) (hx:Zdq CX X E)
 (I:Inv X pins σ H s) (r:Vals vs us) (h:sp (vs++dvs) H Q E):wpAny (model X.prog X.w) X.A (call (.ref f) us) (EP X pins σ Q) X.xe s:=by
 have r2:Vals (vs++dvs) (us++ds):=r.append hd;have hl:(us++ds).length=ps.length:=by rw [← r2.length]; exact F.len _ _ _ _ h
 refine wpAny_call (codeAny_mono (F.run X.A X.stack s H ⟨us,[]⟩ (us++ds) (vs++dvs) Q E hr I.env0 (hb s us I.kIn hl) r2 h) fun r s' hq=>?_);cases r with
 | error e=>exact hx pins σ H s e s' I hq
 | ok fl =>
   cases fl with
   | ret u=>exact I.after hq
   | next=>exact False.elim hq
   | brk=>exact False.elim hq
   | cont=>exact False.elim hq
theorem Zk0 (F:FnOk X.prog X.w X.K X.mg X.base CX k f fd ps sp) (hr:Room k X.A) (hg:Gl X x) (hm:X.mg x=some (.ref f)) (hk:PySem.W.keepIn X.K (.ref f)=true) (hb:Binds X.K fd ps ds) (hd:Vals dvs ds) (hx:Zdq CX X E)
 (ha:PA X (e :: es) t) (hdb:(x == ("__debug__" : Str))=false:=by decide) (he:starEach (e :: es) X.env=(false,eval e X.env) :: starEach es X.env:=by rfl) (hpl:(backTo pos (starEach es X.env)).any (·.1)=false:=by rfl) :
 PE X (.Call (.Name x p) (e :: es) [] pos) (Zpq sp dvs E t):=by
 intro pins s σ H Q I h;refine wpAny_Call_Name_kw (Zc7 I hg hm ?_ hdb);refine PySem.W.callWith_K (h₀:=X.base) I.ok.mod.kin hk (thn (ha pos pins s σ H _ I h) fun us s1 ⟨vs,H1,I1,r,q⟩=>⟨I1.kIn,?_⟩) he hpl;exact Zpt F hr hb hd hx I1 r q
end
section
variable {X:Cx} {CX:CXT} {k:Nat} {f C:Addr} {fd:FuncData} {ps ks:List Str} {sp:Sp} {E:XK} {x m:Str} {p pos apos kpos:Pos} {e o:Expr} {es:List Expr} {kws:List Keyword} {te ta:TE} {t tk:TA} {nm:Option Str}
variable {g:List Value→List Value→List Value} {gV:List V→List V→List V}
end
structure FnScope (N P:List Str) (sc:Scope):Prop where
 kind:sc.kind=.function
 co:sc.isCoroutine=false
 gen:sc.isGenerator=false
 nd:N.Nodup
 pre:N.take P.length=P
 par:∀ x∈P,sc.names.lookup x=some .local∨sc.names.lookup x=some .cell
 nofree:∀ y∈sc.names,y.2≠.free
theorem Zhd {kindOf:Str→Option NameKind} {x:Str}:∀ {binds:List (Str×Value)} {m:Str→Option Value},(∀ v,(x,v)∉binds)→bindL kindOf binds m x=m x
 | [],_,_=>rfl
 | (n,v) :: r,m,h=>by
   unfold bindL;rw [Zhd fun w hw=>h w (n12_ _ hw)];split
   · have:x≠n:=by rintro rfl; exact h v n15_
     simp [this]
   · rfl
theorem Zgn {kindOf:Str→Option NameKind} {x:Str}:∀ {binds:List (Str×Value)} {m:Str→Option Value},(∀ v,(x,v)∉binds)→bindC kindOf binds m x=m x
 | [],_,_=>rfl
 | (n,v) :: r,m,h=>by
   unfold bindC;rw [Zgn fun w hw=>h w (n12_ _ hw)];split
   · rfl
   · have:x≠n:=by rintro rfl; exact h v n15_
     simp [this]
theorem Zg1 {kindOf:Str→Option NameKind} {x:Str} {v:Value}:∀ {P:List Str} {vs:List Value} {i:Nat} {m:Str→Option Value},P.Nodup→P[i]? = some x→vs[i]? = some v→kindOf x=some .local →
 bindL kindOf (P.zip vs) m x=some v
 | [],_,_,_,_,h,_,_=>by simp at h
 | _ :: _,[],_,_,_,_,h,_=>by simp at h
 | p :: P,w :: vs,0,m,nd,h1,h2,hk=>by
   simp at h1 h2; subst h1; subst h2;show bindL kindOf ((p,w) :: P.zip vs) m p=_
   unfold bindL;rw [Zhd fun v hv=>(List.nodup_cons.mp nd).1 (List.of_mem_zip hv).1,if_pos hk]
   simp
 | p :: P,w :: vs,i+1,m,nd,h1,h2,hk=>by
   show bindL kindOf ((p,w) :: P.zip vs) m x=_
   unfold bindL;exact Zg1 (i:=i) (List.nodup_cons.mp nd).2 (by simpa using h1) (by simpa using h2) hk
theorem Zgj {kindOf:Str→Option NameKind} {x:Str} {v:Value}:∀ {P:List Str} {vs:List Value} {i:Nat} {m:Str→Option Value},P.Nodup→P[i]? = some x→vs[i]? = some v→kindOf x≠some .local →
 bindC kindOf (P.zip vs) m x=some v
 | [],_,_,_,_,h,_,_=>by simp at h
 | _ :: _,[],_,_,_,_,h,_=>by simp at h
 | p :: P,w :: vs,0,m,nd,h1,h2,hk=>by
   simp at h1 h2; subst h1; subst h2;show bindC kindOf ((p,w) :: P.zip vs) m p=_
   unfold bindC;rw [Zgn fun v hv=>(List.nodup_cons.mp nd).1 (List.of_mem_zip hv).1,if_neg hk]
   simp
 | p :: P,w :: vs,i+1,m,nd,h1,h2,hk=>by
   show bindC kindOf ((p,w) :: P.zip vs) m x=_
   unfold bindC;exact Zgj (i:=i) (List.nodup_cons.mp nd).2 (by simpa using h1) (by simpa using h2) hk
def Zal (N:List Str) (vs:List V):St:=vs.map some++List.replicate (N.length - vs.length) none
def cxOf (CX:CXT) (P:Program) (w:World) (K:PySem.W.Frag) (mg:Str→Option Value) (base:Heap) (N:List Str) (qual:Str) (scope:Scope) (f:Addr) (cd:Value) (A:Around) (outer:List Env) (s:Shared) (H:Hp) (E:XK):Cx where
 prog:=P
 w:=w
 K:=K
 mg:=mg
 base:=base
 A:=A.deeper (envOfC qual scope s.heap.objs.size f cd)
 N:=N
 s₀:=s
 H₀:=H
 env:=envOfC qual scope s.heap.objs.size f cd
 outer:=outer
 stack:=envOfC qual scope s.heap.objs.size f cd :: outer
 ex:=[]
 calm:=true
 fn:=fun _=>true
 pn:=[]
 xe:=fun e s'=>wpAny (model P w) (A.deeper (envOfC qual scope s.heap.objs.size f cd)) (leaving (envOfC qual scope s.heap.objs.size f cd) e) (fun _ s''=>CX outer H s E e s'') (fun e' s''=>CX outer H s E e' s'') s'
theorem Z1 {sc:Scope} {n:Nat} {x:Str} (h:sc.names.lookup x=some .cell):∃ c,(cellsFrom n sc.names []).lookup x=some c:=by
 have q:=PySem.W.cellsFrom_some sc.names n [] (.inl h);exact Option.isSome_iff_exists.mp q
theorem Zgy {CX:CXT} {P:Program} {w:World} {K:PySem.W.Frag} {mg:Str→Option Value} {base:Heap} {N ps:List Str} {qual:Str} {scope:Scope} {f:Addr} {cd:Value} {A:Around} {outer:List Env} {s s1:Shared} {H:Hp} {E:XK} {us:List Value} {vs:List V}
 (S:FnScope N ps scope) (hd:A.handled=none) (e0:Env0 P w K mg base A outer s H) (hl:vs.length=ps.length) (r:Vals vs us)
 (x:InCallC s s.heap.objs.size (bindL (envOfC qual scope s.heap.objs.size f cd).kindOf (ps.zip us) fun _=>none) (cellsFrom (s.heap.objs.size+1) scope.names []) (bindC (envOfC qual scope s.heap.objs.size f cd).kindOf (ps.zip us) fun _=>none) s1) :
 Inv (cxOf CX P w K mg base N qual scope f cd A outer s H E) [] (Zal N vs) H s1:=by
 have hpl:ps.length≤N.length:=by have:=congrArg List.length S.pre; rw [n68_] at this; omega
 obtain ⟨h1,tk,rfl,hk⟩:=x.done;have noA:∀ b:Addr,b∉(cxOf CX P w K mg base N qual scope f cd A outer s H E).ex:=fun b z=>absurd (show b∈([]:List Addr) from z) (by simp)
 refine ⟨⟨e0.mod,S.kind,rfl,rfl,n5_ _,fun y z c h1 h2=>?_,fun y hy=>?_,fun y c _ h=>?_,fun _=>hd,Around.frames_deeper e0.frames,.inr ⟨rfl,rfl⟩,fun b z=>absurd z (noA b),e0.bs,e0.bsz,fun b _ _=>noA b,fun b z=>absurd z (noA b),e0.funs,e0.frf⟩,
  rfl,e0.bare,Un.kept hk,⟨_,x.toInCall.ns,fun i y v h1 h2 h3=>?_⟩,fun y c h=>⟨_,x.cell y c h⟩,e0.hok.fresh (n5_ _),fun y c h=>?_,fun p hp=>absurd (show p∈([]:List (Addr×Obj)) from hp) (by simp),e0.hok.kept hk,?_⟩
 · exact name_of_addr x.apart (n28_ h1) (n28_ h2)
 · have hy:scope.names.lookup y=some .cell∨scope.names.lookup y=some .free:=hy
   rcases hy with hy | hy
   · exact Z1 hy
   · exact absurd rfl (S.nofree _ (n28_ hy))
 · exact Nat.le_of_lt (x.above y c (n28_ h))
 · have hi:i < vs.length:=by
    unfold Zal at h2
    by_cases hi:i < vs.length
    · exact hi
    · rw [n61_ (by simpa using hi)] at h2;rw [List.getElem?_replicate] at h2;split at h2 <;> cases h2
   have ha:vs[i]? = some v:=by
    unfold Zal at h2;rw [n56_ (by simpa using hi),n3_] at h2;cases e:vs[i]? with
    | none=>rw [e] at h2; cases h2
    | some a=>rw [e] at h2; cases h2; rfl
   obtain ⟨u,hu,rv⟩:=r.get ha
   have hp:ps[i]? = some y:=by
    rw [← S.pre,List.getElem?_take_of_lt (by omega)]; exact h1
   have ndP:ps.Nodup:=by rw [← S.pre]; exact S.nd.sublist (List.take_sublist _ _)
   refine ⟨u,rv,?_⟩
   rcases S.par y (n6_ hp) with k | k
   · exact .inl ⟨k,Zg1 ndP hp hu k⟩
   · obtain ⟨c,e⟩:=Z1 (n:=s.heap.objs.size+1) k;refine .inr ⟨.inl k,c,e,?_⟩;have q:=x.cell y c e;rw [Zgj ndP hp hu (by show scope.names.lookup y≠_; rw [k]; decide)] at q;exact q
 · exact .inl (e0.hok.fresh (Nat.le_of_lt (x.above y c (n28_ h))))
 · unfold Zal;show _=N.length
   rw [n17_,n4_,n40_];omega
theorem Zno {CX:CXT} {P:Program} {w:World} {K:PySem.W.Frag} {mg:Str→Option Value} {base:Heap} {k:Nat} {f:Addr} {name qual:Str} {params:Arguments} {body:List Stmt} {scope:Scope} {dV kV doc pm cdv ct oc:Value} {an od:Option Addr}
 {osl:Array (Option Value)} {N ps:List Str} {sp:Sp} (lk:K.lookup f=some ⟨oc,od,.func (PySem.W.fnOf name qual params body scope dV kV doc pm an cdv ct),osl⟩) (hcd:PySem.W.codeIn K cdv qual=true) (S:FnScope N ps scope)
 (len:∀ vs H Q E,sp vs H Q E→vs.length=ps.length)
 (hbody:∀ (A:Around) (outer:List Env) (s:Shared) (H:Hp) (vs:List V) (Q:VK) (E:XK),Room k (A.deeper (envOfC qual scope s.heap.objs.size f cdv))→sp vs H Q E →
   ∃ t,PSs (cxOf CX P w K mg base N qual scope f cdv A outer s H E) body t∧t { nx:=fun _ H'=>Q .non H',rt:=Q } (Zal N vs) H) :
 FnOk P w K mg base CX (k+1) f (PySem.W.fnOf name qual params body scope dV kV doc pm an cdv ct) ps sp:=by
 refine ⟨len,fun A outer s H args us vs Q E hr e0 hb r hsp=>?_⟩;have hl:=len _ _ _ _ hsp;have KX:K.In s.heap:=e0.mod.kin.keeps fun b o e=>(e0.bs b o e).1;have lim:s.heap.NoLimit:=e0.mod.nolimit.keeps fun b o e=>(e0.bs b o e).1
 have hkind:∀ y∈ps.zip us,scope.names.lookup y.1=some .local∨(scope.names.lookup y.1=some .cell∧((cellsFrom (s.heap.objs.size+1) scope.names []).lookup y.1).isSome=true):=fun ⟨n,v⟩ hy=>by
  rcases S.par n (List.of_mem_zip hy).1 with q | q
  · exact .inl q
  · exact .inr ⟨q,PySem.W.cellsFrom_some _ _ _ (.inl q)⟩
 refine codeAny_call_function hr.depth (KX _ _ lk) rfl S.co S.gen rfl (PySem.W.codeRec_of KX hcd) (hb _ _ _ _ ?_);refine wpAny_newFunctionEnv_cells S.kind hkind fun env he s1 x=>?_;subst he;refine ⟨lim.keeps x.toInCall.keep,codeAny_func ?_⟩;obtain ⟨t,ht,hq⟩:=hbody A outer s H vs Q E (hr.deeper _) hsp;have I:Inv (cxOf CX P w K mg base N qual scope f cdv A outer s H E) [] (Zal N vs) H s1:=Zgy S hr.hd e0 hl r x;refine n67_ (ht [] s1 (Zal N vs) H _ I hq) (fun fl s' hs=>?_) fun e s' hs=>hs
 have fin:∀ {σ':St} {H':Hp} {v:V} {u:Value},Inv (cxOf CX P w K mg base N qual scope f cdv A outer s H E) [] σ' H' s'→RelV v u→Q v H'→CE outer P w H s Q u s' :=
  fun {σ' H' v u} J rv q=>⟨v,H',J.os,J.bare,J.base,J.hok,rv,q⟩
 cases fl with
 | ret u =>
   obtain ⟨v,σ',H',J,rv,q⟩:=hs;exact fin J rv q
 | next =>
   obtain ⟨σ',H',J,q⟩:=hs;exact fin (v:=V.non) (u:=Value.none) J rfl q
 | brk =>
   obtain ⟨_,_,_,q⟩:=hs;exact False.elim q
 | cont =>
   obtain ⟨_,_,_,q⟩:=hs;exact False.elim q
end L2
namespace L2
open PySem PySem.Spec PyProof.Rows
section
variable {X:Cx} {x:Str} {p pos:Pos} {e:Expr} {es:List Expr} {t:TA} {id T:String} {r:List V→Hp→VK→Prop}
def tCB (r:List V→Hp→VK→Prop) (t:TA):TE:=fun σ H Q=>t σ H fun vs H1=>r vs H1 Q
theorem Zh (hc:Zak X (.builtin id) r) (hg:Gl X x) (hm:X.mg x=none) (hv:bootBuiltins x=some (.builtin id)) (ha:PA X (e :: es) t) (hn:x ≠ "__name__" := by decide) (hdb:(x == ("__debug__" : Str))=false:=by decide)
 (he:starEach (e :: es) X.env=(false,eval e X.env) :: starEach es X.env:=by rfl) (hpl:(backTo pos (starEach es X.env)).any (·.1)=false:=by rfl):PE X (.Call (.Name x p) (e :: es) [] pos) (tCB r t):=by
 intro pins s σ H Q I h;refine wpAny_Call_Name_kw (Zbe I hg hm hv ?_ hn hdb);exact PyProof.Rows.callWith_builtin1 (thn (ha pos pins s σ H _ I h) fun us s1 ⟨vs,H1,I1,r1,q1⟩=>hc pins s1 σ H1 vs us Q I1 r1 q1) he hpl
theorem Yz (hc:Zak X (.type T) r) (hg:Gl X x) (hm:X.mg x=none) (hv:bootBuiltins x=some (.type T)) (ha:PA X (e :: es) t) (hn:x ≠ "__name__" := by decide) (hdb:(x == ("__debug__" : Str))=false:=by decide)
 (he:starEach (e :: es) X.env=(false,eval e X.env) :: starEach es X.env:=by rfl) (hpl:(backTo pos (starEach es X.env)).any (·.1)=false:=by rfl):PE X (.Call (.Name x p) (e :: es) [] pos) (tCB r t):=by
 intro pins s σ H Q I h;refine wpAny_Call_Name_kw (Zbe I hg hm hv ?_ hn hdb);exact n51_ (thn (ha pos pins s σ H _ I h) fun us s1 ⟨vs,H1,I1,r1,q1⟩=>hc pins s1 σ H1 vs us Q I1 r1 q1) he hpl
end
end L2
namespace HT
open PySem PyProof.Rows
section
open PySem.SeqAt
open PySem.AutoSeq1 (wpAny_loadPart')
open PySem.MeetsSeq PySem.MeetsSeq2 PySem.MeetsSeq3
end
section
variable {prog:Program} {w:World} {A:Around} {E:Value→Shared→Prop} {s:Shared}
theorem cat_tup {t b:Addr} {vs ws:List Value} {Q:Value→Shared→Prop} (ht:IsTup s.heap t vs.toArray) (hb:IsTup s.heap b ws.toArray) (hv:vs≠[])
 (h1:ws=[]→Q (.ref t) s) (h2:ws≠[]→Q (.ref s.heap.objs.size) { s with heap:=s.heap.push { cls:=.type "tuple",data:=.seq (vs++ws).toArray } })
 (hsz:vs.length+ws.length≤sizeLine):wpAny (model prog w) A (binaryOp .Add (.ref t) (.ref b)) Q E s:=by
 obtain ⟨⟨cls,dd,data,sl⟩,ho,hc,n,hd⟩:=id ht;obtain ⟨⟨cls2,dd2,data2,sl2⟩,ho2,hc2,n2,hd2⟩:=id hb;simp only at hc hd hc2 hd2;subst hc hd hc2 hd2;have e:vs.toArray++ws.toArray=(vs++ws).toArray:=by simp
 by_cases hw:ws=[]
 · exact concat_meets ⟨_,ho,rfl⟩ ⟨_,ho2,rfl⟩ noFill_tuple_add seq_tuple_add PySem.F.slot_tuple_add PySem.F.entry_tuple_add (PySem.F.args_tuple_add_2 _ _)
    (tuple_addW1 t b vs.toArray ws.toArray n n2 dd dd2 sl sl2 (by simpa using hv) (by simp [hw])) ⟨ho,ho2,h1 hw⟩
 · refine concat_meets ⟨_,ho,rfl⟩ ⟨_,ho2,rfl⟩ noFill_tuple_add seq_tuple_add PySem.F.slot_tuple_add PySem.F.entry_tuple_add (PySem.F.args_tuple_add_2 _ _)
    (tuple_addW2 t b vs.toArray ws.toArray n n2 dd dd2 sl sl2 (by simpa using hv) (by simpa using hw) (by rw [n7_,n7_]; exact hsz)) ⟨ho,ho2,?_⟩
   rw [e];exact h2 hw
def sIx (n d:Nat):Option Int→Nat
 | none=>d
 | some v=>if v < 0 then (v+(n:Int)).toNat else min v.toNat n
theorem sIx_none (n d:Nat):sIx n d none=d:=rfl
theorem sIx_nat (n d k:Nat):sIx n d (some (k:Int))=min k n:=by
 show (if (k:Int) < 0 then ((k:Int)+(n:Int)).toNat else min (k:Int).toNat n)=min k n
 rw [if_neg (by omega),n60_]
theorem Zp3 (n d:Nat) (hd:d≤n) (o:Option Int):sIx n d o≤n:=by
 cases o with
 | none=>exact hd
 | some v =>
   show (if v < 0 then (v+(n:Int)).toNat else min v.toNat n)≤n
   by_cases hv:v < 0
   · rw [if_pos hv]; omega
   · rw [if_neg hv]; exact Nat.min_le_right _ _
theorem Zk7 (v:Int) (n d:Nat):(if v < 0 then max (v+(n:Int)) 0 else min v (n:Int))=((sIx n d (some v):Nat):Int):=by
 show (if v < 0 then max (v+(n:Int)) 0 else min v (n:Int))=(((if v < 0 then (v+(n:Int)).toNat else min v.toNat n):Nat):Int)
 by_cases hv:v < 0
 · simp only [if_pos hv]; omega
 · simp only [if_neg hv]; omega
theorem Zj0 (lo hi:Option Int) (n:Nat):Builtin.Slice.sliceAdjust lo hi 1 (n:Int)=(((sIx n 0 lo:Nat):Int),((sIx n n hi:Nat):Int)):=by
 have h1:¬ ((1:Int) < 0):=by omega
 unfold Builtin.Slice.sliceAdjust;simp only [h1,if_false];refine Prod.ext ?_ ?_
 · cases lo with
   | none=>rfl
   | some v=>exact Zk7 v n 0
 · cases hi with
   | none=>rfl
   | some v=>exact Zk7 v n n
theorem Zj3 (i j:Nat):Builtin.Slice.slicePlaces (i:Int) (j:Int) 1=j - i:=by
 unfold Builtin.Slice.slicePlaces;have h1:(1:Int) > 0:=by omega
 simp only [h1,if_true,Int.ediv_one];split <;> omega
theorem Zee {v:Value} {o:Option Int} {Q:Option Int→Shared→Prop} (p:IsPart v o) (h:Q o s):wpAny (model prog w) A (Builtin.Slice.slicePartIndex v) Q E s:=by
 cases p with
 | none=>exact slicePart_none h
 | int i t=>exact slicePart_int h
theorem Zaj {sl:Addr} {vl vu:Value} {lo hi:Option Int} {n:Nat} {Q:Int×Int×Nat→Shared→Prop} (hs:s.heap.IsSliceOf sl vl vu .none) (pl:IsPart vl lo) (pu:IsPart vu hi)
 (h:Q (((sIx n 0 lo:Nat):Int),1,sIx n n hi - sIx n 0 lo) s):wpAny (model prog w) A (Builtin.Slice.sliceApplied (.ref sl) (pure (n:Int))) Q E s:=by
 obtain ⟨os,hos,hcs,hds⟩:=id hs;unfold Builtin.Slice.sliceApplied Builtin.Slice.sliceFields;refine n1_ (n1_ (wpAny_field hos hds (x:=vl) rfl (n1_ (wpAny_field hos hds (x:=vu) rfl (n1_ (wpAny_field hos hds (x:=.none) rfl (n10_ ?_)))))));refine n1_ (slicePart_none ?_);show wpAny _ _ (if ((1:Int) == 0)=true then _ else _) _ _ s
 rw [if_neg (by decide)];refine n1_ (Zee pl (n1_ (Zee pu (n1_ (n10_ ?_)))));show wpAny _ _ (match Builtin.Slice.sliceAdjust lo hi 1 (n:Int) with | (lo,hi)=>pure (lo,(1:Int),Builtin.Slice.slicePlaces lo hi 1)) _ _ s
 rw [Zj0 lo hi n];show wpAny _ _ (pure (((sIx n 0 lo:Nat):Int),(1:Int),Builtin.Slice.slicePlaces ((sIx n 0 lo:Nat):Int) ((sIx n n hi:Nat):Int) 1)) _ _ s
 rw [Zj3];exact n10_ h
theorem Zmv (xs:Array Value) (i k:Nat):((List.range k).filterMap fun (m:Nat)=>xs[((i:Int)+(m:Int) * 1).toNat]?).toArray=((xs.toList.drop i).take k).toArray:=by
 have e:(fun (m:Nat)=>xs[((i:Int)+(m:Int) * 1).toNat]?)=fun m=>xs[i+m]?:=by
  funext m
  have:((i:Int)+(m:Int) * 1).toNat=i+m:=by omega
  rw [this]
 rw [e]
 have:=pick_run xs i k
 rw [List.filterMap_map] at this;have e2:((fun x=>xs[x]?) ∘ fun x=>i+x)=fun m=>xs[i+m]?:=rfl;rw [e2] at this;rw [this]
theorem getItem_tuple_cut {t sl:Addr} {items:Array Value} {vl vu:Value} {lo hi:Option Int} {Q:Value→Shared→Prop} (ht:IsTup s.heap t items) (hs:s.heap.IsSliceOf sl vl vu .none) (pl:IsPart vl lo) (pu:IsPart vu hi)
 (hw:¬ (sIx items.size 0 lo=0∧sIx items.size items.size hi=items.size))
 (h:Q (.ref s.heap.objs.size) { s with heap:=s.heap.push { cls:=.type "tuple",data:=.seq ((items.toList.drop (sIx items.size 0 lo)).take (sIx items.size items.size hi - sIx items.size 0 lo)).toArray } })
 (hsz:items.size≤sizeLine):wpAny (model prog w) A (getItem (.ref t) (.ref sl)) Q E s:=by
 have htake:sizeOk (.seq ((items.toList.drop (sIx items.size 0 lo)).take (sIx items.size items.size hi - sIx items.size 0 lo)).toArray):=by
  show ((items.toList.drop (sIx items.size 0 lo)).take (sIx items.size items.size hi - sIx items.size 0 lo)).toArray.size≤sizeLine
  rw [n7_,n68_,n44_,Array.length_toList];omega
 have hj:sIx items.size items.size hi≤items.size:=Zp3 _ _ (n5_ _) hi;obtain ⟨os,hos,hcs,hds⟩:=id hs;have hTs:s.TypeIs (.ref sl) "slice" := ⟨os,hos,hcs⟩;unfold getItem
 try with_reducible refine n66_ ?_
 first | refine n1_ (n10_ ?_) | skip
 refine n1_ (wpAny_sequenceKey ht.typeIs (by decide) ?_)
 refine n1_ (wpAny_callSpecial?_slot (name:=Str.ofString "__getitem__") ht.typeIs PyProof.Rows.slot_tuple_getitem
  (wpAny_call_entry PyProof.Rows.slot_tuple_getitem ht.typeIs entry_tuple_getitem ?_ (args_tuple_getitem _ _)))
 show wpAny _ _ (Builtin.Tuple.tupleItemsOf (.ref t) >>= _) _ _ s
 refine n1_ (tupleItemsOf_ ht ?_);refine n1_ (wpAny_typeOf hTs ?_);rw [if_pos (by decide)];refine n1_ (Zaj hs pl pu ?_)
 have hno:¬ ((((sIx items.size 0 lo:Nat):Int) == 0 && (1:Int) == 1 && (sIx items.size items.size hi - sIx items.size 0 lo) == items.size)=true):=by
  intro q;rw [n22_,n22_] at q;have q1:((sIx items.size 0 lo:Nat):Int)=0:=eq_of_beq q.1.1;have q2:sIx items.size items.size hi - sIx items.size 0 lo=items.size:=eq_of_beq q.2;exact hw ⟨by omega,by omega⟩
 show wpAny _ _ (if (((sIx items.size 0 lo:Nat):Int) == 0 && (1:Int) == 1 && (sIx items.size items.size hi - sIx items.size 0 lo) == items.size)=true then _ else _) _ _ s
 rw [if_neg hno,Zmv]
 first
  | exact n1_ (m:=Builtin.Tuple.tupleExact _) (wpAny_newObj_type (n10_ ⟨_,rfl,n10_ h⟩) htake)
  | exact n1_ (m:=Builtin.Tuple.tupleExact _) (wpAny_newObj_type (n1_ (n10_ (n10_ ⟨_,rfl,n10_ h⟩))) htake)
  | exact n1_ (n1_ (m:=Builtin.Tuple.tupleExact _) (wpAny_newObj_type (n10_ (n10_ ⟨_,rfl,n10_ h⟩)) htake))
  | exact n1_ (n1_ (m:=Builtin.Tuple.tupleExact _) (wpAny_newObj_type (n10_ ⟨_,rfl,n10_ h⟩) htake))
end
end HT
namespace L2
open PySem PySem.Spec PyProof.Rows
abbrev TO:=St→Hp→(Option Int→Hp→Prop)→Prop
def PO (X:Cx) (e:Option Expr) (t:TO):Prop :=
 ∀ (pins:List (Addr×Obj)) (s:Shared) (σ:St) (H:Hp) (Q:Option Int→Hp→Prop),Inv X pins σ H s→t σ H Q →
   wpAny (model X.prog X.w) X.A (evalPart e X.env) (fun u s'=>∃ o H',Inv X pins σ H' s'∧IsPart u o∧Q o H') X.xe s
def Zo1:TO:=fun _ H Q=>Q none H
def Zq0 (t:TE):TO:=fun σ H Q=>t σ H fun x H1=>∃ i,x=.int i∧Q (some i) H1
section
variable {X:Cx} {e:Expr} {te:TE} {lo hi:Option Expr} {tl th:TO} {pos p2:Pos}
theorem X6:PO X none Zo1:=by
 intro pins s σ H Q I h;rw [evalPart_none];exact n10_ ⟨none,H,I,.none,h⟩
theorem X5 (h:PE X e te):PO X (some e) (Zq0 te):=by
 intro pins s σ H Q I hw;rw [evalPart_some];refine thn (h pins s σ H _ I hw) fun u s1 ⟨x,H1,I1,r1,q1⟩=>?_;obtain ⟨i,rfl,q⟩:=q1;obtain ⟨t,rfl⟩:=r1;exact ⟨some i,H1,I1,.int i t,q⟩
def SlR (X:Cx) (r:V→Option Int→Option Int→Hp→VK→Prop):Prop :=
 ∀ (pins:List (Addr×Obj)) (s:Shared) (σ:St) (H:Hp) (x:V) (v vl vu:Value) (lo hi:Option Int) (sl:Addr) (Q:VK),Inv X pins σ H s→RelV x v→s.heap.IsSliceOf sl vl vu .none→IsPart vl lo→IsPart vu hi→r x lo hi H Q →
   ∃ T id,typeLookup (.type T) "__getitem__" = pure (some (.builtin id))∧s.TypeIs v T∧wpAny (model X.prog X.w) X.A (getItem v (.ref sl)) (EP X pins σ Q) X.xe s
def tSl (r:V→Option Int→Option Int→Hp→VK→Prop) (te:TE) (tl th:TO):TE:=fun σ H Q=>te σ H fun x H1=>tl σ H1 fun l H2=>th σ H2 fun u H3=>r x l u H3 Q
theorem Xd {r:V→Option Int→Option Int→Hp→VK→Prop} (hr:SlR X r) (he:PE X e te) (hl:PO X lo tl) (hu:PO X hi th):PE X (.Subscript e (.Slice lo hi none p2) pos) (tSl r te tl th):=by
 intro pins s σ H Q I h;refine Subscript_ (thn (he pins s σ H _ I h) fun v s1 ⟨x,H1,I1,r1,q1⟩=>?_);refine wpAny_Slice (thn (hl pins s1 σ H1 _ I1 q1) fun vl s2 ⟨l,H2,I2,pl,q2⟩=>thn (hu pins s2 σ H2 _ I2 q2) fun vu s3 ⟨u,H3,I3,pu,q3⟩=>?_);rw [evalPart_none];refine n10_ ?_;have I4:Inv X pins σ H3 { s3 with heap:=s3.heap.push { cls:=.type "slice",data:=.fields #[vl,vu,.none] } }:=I3.kept (t':=s3.toks) fun b ob q=>n2_ _ q;obtain ⟨T,id,hT,ht,hg⟩:=hr pins { s3 with heap:=s3.heap.push { cls:=.type "slice",data:=.fields #[vl,vu,.none] } } σ H3 x v vl vu l u s3.heap.objs.size Q I4 r1 (Heap.IsSliceOf.new ..) pl pu q3;show wpAny (model X.prog X.w) X.A (subscriptTail e (.Slice lo hi none p2) v (.ref s3.heap.objs.size)) (EP X pins σ Q) X.xe { s3 with heap:=s3.heap.push { cls:=.type "slice",data:=.fields #[vl,vu,.none] } }
 exact tail_any (ops:=[.ref s3.heap.objs.size,v]) ht hT hg (by with_unfolding_all rfl)
def cutV (xs:List V) (lo hi:Option Int):List V:=(xs.drop (HT.sIx xs.length 0 lo)).take (HT.sIx xs.length xs.length hi - HT.sIx xs.length 0 lo)
theorem Yu (xs:List V) (lo hi:Option Int):(cutV xs lo hi).length≤xs.length:=by
 unfold cutV;rw [n68_,n44_];omega
def rSlT (K:PySem.W.Frag):V→Option Int→Option Int→Hp→VK→Prop:=fun x lo hi H Q=>∃ a xs,x=.ref a∧SqT K H a xs ∧
 ¬ (HT.sIx xs.length 0 lo=0∧HT.sIx xs.length xs.length hi=xs.length)∧∀ p,H p=none→Q (.ref p) (upd H p (.tup (cutV xs lo hi)))
theorem Zqr:SlR X (rSlT X.K):=by
 intro pins s σ H x v vl vu lo hi sl Q I rx hs pl pu h;obtain ⟨a,xs,rfl,hx,hw,q⟩:=h;cases rx
 obtain ⟨its,r,ht,hz⟩:=I.tuple hx;have hlen:its.toArray.size=xs.length:=by rw [n7_]; exact r.length.symm
 refine ⟨"tuple",_,PyProof.Rows.slot_tuple_getitem.lookup,ht.typeIs,?_⟩;refine HT.getItem_tuple_cut ht hs pl pu (by rw [hlen]; exact hw) ?_ (by rw [hlen]; exact hz);rw [hlen];refine ⟨.ref s.heap.objs.size,_,I.laid (t':=s.toks) (o:=.tup (cutV xs lo hi)) (fun b ob q=>n2_ _ q) (n5_ _) ?_,rfl,q _ (I.hok.fresh (n5_ _))⟩;exact ⟨n24_ (Yu xs lo hi) hz,_,(r.drop (HT.sIx xs.length 0 lo)).take (HT.sIx xs.length xs.length hi - HT.sIx xs.length 0 lo),IsTup.new _ _⟩
def Zrb (K:PySem.W.Frag):R2:=fun x y H Q=>∃ a b xs ys,x=.ref a∧y=.ref b∧SqT K H a xs∧SqT K H b ys∧xs≠[]∧xs.length+ys.length≤sizeLine ∧
 (ys=[]→Q (.ref a) H)∧(ys≠[]→∀ p,H p=none→Q (.ref p) (upd H p (.tup (xs++ys))))
theorem Vals.nil_iff {xs:List V} {us:List Value} (r:Vals xs us):us=[]↔xs=[]:=by
 cases r with
 | nil=>simp
 | cons _ _=>simp
theorem Zpi:OpR X (binaryOp .Add) (Zrb X.K):=by
 intro pins s σ H x y v u Q I rx ry h;obtain ⟨a,b,xs,ys,rfl,rfl,ha,hb,hx,hz,q1,q2⟩:=h;cases rx
 cases ry
 obtain ⟨its,r1,p1,_⟩:=I.tuple ha;obtain ⟨its2,r2,p2,_⟩:=I.tuple hb;refine HT.cat_tup p1 p2 (fun z=>hx (r1.nil_iff.mp z)) (fun z=>⟨.ref a,H,I,rfl,q1 (r2.nil_iff.mp z)⟩) (fun z=>?_) (by rw [← r1.length,← r2.length]; exact hz);refine ⟨.ref s.heap.objs.size,_,I.laid (t':=s.toks) (o:=.tup (xs++ys)) (fun b ob q=>n2_ _ q) (n5_ _) ?_,rfl,q2 (fun w=>z (r2.nil_iff.mpr w)) _ (I.hok.fresh (n5_ _))⟩;exact ⟨by rw [n17_]; exact hz,_,r1.append r2,IsTup.new _ _⟩
end
end L2
namespace L2
open PySem PySem.Spec PyProof.Rows
def ixN (n:Nat) (i:Int):Option Nat:=if 0≤i then (if i < n then some i.toNat else none) else if -(n:Int)≤i then some (i+n).toNat else none
def atI {α:Type} (xs:List α) (i:Int):Option α:=(ixN xs.length i).bind fun j=>xs[j]?
theorem Zkl {n:Nat} {i:Int} {j:Nat} (h:ixN n i=some j):seqIndex? i n=some j∧j < n∧-(n:Int)≤i∧i < n:=by
 unfold ixN at h
 by_cases h0:0≤i
 · rw [if_pos h0] at h
   by_cases h1:i < n
   · rw [if_pos h1] at h;have e:i.toNat=j:=Option.some.inj h;exact ⟨by rw [seqIndex_of h0 h1,e],by omega,by omega,h1⟩
   · rw [if_neg h1] at h; cases h
 · rw [if_neg h0] at h
   by_cases h1:-(n:Int)≤i
   · rw [if_pos h1] at h;have e:(i+n).toNat=j:=Option.some.inj h;exact ⟨by rw [seqIndex_neg (by omega) h1,e],by omega,h1,by omega⟩
   · rw [if_neg h1] at h; cases h
theorem Zkt {α:Type} {xs:List α} {i:Int} {v:α} (h:atI xs i=some v):∃ j,seqIndex? i xs.length=some j∧xs[j]? = some v∧j < xs.length∧-(xs.length:Int)≤i∧i < xs.length:=by
 unfold atI at h;cases e:ixN xs.length i with
 | none=>rw [e] at h; cases h
 | some j =>
   rw [e] at h;obtain ⟨h1,h2,h3,h4⟩:=Zkl e;exact ⟨j,h1,h,h2,h3,h4⟩
theorem Xz {α:Type} {xs:List α} {j:Nat} {v:α} (h:xs[j]? = some v):atI xs (j:Int)=some v:=by
 have hj:j < xs.length:=(n33_.mp h).1
 have e:ixN xs.length (j:Int)=some j:=by
  unfold ixN;rw [if_pos (by omega),if_pos (by omega)]; simp
 unfold atI; rw [e]; exact h
def Zpl (b:Expr):Prop:=∀ o i,subscripted b false o i=operate [o,i] (getItem o i)
def IxR (X:Cx) (r:R2):Prop :=
 ∀ (value slice:Expr) (pins:List (Addr×Obj)) (s:Shared) (σ:St) (H:Hp) (x y:V) (v u:Value) (Q:VK),Inv X pins σ H s→RelV x v→RelV y u→r x y H Q →
   subscripted slice false v u=operate [v,u] (getItem v u)→wpAny (model X.prog X.w) X.A (subscriptTail value slice v u) (EP X pins σ Q) X.xe s
def MtR (X:Cx) (id:String) (r:V→List V→Hp→VK→Prop):Prop :=
 ∀ (pins:List (Addr×Obj)) (s:Shared) (σ:St) (H:Hp) (x:V) (xs:List V) (v:Value) (us:List Value) (Q:VK),Inv X pins σ H s→RelV x v→Vals xs us→r x xs H Q →
   wpAny (model X.prog X.w) X.A (call (.builtin id) (v :: us)) (EP X pins σ Q) X.xe s
section
variable {X:Cx} {a b:Expr} {ta tb:TE} {pos:Pos}
theorem Yj {r:R2} (hr:IxR X r) (ha:PE X a ta) (hb:PE X b tb) (hs:Zpl b):PE X (.Subscript a b pos) (tOp r ta tb):=by
 intro pins s σ H Q I h;exact Subscript_ (binT ha hb I h fun v u s2 x y H2 I2 rx ry q=>hr a b pins s2 σ H2 x y v u Q I2 rx ry q (hs _ _))
def rIxL (K:PySem.W.Frag):R2:=fun x y H Q=>∃ p xs i v,x=.ref p∧y=.int i∧SqL K H p xs∧atI xs i=some v∧Q v H
def rIxT (K:PySem.W.Frag):R2:=fun x y H Q=>∃ p xs i v,x=.ref p∧y=.int i∧SqT K H p xs∧atI xs i=some v∧Q v H
theorem Z9:IxR X (rIxL X.K):=by
 intro value slice pins s σ H x y v u Q I rx ry h hs;obtain ⟨p,xs,i,z,rfl,rfl,hq,he,q⟩:=h;cases rx
 obtain ⟨t,rfl⟩:=ry;obtain ⟨its,r,pl,hz⟩:=I.list hq;obtain ⟨j,h1,h2,h3,h4,h5⟩:=Zkt he;obtain ⟨w,ew,rw'⟩:=r.get h2;have hl:=r.length;have hn:=Zg3;have fin:EP X pins σ Q w s:=⟨z,H,I,rw',q⟩
 by_cases h0:0≤i
 · have hj:i.toNat=j:=by
    rw [seqIndex_of h0 h5] at h1;exact Option.some.inj h1
   exact item_listR pl.isList h0 (by omega) (by rw [hj]; simpa using ew) fin hs
 · have hj:(i+(its.toArray.size:Int)).toNat=j:=by
    rw [seqIndex_neg (by omega) h4] at h1;rw [n7_,← hl];exact Option.some.inj h1
   exact subscriptTail_builtinR (x:=w) pl.isList.typeIs slot_list_getitem.lookup
    (wpAny_getItem_list_neg (Q:=fun r s'=>r=w∧EP X pins σ Q r s') pl.isList (by omega) (by rw [n7_] <;> omega) (by omega) (by rw [hj]; simpa using ew) ⟨rfl,fin⟩) hs
theorem Zbv:IxR X (rIxT X.K):=by
 intro value slice pins s σ H x y v u Q I rx ry h hs;obtain ⟨p,xs,i,z,rfl,rfl,hq,he,q⟩:=h;cases rx
 obtain ⟨t,rfl⟩:=ry;obtain ⟨its,r,pl,hz⟩:=I.tuple hq;obtain ⟨j,h1,h2,h3,h4,h5⟩:=Zkt he;obtain ⟨w,ew,rw'⟩:=r.get h2;have hl:=r.length;have hn:=Zg3;have fin:EP X pins σ Q w s:=⟨z,H,I,rw',q⟩
 exact subscriptTail_builtinR (x:=w) pl.typeIs slot_tuple_getitem.lookup
  (getItem_tuple (j:=j) (Q:=fun r s'=>r=w∧EP X pins σ Q r s') pl (by omega) (by omega) (by rw [n7_,← hl]; exact h1) (by simpa using ew) ⟨rfl,fin⟩) hs
theorem Zj8 (its:List Value) (n j:Nat) (u:Value):Obj.mapSeq (·.setIfInBounds j u) { cls:=.type "list",data:=.seq its.toArray n }={ cls:=.type "list",data:=.seq (its.set j u).toArray n }:=by
 simp [Obj.mapSeq]
theorem Inv.lst {pins:List (Addr×Obj)} {σ:St} {H:Hp} {s:Shared} {p:Addr} {xs:List V} (I:Inv X pins σ H s) (h:H p=some (.lst xs)) :
 ∃ (its:List Value) (n:Nat),Vals xs its∧s.heap.get? p=some { cls:=.type "list",data:=.seq its.toArray n }∧xs.length≤sizeLine:=by
 obtain ⟨z,its,n,r,e⟩:=I.hok p _ h;exact ⟨its,n,r,e,z⟩
theorem Inv.lstUpd {pins:List (Addr×Obj)} {σ:St} {H:Hp} {s:Shared} {p:Addr} {xs ys:List V} {its its':List Value} {n n':Nat} {f:Obj→Obj} (I:Inv X pins σ H s) (h:H p=some (.lst xs))
 (ho:s.heap.get? p=some { cls:=.type "list",data:=.seq its.toArray n }) (hf:f { cls:=.type "list",data:=.seq its.toArray n }={ cls:=.type "list",data:=.seq its'.toArray n' }) (r:Vals ys its') (hz:ys.length≤sizeLine) (t:Nat) :
 Inv X pins σ (upd H p (.lst ys)) { s with heap:=s.heap.update p f,toks:=t }:=by
 have e:(s.heap.update p f).get? p=some { cls:=.type "list",data:=.seq its'.toArray n' }:=by
  rw [Heap.get?_update_self f ho (by rw [hf] <;> rfl),hf]
 refine I.write (x:=p) (e:=p) (by rw [h]; trivial) (.inl rfl) (fun b u hb q=>(n58_ _ _ (Ne.symm hb)).trans q) ⟨_,e⟩ ?_;exact ⟨hz,its',n',r,e⟩
def Zrh:V→V→V→Hp→(Hp→Prop)→Prop:=fun o i v H Q=>∃ p xs k j,o=.ref p∧i=.int k∧H p=some (.lst xs)∧ixN xs.length k=some j∧Q (upd H p (.lst (xs.set j v)))
theorem Zc0:PSet X Zrh:=by
 intro pins s σ H o i v ov iv u Q I ro ri rv h;obtain ⟨p,xs,k,j,rfl,rfl,hp,hj,q⟩:=h;cases ro
 obtain ⟨t,rfl⟩:=ri;obtain ⟨its,n,r,ho,hz⟩:=I.lst hp;obtain ⟨h1,h2,h3,h4⟩:=Zkl hj;have hl:=r.length;have hn:=Zg3
 have I':Inv X pins σ (upd H p (.lst (xs.set j v))) { s with heap:=s.heap.update p (Obj.mapSeq (·.setIfInBounds j u)) } :=
  I.lstUpd hp ho (Zj8 its n j u) (r.set rv j) (by rw [List.length_set]; exact hz) s.toks
 by_cases h0:0≤k
 · have hk:k.toNat=j:=by
    rw [seqIndex_of h0 h4] at h1;exact Option.some.inj h1
   exact PySem.W.ki_setAt ho h0 (by omega) (by rw [n7_,← hl]; exact h4) (by rw [hk]; exact ⟨_,I',q⟩)
 · have hk:(k+(its.toArray.size:Int)).toNat=j:=by
    rw [seqIndex_neg (by omega) h3] at h1;rw [n7_,← hl];exact Option.some.inj h1
   exact PySem.W.ki_setBack ho (by omega) (by rw [n7_,← hl]; exact h3) (by omega) (by rw [hk]; exact ⟨_,I',q⟩)
theorem Zgl (lo hi:Option Int) (n:Nat):(sliceBounds lo hi none n).1=((HT.sIx n 0 lo:Nat):Int)∧(sliceBounds lo hi none n).2.1=((HT.sIx n n hi:Nat):Int)∧(sliceBounds lo hi none n).2.2=1:=by
 refine ⟨?_,?_,rfl⟩
 · cases lo with
   | none=>simp [sliceBounds,HT.sIx]
   | some i =>
     simp only [sliceBounds,HT.sIx,Option.getD_none,show (1:Int) > 0 by decide,if_true]
     by_cases h:i < 0
     · simp only [h,if_true] <;> omega
     · simp only [h,if_false] <;> omega
 · cases hi with
   | none=>simp [sliceBounds,HT.sIx]
   | some i =>
     simp only [sliceBounds,HT.sIx,Option.getD_none,show (1:Int) > 0 by decide,if_true]
     by_cases h:i < 0
     · simp only [h,if_true] <;> omega
     · simp only [h,if_false] <;> omega
theorem Zfr (its:List Value) (lo hi:Option Int):slicePick its.toArray lo hi none=((its.drop (HT.sIx its.length 0 lo)).take (HT.sIx its.length its.length hi - HT.sIx its.length 0 lo)).toArray:=by
 obtain ⟨h1,h2,h3⟩:=Zgl lo hi its.toArray.size;unfold slicePick;rw [h1,h2,h3];simp only [sliceRange_one,pick_run,n7_] <;> rfl
def rSlL (K:PySem.W.Frag):V→Option Int→Option Int→Hp→VK→Prop:=fun x lo hi H Q=>∃ a xs,x=.ref a∧SqL K H a xs∧∀ p,H p=none→Q (.ref p) (upd H p (.lst (cutV xs lo hi)))
theorem Zh0:SlR X (rSlL X.K):=by
 intro pins s σ H x v vl vu lo hi sl Q I rx hs pl pu h;obtain ⟨a,xs,rfl,hx,q⟩:=h;cases rx
 obtain ⟨its,r,ht,hz⟩:=I.list hx;have hlen:=r.length;refine ⟨"list",_,slot_list_getitem.lookup,ht.isList.typeIs,?_⟩;refine wpAny_getItem_list_slice ht.isList hs pl pu .none (by simp) ?_ (by rw [n7_] <;> omega);rw [Zfr,← hlen];refine ⟨.ref s.heap.objs.size,_,I.laid (t':=s.toks) (o:=.lst (cutV xs lo hi)) (fun b ob q=>n2_ _ q) (n5_ _) ?_,rfl,q _ (I.hok.fresh (n5_ _))⟩;exact ⟨n24_ (Yu xs lo hi) hz,_,0,(r.drop (HT.sIx xs.length 0 lo)).take (HT.sIx xs.length xs.length hi - HT.sIx xs.length 0 lo),n11_ _ rfl⟩
def Zd6:V→Bool
 | .non=>true
 | .bl _=>true
 | .int _=>true
 | .str _=>true
 | _=>false
def eqV:V→V→Bool
 | .non,.non=>true
 | .bl a,.bl b=>a == b
 | .bl a,.int b=>(if a then 1 else 0) == b
 | .int a,.bl b=>a == (if b then 1 else 0)
 | .int a,.int b=>a == b
 | .str a,.str b=>a == b
 | _,_=>false
theorem Zqq {A:Around} {s:Shared} {y x:V} {u v:Value} (ry:RelV y u) (rx:RelV x v) (fy:Zd6 y=true) (fx:Zd6 x=true):SeqAt.EqAt A s u v (eqV y x):=by
 cases y with
 | non =>
   cases ry
   cases x with
   | non=>cases rx; exact SeqAt.EqAt.same _
   | bl b=>cases rx; exact SeqAt.EqAt.none_bool b
   | int b=>obtain ⟨t,rfl⟩:=rx; exact SeqAt.EqAt.none_int b t
   | str b=>obtain ⟨t,rfl⟩:=rx; exact SeqAt.EqAt.none_str b t
   | _=>exact absurd (show false=true from fx) n21_
 | bl a =>
   cases ry
   cases x with
   | non=>cases rx; exact SeqAt.EqAt.bool_none a
   | bl b=>cases rx; exact SeqAt.EqAt.bool_bool a b
   | int b=>obtain ⟨t,rfl⟩:=rx; exact SeqAt.EqAt.bool_int a b t
   | str b=>obtain ⟨t,rfl⟩:=rx; exact SeqAt.EqAt.bool_str a b t
   | _=>exact absurd (show false=true from fx) n21_
 | int a =>
   obtain ⟨t',rfl⟩:=ry;cases x with
   | non=>cases rx; exact SeqAt.EqAt.int_none a t'
   | bl b=>cases rx; exact SeqAt.EqAt.int_bool a t' b
   | int b=>obtain ⟨t,rfl⟩:=rx; exact SeqAt.EqAt.int_int a t' b t
   | str b=>obtain ⟨t,rfl⟩:=rx; exact SeqAt.EqAt.int_str a t' b t
   | _=>exact absurd (show false=true from fx) n21_
 | str a =>
   obtain ⟨t',rfl⟩:=ry;cases x with
   | non=>cases rx; exact SeqAt.EqAt.str_none a t'
   | bl b=>cases rx; exact SeqAt.EqAt.str_bool a t' b
   | int b=>obtain ⟨t,rfl⟩:=rx; exact SeqAt.EqAt.str_int a t' b t
   | str b=>obtain ⟨t,rfl⟩:=rx; exact SeqAt.EqAt.str_str a t' b t
   | _=>exact absurd (show false=true from fx) n21_
 | _=>exact absurd (show false=true from fy) n21_
def eqU (x:V) (u:Value):Bool:=match u with
 | .none=>eqV .non x
 | .bool b=>eqV (.bl b) x
 | .int i _=>eqV (.int i) x
 | .str z _=>eqV (.str z) x
 | _=>false
theorem Zl3 {x y:V} {u:Value} (r:RelV y u) (f:Zd6 y=true):eqU x u=eqV y x:=by
 cases y with
 | non=>cases r; rfl
 | bl b=>cases r; rfl
 | int i=>obtain ⟨t,rfl⟩:=r; rfl
 | str z=>obtain ⟨t,rfl⟩:=r; rfl
 | _=>exact absurd (show false=true from f) n21_
theorem Zhz {x:V}:∀ {xs:List V} {us:List Value},Vals xs us→xs.all Zd6=true→us.any (eqU x)=xs.any fun y=>eqV y x
 | _,_,.nil,_=>rfl
 | y :: xs,u :: us,.cons r t,f=>by
   rw [List.all_cons,n22_] at f;rw [List.any_cons,List.any_cons,Zl3 r f.1,Zhz t f.2]
theorem Zc1 {A:Around} {s:Shared} {x:V} {v:Value} (rx:RelV x v) (fx:Zd6 x=true):∀ {xs:List V} {us:List Value},Vals xs us→xs.all Zd6=true→∀ u∈us,SeqAt.EqAt A s u v (eqU x u)
 | _,_,.nil,_=>fun u hu=>by cases hu
 | y :: xs,u :: us,.cons r t,f=>fun u' hu=>by
   rw [List.all_cons,n22_] at f
   rcases n18_.mp hu with rfl | hu
   · rw [Zl3 r f.1]; exact Zqq r rx f.1 fx
   · exact Zc1 rx fx t f.2 u' hu
def inV (x:V) (xs:List V):Bool:=xs.any fun y=>eqV y x
def rIn (K:PySem.W.Frag) (neg:Bool):R2:=fun x y H Q=>∃ p xs,y=.ref p∧(SqL K H p xs∨SqT K H p xs)∧Zd6 x=true∧xs.all Zd6=true∧Q (.bl (if neg then !inV x xs else inV x xs)) H
theorem Zgv:OpR X (compareOp .NotIn) (rIn X.K true):=by
 intro pins s σ H x y v u Q I rx ry h;obtain ⟨p,xs,rfl,hq,fx,fs,q⟩:=h;cases ry
 rcases hq with hq | hq
 · obtain ⟨its,r,pl,hz⟩:=I.list hq;refine SeqAt.notIn_listAt (eqU x) pl.isList (fun w hw=>Zc1 rx fx r fs w (by simpa using hw)) ⟨.bl _,H,I,rfl,?_⟩;rw [show its.toArray.any (eqU x)=its.any (eqU x) by simp,Zhz r fs];exact q
 · obtain ⟨its,r,pl,hz⟩:=I.tuple hq;refine SeqAt.notIn_tupleAt (eqU x) pl (fun w hw=>Zc1 rx fx r fs w (by simpa using hw)) ⟨.bl _,H,I,rfl,?_⟩;rw [show its.toArray.any (eqU x)=its.any (eqU x) by simp,Zhz r fs];exact q
theorem Zv:Zak X (.builtin "len") (fun xs H Q=>∃ p ys,xs=[.ref p]∧(SqL X.K H p ys∨SqT X.K H p ys)∧Q (.int ys.length) H):=by
 intro pins s σ H xs us Q I r h;obtain ⟨p,ys,rfl,hq,q⟩:=h;obtain ⟨u,rfl,rx⟩:=Zj2 r;cases rx
 have hn:=Zg3
 rcases hq with hq | hq
 · obtain ⟨its,r',pl,hz⟩:=I.list hq;have hlen:=r'.length;exact Calls.call_len_list pl.isList (by simp only [n7_] <;> omega) ⟨.int ys.length,H,I.tok _,⟨s.toks+1,by rw [n7_,hlen]⟩,q⟩
 · obtain ⟨its,r',pl,hz⟩:=I.tuple hq;have hlen:=r'.length;exact len_tuple pl (by simp only [n7_] <;> omega) ⟨.int ys.length,H,I.tok _,⟨s.toks+1,by rw [n7_,hlen]⟩,q⟩
theorem Y7:Zak X (.type "tuple") (fun xs H Q=>∃ p ys,xs=[.ref p]∧((SqL X.K H p ys∧∀ l,H l=none→Q (.ref l) (upd H l (.tup ys)))∨(SqT X.K H p ys∧Q (.ref p) H))):=by
 intro pins s σ H xs us Q I r h;obtain ⟨p,ys,rfl,h⟩:=h;obtain ⟨u,rfl,rx⟩:=Zj2 r;cases rx
 rcases h with ⟨hq,q⟩ | ⟨hq,q⟩
 · obtain ⟨its,r',pl,hz⟩:=I.list hq;have hlen:=r'.length;refine call_tuple_list pl.isList (fun h' kp=>?_) (by simp only [n7_] <;> omega);have I1:Inv X pins σ H { s with heap:=h' }:=I.kept (t':=s.toks) kp
   have I2:Inv X pins σ (upd H h'.objs.size (.tup ys)) { s with heap:=h'.push { cls:=.type "tuple",data:=.seq its.toArray } } :=
    I1.laid (t':=s.toks) (fun b o e=>n2_ _ e) (n5_ _) (show ObjOk X.prog X.w _ _ _ (.tup ys) from ⟨hz,its,r',IsTup.new _ _⟩)
   exact ⟨.ref h'.objs.size,_,I2,rfl,q _ (I1.hok.fresh (n5_ _))⟩
 · obtain ⟨its,r',pl,hz⟩:=I.tuple hq;exact call_tuple_same pl ⟨.ref p,H,I,rfl,q⟩
def tyV (K:PySem.W.Frag) (T:String) (x:V) (H:Hp):Prop:=match x with
 | .str _=>T = "str"
 | .int _=>T = "int"
 | .ref p=>(T = "list" ∧ ∃ xs,SqL K H p xs)∨(T = "tuple" ∧ ∃ o,K.lookup p=some o∧o.cls=.type "tuple" ∧ o.dict=none) ∨
    (T = "dict" ∧ ((∃ kvs,H p=some (.dK kvs))∨∃ kvs,H p=some (.dT kvs)))∨(T = "set" ∧ ∃ S n,H p=some (.set S n))
 | _=>False
theorem Znv {pins:List (Addr×Obj)} {σ:St} {H:Hp} {s:Shared} {T:String} {x:V} {v:Value} (I:Inv X pins σ H s) (r:RelV x v) (ty:tyV X.K T x H) :
 s.TypeIs v T∧∀ a,v=.ref a→∃ ob,s.heap.get? a=some ob∧ob.dict=none:=by
 cases x with
 | str z =>
   obtain ⟨t,rfl⟩:=r;cases (show T = "str" from ty)
   exact ⟨typeIs_str s z t,fun _ e=>nomatch e⟩
 | int i =>
   obtain ⟨t,rfl⟩:=r;cases (show T = "int" from ty)
   exact ⟨typeIs_int s i t,fun _ e=>nomatch e⟩
 | ref p =>
   cases r
   rcases ty with ⟨rfl,xs,hq⟩ | ⟨rfl,o,hk,hc,hd⟩ | ⟨rfl,hk⟩ | ⟨rfl,S,n,hk⟩
   · obtain ⟨its,_,pl,_⟩:=I.list hq;refine ⟨pl.isList.typeIs,fun a e=>?_⟩;cases e
     obtain ⟨o,n,e,c,hd,_⟩:=pl;exact ⟨o,e,hd⟩
   · refine ⟨⟨o,I.kIn p o hk,hc⟩,fun a e=>?_⟩;cases e
     exact ⟨o,I.kIn _ o hk,hd⟩
   · have z:∃ o,s.heap.get? p=some o∧o.ExactDict:=by
      rcases hk with ⟨kvs,hk⟩ | ⟨kvs,hk⟩
      · obtain ⟨_,_,_,_,o,_,_,e,ex,_⟩:=I.hok p _ hk;exact ⟨o,e,ex⟩
      · obtain ⟨_,_,_,_,o,_,_,e,ex,_⟩:=I.hok p _ hk;exact ⟨o,e,ex⟩
     obtain ⟨o,e,ex⟩:=z;refine ⟨⟨o,e,ex.1⟩,fun a e2=>?_⟩;cases e2
     exact ⟨o,e,ex.2.1⟩
   · obtain ⟨o,_,_,_,e,ex,_⟩:=I.hok p _ hk;refine ⟨⟨o,e,ex.1⟩,fun a e2=>?_⟩;cases e2
     exact ⟨o,e,ex.2.1⟩
 | _=>exact False.elim ty
def tBM0 (K:PySem.W.Frag) (T:String) (r:V→List V→Hp→VK→Prop) (to:TE):TE:=fun σ H Q=>to σ H fun x H1=>tyV K T x H1∧r x [] H1 Q
def tBM (K:PySem.W.Frag) (T:String) (r:V→List V→Hp→VK→Prop) (to:TE) (t:TA):TE:=fun σ H Q=>to σ H fun x H1=>tyV K T x H1∧t σ H1 fun xs H2=>r x xs H2 Q
variable {o e:Expr} {es:List Expr} {to:TE} {t:TA} {name:Str} {apos cpos:Pos} {T id:String} {r:V→List V→Hp→VK→Prop}
theorem Zoj (pa:PlainAttrs T) (slot:Slot T name id) (hty:typeOf (.builtin id)=pure (.type "method_descriptor")) (hm:MtR X id r) (ho:PE X o to)
 (hbase:attributeBase o name X.env (eval o X.env)=eval o X.env:=by rfl) (hline:(apos.endLine == cpos.line)=true:=by rfl):PE X (.Call (.Attribute o name apos) [] [] cpos) (tBM0 X.K T r to):=by
 intro pins s σ H Q I h;refine wpAny_Call_method0_late hbase hline (thn (ho pins s σ H _ I h) fun v s1 ⟨x,H1,I1,r1,ty,q1⟩=>?_);obtain ⟨h1,h2⟩:=Znv I1 r1 ty;exact ⟨T,id,pa,slot,hty,h1,h2,Calls.callWith_builtin rfl (PySem.evalArgs_none (hm pins s1 σ H1 x [] v [] Q I1 r1 .nil q1))⟩
theorem Zbb (pa:PlainAttrs T) (slot:Slot T name id) (hty:typeOf (.builtin id)=pure (.type "method_descriptor")) (hm:MtR X id r) (ho:PE X o to) (ha:PA X (e :: es) t)
 (hbase:attributeBase o name X.env (eval o X.env)=eval o X.env:=by rfl)
 (hfew:((backTo cpos (starEach (e :: es) X.env)).all (fun x=>!x.1) && (backToKw cpos (keywordEach [] X.env)).all (fun x=>x.1.isSome)
   && decide ((e :: es).length+([]:List Keyword).length+(if ([]:List Keyword).isEmpty then 0 else 1) < 30))=true:=by rfl)
 (hline:(apos.endLine == cpos.line)=true:=by rfl) (hs:starEach (e :: es) X.env=(false,eval e X.env) :: starEach es X.env:=by rfl) (hplain:(backTo cpos (starEach es X.env)).any (·.1)=false:=by rfl) :
 PE X (.Call (.Attribute o name apos) (e :: es) [] cpos) (tBM X.K T r to t):=by
 intro pins s σ H Q I h;refine wpAny_Call_method_late hbase hfew hline rfl (thn (ho pins s σ H _ I h) fun v s1 ⟨x,H1,I1,r1,ty,q1⟩=>?_);obtain ⟨h1,h2⟩:=Znv I1 r1 ty;refine ⟨T,id,pa,slot,hty,h1,h2,?_⟩;have hA:=ha cpos pins s1 σ H1 _ I1 q1;rw [hs] at hA ⊢;refine Calls.callWith_builtin (by show (false || (backTo cpos (starEach es X.env)).any (·.1))=false; rw [hplain] <;> rfl) (Calls.evalArgs_plain ?_);exact thn hA fun us s2 ⟨vs,H2,I2,r2,q2⟩=>hm pins s2 σ H2 x vs v us Q I2 r1 r2 q2
/- xs.append(e),list.index on a module's tuple .. are MtR facts of 06m -/
end
end L2
namespace L2
open PySem PySem.Spec PyProof.Rows
def MtM (X:Cx) (id:String) (r:V→List V→Hp→VK→Prop):Prop :=
 ∀ (pins:List (Addr×Obj)) (s:Shared) (σ:St) (H:Hp) (x:V) (xs:List V) (v:Value) (us:List Value) (Q:VK),Inv X pins σ H s→RelV x v→Vals xs us→r x xs H Q →
   wpAny (model X.prog X.w) X.A (call (.builtin id) (v :: us)) (EP X pins σ Q) X.xe s
theorem Vals.one:∀ {x:V} {us:List Value},Vals [x] us→∃ u,us=[u]∧RelV x u
 | _,_,.cons r .nil=>⟨_,rfl,r⟩
theorem Vals.two:∀ {x y:V} {us:List Value},Vals [x,y] us→∃ u v,us=[u,v]∧RelV x u∧RelV y v
 | _,_,_,.cons r (.cons q .nil)=>⟨_,_,rfl,r,q⟩
theorem Vals.eraseIdx:∀ {xs:List V} {us:List Value} (i:Nat),Vals xs us→Vals (xs.eraseIdx i) (us.eraseIdx i)
 | _,_,_,.nil=>.nil
 | _,_,0,.cons _ t=>t
 | _,_,i+1,.cons r t=>.cons r (Vals.eraseIdx i t)
theorem Vals.rep {xs:List V} {us:List Value} (h:Vals xs us):∀ k:Nat,Vals (List.replicate k xs).flatten (List.replicate k us).flatten
 | 0=>.nil
 | k+1=>by
   rw [List.replicate_succ,List.replicate_succ,List.flatten_cons,List.flatten_cons];exact Vals.append h (Vals.rep h k)
theorem Zgb {α:Type}:∀ (l:List α) (i:Nat),(l.eraseIdx i).length≤l.length
 | [],_=>n5_ _
 | _ :: _,0=>Nat.le_succ _
 | _ :: r,i+1=>Nat.succ_le_succ (Zgb r i)
theorem Zbr (its:List Value):∀ (k:Nat) (acc:List Value),
 List.foldl (fun x1 x2=>x1++x2) acc.toArray (List.replicate k its.toArray)=(acc++(List.replicate k its).flatten).toArray
 | 0,acc=>by simp
 | k+1,acc=>by
   have e:acc.toArray++its.toArray=(acc++its).toArray:=by simp
   have e2:(acc++its)++(List.replicate k its).flatten=acc++(List.replicate (k+1) its).flatten:=by
    rw [List.replicate_succ,List.flatten_cons,List.append_assoc]
   rw [← e2,← Zbr its k (acc++its),← e,List.replicate_succ,List.foldl_cons]
section
variable {X:Cx} {pins:List (Addr×Obj)} {σ:St} {H:Hp} {s:Shared} {l b:Addr} {xs ys zs:List V}
theorem Inv.lset {its its':List Value} {n:Nat} {f:Array Value→Array Value} {t':Nat} (I:Inv X pins σ H s) (hH:H l=some (.lst xs))
 (e:s.heap.get? l=some { cls:=.type "list",data:=.seq its.toArray n }) (hf:f its.toArray=its'.toArray) (hv:Vals ys its') (hz:ys.length≤sizeLine) :
 Inv X pins σ (upd H l (.lst ys)) { s with heap:=s.heap.update l (Obj.mapSeq f),toks:=t' }:=by
 have q:=PySem.IsL.update e f;rw [hf] at q;refine I.write (x:=l) (e:=l) (by rw [hH]; exact trivial) (.inl rfl) (fun b' u hb hu=>(n58_ s.heap (Obj.mapSeq f) (Ne.symm hb)).trans hu) ⟨_,q⟩ ?_;exact ⟨hz,its',_,hv,q⟩
theorem Inv.lnew {its:List Value} {t':Nat} (I:Inv X pins σ H s) (hv:Vals ys its) (hz:ys.length≤sizeLine) :
 Inv X pins σ (upd H s.heap.objs.size (.lst ys)) { s with heap:=s.heap.push { cls:=.type "list",data:=.seq its.toArray },toks:=t' } :=
 I.laid (fun _ _ q=>n2_ _ q) (n5_ _) ⟨hz,its,0,hv,n11_ _ rfl⟩
theorem Inv.fresh (I:Inv X pins σ H s):H s.heap.objs.size=none:=I.hok.fresh (n5_ _)
theorem Inv.lstM (I:Inv X pins σ H s) (hH:H l=some (.lst xs)):xs.length≤sizeLine∧∃ (its:List Value) (n:Nat),Vals xs its∧xs.length=its.length∧s.heap.get? l=some { cls:=.type "list",data:=.seq its.toArray n }:=by
 obtain ⟨z,its,n,r,e⟩:=I.hok l _ hH;exact ⟨z,its,n,r,r.length,e⟩
theorem Znp {n:Nat} (h:n≤sizeLine):Builtin.List.listTooLong n=false:=by
 unfold Builtin.List.listTooLong;exact n14_ (by omega)
end
section
variable {X:Cx}
def Zpo:V→List V→Hp→VK→Prop:=fun x vs H Q=>∃ l xs y,x=.ref l∧vs=[y]∧H l=some (.lst xs)∧xs.length < sizeLine∧Q .non (upd H l (.lst (xs++[y])))
theorem Ym:MtM X "list.append" Zpo:=by
 intro pins s σ H x vs v us Q I rx rv h;obtain ⟨l,xs,y,rfl,rfl,hH,hz,q⟩:=h;cases rx
 obtain ⟨u,rfl,ru⟩:=rv.one;obtain ⟨z,its,n,r,hl,e⟩:=I.lstM hH;refine call_meets F.slot_list_append ⟨_,e,rfl⟩ F.entry_list_append (F.args_list_append_2 _ _) (PySem.list_append l its.toArray n u (by rw [n7_]; omega)) ⟨e,?_⟩;refine ⟨.non,_,I.lset (its':=its++[u]) hH e (by simp) (r.append (.cons ru .nil)) ?_,rfl,q⟩;rw [n17_,List.length_singleton];omega
def Zp7:V→List V→Hp→VK→Prop:=fun x vs H Q=>∃ l xs i k y,x=.ref l∧vs=[.int i]∧H l=some (.lst xs)∧-(2 ^ 63)≤i∧i < 2 ^ 63∧seqIndex? i xs.length=some k∧xs[k]? = some y∧Q y (upd H l (.lst (xs.eraseIdx k)))
theorem Zm7:MtM X "list.pop" Zp7:=by
 intro pins s σ H x vs v us Q I rx rv h;obtain ⟨l,xs,i,k,y,rfl,rfl,hH,h1,h2,hk,hy,q⟩:=h;cases rx
 obtain ⟨u,rfl,ru⟩:=rv.one;obtain ⟨t,rfl⟩:=ru;obtain ⟨z,its,n,r,hl,e⟩:=I.lstM hH;obtain ⟨w,hw,rw'⟩:=r.get hy
 refine call_meets F.slot_list_pop ⟨_,e,rfl⟩ F.entry_list_pop (F.args_list_pop_2 _ _)
  (MeetsSeq.list_pop_at l its.toArray n i t k w (fitsIndex_both h1 h2) (by rw [n7_,← hl]; exact hk) (by rw [← Array.getElem?_toList]; exact hw) (by rw [n7_]; omega)) ⟨e,?_⟩
 refine ⟨y,_,I.lset (its':=its.eraseIdx k) hH e ?_ (r.eraseIdx k) ?_,rw',q⟩
 · show its.toArray.eraseIdxIfInBounds k=(its.eraseIdx k).toArray
   rw [List.eraseIdxIfInBounds_toArray]
 · have:=Zgb xs k
   omega
def rCat:R2:=fun x y H Q=>∃ l b xs zs,x=.ref l∧y=.ref b∧H l=some (.lst xs)∧H b=some (.lst zs)∧xs.length+zs.length≤sizeLine∧∀ p,H p=none→Q (.ref p) (upd H p (.lst (xs++zs)))
theorem Xi:OpR X (binaryOp .Add) rCat:=by
 intro pins s σ H x y v u Q I rx ry h;obtain ⟨l,b,xs,zs,rfl,rfl,hH,hB,hz,q⟩:=h;cases rx
 cases ry
 obtain ⟨z,its,n,r,hl,e⟩:=I.lstM hH;obtain ⟨z2,its2,n2,r2,hl2,e2⟩:=I.lstM hB;refine PySem.P.add_list e e2 ?_ (by rw [n7_,n7_]; omega);have ea:its.toArray++its2.toArray=(its++its2).toArray:=by simp
 rw [ea];exact ⟨.ref _,_,I.lnew (t':=s.toks) (r.append r2) (by rw [n17_]; omega),rfl,q _ I.fresh⟩
def rRep:R2:=fun x y H Q=>∃ l k xs,x=.ref l∧y=.int k∧H l=some (.lst xs)∧-(2 ^ 63)≤k∧k < 2 ^ 63∧xs.length * k.toNat≤sizeLine ∧
 ∀ p,H p=none→Q (.ref p) (upd H p (.lst (List.replicate k.toNat xs).flatten))
theorem Zhm {α:Type} (xs:List α) (k:Nat):(List.replicate k xs).flatten.length=k * xs.length:=by
 induction k with
 | zero=>simp
 | succ k ih=>rw [List.replicate_succ,List.flatten_cons,n17_,ih,Nat.succ_mul,Nat.add_comm]
theorem Znx:OpR X (binaryOp .Mult) rRep:=by
 intro pins s σ H x y v u Q I rx ry h;obtain ⟨l,k,xs,rfl,rfl,hH,h1,h2,hz,q⟩:=h;cases rx
 obtain ⟨t,rfl⟩:=ry;obtain ⟨z,its,n,r,hl,e⟩:=I.lstM hH;have hlen:its.toArray.size * k.toNat≤sizeLine:=by rw [n7_,← hl]; exact hz
 have hcap:¬ its.toArray.size * k.toNat > (2 ^ 63 - 1) / 8:=by
  have:(sizeLine:Nat)≤(2 ^ 63 - 1) / 8:=by decide
  omega
 have hfit:¬ (!Builtin.List.listFitsIndex k)=true:=by
  rw [fitsIndex_both h1 h2];exact n21_
 have hlong:¬ Builtin.List.listTooLong (its.toArray.size * k.toNat)=true:=by
  rw [Znp hlen];exact n21_
 have hnew:List.foldl (fun x1 x2=>x1++x2) #[] (List.replicate (if its.toArray.isEmpty=true then 0 else k.toNat) its.toArray)=(List.replicate k.toNat its).flatten.toArray:=by
  have f0:∀ m:Nat,List.foldl (fun x1 x2=>x1++x2) #[] (List.replicate m its.toArray)=(List.replicate m its).flatten.toArray:=fun m=>by
   have:=Zbr its m []
   rw [List.nil_append] at this;exact this
  rw [f0];cases its with
  | nil=>simp
  | cons a r'=>rw [if_neg (by simp)]
 refine wpAny_binaryOp_repeat_ref (T := "list") (U := "int") (by decide) ⟨_,e,rfl⟩ (fun s'=>typeIs_int s' k t) noFill_list_mul F.fills_int_mul F.slot_int_rmul repeat_list F.slot_int_index.lookup
  (call_meets F.slot_int_rmul (typeIs_int s k t) F.entry_int_rmul (F.args_int_rmul_2 _ _) (int___rmul___int_list k t l its.toArray n)
    ⟨e,rfl,⟨_,e,rfl⟩,call_meets F.slot_list_mul ⟨_,e,rfl⟩ F.entry_list_mul (F.args_list_mul_2 _ _) (AutoListH.list___mul___list_int_3 l its.toArray n k t hfit hcap hlong) ⟨e,?_⟩⟩)
 rw [hnew];exact ⟨.ref _,_,I.lnew (t':=s.toks) (r.rep k.toNat) (by rw [Zhm,Nat.mul_comm]; exact hz),rfl,q _ I.fresh⟩
end
section
variable {prog:Program} {w:World} {A:Around} {E:Value→Shared→Prop} {s:Shared}
set_option maxRecDepth 100000 in
end
section
variable {X:Cx}
end
end L2
namespace Att
open PySem PySem.W PySem.Calls PyProof.Rows
theorem Zd3 {P:Params} {h:Heap}:∀ (ns:List Int) (vs:List Value),WellAll P h vs (ns.map WData.int)→IntsAre vs ns:=by
 intro ns
 induction ns with
 | nil =>
   intro vs w;rw [List.map_nil] at w;cases w
   exact .nil
 | cons n ns ih =>
   intro vs w;rw [List.map_cons] at w;cases w with
   | cons a b =>
     cases a
     exact .cons _ _ (ih _ b)
theorem Zmr {l:OpenLaw} {n:Nat} (hn:l.most=some n) {P:Params} {h:Heap} {args:List WData} {vals:List Value}
 (hpre:l.row.toRowW.claim.pre args=true) (hwl:WellAll P h vals args) :
 ∃ a vs ns,vals=[Value.ref a]∧args=[WData.list (ns.map WData.int)]∧h.get? a=some { cls:=.type "list",data:=.seq vs.toArray }∧IntsAre vs ns∧ns.length≤n:=by
 have hsh:WShape.hasAll [] args [.list .int]=true:=(pre_splitW hpre).1;have hc:l.pre.holds [] { args:=args }=true:=(pre_splitW hpre).2;obtain ⟨d,r,rfl,h1,h2⟩:=hasAllW_cons hsh;obtain rfl:=hasAllW_nil h2;obtain ⟨xs,rfl,h3⟩:=hasW_list h1;obtain ⟨ns,rfl⟩:=items_int h3
 have hlen:ns.length≤n:=by
  unfold OpenLaw.pre at hc
  have h4:(WTm.not (.lt (.lit (.int (n:Int))) (.len (.arg 0)))).holds [] { args:=[.list (ns.map .int)] }=true:=by
   have h4:=(holds_andW hc).1;rw [hn] at h4;exact h4
  have h5:=condW_of h4 (w_not (w_lt w_lit (w_len_list (w_arg rfl))));rw [n4_] at h5;refine Nat.le_of_not_lt fun q=>?_;have q':(n:Int) < ((ns.length:Nat):Int):=by omega
  first
   | (rw [n26_ q'] at h5; exact absurd h5 (by decide))
   | (simp at h5; omega)
 cases hwl with
 | cons w1 w2 =>
   cases w2
   cases w1 with
   | list ho hall=>exact ⟨_,_,ns,rfl,rfl,ho,Zd3 ns _ hall,hlen⟩
theorem Zlk (l:OpenLaw) (args:List WData):l.row.toRowW.claim.post args (.bool true) args=true :=
 postW_of (r:=l.row.toRowW) (X:=(true == true))
  (show WShape.has [] (.bool true) .bool=true by first | rfl | decide | simp [WShape.has,WShape.arms,WShape.armsAll])
  (show (WTm.eq .res (.lit (.bool true))).value [] { args:=args,res:=some (.bool true),after:=args }=some (.bool (true == true)) from w_eq_bool (w_res rfl) w_lit) rfl
theorem attach_call {l:OpenLaw} {n:Nat} {q:Program} {loose:List Str} {XP:(Str→Option Value)→Heap→Prop} {YP:World→Heap→Prop} {d:DefRec}
 (hn:l.most=some n) (hdf:d.params.defaults=[])
 (call:∀ (w:World) (s₀ s₁:Shared) (mg mb:Str→Option Value) (fa:Addr) (o:Obj) (pm cd doc:Value) (a:Addr) (vs:List Value) (ns:List Int),
   Ground q loose [] XP w s₀ mg mb s₁.heap→YP w s₁.heap →
   s₁.heap.get? fa=some o→o.data=.func (docDef d.name d.params d.body d.scope pm cd doc)→s₁.heap.CodeRec cd d.name→mg d.name=some (.ref fa) →
   s₁.heap.get? a=some { cls:=.type "list",data:=.seq vs.toArray }→IntsAre vs ns→ns.length≤n→s₁.gens=#[] →
   codeAny (model l.prog w) callerA (.call (.ref fa) ⟨[.ref a],[]⟩) (fun r s'=>r=.ok (.ret (.bool true))∧OldK s₁.heap s'.heap∧s'.os=s₁.os∧AllBare s'.gens) s₁) :
 WalkO q loose XP YP l.row.toRowW d [] (fun f vs=>PySem.call f vs):=by
 intro w s₀ s₁ mg mb G Y fa o pm cd doc dV kV ho hd hcd hD hmg hg args vals as hpre hlay hrd hwl hlo;obtain rfl:dV=.none:=Dflts.none hD hdf;obtain rfl:kV=.none:=Dflts.noKw hD;obtain ⟨a,vs,ns,rfl,rfl,hobj,hints,hlen⟩:=Zmr hn hpre hwl;refine enter_call (codeAny_mono (call w s₀ s₁ mg mb fa o pm cd doc a vs ns G Y ho (fd_plain hd) hcd hmg hobj hints hlen hg) fun r s' hq=>?_);obtain ⟨rfl,h2,h3,h4⟩:=hq;exact ⟨.inl ⟨.bool true,.bool true,[],rfl,fun _=>rfl,.bool true,Zlk l _,fun _=>⟨List.Pairwise.nil,fun _ hm=>(nomatch hm)⟩⟩,h2,h3,h4⟩
section
variable {prog:Program} {w:World} {A:Around} {E:Value→Shared→Prop} {s:Shared} {K:Frag}
end
end Att
namespace L2
open PySem PySem.Spec PyProof.Rows
theorem Zf8:∀ {vs:List Value} {ns:List Int},IntsAre vs ns→Vals (ns.map V.int) vs
 | _,_,.nil=>.nil
 | _,_,.cons n t h=>.cons ⟨t,rfl⟩ (Zf8 h)
end L2
namespace L2
open PySem PySem.Spec PyProof.Rows
end L2
namespace L2
open PySem PySem.Spec PyProof.Rows
def Yr (s:Stmt):Arguments:=match s with
 | .FunctionDef _ a _ _ _ _ _ _ _ _=>a
 | _=>{ posonlyargs:=[],args:=[],vararg:=none,kwonlyargs:=[],kw_defaults:=[],kwarg:=none,defaults:=[] }
def Yh (s:Stmt):List Stmt:=match s with
 | .FunctionDef _ _ b _ _ _ _ _ _ _=>b
 | _=>[]
def Ze (s:Stmt):Scope:=match s with
 | .FunctionDef _ _ _ _ _ _ sc _ _ _=>sc
 | _=>{ kind:=.function,names:=[],isGenerator:=false,isCoroutine:=false }
abbrev CX0:CXT:=fun _ _ _ _ _ _=>False
abbrev E0:XK:=fun _ _ _=>False
theorem Zrd {X:Cx}:Zdq CX0 X E0:=fun _ _ _ _ _ _ _ h=>h.elim
structure Fun (K:PySem.W.Frag) (x qual:Str) (st:Stmt) (f:Addr) (fd:FuncData):Prop where
 ex:∃ (oc:Value) (od:Option Addr) (kV doc pm:Value) (an:Option Addr) (cdv ct:Value) (osl:Array (Option Value)),
  fd=PySem.W.fnOf x qual (Yr st) (Yh st) (Ze st) .none kV doc pm an cdv ct∧K.lookup f=some ⟨oc,od,.func fd,osl⟩∧PySem.W.codeIn K cdv qual=true
 kp:PySem.W.keepIn K (.ref f)=true
section
variable {P:Program} {w:World} {K:PySem.W.Frag} {mg:Str→Option Value} {base:Heap}
theorem Fun.ok {x qual:Str} {st:Stmt} {f:Addr} {fd:FuncData} {N ps:List Str} {k:Nat} {sp:Sp} (F:Fun K x qual st f fd) (S:FnScope N ps (Ze st)) (len:∀ vs H Q E,sp vs H Q E→vs.length=ps.length)
 (hbody:∀ (cdv:Value) (A:Around) (outer:List Env) (s:Shared) (H:Hp) (vs:List V) (Q:VK) (E:XK),Room k (A.deeper (envOfC qual (Ze st) s.heap.objs.size f cdv))→sp vs H Q E →
   ∃ t,PSs (cxOf CX0 P w K mg base N qual (Ze st) f cdv A outer s H E).nox (Yh st) t∧t { nx:=fun _ H'=>Q .non H',rt:=Q } (Zal N vs) H):FnOk P w K mg base CX0 (k+1) f fd ps sp:=by
 obtain ⟨oc,od,kV,doc,pm,an,cdv,ct,osl,rfl,lk,hcd⟩:=F.ex;refine Zno lk hcd S len fun A outer s H vs Q E hr hsp=>?_;obtain ⟨t,h,q⟩:=hbody cdv A outer s H vs Q E hr hsp;exact ⟨t,h.nox,q⟩
theorem Fun.binds {x qual:Str} {st:Stmt} {f:Addr} {fd:FuncData} {ps:List Str} (F:Fun K x qual st f fd)
 (h:∀ (kV doc pm:Value) (an:Option Addr) (cdv ct:Value) (us:List Value),us.length=ps.length→bindArgs (PySem.W.fnOf x qual (Yr st) (Yh st) (Ze st) .none kV doc pm an cdv ct) ⟨us,[]⟩=pure (ps.zip us)):Binds K fd ps []:=by
 obtain ⟨oc,od,kV,doc,pm,an,cdv,ct,osl,rfl,lk,hcd⟩:=F.ex;exact .all (h kV doc pm an cdv ct)
theorem Zil {x qual:Str} {st:Stmt} {f:Addr} {oc:Value} {od an:Option Addr} {osl:Array (Option Value)} {kV doc pm cdv ct:Value} (l:K.lookup f=some ⟨oc,od,.func (PySem.W.fnOf x qual (Yr st) (Yh st) (Ze st) .none kV doc pm an cdv ct),osl⟩)
 (c:PySem.W.codeIn K cdv qual=true) (k:PySem.W.keepIn K (.ref f)=true):Fun K x qual st f (PySem.W.fnOf x qual (Yr st) (Yh st) (Ze st) .none kV doc pm an cdv ct):=⟨⟨oc,od,kV,doc,pm,an,cdv,ct,osl,rfl,l,c⟩,k⟩
end
theorem Zlm {A:Around} {k:Nat} (hr:Room k A):A.units+1 < cLine:=n20_ (Nat.add_le_add_left (by decide:1≤64) _) hr.units
section
variable {X:Cx}
theorem pv (i:Nat) {x:Str} {pos:Pos} (hN:X.N[i]? = some x:=by rfl) (hv:Vis X.env.scope x:=by first | exact Or.inl rfl | exact Or.inr (Or.inl rfl) | exact Or.inr (Or.inr rfl)) (hd:(x == ("__debug__" : Str))=false:=by decide)
 (hcd:(x == ("__classdict__" : Str))=false:=by decide):PE X (.Name x pos) (tVar i):=Zol hN hv hd hcd
end
theorem iteF {A B:Prop} (h:B):if false=true then A else B:=by
 rw [if_neg n21_];exact h
theorem iteT {A B:Prop} (h:A):if true=true then A else B:=by
 rw [if_pos rfl];exact h
theorem ite2 {c A B:Prop} [Decidable c] (h1:c→A) (h2:¬ c→B):if c then A else B:=by
 by_cases h:c
 · rw [if_pos h];exact h1 h
 · rw [if_neg h];exact h2 h
def Same (H H':Hp):Prop:=∀ b o,H b=some o→H' b=some o
theorem Same.refl (H:Hp):Same H H:=fun _ _ h=>h
theorem Same.trans {H H1 H2:Hp} (a:Same H H1) (b:Same H1 H2):Same H H2:=fun c o h=>b c o (a c o h)
end L2
namespace FM
def sg (t b:Int):Int:=if b < 0 then -(Int.gcd t b:Int) else (Int.gcd t b:Int)
theorem gcd_ne {t b:Int} (h:b≠0):(Int.gcd t b:Int)≠0:=by
 intro e
 have:=Int.gcd_eq_zero_iff.mp (Int.ofNat.inj e)
 exact h this.2
theorem sg_ne {t b:Int} (h:b≠0):sg t b≠0:=by
 have:=gcd_ne (t:=t) h
 unfold sg; split <;> omega
theorem fdiv_mul {c k:Int} (h:k≠0):(c * k).fdiv k=c:=Int.mul_fdiv_cancel c h
theorem fdiv_num {t b:Int} (h:b≠0):t.fdiv (sg t b)=(Rat.divInt t b).num:=by
 rw [Rat.num_divInt];obtain ⟨c,hc⟩:=Int.gcd_dvd_left t b;have hg:=gcd_ne (t:=t) h;have e:(b.gcd t:Int)=(t.gcd b:Int):=by rw [Int.gcd_comm]
 rw [e];unfold sg
 rcases Int.lt_or_gt_of_ne h with hb | hb
 · rw [if_pos hb,Int.sign_eq_neg_one_of_neg hb];generalize (t.gcd b:Int)=g at *;subst hc;rw [show g * c=(-c) * (-g) by rw [Int.neg_mul_neg,n49_],fdiv_mul (by omega)];rw [show (-1:Int) * ((-c) * (-g))=(-c) * g by rw [Int.neg_mul_neg,Int.neg_mul,Int.one_mul,Int.neg_mul],Int.mul_ediv_cancel _ hg]
 · rw [if_neg (by omega),Int.sign_eq_one_of_pos hb,Int.one_mul];generalize (t.gcd b:Int)=g at *;subst hc;rw [n49_,fdiv_mul hg,Int.mul_ediv_cancel _ hg]
theorem fdiv_den {t b:Int} (h:b≠0):b.fdiv (sg t b)=((Rat.divInt t b).den:Int):=by
 rw [Rat.den_divInt,if_neg h];obtain ⟨c,hc⟩:=n64_ t b;have hg:=gcd_ne (t:=t) h;have e:b.gcd t=t.gcd b:=by rw [Int.gcd_comm]
 rw [e,Int.natCast_ediv];unfold sg
 rcases Int.lt_or_gt_of_ne h with hb | hb
 · rw [if_pos hb,Int.ofNat_natAbs_of_nonpos (by omega)];generalize (t.gcd b:Int)=g at *;subst hc;rw [show g * c=(-c) * (-g) by rw [Int.neg_mul_neg,n49_],fdiv_mul (by omega)];rw [show -((-c) * (-g))=(-c) * g by rw [Int.neg_mul_neg,Int.neg_mul],Int.mul_ediv_cancel _ hg]
 · rw [if_neg (by omega),Int.natAbs_of_nonneg (by omega)];generalize (t.gcd b:Int)=g at *;subst hc;rw [n49_,fdiv_mul hg,Int.mul_ediv_cancel _ hg]
theorem low_num {t b:Int} (h:b≠0):(if 0 < b then t.fdiv (Int.gcd t b:Int) else 0 - t.fdiv (Int.gcd t b:Int))=(Rat.divInt t b).num:=by
 rw [← fdiv_num h];have hg:=gcd_ne (t:=t) h;obtain ⟨c,hc⟩:=Int.gcd_dvd_left t b;unfold sg
 by_cases hb:0 < b
 · rw [if_pos hb,if_neg (by omega)]
 · rw [if_neg hb,if_pos (by omega)];generalize (t.gcd b:Int)=g at *;subst hc;rw [show g * c=c * g by simp [n49_],fdiv_mul hg];rw [show c * g=(-c) * (-g) by rw [Int.neg_mul_neg],fdiv_mul (by omega)];omega
theorem low_den {t b:Int} (h:b≠0):(b.natAbs:Int).fdiv (Int.gcd t b:Int)=((Rat.divInt t b).den:Int):=by
 rw [← fdiv_den h];have hg:=gcd_ne (t:=t) h;obtain ⟨c,hc⟩:=n64_ t b;unfold sg
 by_cases hb:b < 0
 · rw [if_pos hb,Int.ofNat_natAbs_of_nonpos (by omega)];generalize (t.gcd b:Int)=g at *;subst hc;rw [show g * c=(-c) * (-g) by rw [Int.neg_mul_neg,n49_],fdiv_mul (by omega)];rw [show -((-c) * (-g))=(-c) * g by rw [Int.neg_mul_neg,Int.neg_mul],fdiv_mul hg]
 · rw [if_neg hb,Int.natAbs_of_nonneg (by omega)]
theorem gcd_fmod {a b:Int} (h:b≠0):Int.gcd b (a.fmod b)=Int.gcd a b:=by
 have e:a.fmod b=a - b * a.fdiv b:=by have:=Int.mul_fdiv_add_fmod a b; omega
 rw [e,Int.gcd_comm a b]
 have:=Int.gcd_sub_mul_left_right b a (a.fdiv b)
 first | exact this | (rw [← this]) | simpa using this
theorem fmod_abs_lt {a b:Int} (h:b≠0):(a.fmod b).natAbs < b.natAbs:=by
 rcases Int.lt_or_gt_of_ne h with hb | hb
 · have e:a.fmod b = -((-a).fmod (-b)):=by
    have:=Int.neg_fmod_neg a b
    omega
   have h1:=n57_ (-a) (show (0:Int) < -b by omega);have h2:=n71_ (-a) (show (0:Int) < -b by omega);omega
 · have h1:=n57_ a hb;have h2:=n71_ a hb;omega
def B (n:Nat) (q:Rat):Prop:=q.num.natAbs < 2 ^ n∧q.den < 2 ^ n
theorem B.mono {n m:Nat} {q:Rat} (h:B n q) (l:n≤m):B m q :=
 ⟨n9_ h.1 (n39_ (by decide) l),n9_ h.2 (n39_ (by decide) l)⟩
theorem natAbs_mul_lt {a b:Int} {n m:Nat} (h1:a.natAbs < 2 ^ n) (h2:b.natAbs < 2 ^ m):(a * b).natAbs < 2 ^ (n+m):=by
 rw [n50_,Nat.pow_add];exact Nat.mul_lt_mul'' h1 h2
theorem Zfx (t:Int) {b:Int} (h:b≠0):(Rat.divInt t b).num.natAbs≤t.natAbs:=by
 rw [Rat.num_divInt]
 have hs:(b.sign * t).natAbs≤t.natAbs:=by
  rw [n50_]
  have:b.sign.natAbs≤1:=by
   rcases Int.lt_trichotomy b 0 with z | z | z
   · rw [Int.sign_eq_neg_one_of_neg z]; decide
   · omega
   · rw [Int.sign_eq_one_of_pos z]; decide
  calc b.sign.natAbs * t.natAbs≤1 * t.natAbs:=Nat.mul_le_mul_right _ this
   _=t.natAbs:=Nat.one_mul _
 obtain ⟨c,hc⟩:∃ c,b.sign * t=(b.gcd t:Int) * c:=by
  obtain ⟨c,hc⟩:=n64_ b t;refine ⟨b.sign * c,?_⟩;rw [← Int.mul_assoc,n49_ (b.gcd t:Int) b.sign,Int.mul_assoc,← hc]
 have hg:(b.gcd t:Int)≠0:=by
  intro e;exact h (Int.gcd_eq_zero_iff.mp (Int.ofNat.inj e)).1
 rw [hc,Int.mul_ediv_cancel_left _ hg]
 have:c.natAbs≤(b.sign * t).natAbs:=by
  rw [hc,n50_]
  have:1≤(b.gcd t:Int).natAbs:=by omega
  calc c.natAbs=1 * c.natAbs:=(Nat.one_mul _).symm
   _≤_:=Nat.mul_le_mul_right _ this
 omega
theorem Zfk (t:Int) {b:Int} (h:b≠0):(Rat.divInt t b).den≤b.natAbs:=by
 rw [Rat.den_divInt,if_neg h];exact Nat.div_le_self _ _
theorem B_divInt {n:Nat} {t b:Int} (h:b≠0) (h1:t.natAbs < 2 ^ n) (h2:b.natAbs < 2 ^ n):B n (Rat.divInt t b) :=
 ⟨n20_ (Zfx t h) h1,n20_ (Zfk t h) h2⟩
theorem den_ne (q:Rat):(q.den:Int)≠0:=by have:=q.den_nz; omega
theorem den_pos (q:Rat):(0:Int) < q.den:=by have:=q.den_nz; omega
theorem gcd_one (q:Rat):Int.gcd q.num q.den=1:=by
 have:=q.reduced
 unfold Nat.Coprime at this
 simpa [Int.gcd] using this
theorem Zjq {a b:Int} (hb:0 < b) (h:Int.gcd a b=1):(Rat.divInt a b).num=a∧((Rat.divInt a b).den:Int)=b:=by
 rw [Rat.num_divInt,Rat.den_divInt,if_neg (by omega),Int.gcd_comm b a,h,Int.sign_eq_one_of_pos hb];constructor
 · simp
 · simp; omega
theorem whole (a:Int):(Rat.divInt a 1).num=a∧((Rat.divInt a 1).den:Int)=1:=Zjq (by decide) (by simp)
end FM
namespace L2
open PySem PySem.Spec PyProof.Rows
theorem Zco {prog:Program} {w:World} {A:Around} {R:Result→Shared→Prop} {s:Shared} {elt target iter:Expr} {ifs:List Expr} {scope:Scope} {pos:Pos} {it acc:Value} {env:Env} (I:Nat→Shared→Prop)
 (turn:∀ n s,I n s→wpAny (model prog w) A (pyNext it) (fun r s₁=>match r with
   | none=>R (.ok .next) s₁
   | some v=>wpAny (model prog w) A (letOwnedTupleGo target it v) (fun _ s₀=>wpAny (model prog w) A (assign target env v) (fun _ s₂ =>
      wpAny (model prog w) A (forIn ifs true fun c r=>if r=true then do let ok ← isTrue c env (eval c env); pure (ForInStep.yield ok) else pure (ForInStep.yield r)) (fun ok s₃ =>
       if ok=true then wpAny (model prog w) A (eval elt env) (fun x s₄ =>
        wpAny (model prog w) A (call (.builtin "list.append") [acc,x]) (fun _ s₅=>∃ m,m < n∧I m s₅) (fun _ _=>False) s₄) (fun _ _=>False) s₃
       else ∃ m,m < n∧I m s₃) (fun _ _=>False) s₂) (fun _ _=>False) s₀) (fun _ _=>False) s₁) (fun _ _=>False) s)
 (n:Nat) (h:I n s) :
 codeAny (model prog w) A (.compLoop (.ListComp elt [⟨target,iter,ifs,0⟩] scope pos) 0 it acc env) R s:=by
 refine codeAny_loop rfl I (fun n s hI=>?_) n h;show wpAny _ A ((compTurn (.ListComp elt [⟨target,iter,ifs,0⟩] scope pos) 0 it acc env).onRaise (fun x=>do noteFrame x env; theTreesLotGoes x)) _ _ s
 refine wpAny_noted ?_;rw [compTurn_list];refine n1_ (wpAny_standAt (n1_ (n67_ (turn n s hI) (fun r s₁ h₁=>?_) fun _ _ h'=>h'.elim)));cases r with
 | none=>exact n10_ h₁
 | some v =>
   refine n1_ (n67_ h₁ (fun _ s₀ h₀=>?_) fun _ _ h'=>h'.elim);refine n1_ (n67_ h₀ (fun _ s₂ h₂=>n1_ (n67_ h₂ (fun ok s₃ h₃=>?_) fun _ _ h'=>h'.elim)) fun _ _ h'=>h'.elim);cases ok with
   | false=>exact n10_ ⟨rfl,h₃⟩
   | true =>
     exact n1_ (n1_ (n67_ h₃ (fun x s₄ h₄=>n1_ (n67_ h₄ (fun _ s₅ h₅=>n10_ (n10_ ⟨rfl,h₅⟩)) fun _ _ h'=>h'.elim)) fun _ _ h'=>h'.elim))
theorem Yk:∀ (names:List (Str×NameKind)) (n:Nat) (acc:List (Str×Addr)),cellsFrom n names acc=cellsFrom n names []++acc
 | [],_,_=>rfl
 | (x,k) :: r,n,acc=>by
   unfold cellsFrom;split
   · rw [Yk r (n+1) ((x,n) :: acc),Yk r (n+1) [(x,n)],List.append_assoc]; rfl
   · exact Yk r n acc
theorem Zag {x:Str} {c:Addr}:∀ (names:List (Str×NameKind)) (n:Nat),(x,c)∈cellsFrom n names []→(x,NameKind.cell)∈names
 | [],_,h=>by simp [cellsFrom] at h
 | (y,k) :: r,n,h=>by
   unfold cellsFrom at h;split at h
   · rename_i hk
     rw [Yk] at h
     rcases n34_.mp h with h | h
     · exact n12_ _ (Zag r _ h)
     · cases n8_.mp h
       rw [show k=.cell by simpa using hk];exact n15_
   · exact n12_ _ (Zag r _ h)
theorem Zbs {names:List (Str×NameKind)} {n:Nat} {cl:List (Str×Addr)} {x:Str} {c:Addr} (h:(cellsFrom n names cl).lookup x=some c):(cellsFrom n names []).lookup x=some c∨cl.lookup x=some c:=by
 rw [Yk,List.lookup_append] at h;cases e:(cellsFrom n names []).lookup x with
 | none=>rw [e] at h; exact .inr h
 | some c'=>rw [e] at h; exact .inl h
theorem Zj5 {M:Model} {A:Around} {E:Value→Shared→Prop} {s:Shared} {scope:Scope} {globals:Addr} {cl:List (Str×Addr)} {qual:Str} {env:Env} {Q:Env→Shared→Prop}
 (hQ:∀ h',h'.Ns s.heap.objs.size (fun _=>none)→(∀ b o,s.heap.get? b=some o→h'.get? b=some o)→CellsOk h' (s.heap.objs.size+1) (cellsFrom (s.heap.objs.size+1) scope.names []) →
   Q (newEnv scope s.heap.objs.size globals (cellsFrom (s.heap.objs.size+1) scope.names cl) qual none .none (some env) builtinsNs) { s with heap:=h' }) :
 wpAny M A (newFunctionEnv scope globals cl [] qual none .none (some env)) Q E s:=by
 simp only [newFunctionEnv,Option.isSome_some,if_true];refine n1_ (wpAny_alloc ?_);refine n1_ (wpAny_layCells _ (fun name kind cells=>by cases hkc:kind == NameKind.cell <;> simp [hkc]) _ _ _ _ ?_);have ok:=cellsFrom_ok scope.names (s.heap.push { cls:=.type "dict",data:=.dict #[] }) (s.heap.objs.size+1) [] ⟨fun _ _ hm=>(nomatch hm),List.Pairwise.nil⟩ (by rw [n65_]; exact n5_ _);rw [n65_] at ok;rw [show ({ s with heap:=s.heap.push { cls:=.type "dict",data:=.dict #[] } }:Shared).heap.objs.size=s.heap.objs.size+1 from n65_ ..];rw [List.forIn_nil];exact n1_ (n10_ (n10_ (hQ _ ((Heap.Ns.new s.heap (.type "dict")).keeps (pushCells_keeps _ _)) (fun b o e=>pushCells_keeps _ _ b o (n2_ _ e)) ok)))
def blk (X:Cx) (scope:Scope) (cl:List (Str×Addr)) (C:Addr) (N:List Str) (s3:Shared) (H3:Hp) (fp:List Addr):Cx where
 prog:=X.prog
 w:=X.w
 K:=X.K
 mg:=X.mg
 base:=X.base
 A:=X.A
 N:=N
 s₀:=s3
 H₀:=H3
 env:=compEnvC scope (cellsFrom (C+1) scope.names cl) C X.env
 outer:=X.stack
 stack:=X.stack
 ex:=fp
 fn:=fun x=>scope.names.lookup x == some .cell
 calm:=X.calm
 pn:=[]
 xe:=fun _ _=>False
structure LcO (X:Cx) (scope:Scope) (cl:List (Str×Addr)) (N:List Str) (fr:List (Option Nat)):Prop where
 clos:closureFor scope X.env=pure cl
 sub:∀ x c,cl.lookup x=some c→X.env.cells.lookup x=some c
 has:∀ x,((relabel scope X.env).names.lookup x=some .cell∨(relabel scope X.env).names.lookup x=some .free)→scope.names.lookup x=some .cell∨∃ c,cl.lookup x=some c
 kind:scope.kind=.function
 names:∀ y∈scope.names,y.2=.local→scope.names.lookup y.1=some .local
 len:fr.length=N.length
 from':∀ (i j:Nat),fr[i]? = some (some j)→∃ x,N[i]? = some x∧X.N[j]? = some x∧(X.env.scope.names.lookup x=some .cell∨X.env.scope.names.lookup x=some .free)∧((relabel scope X.env).names.lookup x=some .cell∨(relabel scope X.env).names.lookup x=some .free)∧(∃ c,cl.lookup x=some c)∧(x,NameKind.cell)∉scope.names
def Zdf (fr:List (Option Nat)) (σ:St):St:=fr.map fun o=>match o with
 | some j=>match σ[j]? with
   | some v=>v
   | none=>none
 | none=>none
theorem pgB {X:Cx} {scope:Scope} {cl:List (Str×Addr)} {C:Addr} {N:List Str} {s3:Shared} {H3:Hp} {fp:List Addr} {x:Str} {pos:Pos} (i:Nat) (hN:N.Nodup:=by decide) (hi:N[i]? = some x:=by rfl) (hf:(blk X scope cl C N s3 H3 fp).env.scope.names.lookup x=some .local:=by rfl):PG (blk X scope cl C N s3 H3 fp) (.Name x pos) (Z5 i):=Zs hN hi (.inl hf) (.inr hf)
theorem Zos {P:Program} {w:World} {H:Hp} {h h':Heap} {a:Addr} (ok:HOk P w H h) (hfree:H a=none) (hs:Heap.SameBut a h h'):HOk P w H h':=fun b ob e=>by
 refine (ok b ob e).stay (fun c w' hc q=>(hs.2 c ?_).trans q) (fun _ q=>q) fun _ _ q=>q;rintro rfl
 rcases hc with rfl | hc
 · rw [hfree] at e; cases e
 · rw [hfree] at hc; cases hc
theorem Zmk {X:Cx} {pins:List (Addr×Obj)} {σ:St} {H:Hp} {s3:Shared} {h1:Heap} {scope:Scope} {cl:List (Str×Addr)} {N:List Str} {fr:List (Option Nat)} {fp:List Addr} (L:LcO X scope cl N fr) (I:Inv X pins σ H s3) (co:CellsOk h1 (s3.heap.objs.size+1) (cellsFrom (s3.heap.objs.size+1) scope.names []))
 (hf:∀ b∈fp,FpOk X pins H b) (hlt:∀ b∈fp,b < s3.heap.objs.size):(blk X scope cl s3.heap.objs.size N s3 H fp).Ok where
 mod:=I.ok.mod
 kind:=L.kind
 glob:=I.ok.glob
 blt:=I.ok.blt
 above:=n5_ _
 inj:=fun x y c h1 h2=>by
  have old:∀ z,cl.lookup z=some c→c < s3.heap.objs.size:=fun z e=>let ⟨_,k⟩:=I.cell z c (L.sub z c e); k.lt;have new:∀ z,(cellsFrom (s3.heap.objs.size+1) scope.names []).lookup z=some c→s3.heap.objs.size+1≤c:=fun z e=>(co.empty z c (n28_ e)).2
  rcases Zbs h1 with a | a <;> rcases Zbs h2 with b | b
  · exact name_of_addr co.apart (n28_ a) (n28_ b)
  · exact absurd (n9_ (old y b) (Nat.le_of_succ_le (new x a))) (n70_ _)
  · exact absurd (n9_ (old x a) (Nat.le_of_succ_le (new y b))) (n70_ _)
  · exact I.ok.inj x y c (L.sub x c a) (L.sub y c b)
 has:=fun x h=>by
  refine Option.isSome_iff_exists.mp (PySem.W.cellsFrom_some scope.names (s3.heap.objs.size+1) cl ?_)
  rcases L.has x h with z | ⟨c,z⟩
  · exact .inl z
  · exact .inr (by rw [z]; rfl)
 cab:=fun x c h e=>by
  obtain ⟨c',e'⟩:=Z1 (sc:=scope) (n:=s3.heap.objs.size+1) (beq_iff_eq.mp (show (scope.names.lookup x == some .cell)=true from h));have e2:(cellsFrom (s3.heap.objs.size+1) scope.names cl).lookup x=some c:=e;rw [Yk,List.lookup_append,e'] at e2;have e3:c'=c:=Option.some.inj e2;subst e3;exact Nat.le_of_succ_le (co.empty x c' (n28_ e')).2
 hd:=I.ok.hd
 frames:=I.ok.frames
 stk:=.inl rfl
 exf:=fun b hb=>⟨n36_ (hlt b hb),fun x c h=>by
  rcases Zbs h with a | a
  · exact Nat.ne_of_gt (n9_ (hlt b hb) (Nat.le_of_succ_le (co.empty x c (n28_ a)).2))
  · exact (hf b hb).2.2.2.2.1 x c (L.sub x c a)⟩
 bs:=I.bs
 bsz:=n24_ I.ok.bsz I.sz
 noex:=fun b o e hb=>by
  rcases (hf b hb).2.2.2.1 with z | z
  · exact I.ok.noex b o e z
  · exact absurd (n9_ (n13_ e) (n24_ I.ok.bsz z)) (n70_ _)
 exfs:=fun b hb z=>by
  rcases n18_.mp (I.stkSub b z) with e | e
  · exact (hf b hb).2.1 e
  · exact (hf b hb).2.2.1 e
 funs:=I.stack
 frf:=I.stkFree
theorem Zks {X:Cx} {pins:List (Addr×Obj)} {σ:St} {H:Hp} {s3:Shared} {h1:Heap} {t:Nat} {scope:Scope} {cl:List (Str×Addr)} {N:List Str} {fr:List (Option Nat)} {fp:List Addr} (L:LcO X scope cl N fr) (I:Inv X pins σ H s3) (co:CellsOk h1 (s3.heap.objs.size+1) (cellsFrom (s3.heap.objs.size+1) scope.names []))
 (hf:∀ b∈fp,FpOk X pins H b) (hlt:∀ b∈fp,b < s3.heap.objs.size) {m0:Str→Option Value} (hns:h1.Ns s3.heap.objs.size m0) (hk:∀ b o,s3.heap.get? b=some o→h1.get? b=some o) :
 Inv (blk X scope cl s3.heap.objs.size N s3 H fp) [] (Zdf fr σ) H { s3 with heap:=h1,toks:=t } where
 ok:=Zmk L I co hf hlt
 os:=rfl
 bare:=I.bare
 base:=Un.kept hk
 loc:=⟨m0,hns,fun i x v e1 e2 e3=>by
  unfold Zdf at e2;rw [n3_] at e2;cases q:fr[i]? with
  | none=>rw [q] at e2; cases e2
  | some o =>
    rw [q] at e2;cases o with
    | none=>cases e2
    | some j =>
      obtain ⟨y,n1,n2,n3,n4,⟨c,hc⟩,n6⟩:=L.from' i j q;have e1':N[i]? = some x:=e1;rw [n1] at e1';cases e1'
      have e2':(match σ[j]? with | some v=>v | none=>none)=some v:=Option.some.inj e2
      have e2'':σ[j]? = some (some v):=by
       cases z:σ[j]? with
       | none=>rw [z] at e2'; cases e2'
       | some w'=>rw [z] at e2'; rw [show w'=some v from e2']
      obtain ⟨m,_,hl⟩:=I.loc;obtain ⟨u,r,lk⟩:=hl j x v n2 e2'' (.inr n3);refine ⟨u,r,.inr ⟨n4,c,?_,?_⟩⟩
      · show (cellsFrom (s3.heap.objs.size+1) scope.names cl).lookup x=some c
        rw [Yk,List.lookup_append];cases z:(cellsFrom (s3.heap.objs.size+1) scope.names []).lookup x with
        | none=>exact hc
        | some c'=>exact absurd (Zag _ _ (n28_ z)) n6
      rcases lk with ⟨k,_⟩ | ⟨k,c',hc',z⟩
      · exfalso
        have k':X.env.scope.names.lookup x=some .local:=k
        rcases n3 with z | z <;> rw [k'] at z <;> cases z
      · rw [L.sub x c hc] at hc';cases hc'
        obtain ⟨o,ho,hd⟩:=z;exact ⟨o,hk _ _ ho,hd⟩⟩
 cell:=fun x c e=>by
  rcases Zbs e with a | a
  · exact ⟨none,(co.empty x c (n28_ a)).1⟩
  · obtain ⟨v,o,ho,hd⟩:=I.cell x c (L.sub x c a);exact ⟨v,o,hk _ _ ho,hd⟩
 free:=I.hok.fresh (n5_ _)
 freeC:=fun x c e=>by
  rcases Zbs e with a | a
  · exact .inl (I.hok.fresh (Nat.le_of_succ_le (co.empty x c (n28_ a)).2))
  · refine (I.freeC x c (L.sub x c a)).imp id fun ⟨_,z⟩=>⟨Bool.eq_false_iff.mpr fun q=>?_,z⟩;obtain ⟨v,oc,hoc,_⟩:=I.cell x c (L.sub x c a);obtain ⟨c',e'⟩:=Z1 (sc:=scope) (n:=s3.heap.objs.size+1) (beq_iff_eq.mp (show (scope.names.lookup x == some .cell)=true from q));have e2:(cellsFrom (s3.heap.objs.size+1) scope.names cl).lookup x=some c:=e;rw [Yk,List.lookup_append,e'] at e2;cases e2
    exact absurd (n9_ (n13_ hoc) (Nat.le_of_succ_le (co.empty x c (n28_ e')).2)) (n70_ _)
 pin:=fun p hp=>absurd (show p∈([]:List (Addr×Obj)) from hp) (by simp)
 hok:=I.hok.kept hk
 len:=by
  unfold Zdf;rw [n4_];exact L.len
def PIfs (X:Cx) (ifs:List Expr) (t:TT):Prop :=
 ∀ (pins:List (Addr×Obj)) (s:Shared) (σ:St) (H:Hp) (Q:Bool→Hp→Prop),Inv X pins σ H s→t σ H Q →
   wpAny (model X.prog X.w) X.A (forIn ifs true fun c r=>if r=true then do let ok ← isTrue c X.env (eval c X.env); pure (ForInStep.yield ok) else pure (ForInStep.yield r)) (TP X pins σ Q) X.xe s
def tYes:TT:=fun _ H Q=>Q true H
theorem Za0 {σ:St} {H:Hp} {A B:Hp→Prop} (h:A H):tYes σ H (fun b H5=>if b=true then A H5 else B H5):=h
theorem Zat {i:Nat} {x:V} {σ:St} {H:Hp} {A B:St→Hp→Prop} (h:A (σ.set i (some x)) H):Z5 i x σ H fun σ4 H4=>tYes σ4 H4 fun b H5=>if b=true then A σ4 H5 else B σ4 H5:=h
theorem Zp {X:Cx}:PIfs X [] tYes:=fun _ _ _ H _ I h=>wpAny_tests_nil ⟨H,I,h⟩
theorem Zfm {X:Cx} {c:Expr} {t:TT} (h:PT X c t):PIfs X [c] t:=fun pins s σ H Q I hw=>wpAny_tests_one (h pins s σ H Q I hw)
def LcGo (J:It) (g:TG) (tt:TT) (te:TE) (σ0:St) (H1:Hp) (D:Addr) (Q:VK):Prop:=∃ W:Nat→Nat→St→Hp→Prop,(∃ m,W 0 m σ0 (upd H1 D (.lst []))) ∧
 ∀ i m σ2 H2,W i m σ2 H2→(J.stop i H2∧Q (.ref D) H2)∨(J.go i H2∧∀ x H3,J.yld i H2 x H3→g x σ2 H3 fun σ4 H4=>tt σ4 H4 fun b H5=>if b=true then te σ4 H5 fun y H6=>∃ ys,H6 D=some (.lst ys)∧ys.length < sizeLine ∧
   ∃ m',m' < m∧W (i+1) m' σ4 (upd H6 D (.lst (ys++[y]))) else ∃ m',m' < m∧W (i+1) m' σ4 H5)
def tLC (wi:TI) (g:TG) (tt:TT) (te:TE) (fr:List (Option Nat)):TE:=fun σ H Q=>wi σ H fun J H1=>∀ D,H1 D=none→LcGo J g tt te (Zdf fr σ) H1 D Q
abbrev NoX:Value→Shared→Prop:=fun _ _=>False
theorem Zkj {X:Cx} {pins:List (Addr×Obj)} {σ σ7:St} {H3 H7:Hp} {s3 s7:Shared} {scope:Scope} {cl:List (Str×Addr)} {N:List Str} {fp:List Addr} (I3:Inv X pins σ H3 s3) (f3:∀ b∈fp,FpOk X pins H3 b) (I7:Inv (blk X scope cl s3.heap.objs.size N s3 H3 fp) [] σ7 H7 s7) :
 ∃ m7,s7.heap.Ns s3.heap.objs.size m7∧∀ h8,Heap.SameBut s3.heap.objs.size s7.heap h8→Inv X pins σ H7 { s7 with heap:=h8 }:=by
 obtain ⟨m7,hn7,_⟩:=I7.loc;refine ⟨m7,hn7,fun h8 sb8=>?_⟩;have un:=I7.base;have neC:∀ b o,s3.heap.get? b=some o→b≠s3.heap.objs.size:=fun b o e=>n36_ (n13_ e);refine I3.call' (s':={ s7 with heap:=h8 }) (ch:=fp) I7.os ?_ (Zos I7.hok I7.free sb8) I7.bare (fun b hb=>⟨(f3 b hb).2.2.2.1,(f3 b hb).2.1,(f3 b hb).2.2.2.2.1,(f3 b hb).2.2.2.2.2⟩);refine ⟨fun b o e n' hb hx=>?_,fun b o e n' hb hx=>?_,un.free,fun b o e hx=>?_,un.tups,un.frzs,un.tbls⟩
 · exact sb8.extBut b o (neC b o e) (un.keep b o e n' hb hx)
 · obtain ⟨sl,q⟩:=un.slot b o e n' hb hx;exact ⟨sl,sb8.extBut b _ (neC b o e) q⟩
 · obtain ⟨o',q⟩:=un.there b o e hx;exact ⟨o',sb8.extBut b _ (neC b o e) q⟩
def Zqs (M:Model) (A:Around) (tg:Expr) (it:Value) (env:Env) (R:Result→Shared→Prop) (B:Nat→Shared→Prop) (n:Nat) (s:Shared):Prop :=
 wpAny M A (pyNext it) (fun r s1=>match r with
  | none=>R (.ok .next) s1
  | some v=>wpAny M A (letOwnedTupleGo tg it v) (fun _ s0=>wpAny M A (assign tg env v) (fun _ s2=>B n s2) NoX s0) NoX s1) NoX s
theorem Zje {X:Cx} {pins:List (Addr×Obj)} {σ:St} {H2:Hp} {s2:Shared} {scope:Scope} {cl:List (Str×Addr)} {N:List Str} {fr:List (Option Nat)} {tg:Expr} {g:TG} {J:It} {fp:List Addr} {it:Addr} {tn:Nat→Heap→Prop} {ac:HO} {o0:Obj} {W:Nat→Nat→St→Hp→Prop} {m0:Nat} {Qn:Hp→Prop} {Kn:Nat→Nat→St→Hp→Prop} {c:Expr} {R:Addr→Result→Shared→Prop} {B:(Nat→Shared→Prop)→Nat→Shared→Prop} {s3:Shared}
 (hs3:s3={ s2 with heap:=s2.heap.push o0 }) (hc:X.calm=true) (L:LcO X scope cl N fr) (hg:∀ C s3 H3 fp,PG (blk X scope cl C N s3 H3 fp) tg g)
 (I2:Inv X pins σ H2 s2) (T:Turn X.prog X.w X.K tg J fp it tn) (st2:tn 0 s2.heap) (f2:∀ b∈fp,FpOk X pins H2 b)
 (ok0:ObjOk X.prog X.w (upd H2 s2.heap.objs.size ac) (s2.heap.push o0) s2.heap.objs.size ac) (w0:W 0 m0 (Zdf fr σ) (upd H2 s2.heap.objs.size ac))
 (turn:∀ i m σ2 H2,W i m σ2 H2→(J.stop i H2∧Qn H2)∨(J.go i H2∧∀ x H3,J.yld i H2 x H3→g x σ2 H3 (Kn i m)))
 (Zal:∀ env s4,codeAny (model X.prog X.w) X.A (.compLoop c 0 (.ref it) (.ref s2.heap.objs.size) env) (R s3.heap.objs.size) s4→(∀ E,wpAny (model X.prog X.w) X.A (pyIter (.ref it)) (fun it' s'=>codeAny (model X.prog X.w) X.A (.compLoop c 0 it' (.ref s2.heap.objs.size) env) (R s3.heap.objs.size) s') E s4)→codeAny (model X.prog X.w) X.A (.compStart c 0 (.ref it) (.ref s2.heap.objs.size) env) (R s3.heap.objs.size) s4)
 (loop:∀ (LI:Nat→Shared→Prop) s4,(∀ n s,LI n s→Zqs (model X.prog X.w) X.A tg (.ref it) (blk X scope cl s3.heap.objs.size N s3 (upd H2 s2.heap.objs.size ac) fp).env (R s3.heap.objs.size) (B LI) n s)→∀ n,LI n s4→codeAny (model X.prog X.w) X.A (.compLoop c 0 (.ref it) (.ref s2.heap.objs.size) (blk X scope cl s3.heap.objs.size N s3 (upd H2 s2.heap.objs.size ac) fp).env) (R s3.heap.objs.size) s4)
 (stop:∀ H7 s7,Qn H7→Inv X pins σ (upd H2 s2.heap.objs.size ac) s3→H7 s3.heap.objs.size=none→(∃ m7,s7.heap.Ns s3.heap.objs.size m7∧∀ h8,Heap.SameBut s3.heap.objs.size s7.heap h8→Inv X pins σ H7 { s7 with heap:=h8 })→R s3.heap.objs.size (.ok .next) s7)
 (body:∀ (LI:Nat→Shared→Prop) n i σ9 H9 s9 ps,Inv (blk X scope cl s3.heap.objs.size N s3 (upd H2 s2.heap.objs.size ac) fp) ps σ9 H9 s9→Kn i n σ9 H9→(∀ {s11:Shared} {σ11:St} {H11:Hp} {m':Nat},Inv (blk X scope cl s3.heap.objs.size N s3 (upd H2 s2.heap.objs.size ac) fp) ps σ11 H11 s11→m' < n→W (i+1) m' σ11 H11→∃ m,m < n∧LI m s11)→B LI n s9) :
 wpAny (model X.prog X.w) X.A (newFunctionEnv scope X.env.globals cl [] X.env.qual none .none (some X.env)) (fun cenv s4=>codeAny (model X.prog X.w) X.A (.compStart c 0 (.ref it) (.ref s2.heap.objs.size) { cenv with scope:=relabel scope X.env }) (R cenv.locals) s4) X.xe s3:=by
 have fplt:∀ b∈fp,b < s2.heap.objs.size:=fun b hb=>by
  obtain ⟨o,q,_⟩:=T.obj _ _ st2 b hb;exact n13_ q
 have k3:∀ b o,s2.heap.get? b=some o→s3.heap.get? b=some o:=fun b o e=>by rw [hs3]; exact n2_ _ e
 have I3:Inv X pins σ (upd H2 s2.heap.objs.size ac) s3:=by rw [hs3]; exact I2.laid (t':=s2.toks) (fun b o e=>n2_ _ e) (n5_ _) ok0
 have f3:∀ b∈fp,FpOk X pins (upd H2 s2.heap.objs.size ac) b:=fun b hb=>⟨by rw [Zo (n36_ (fplt b hb))]; exact (f2 b hb).1,(f2 b hb).2⟩;have st3:tn 0 s3.heap:=T.keep _ _ _ st2 fun b hb o e=>k3 b o e
 have fplt3:∀ b∈fp,b < s3.heap.objs.size:=fun b hb=>by
  obtain ⟨o,q,_⟩:=T.obj _ _ st2 b hb;exact n13_ (k3 _ _ q)
 generalize upd H2 s2.heap.objs.size ac=H3 at *;refine Zj5 fun h1 hns1 k4 ok3=>?_;have I4:=Zks (t:=s3.toks) L I3 ok3 f3 fplt3 hns1 k4;have st4:tn 0 h1:=T.keep _ _ _ st3 fun b hb o e=>k4 b o e
 have fpB:∀ {H':Hp} (b:Addr),b∈fp→H' b=none→FpOk (blk X scope cl s3.heap.objs.size N s3 H3 fp) [] H' b:=fun b hb hn =>
  ⟨hn,n36_ (fplt3 b hb),fun z=>(Zmk L I3 ok3 f3 fplt3).exfs b hb z,.inl hb,fun x c e=>((Zmk L I3 ok3 f3 fplt3).exf b hb).2 x c e,fun p hp=>absurd (show p∈([]:List (Addr×Obj)) from hp) (by simp)⟩
 have lp:=loop (fun n s'=>∃ i σ' H',Inv (blk X scope cl s3.heap.objs.size N s3 H3 fp) [] σ' H' s'∧tn i s'.heap∧(∀ b∈fp,H' b=none)∧W i n σ' H') { s3 with heap:=h1 } (fun n s6=>?_) m0 ⟨0,_,_,I4,st4,fun b hb=>(f3 b hb).1,w0⟩
 · exact Zal _ _ lp fun E=>T.self _ 0 _ _ _ st4 lp
 · rintro ⟨i,σ6,H6,I6,st6,fr6,w6⟩
   unfold Zqs
   rcases turn i n σ6 H6 w6 with ⟨sp,qn⟩ | ⟨go,step⟩
   · refine thn (T.done (blk X scope cl s3.heap.objs.size N s3 H3 fp) rfl rfl rfl hc i [] s6 σ6 H6 (fun _ _=>False) I6 (fun b hb=>fpB b hb (fr6 b hb)) st6 sp) fun r s7 ⟨hr,I7⟩=>?_;subst hr;exact stop _ _ qn I3 I7.free (Zkj I3 f3 I7)
   · refine thn (T.item (blk X scope cl s3.heap.objs.size N s3 H3 fp) rfl rfl rfl hc i [] s6 σ6 H6 (fun _ _=>False) I6 (fun b hb=>fpB b hb (fr6 b hb)) st6 go) fun r s7 ⟨u,hr,h7⟩=>?_;subst hr;refine thn h7 fun _ s8 ⟨x,H8,I8,r8,y8,st8,fr8⟩=>?_;have I8':=I8.pinned (fun b hb=>fpB b hb (fr8 b hb)) (T.obj _ _ st8);refine thn (hg _ _ _ _ _ s8 σ6 H8 x u _ I8' r8 (step x H8 y8)) fun _ s9 ⟨σ9,H9,I9,q9⟩=>?_;refine body _ n i σ9 H9 s9 _ I9 q9 fun {s11 σ11 H11 m'} I11 hm w11=>?_;refine ⟨m',hm,i+1,σ11,H11,I11.unpinned,T.keep _ _ _ st8 fun b hb o e=>(I11.pin (b,o) (n30_ _ (n30_ _ (X9 hb e)))).1,fun b hb=>?_,w11⟩;obtain ⟨o,e,d⟩:=T.obj _ _ st8 b hb;exact (I11.pin (b,o) (n30_ _ (n30_ _ (X9 hb e)))).2.1
theorem Zkk {X:Cx} {scope:Scope} {cl:List (Str×Addr)} {N:List Str} {ifs:List Expr} {elt:Expr} {tt:TT} {te:TE} {D:Addr} {W:Nat→Nat→St→Hp→Prop} {C0:Addr} {s30:Shared} {H30:Hp} {fp0:List Addr}
 (ht:∀ C s3 H3 fp,PIfs (blk X scope cl C N s3 H3 fp) ifs tt) (he:∀ C s3 H3 fp,PE (blk X scope cl C N s3 H3 fp) elt te) (LI:Nat→Shared→Prop) (n i:Nat) (σ9:St) (H9:Hp) (s9:Shared) (ps:List (Addr×Obj)) (I9:Inv (blk X scope cl C0 N s30 H30 fp0) ps σ9 H9 s9)
 (q9:tt σ9 H9 fun b H5=>if b=true then te σ9 H5 fun y H6=>∃ ys,H6 D=some (.lst ys)∧ys.length < sizeLine∧∃ m',m' < n∧W (i+1) m' σ9 (upd H6 D (.lst (ys++[y]))) else ∃ m',m' < n∧W (i+1) m' σ9 H5)
 (again:∀ {s11:Shared} {σ11:St} {H11:Hp} {m':Nat},Inv (blk X scope cl C0 N s30 H30 fp0) ps σ11 H11 s11→m' < n→W (i+1) m' σ11 H11→∃ m,m < n∧LI m s11) :
 wpAny (model X.prog X.w) X.A (forIn ifs true fun c r=>if r=true then do let ok ← isTrue c (blk X scope cl C0 N s30 H30 fp0).env (eval c (blk X scope cl C0 N s30 H30 fp0).env); pure (ForInStep.yield ok) else pure (ForInStep.yield r)) (fun ok s₃ =>
  if ok=true then wpAny (model X.prog X.w) X.A (eval elt (blk X scope cl C0 N s30 H30 fp0).env) (fun x s₄ =>
   wpAny (model X.prog X.w) X.A (call (.builtin "list.append") [.ref D,x]) (fun _ s₅=>∃ m,m < n∧LI m s₅) (fun _ _=>False) s₄) (fun _ _=>False) s₃
  else ∃ m,m < n∧LI m s₃) (fun _ _=>False) s9:=by
 refine thn (ht _ _ _ _ ps s9 σ9 H9 _ I9 q9) fun b s10 ⟨H10,I10,q10⟩=>?_;cases b with
 | false =>
   obtain ⟨m',hm,w11⟩:=q10;exact again I10 hm w11
 | true =>
   refine thn (he _ _ _ _ ps s10 σ9 H10 _ I10 q10) fun y s11 ⟨yv,H11,I11,r11,ys,hys,hz,m',hm,w11⟩=>?_
   have ap:=Ym (X:=blk X scope cl C0 N s30 H30 fp0) _ s11 σ9 H11 (.ref D) [yv] (.ref D) [y] (fun _ H'=>W (i+1) m' σ9 H') I11 rfl (.cons r11 .nil)
    ⟨_,ys,yv,rfl,rfl,hys,hz,w11⟩
   exact thn ap fun _ s12 ⟨_,H12,I12,_,q12⟩=>again I12 hm q12
theorem Zo3 {X:Cx} {pins:List (Addr×Obj)} {σ:St} {Q:VK} {H7:Hp} {s7:Shared} {C D:Addr} (qn:Q (.ref D) H7) (c:∃ m7,s7.heap.Ns C m7∧∀ h8,Heap.SameBut C s7.heap h8→Inv X pins σ H7 { s7 with heap:=h8 }):compPost (model X.prog X.w) X.A X.xe none (EP X pins σ Q) (.ref D) C (.ok .next) s7 :=
 let ⟨m7,hn7,c7⟩:=c
 ⟨m7,hn7,fun h8 sb8=>⟨.ref _,H7,c7 h8 sb8,rfl,qn⟩⟩
theorem Y5 {X:Cx} {tg elt iter:Expr} {ifs:List Expr} {scope:Scope} {cl:List (Str×Addr)} {N:List Str} {fr:List (Option Nat)} {pos:Pos} {wi:TI} {g:TG} {tt:TT} {te:TE}
 (hc:X.calm=true) (L:LcO X scope cl N fr) (hi:PI X tg iter wi) (hg:∀ C s3 H3 fp,PG (blk X scope cl C N s3 H3 fp) tg g)
 (ht:∀ C s3 H3 fp,PIfs (blk X scope cl C N s3 H3 fp) ifs tt) (he:∀ C s3 H3 fp,PE (blk X scope cl C N s3 H3 fp) elt te)
 (hs:∀ x,foldedSetIterable iter X.env x=pure x:=by intro _; rfl):PE X (.ListComp elt [⟨tg,iter,ifs,0⟩] scope pos) (tLC wi g tt te fr):=by
 intro pins s σ H Q I h;rw [eval_ListComp];refine wpAny_comprehension_free (use:=none) rfl hs L.clos L.kind L.names (thn (hi pins s σ H _ I h) fun v s1 h1=>thn h1 fun itv s2 h2=>?_);obtain ⟨it,fp,tn,J,H2,e,I2,T,st2,f2,h⟩:=h2;subst e;obtain ⟨W,⟨m0,w0⟩,turn⟩:=h s2.heap.objs.size (I2.hok.fresh (n5_ _));refine wpAny_newObj_type ?_;refine Zje (ac:=.lst []) rfl hc L hg I2 T st2 f2 ⟨n55_ _,[],_,.nil,n11_ _ rfl⟩ w0 turn (fun _ _ a b=>codeAny_compStart_list a (b _)) (fun LI s4 t n h=>Zco LI t n h) (fun H7 s7 qn _ _ c=>Zo3 qn c) (Zkk ht he)
def LcN (n:Nat) (Pv:Nat→St→Hp→Prop) (i m:Nat) (σ:St) (H:Hp):Prop:=i≤n∧m=n - i∧Pv i σ H
theorem Zjd {n i:Nat} {Pv:Nat→St→Hp→Prop} {σ:St} {H:Hp} {D:Addr} {ys:List V} {y:V} (hi:i < n) (hD:H D=some (.lst ys)) (hl:ys.length < sizeLine) (p:Pv (i+1) σ (upd H D (.lst (ys++[y])))) :
 ∃ ys,H D=some (.lst ys)∧ys.length < sizeLine∧∃ m',m' < n - i∧LcN n Pv (i+1) m' σ (upd H D (.lst (ys++[y]))):=⟨ys,hD,hl,n - (i+1),by omega,by omega,rfl,p⟩
end L2
namespace L2
open PySem PySem.Spec PyProof.Rows
section
variable {X:Cx}
def Zpw (i j:Int):Prop:=j≠0∧j.natAbs < 2 ^ 8999
theorem Zkg {a n:Nat} (h:a < 2 ^ n) (hn:0 < n):a.log2 < n:=by
 rcases Nat.eq_zero_or_pos a with rfl | hp
 · simpa using hn
 · exact (Nat.log2_lt (Nat.ne_of_gt hp)).mpr h
theorem Yo:OpR X (binaryOp .FloorDiv) (rI Zpw fun i j=>.int (i.fdiv j)):=opI fun _ _ _ _ _ _ _ hc q=>floordiv_int hc.1 q (.inl (PyProof.noPylong_of_log2 (Nat.lt_trans (Zkg hc.2 (by decide)) (by decide))))
def CMulB (i j:Int):Prop:=i.natAbs < 2 ^ 1000000∧j.natAbs < 2 ^ 1000000
theorem Zh5 {i:Int} {n:Nat} (h:i.natAbs < 2 ^ n) (hn:0 < n):Builtin.Int.intBits i≤n:=by
 unfold Builtin.Int.intBits;split
 · exact n55_ _
 · exact Zkg h hn
theorem CMulB.ok {i j:Int} (h:CMulB i j):IntMulOk i j:=by
 unfold IntMulOk;have h1:=Zh5 h.1 (by decide);have h2:=Zh5 h.2 (by decide)
 have:Builtin.Int.intTooBig (Builtin.Int.intBits i+Builtin.Int.intBits j:Nat)=false:=by
  unfold Builtin.Int.intTooBig bitsLine;refine n14_ ?_;omega
 intro z;rw [n22_] at z;rw [show ((Builtin.Int.intBits i:Int)+(Builtin.Int.intBits j:Int))=((Builtin.Int.intBits i+Builtin.Int.intBits j:Nat):Int) by omega,this] at z;exact absurd z.2 (by decide)
theorem Yq:OpR X (binaryOp .Mult) (rI CMulB fun i j=>.int (i * j)):=opI fun _ _ _ _ _ _ _ hc q=>mul_int q hc.ok
theorem Zf2:∀ {ns:List Int} {us:List Value},Vals (ns.map V.int) us→∀ j (h:j < us.length),∃ t,us[j]=Value.int (ns.getD j 0) t
 | [],_,.nil,j,h=>absurd h (by simp)
 | n :: ns,u :: us,.cons r t,0,h=>by
   obtain ⟨k,rfl⟩:=(show ∃ k,u=Value.int n k from r);exact ⟨k,rfl⟩
 | n :: ns,u :: us,.cons r t,j+1,h=>by
   obtain ⟨k,e⟩:=Zf2 t j (by simpa using h);exact ⟨k,by simpa using e⟩
def eqNs (ns ms:List Int):Bool:=(List.range (min ns.length ms.length)).all (fun j=>ns.getD j 0 == ms.getD j 0) && ns.length == ms.length
theorem Znj {ns ms:List Int}:eqNs ns ms=decide (ns=ms):=by
 unfold eqNs
 by_cases h:ns=ms
 · subst h
   simp
 · rw [n14_ h];rw [Bool.and_eq_false_iff]
   by_cases hl:ns.length=ms.length
   · left
     rw [Bool.eq_false_iff];intro z;rw [n42_] at z;apply h
     apply List.ext_getElem hl
     intro i h1 h2
     have:=z i (by simp; omega)
     simpa [h1,h2] using this
   · right
     simpa using hl
def rEqT (K:PySem.W.Frag) (neg:Bool):R2:=fun x y H Q=>∃ (a b:Addr) (ns ms:List Int),x=.ref a∧y=.ref b∧SqT K H a (ns.map V.int)∧SqT K H b (ms.map V.int)∧Q (.bl (if neg then !decide (ns=ms) else decide (ns=ms))) H
theorem Zl8 {A:Around} {s:Shared} {ns ms:List Int} {us ws:List Value} (r1:Vals (ns.map V.int) us) (r2:Vals (ms.map V.int) ws) (j:Nat) (h1:j < us.toArray.size) (h2:j < ws.toArray.size):SeqAt.EqAt A s us.toArray[j] ws.toArray[j] (ns.getD j 0 == ms.getD j 0):=by
 simp only [n7_] at h1 h2;simp only [List.getElem_toArray];obtain ⟨t,e⟩:=Zf2 r1 j h1;obtain ⟨t',e'⟩:=Zf2 r2 j h2;rw [e,e'];exact SeqAt.EqAt.int_int _ _ _ _
theorem Zpv (hu:X.A.units < cLine):OpR X (compareOp .Eq) (rEqT X.K false):=by
 intro pins s σ H x y v u Q I rx ry h;obtain ⟨a,b,ns,ms,rfl,rfl,h1,h2,q⟩:=h;cases rx; cases ry
 obtain ⟨us,r1,p1,_⟩:=I.tuple h1;obtain ⟨ws,r2,p2,_⟩:=I.tuple h2;refine SeqAt.eq_tupleAt (e:=fun j=>ns.getD j 0 == ms.getD j 0) p1 p2 hu (fun j h1 h2=>Zl8 r1 r2 j h1 h2) ⟨.bl _,H,I,rfl,?_⟩;have l1:=r1.length;have l2:=r2.length;rw [n4_] at l1 l2;rw [n7_,n7_,← l1,← l2];rw [show ((List.range (min ns.length ms.length)).all (fun j=>ns.getD j 0 == ms.getD j 0) && ns.length == ms.length)=eqNs ns ms from rfl,Znj];exact q
theorem Ys:Zak X (.builtin "isinstance") (fun xs H Q=>∃ x T t b,xs=[x,.ty T]∧TyOf X.K H x t∧PySem.W.kitOne X.K t (.type T)=some b∧Q (.bl b) H):=by
 intro pins s σ H xs us Q I r h;obtain ⟨x,T,t,b,rfl,ty,e,q⟩:=h;cases r with
 | cons rx r =>
   cases r with
   | cons ry r =>
     cases r
     cases (show _=Value.type T from ry)
     exact Zk4 I rx ty e fun tk=>⟨.bl b,H,I.tok _,rfl,q⟩
theorem Zch:∀ {bs:List Bool} {us:List Value} {i:Nat} {v:Value},Vals (bs.map V.bl) us→us[i]? = some v→∃ b,bs[i]? = some b∧v=Value.bool b
 | [],_,i,v,.nil,e=>by simp at e
 | b :: bs,u :: us,0,v,.cons r t,e=>by
   simp at e; subst e;exact ⟨b,rfl,r⟩
 | b :: bs,u :: us,i+1,v,.cons r t,e=>by
   obtain ⟨c,h1,h2⟩:=Zch t (by simpa using e);exact ⟨c,by simpa using h1,h2⟩
theorem Zeu:∀ (bs:List Bool),((List.range bs.length).all fun i=>(bs[i]?).getD true)=bs.all id
 | []=>rfl
 | b :: bs=>by
   rw [n16_,List.range_succ_eq_map,List.all_cons,List.all_map,List.all_cons,← Zeu bs];rfl
theorem Zho {s:Shared} {h':Heap} {o:Obj} (hk:∀ b x,b∉[s.heap.objs.size]→(s.heap.push o).get? b=some x→h'.get? b=some x):∀ b x,s.heap.get? b=some x→h'.get? b=some x :=
 fun b x e=>hk b x (fun hm=>by rw [n8_.mp hm] at e; exact n70_ _ (n13_ e)) (n2_ _ e)
theorem Y9 (hc:X.calm=true):Zak X (.builtin "all") (fun xs H Q=>∃ (p:Addr) (bs:List Bool),xs=[.ref p]∧SqL X.K H p (bs.map V.bl)∧Q (.bl (bs.all id)) H):=by
 intro pins s σ H xs us Q I r h;obtain ⟨p,bs,rfl,hq,q⟩:=h;cases r with
 | cons rx r =>
   cases r
   cases (show _=Value.ref p from rx)
   obtain ⟨its,rv,pl,hz⟩:=I.list hq;have hl:=pl.isList;have hlt:p < s.heap.objs.size:=by obtain ⟨_,e,_⟩:=hl; exact n13_ e
   have hh:X.A.handled=none:=I.ok.hd hc;refine call_all_walk (wpAny_pyIter_list hl ?_)
   refine ⟨s.heap.objs.size,[s.heap.objs.size,p],[s.heap.objs.size],its.toArray.size,_,_,fun i=>(bs[i]?).getD true,rfl,Walks.list (A:=X.A.in1) hh _ p (n36_ hlt) its.toArray,
    ⟨⟨_,n11_ _ rfl,rfl,rfl⟩,hl.push _⟩,fun i v s' Q' E' hP hQ=>?_,fun h' tk hk=>?_⟩
   · obtain ⟨b,e,rfl⟩:=Zch rv (show its[i]? = some v by simpa using hP);simp only [e,Option.getD_some] at hQ;exact wpAny_truthy_bool hQ
   · have e:((List.range its.toArray.size).all fun i=>(bs[i]?).getD true)=bs.all id:=by
      rw [n7_,← rv.length,n4_]; exact Zeu bs
     rw [e];exact ⟨.bl _,H,I.kept (Zho hk),rfl,q⟩
def Zpd:V→List V→Hp→VK→Prop:=fun x vs H Q=>∃ (l:Addr) (bs:List Bool) (c:Bool),x=.ref l∧vs=[.bl c]∧H l=some (.lst (bs.map V.bl))∧Q (.int (bs.countP (· == c):Nat)) H
theorem Zg6 {c:Bool}:∀ {bs:List Bool} {us:List Value},Vals (bs.map V.bl) us→us.countP (eqU (.bl c))=bs.countP (· == c)
 | [],_,.nil=>rfl
 | b :: bs,u :: us,.cons r t=>by
   rw [List.countP_cons,List.countP_cons,Zg6 t,Zl3 r rfl];rfl
theorem Zi2:∀ (bs:List Bool),(bs.map V.bl).all Zd6=true
 | []=>rfl
 | _ :: bs=>by rw [List.map_cons,List.all_cons,Zi2 bs]; rfl
theorem Zmq:MtR X "list.count" Zpd:=by
 intro pins s σ H x vs v us Q I rx rv h;obtain ⟨l,bs,c,rfl,rfl,hH,q⟩:=h;cases rx
 obtain ⟨u,rfl,ru⟩:=rv.one;obtain ⟨its,n,r,e,hz⟩:=I.lst hH;refine call_meets F.slot_list_count ⟨_,e,rfl⟩ F.entry_list_count (F.args_list_count_2 _ _) (SeqAt.list_countAt l its.toArray n none #[] u (eqU (.bl c))) ⟨e,fun y hy=>Zc1 ru rfl r (Zi2 bs) y (by simpa using hy),?_⟩;refine ⟨.int _,H,I.tok _,⟨_,rfl⟩,?_⟩;have z:(its.toArray.toList.countP (eqU (.bl c)))=bs.countP (· == c):=Zg6 r;rw [z];exact q
end
structure Cal (P:Program) (w:World) (K:PySem.W.Frag) (mg:Str→Option Value) (base:Heap) (x:Str) (k:Nat) (ps:List Str) (sp:Sp):Prop where
 ex:∃ (f:Addr) (fd:FuncData),FnOk P w K mg base CX0 k f fd ps sp∧mg x=some (.ref f)∧PySem.W.keepIn K (.ref f)=true∧Binds K fd ps []
theorem Zl {X:Cx} {x:Str} {k j:Nat} {ps:List Str} {sp:Sp} {p pos:Pos} {e:Expr} {es:List Expr} {t:TA} (C:Cal X.prog X.w X.K X.mg X.base x k ps sp) (hr:Room j X.A) (hj:k≤j) (hg:Gl X x) (ha:PA X (e :: es) t)
 (hdb:(x == ("__debug__" : Str))=false:=by decide) (he:starEach (e :: es) X.env=(false,eval e X.env) :: starEach es X.env:=by rfl) (hpl:(backTo pos (starEach es X.env)).any (·.1)=false:=by rfl) :
 PE X (.Call (.Name x p) (e :: es) [] pos) (fun σ H Q=>t σ H fun vs H1=>sp vs H1 Q E0):=by
 obtain ⟨f,fd,F,hm,hk,hb⟩:=C.ex;have h:=Zk0 (dvs:=[]) (E:=E0) (p:=p) F (hr.mono hj) hg hm hk hb .nil Zrd ha hdb he hpl;intro pins s σ H Q I hw;refine h pins s σ H Q I ?_;unfold Zpq
 simpa only [List.append_nil] using hw
end L2
namespace L2
open PySem PySem.Spec PyProof.Rows
structure FunD (K:PySem.W.Frag) (x qual:Str) (st:Stmt) (f:Addr) (fd:FuncData):Prop where
 ex:∃ (oc:Value) (od:Option Addr) (dV kV doc pm:Value) (an:Option Addr) (cdv ct:Value) (osl:Array (Option Value)),
  fd=PySem.W.fnOf x qual (Yr st) (Yh st) (Ze st) dV kV doc pm an cdv ct∧K.lookup f=some ⟨oc,od,.func fd,osl⟩∧PySem.W.codeIn K cdv qual=true
 kp:PySem.W.keepIn K (.ref f)=true
section
variable {P:Program} {w:World} {K:PySem.W.Frag} {mg:Str→Option Value} {base:Heap}
theorem FunD.ok {x qual:Str} {st:Stmt} {f:Addr} {fd:FuncData} {N ps:List Str} {k:Nat} {sp:Sp} (F:FunD K x qual st f fd) (S:FnScope N ps (Ze st)) (len:∀ vs H Q E,sp vs H Q E→vs.length=ps.length)
 (hbody:∀ (cdv:Value) (A:Around) (outer:List Env) (s:Shared) (H:Hp) (vs:List V) (Q:VK) (E:XK),Room k (A.deeper (envOfC qual (Ze st) s.heap.objs.size f cdv))→sp vs H Q E →
   ∃ t,PSs (cxOf CX0 P w K mg base N qual (Ze st) f cdv A outer s H E).nox (Yh st) t∧t { nx:=fun _ H'=>Q .non H',rt:=Q } (Zal N vs) H):FnOk P w K mg base CX0 (k+1) f fd ps sp:=by
 obtain ⟨oc,od,dV,kV,doc,pm,an,cdv,ct,osl,rfl,lk,hcd⟩:=F.ex;refine Zno lk hcd S len fun A outer s H vs Q E hr hsp=>?_;obtain ⟨t,h,q⟩:=hbody cdv A outer s H vs Q E hr hsp;exact ⟨t,h.nox,q⟩
theorem Zoy {x qual:Str} {st:Stmt} {f:Addr} {oc:Value} {od an:Option Addr} {osl:Array (Option Value)} {dV kV doc pm cdv ct:Value} (l:K.lookup f=some ⟨oc,od,.func (PySem.W.fnOf x qual (Yr st) (Yh st) (Ze st) dV kV doc pm an cdv ct),osl⟩)
 (c:PySem.W.codeIn K cdv qual=true) (k:PySem.W.keepIn K (.ref f)=true):FunD K x qual st f (PySem.W.fnOf x qual (Yr st) (Yh st) (Ze st) dV kV doc pm an cdv ct):=⟨⟨oc,od,dV,kV,doc,pm,an,cdv,ct,osl,rfl,l,c⟩,k⟩
end
def Keep (l:Addr) (H H':Hp):Prop:=∀ b o,b≠l→H b=some o→H' b=some o
theorem Keep.refl (l:Addr) (H:Hp):Keep l H H:=fun _ _ _ h=>h
theorem Keep.trans {l:Addr} {H H1 H2:Hp} (a:Keep l H H1) (b:Keep l H1 H2):Keep l H H2:=fun c o n h=>b c o n (a c o n h)
theorem Keep.new {l p:Addr} {H:Hp} {o:HO} (h:H p=none):Keep l H (upd H p o):=fun b u _ e=>by rw [Zo (Zk e h)]; exact e
theorem Keep.upd {l:Addr} {H:Hp} {o:HO}:Keep l H (upd H l o):=fun b u n e=>by rw [Zo n]; exact e
theorem Same.new {p:Addr} {H:Hp} {o:HO} (h:H p=none):Same H (upd H p o):=fun b u e=>by rw [Zo (Zk e h)]; exact e
theorem Same.keep {l:Addr} {H H':Hp} (s:Same H H'):Keep l H H':=fun b o _ e=>s b o e
end L2
namespace L2
open PySem PySem.Spec PyProof.Rows
theorem Zdm:∀ (xs:List PyData),(PyData.shownAll xs).length=xs.length
 | []=>rfl
 | _ :: xs=>by simp only [PyData.shownAll,n16_,Zdm xs]
section
variable {X:Cx}
end
end L2
namespace L2
open PySem PySem.Spec PyProof.Rows
end L2
namespace L2
open PySem PySem.Spec PyProof.Rows
def Y2 (cells:List (Str×Addr)) (names:List (Str×NameKind)):List (Str×Addr):=((names.filter (fun y=>y.2 == .free)).map fun y=>(y.1,(cells.lookup y.1).getD 0)).reverse
theorem Zcq {env:Env}:∀ (names:List (Str×NameKind)) (acc:List (Str×Addr)),(∀ y∈names,y.2=.free→∃ c,env.cells.lookup y.1=some c) →
 (forIn names acc (fun (x:Str×NameKind) (r:List (Str×Addr))=>do
   if x.2 == .free then do
    let a ← cellOf env x.1
    pure (ForInStep.yield ((x.1,a) :: r))
   else pure (ForInStep.yield r)):Sem (List (Str×Addr)))=pure (Y2 env.cells names++acc)
 | [],acc,_=>rfl
 | (n,k) :: rest,acc,h=>by
   have ih:=fun acc=>Zcq rest acc fun y hy=>h y (n12_ _ hy);rw [List.forIn_cons]
   by_cases hk:k=.free
   · subst hk;obtain ⟨c,hc⟩:=h (n,.free) n15_ rfl;have e:cellOf env n=pure c:=by unfold cellOf; rw [hc]
     have e2:Y2 env.cells ((n,.free) :: rest)=Y2 env.cells rest++[(n,c)]:=by
      unfold Y2;rw [List.filter_cons_of_pos (by rfl),List.map_cons,List.reverse_cons,hc];rfl
     simp only [beq_self_eq_true,if_true,e,pure_bind];rw [ih,e2,List.append_assoc];rfl
   · have b:(k == NameKind.free)=false:=by simpa using hk
     have e2:Y2 env.cells ((n,k) :: rest)=Y2 env.cells rest:=by
      unfold Y2;rw [List.filter_cons_of_neg (by simpa using hk)]
     simp only [b,Bool.false_eq_true,if_false,pure_bind];rw [ih,e2]
theorem Zcx {scope:Scope} {env:Env} (h:∀ y∈scope.names,y.2=.free→∃ c,env.cells.lookup y.1=some c):closureFor scope env=pure (Y2 env.cells scope.names):=by
 have e:=Zcq scope.names [] h;rw [List.append_nil] at e;unfold closureFor
 first
  | (rw [← e]; rfl)
  | (simp only [bind_pure]; exact e)
  | simpa using e
end L2
namespace L2
open PySem PySem.Spec PyProof.Rows
mutual
inductive Dt (N:Addr→Prop) (H:Hp) (k:Nat):V→PyData→Prop
 | non:Dt N H k .non .none
 | bl (b:Bool):Dt N H k (.bl b) (.bool b)
 | int {i:Int}:i.natAbs < 2 ^ k→Dt N H k (.int i) (.int i)
 | str (x:Str):Dt N H k (.str x) (.str x)
 | tup {a:Addr} {xs:List V} {ds:List PyData}:H a=some (.tup xs)→Dts N H k xs ds→Dt N H k (.ref a) (.tuple ds)
 | lst {a:Addr} {xs:List V} {ds:List PyData}:H a=some (.lst xs)→¬ N a→a≠sysModules→Dts N H k xs ds→Dt N H k (.ref a) (.list ds)
 | dic {a:Addr}:H a=some (.dK [])→Dt N H k (.ref a) (.dict [])
inductive Dts (N:Addr→Prop) (H:Hp) (k:Nat):List V→List PyData→Prop
 | nil:Dts N H k [] []
 | cons {x:V} {xs:List V} {d:PyData} {ds:List PyData}:Dt N H k x d→Dts N H k xs ds→Dts N H k (x :: xs) (d :: ds)
end
variable {N:Addr→Prop} {k:Nat}
mutual
theorem Dt.reads {X:Cx} {pins:List (Addr×Obj)} {σ:St} {H:Hp} {s:Shared} (I:Inv X pins σ H s):∀ {v:V} {d:PyData} {u:Value},Dt N H k v d→RelV v u→∃ as,Reads s.heap u d as∧sysModules∉as
 | _,_,_,.non,r=>by cases r; exact ⟨_,.none,by simp⟩
 | _,_,_,.bl b,r=>by cases r; exact ⟨_,.bool b,by simp⟩
 | _,_,_,.int (i:=i) _,r=>by obtain ⟨t,rfl⟩:=r; exact ⟨_,.int i t,by simp⟩
 | _,_,_,.str x,r=>by obtain ⟨t,rfl⟩:=r; exact ⟨_,.str x t,by simp⟩
 | _,_,_,.tup (a:=a) (xs:=xs) h rs,r=>by
   cases r
   obtain ⟨_,its,rv,o,e,hc,n,hd⟩:=(show ObjOk X.prog X.w H s.heap a (.tup xs) from I.hok a _ h);obtain ⟨as,ra,na⟩:=Dts.reads I rs rv;exact ⟨_,.tuple e hc hd (by simpa using ra),na⟩
 | _,_,_,.lst (a:=a) (xs:=xs) h _ ns rs,r=>by
   cases r
   obtain ⟨_,its,n,rv,e⟩:=(show ObjOk X.prog X.w H s.heap a (.lst xs) from I.hok a _ h);obtain ⟨as,ra,na⟩:=Dts.reads I rs rv
   exact ⟨_,.list e rfl rfl (by simpa using ra),by
    intro hm
    rcases n18_.mp hm with e | e
    · exact ns e.symm
    · exact na e⟩
 | _,_,_,.dic (a:=a) h,r=>by
   cases r
   obtain ⟨_,hS,vs,rel,o,es,ep,e,ex,hd,_,he,_⟩:=(show ObjOk X.prog X.w H s.heap a (.dK []) from I.hok a _ h);cases rel
   have hes:es.toList=[]:=by
    generalize es.toList=z at he;cases he
    rfl
   refine ⟨_,.dict (kvs:=[]) (as:=[]) (bs:=[]) e ex.1 hd (by rw [hes]; exact .nil) (by rw [hes]; exact .nil),?_⟩;intro hm
   have:sysModules=a:=by simpa using hm
   rw [this] at hS;simp at hS
theorem Dts.reads {X:Cx} {pins:List (Addr×Obj)} {σ:St} {H:Hp} {s:Shared} (I:Inv X pins σ H s):∀ {vs:List V} {ds:List PyData} {us:List Value},Dts N H k vs ds→Vals vs us→∃ as,ReadsAll s.heap us ds as∧sysModules∉as
 | _,_,_,.nil,.nil=>⟨_,.nil,by simp⟩
 | _,_,_,.cons r rs,.cons q qs=>by
   obtain ⟨as,ra,na⟩:=Dt.reads I r q;obtain ⟨bs,rb,nb⟩:=Dts.reads I rs qs
   exact ⟨_,.cons ra rb,by
    intro hm
    rcases n34_.mp hm with e | e
    · exact na e
    · exact nb e⟩
end
mutual
theorem Dt.same {H H':Hp} (s:Same H H'):∀ {v:V} {d:PyData},Dt N H k v d→Dt N H' k v d
 | _,_,.non=>.non
 | _,_,.bl b=>.bl b
 | _,_,.int h=>.int h
 | _,_,.str x=>.str x
 | _,_,.tup h r=>.tup (s _ _ h) (Dts.same s r)
 | _,_,.lst h n m r=>.lst (s _ _ h) n m (Dts.same s r)
 | _,_,.dic h=>.dic (s _ _ h)
theorem Dts.same {H H':Hp} (s:Same H H'):∀ {vs:List V} {ds:List PyData},Dts N H k vs ds→Dts N H' k vs ds
 | _,_,.nil=>.nil
 | _,_,.cons r rs=>.cons (Dt.same s r) (Dts.same s rs)
end
mutual
theorem Dt.keep {H H':Hp} {l:Addr} {ys:List V} (hN:N l) (hl:H l=some (.lst ys)) (s:Keep l H H'):∀ {v:V} {d:PyData},Dt N H k v d→Dt N H' k v d
 | _,_,.non=>.non
 | _,_,.bl b=>.bl b
 | _,_,.int h=>.int h
 | _,_,.str x=>.str x
 | _,_,.tup h r=>.tup (s _ _ (Zh2 h hl (by intro z; cases z)) h) (Dts.keep hN hl s r)
 | _,_,.lst h n m r=>.lst (s _ _ (fun z=>n (z ▸ hN)) h) n m (Dts.keep hN hl s r)
 | _,_,.dic h=>.dic (s _ _ (Zh2 h hl (by intro z; cases z)) h)
theorem Dts.keep {H H':Hp} {l:Addr} {ys:List V} (hN:N l) (hl:H l=some (.lst ys)) (s:Keep l H H'):∀ {vs:List V} {ds:List PyData},Dts N H k vs ds→Dts N H' k vs ds
 | _,_,.nil=>.nil
 | _,_,.cons r rs=>.cons (Dt.keep hN hl s r) (Dts.keep hN hl s rs)
end
mutual
theorem Dt.up {H:Hp} {k':Nat} (hk:k≤k'):∀ {v:V} {d:PyData},Dt N H k v d→Dt N H k' v d
 | _,_,.non=>.non
 | _,_,.bl b=>.bl b
 | _,_,.int h=>.int (n9_ h (n39_ (by decide) hk))
 | _,_,.str x=>.str x
 | _,_,.tup h r=>.tup h (Dts.up hk r)
 | _,_,.lst h n m r=>.lst h n m (Dts.up hk r)
 | _,_,.dic h=>.dic h
theorem Dts.up {H:Hp} {k':Nat} (hk:k≤k'):∀ {vs:List V} {ds:List PyData},Dts N H k vs ds→Dts N H k' vs ds
 | _,_,.nil=>.nil
 | _,_,.cons r rs=>.cons (Dt.up hk r) (Dts.up hk rs)
end
theorem Dts.app {H:Hp}:∀ {xs ys:List V} {ds es:List PyData},Dts N H k xs ds→Dts N H k ys es→Dts N H k (xs++ys) (ds++es)
 | _,_,_,_,.nil,h=>h
 | _,_,_,_,.cons r rs,h=>.cons r (Dts.app rs h)
theorem Dts.len {H:Hp}:∀ {xs:List V} {ds:List PyData},Dts N H k xs ds→xs.length=ds.length
 | _,_,.nil=>rfl
 | _,_,.cons _ rs=>by rw [n16_,n16_,Dts.len rs]
theorem Dts.take {H:Hp}:∀ {xs:List V} {ds:List PyData} (n:Nat),Dts N H k xs ds→Dts N H k (xs.take n) (ds.take n)
 | _,_,0,_=>by rw [List.take_zero,List.take_zero]; exact .nil
 | _,_,_+1,.nil=>.nil
 | _,_,n+1,.cons r rs=>by rw [List.take_succ_cons,List.take_succ_cons]; exact .cons r (Dts.take n rs)
theorem Dts.drop {H:Hp}:∀ {xs:List V} {ds:List PyData} (n:Nat),Dts N H k xs ds→Dts N H k (xs.drop n) (ds.drop n)
 | _,_,0,h=>h
 | _,_,_+1,.nil=>.nil
 | _,_,n+1,.cons r rs=>by rw [List.drop_succ_cons,List.drop_succ_cons]; exact Dts.drop n rs
theorem Dts.rev {H:Hp}:∀ {xs:List V} {ds:List PyData},Dts N H k xs ds→Dts N H k xs.reverse ds.reverse
 | _,_,.nil=>.nil
 | _,_,.cons r rs=>by rw [List.reverse_cons,List.reverse_cons]; exact Dts.app (Dts.rev rs) (.cons r .nil)
theorem Dts.get {H:Hp}:∀ {xs:List V} {ds:List PyData} {n:Nat} {v:V},Dts N H k xs ds→xs[n]? = some v→∃ d,ds[n]? = some d∧Dt N H k v d
 | _,_,_,_,.nil,h=>by simp at h
 | _,_,0,_,.cons r rs,h=>by simp at h; subst h; exact ⟨_,rfl,r⟩
 | _,_,n+1,_,.cons r rs,h=>by
   obtain ⟨d,e,q⟩:=Dts.get rs (by simpa using h);exact ⟨d,by simpa using e,q⟩
mutual
def nz:PyData→Nat
 | .none=>1
 | .bool _=>1
 | .int _=>1
 | .str x=>(reprText x).length
 | .list xs=>1+Zt xs
 | .tuple xs=>1+Zt xs
 | .dict _=>1
def Zt:List PyData→Nat
 | []=>0
 | x :: xs=>nz x+1+Zt xs
end
theorem Yv (xs ys:List PyData):Zt (xs++ys)=Zt xs+Zt ys:=by
 induction xs with
 | nil=>simp [Zt]
 | cons x xs ih=>simp only [List.cons_append,Zt,ih]; omega
theorem Zgk (xs:List PyData):Zt xs.reverse=Zt xs:=by
 induction xs with
 | nil=>rfl
 | cons x xs ih=>rw [List.reverse_cons,Yv,ih]; simp only [Zt]; omega
theorem Zjy (n:Nat) (xs:List PyData):Zt (xs.take n)≤Zt xs:=by
 have:=Yv (xs.take n) (xs.drop n)
 rw [List.take_append_drop] at this;omega
theorem Zj9 (n:Nat) (xs:List PyData):Zt (xs.drop n)≤Zt xs:=by
 have:=Yv (xs.take n) (xs.drop n)
 rw [List.take_append_drop] at this;omega
theorem Z7 (xs ys:List PyData):PyData.depthAll (xs++ys)=max (PyData.depthAll xs) (PyData.depthAll ys):=by
 induction xs with
 | nil=>simp [PyData.depthAll]
 | cons x xs ih=>simp only [List.cons_append,PyData.depthAll,ih]; omega
theorem Zcs (xs:List PyData):PyData.depthAll xs.reverse=PyData.depthAll xs:=by
 induction xs with
 | nil=>rfl
 | cons x xs ih=>rw [List.reverse_cons,Z7,ih]; simp only [PyData.depthAll]; omega
theorem Zb2 (n:Nat) (xs:List PyData):PyData.depthAll (xs.take n)≤PyData.depthAll xs:=by
 have:=Z7 (xs.take n) (xs.drop n)
 rw [List.take_append_drop] at this;omega
theorem Zb4 (n:Nat) (xs:List PyData):PyData.depthAll (xs.drop n)≤PyData.depthAll xs:=by
 have:=Z7 (xs.take n) (xs.drop n)
 rw [List.take_append_drop] at this;omega
theorem Zcf {i:Int} {n:Nat} (h:i.natAbs < 2 ^ n) (hn:n < 1920):i.natAbs.log2 < 1920:=by
 rcases Nat.eq_zero_or_pos n with rfl | hp
 · have:i.natAbs=0:=by simpa using h
   rw [this]; decide
 · by_cases h0:i.natAbs=0
   · rw [h0]; decide
   · exact Nat.lt_trans ((Nat.log2_lt h0).mpr h) hn
mutual
theorem Dt.showable {H:Hp} (hk:k < 1920):∀ {v:V} {d:PyData},Dt N H k v d→d.showable=true
 | _,_,.non=>rfl
 | _,_,.bl b=>rfl
 | _,_,.int h=>n26_ (Zcf h hk)
 | _,_,.str x=>rfl
 | _,_,.tup h r=>Dts.showable hk r
 | _,_,.lst h n m r=>Dts.showable hk r
 | _,_,.dic h=>rfl
theorem Dts.showable {H:Hp} (hk:k < 1920):∀ {vs:List V} {ds:List PyData},Dts N H k vs ds→PyData.showableAll ds=true
 | _,_,.nil=>rfl
 | _,_,.cons r rs=>by
   show (_ && _)=true
   rw [Dt.showable hk r,Dts.showable hk rs]; rfl
end
mutual
theorem Dt.shownLen {H:Hp} (hk:k < 1920):∀ {v:V} {d:PyData},Dt N H k v d→d.shown.length≤2000 * nz d
 | _,_,.non=>by decide +kernel
 | _,_,.bl true=>by decide +kernel
 | _,_,.bl false=>by decide +kernel
 | _,_,.int (i:=i) h=>by
   have:=int_text_length_le (by decide) (Zcf h hk)
   show (Str.ofString (toString i)).length≤2000 * 1
   rw [PySem.ofString_length];omega
 | _,_,.str x=>by
   show (reprText x).length≤2000 * (reprText x).length
   omega
 | _,_,.tup (ds:=ds) h r=>by
   have:=Dts.shownLen hk r
   have z:=tupleText_len_le (PyData.shownAll ds);rw [Zdm] at z;show (tupleText (PyData.shownAll ds)).length≤2000 * (1+Zt ds)
   omega
 | _,_,.lst (ds:=ds) h n m r=>by
   have:=Dts.shownLen hk r
   have z:=listText_len_le (PyData.shownAll ds);rw [Zdm] at z;show (listText (PyData.shownAll ds)).length≤2000 * (1+Zt ds)
   omega
 | _,_,.dic h=>by decide +kernel
theorem Dts.shownLen {H:Hp} (hk:k < 1920):∀ {vs:List V} {ds:List PyData},Dts N H k vs ds→((PyData.shownAll ds).map (·.length)).sum+2 * ds.length≤2000 * Zt ds
 | _,_,.nil=>by simp [PyData.shownAll,Zt]
 | _,_,.cons r rs=>by
   have a:=Dt.shownLen hk r;have b:=Dts.shownLen hk rs;simp only [PyData.shownAll,Zt,List.map_cons,List.sum_cons,n16_];omega
end
section
variable {X:Cx}
theorem Zev {j:Nat} (hr:Room j X.A):Zak X (.builtin "repr") (fun xs H Q=>∃ N k v d,xs=[v]∧Dt N H k v d∧k < 1920∧d.depth≤20∧nz d≤8000∧Q (.str d.shown) H):=by
 intro pins s σ H xs us Q I r h;obtain ⟨N,k,v,d,rfl,rd,hk,h3,h4,q⟩:=h;have h1:=rd.showable hk
 have hz:d.shown.length≤sizeLine:=by
  have:=rd.shownLen hk
  have e:sizeLine=16777216:=sizeLine_eq;omega
 cases r with
 | cons rx r =>
   cases r
   have hu:=hr.un;have R:=Dt.reads I rd rx
   have go:∀ a,RelV v (Value.ref a)→wpAny (model X.prog X.w) X.A (call (.builtin "repr") [Value.ref a]) (EP X pins σ Q) X.xe s:=fun a rx=>by
    obtain ⟨as,ra,na⟩:=Dt.reads I rd rx;exact repr_of_reads' ra h1 (fun _=>na) hr.gd (by omega) (fun _ _ e=>e) (fun h' u tk hk=>⟨.str _,H,I.kept hk,⟨_,rfl⟩,q⟩) hz
   cases rd with
   | non=>cases (show _=Value.none from rx); exact PySem.P.repr_of_none ⟨.str _,H,I.tok _,⟨_,rfl⟩,q⟩
   | bl b=>cases (show _=Value.bool b from rx); exact PySem.P.repr_of_bool ⟨.str _,H,I.tok _,⟨_,rfl⟩,q⟩
   | int hi=>obtain ⟨t,rfl⟩:=(show ∃ t,_=Value.int _ t from rx); exact PySem.P.repr_of_int (Zcf hi hk) ⟨.str _,H,I.tok _,⟨_,rfl⟩,q⟩
   | str x=>obtain ⟨t,rfl⟩:=(show ∃ t,_=Value.str x t from rx); exact PySem.P.repr_of_str ⟨.str _,H,I.tok _,⟨_,rfl⟩,q⟩ hz
   | tup h rs=>cases (show _=Value.ref _ from rx); exact go _ rx
   | lst h n m rs=>cases (show _=Value.ref _ from rx); exact go _ rx
   | dic h=>cases (show _=Value.ref _ from rx); exact go _ rx
end
end L2
namespace HT
open PySem PyProof.Rows
section
variable {prog:Program} {w:World} {A:Around} {E:Value→Shared→Prop} {s:Shared}
theorem Zib (n:Nat):Builtin.Slice.sliceAdjust none none (-1) (n:Int)=((n:Int) - 1,-1):=by
 unfold Builtin.Slice.sliceAdjust
 simp
theorem Zh1 (n:Nat):Builtin.Slice.slicePlaces ((n:Int) - 1) (-1) (-1)=n:=by
 unfold Builtin.Slice.slicePlaces;have h1:¬ ((-1:Int) > 0):=by omega
 simp only [h1,if_false];split
 · rw [show -(-1:Int)=1 by decide,Int.ediv_one]; omega
 · omega
theorem Zcc {sl:Addr} {n:Nat} {t:Tok} {Q:Int×Int×Nat→Shared→Prop} (hs:s.heap.IsSliceOf sl .none .none (.int (-1) t))
 (h:Q ((n:Int) - 1,-1,n) s):wpAny (model prog w) A (Builtin.Slice.sliceApplied (.ref sl) (pure (n:Int))) Q E s:=by
 obtain ⟨os,hos,hcs,hds⟩:=id hs;unfold Builtin.Slice.sliceApplied Builtin.Slice.sliceFields;refine n1_ (n1_ (wpAny_field hos hds (x:=.none) rfl (n1_ (wpAny_field hos hds (x:=.none) rfl (n1_ (wpAny_field hos hds (x:=.int (-1) t) rfl (n10_ ?_)))))));refine n1_ (slicePart_int ?_);show wpAny _ _ (if ((-1:Int) == 0)=true then _ else _) _ _ s
 rw [if_neg (by decide)];refine n1_ (slicePart_none (n1_ (slicePart_none (n1_ (n10_ ?_)))));show wpAny _ _ (match Builtin.Slice.sliceAdjust none none (-1) (n:Int) with | (lo,hi)=>pure (lo,(-1:Int),Builtin.Slice.slicePlaces lo hi (-1))) _ _ s
 rw [Zib n];show wpAny _ _ (pure ((n:Int) - 1,(-1:Int),Builtin.Slice.slicePlaces ((n:Int) - 1) (-1) (-1))) _ _ s
 rw [Zh1];exact n10_ h
theorem Zoi {α β:Type} (f:α→Option β) (g:α→β):∀ (xs:List α),(∀ x∈xs,f x=some (g x))→xs.filterMap f=xs.map g
 | [],_=>rfl
 | x :: xs,h=>by
   rw [List.filterMap_cons,h x (n15_ ..),Zoi f g xs (fun y hy=>h y (n12_ _ hy))];rfl
theorem Zkh (xs:Array Value):((List.range xs.size).filterMap fun (m:Nat)=>xs[(((xs.size:Int) - 1)+(m:Int) * (-1)).toNat]?).toArray=xs.toList.reverse.toArray:=by
 congr 1
 refine List.ext_getElem? fun i=>?_
 have e:((List.range xs.size).filterMap fun (m:Nat)=>xs[(((xs.size:Int) - 1)+(m:Int) * (-1)).toNat]?)=(List.range xs.size).map (fun m=>xs.getD (xs.size - 1 - m) .none):=by
  refine Zoi _ _ _ fun m hm=>?_;have hm':m < xs.size:=List.mem_range.mp hm;have z:(((xs.size:Int) - 1)+(m:Int) * (-1)).toNat=xs.size - 1 - m:=by omega
  have hlt:xs.size - 1 - m < xs.size:=by omega
  rw [z,Array.getElem?_eq_getElem hlt,Array.getD,dif_pos hlt];rfl
 rw [e,n3_]
 by_cases hi:i < xs.size
 · have hlt:xs.size - 1 - i < xs.size:=by omega
   rw [List.getElem?_range hi,List.getElem?_reverse (by simpa using hi),Array.length_toList,Array.getElem?_toList,Array.getElem?_eq_getElem hlt];show some (xs.getD (xs.size - 1 - i) .none)=_
   rw [Array.getD,dif_pos hlt];rfl
 · rw [List.getElem?_eq_none (by simpa using hi),List.getElem?_eq_none (by simpa using hi)];rfl
theorem getItem_tuple_back {t sl:Addr} {items:Array Value} {tk:Tok} {Q:Value→Shared→Prop} (ht:IsTup s.heap t items) (hs:s.heap.IsSliceOf sl .none .none (.int (-1) tk))
 (h:Q (.ref s.heap.objs.size) { s with heap:=s.heap.push { cls:=.type "tuple",data:=.seq items.toList.reverse.toArray } })
 (hsz:items.size≤sizeLine):wpAny (model prog w) A (getItem (.ref t) (.ref sl)) Q E s:=by
 have htake:sizeOk (.seq items.toList.reverse.toArray):=by
  show items.toList.reverse.toArray.size≤sizeLine
  rw [n7_,List.length_reverse,Array.length_toList];omega
 obtain ⟨os,hos,hcs,hds⟩:=id hs;have hTs:s.TypeIs (.ref sl) "slice" := ⟨os,hos,hcs⟩;unfold getItem
 try with_reducible refine n66_ ?_
 first | refine n1_ (n10_ ?_) | skip
 refine n1_ (wpAny_sequenceKey ht.typeIs (by decide) ?_)
 refine n1_ (wpAny_callSpecial?_slot (name:=Str.ofString "__getitem__") ht.typeIs PyProof.Rows.slot_tuple_getitem
  (wpAny_call_entry PyProof.Rows.slot_tuple_getitem ht.typeIs entry_tuple_getitem ?_ (args_tuple_getitem _ _)))
 show wpAny _ _ (Builtin.Tuple.tupleItemsOf (.ref t) >>= _) _ _ s
 refine n1_ (tupleItemsOf_ ht ?_);refine n1_ (wpAny_typeOf hTs ?_);rw [if_pos (by decide)];refine n1_ (Zcc hs ?_)
 have hno:¬ (((items.size:Int) - 1 == 0 && (-1:Int) == 1 && items.size == items.size)=true):=by
  intro q;rw [n22_,n22_] at q;exact absurd q.1.2 (by decide)
 show wpAny _ _ (if ((items.size:Int) - 1 == 0 && (-1:Int) == 1 && items.size == items.size)=true then _ else _) _ _ s
 rw [if_neg hno,Zkh]
 first
  | exact n1_ (m:=Builtin.Tuple.tupleExact _) (wpAny_newObj_type (n10_ ⟨_,rfl,n10_ h⟩) htake)
  | exact n1_ (m:=Builtin.Tuple.tupleExact _) (wpAny_newObj_type (n1_ (n10_ (n10_ ⟨_,rfl,n10_ h⟩))) htake)
  | exact n1_ (n1_ (m:=Builtin.Tuple.tupleExact _) (wpAny_newObj_type (n10_ (n10_ ⟨_,rfl,n10_ h⟩)) htake))
  | exact n1_ (n1_ (m:=Builtin.Tuple.tupleExact _) (wpAny_newObj_type (n10_ ⟨_,rfl,n10_ h⟩) htake))
theorem getItem_tuple_whole {t sl:Addr} {items:Array Value} {vl vu:Value} {lo hi:Option Int} {Q:Value→Shared→Prop} (ht:IsTup s.heap t items) (hs:s.heap.IsSliceOf sl vl vu .none) (pl:IsPart vl lo) (pu:IsPart vu hi)
 (hw:sIx items.size 0 lo=0∧sIx items.size items.size hi=items.size)
 (h:Q (.ref t) s):wpAny (model prog w) A (getItem (.ref t) (.ref sl)) Q E s:=by
 obtain ⟨os,hos,hcs,hds⟩:=id hs;have hTs:s.TypeIs (.ref sl) "slice" := ⟨os,hos,hcs⟩;unfold getItem
 try with_reducible refine n66_ ?_
 first | refine n1_ (n10_ ?_) | skip
 refine n1_ (wpAny_sequenceKey ht.typeIs (by decide) ?_)
 refine n1_ (wpAny_callSpecial?_slot (name:=Str.ofString "__getitem__") ht.typeIs PyProof.Rows.slot_tuple_getitem
  (wpAny_call_entry PyProof.Rows.slot_tuple_getitem ht.typeIs entry_tuple_getitem ?_ (args_tuple_getitem _ _)))
 show wpAny _ _ (Builtin.Tuple.tupleItemsOf (.ref t) >>= _) _ _ s
 refine n1_ (tupleItemsOf_ ht ?_);refine n1_ (wpAny_typeOf hTs ?_);rw [if_pos (by decide)];refine n1_ (Zaj hs pl pu ?_);rw [hw.1,hw.2];have hyes:(((0:Nat):Int) == 0 && (1:Int) == 1 && (items.size - 0) == items.size)=true:=by simp
 show wpAny _ _ (if (((0:Nat):Int) == 0 && (1:Int) == 1 && (items.size - 0) == items.size)=true then _ else _) _ _ s
 rw [if_pos hyes];have hx:(Builtin.Tuple.tupleIsExact (.ref t))=(do pure ((← typeOf (.ref t)) == .type "tuple")):=by first | rfl | (unfold Builtin.Tuple.tupleIsExact; rfl)
 rw [hx];refine n1_ (n1_ (wpAny_typeOf ht.typeIs (n10_ ?_)));rw [if_pos (by decide)];exact n1_ (wpAny_rule (n10_ ⟨_,rfl,n10_ h⟩))
end
end HT
namespace L2
open PySem PySem.Spec PyProof.Rows
section
variable {X:Cx} {e:Expr} {es:List Expr} {te:TE} {t:TA} {pos p2:Pos}
theorem vrev:∀ {xs:List V} {us:List Value},Vals xs us→Vals xs.reverse us.reverse:=by
 have app:∀ {xs ys:List V} {us ws:List Value},Vals xs us→Vals ys ws→Vals (xs++ys) (us++ws):=by
  intro xs ys us ws h1 h2
  induction h1 with
  | nil=>exact h2
  | cons r _ ih=>exact .cons r ih
 intro xs us h
 induction h with
 | nil=>exact .nil
 | cons r _ ih=>rw [List.reverse_cons,List.reverse_cons]; exact app ih (.cons r .nil)
def Zoq (te:TE) (K:PySem.W.Frag):TE:=fun σ H Q=>te σ H fun x H1=>∃ a xs,x=.ref a∧SqT K H1 a xs∧∀ p,H1 p=none→Q (.ref p) (upd H1 p (.tup xs.reverse))
theorem Zls {st:Expr} (hst:PE X st (fun _ H Q=>Q (.int (-1)) H)) (he:PE X e te):PE X (.Subscript e (.Slice none none (some st) p2) pos) (Zoq te X.K):=by
 intro pins s σ H Q I h;refine Subscript_ (thn (he pins s σ H _ I h) fun v s1 ⟨x,H1,I1,r1,q1⟩=>?_);refine wpAny_Slice ?_;rw [evalPart_none,evalPart_some];refine n10_ (n10_ ?_);obtain ⟨a,xs,rfl,hx,q⟩:=q1;refine thn (hst pins s1 σ H1 (fun v H'=>v=.int (-1)∧H'=H1) I1 ⟨rfl,rfl⟩) fun u s3 ⟨y,H3,I3,ry,ey,eH⟩=>?_;subst ey eH;obtain ⟨tk,rfl⟩:=ry;cases r1
 have I4:Inv X pins σ H3 { s3 with heap:=s3.heap.push { cls:=.type "slice",data:=.fields #[.none,.none,.int (-1) tk] } }:=I3.kept (t':=s3.toks) fun b ob q=>n2_ _ q;obtain ⟨its,r,ht,hz⟩:=I4.tuple hx;have hlen:its.toArray.size=xs.length:=by rw [n7_]; exact r.length.symm
 show wpAny (model X.prog X.w) X.A (subscriptTail e (.Slice none none (some st) p2) (.ref a) (.ref s3.heap.objs.size)) (EP X pins σ Q) X.xe { s3 with heap:=s3.heap.push { cls:=.type "slice",data:=.fields #[.none,.none,.int (-1) tk] } }
 refine tail_any (ops:=[.ref a,.ref s3.heap.objs.size]) ht.typeIs PyProof.Rows.slot_tuple_getitem.lookup ?_ (by with_unfolding_all rfl);refine HT.getItem_tuple_back ht (Heap.IsSliceOf.new ..) ?_ (by rw [hlen]; exact hz);refine ⟨.ref _,_,I4.laid (t':=s3.toks) (o:=.tup xs.reverse) (fun b ob q=>n2_ _ q) (n5_ _) ?_,rfl,q _ (I4.hok.fresh (n5_ _))⟩;exact ⟨by rw [List.length_reverse]; exact hz,_,vrev r,IsTup.new _ _⟩
def Zrn:R2:=fun x y H Q=>∃ a b xs ys,x=.ref a∧y=.ref b∧H a=some (.tup xs)∧H b=some (.tup ys)∧xs.length+ys.length≤sizeLine∧∀ p H',Same H H'→H' p=some (.tup (xs++ys))→Q (.ref p) H'
theorem Zaa:OpR X (binaryOp .Add) Zrn:=by
 intro pins s σ H x y v u Q I rx ry h;obtain ⟨a,b,xs,ys,rfl,rfl,ha,hb,hz,q⟩:=h;cases rx
 cases ry
 obtain ⟨its,r1,p1,_⟩:=I.tuple (SqT.of ha);obtain ⟨its2,r2,p2,_⟩:=I.tuple (SqT.of hb)
 by_cases hx:xs=[]
 · subst hx;have e:its=[]:=r1.nil_iff.mpr rfl;subst e;obtain ⟨⟨cls,dd,data,sl⟩,ho,hc,n,hd⟩:=id p1;obtain ⟨⟨cls2,dd2,data2,sl2⟩,ho2,hc2,n2,hd2⟩:=id p2;simp only at hc hd hc2 hd2;subst hc hd hc2 hd2
   exact concat_meets ⟨_,ho,rfl⟩ ⟨_,ho2,rfl⟩ noFill_tuple_add seq_tuple_add PySem.F.slot_tuple_add PySem.F.entry_tuple_add (PySem.F.args_tuple_add_2 _ _)
    (tuple_addW0 a b _ its2.toArray n n2 dd dd2 sl sl2 (by simp)) ⟨ho,ho2,⟨.ref b,H,I,rfl,q b H (Same.refl H) hb⟩⟩
 · refine Zpi pins s σ H (.ref a) (.ref b) _ _ Q I rfl rfl ⟨a,b,xs,ys,rfl,rfl,SqT.of ha,SqT.of hb,hx,hz,?_,?_⟩
   · rintro rfl
     exact q a H (Same.refl H) (by rw [List.append_nil]; exact ha)
   · intro _ p hp;exact q p _ (Same.new hp) Zc
def rSlU:V→Option Int→Option Int→Hp→VK→Prop:=fun x lo hi H Q=>∃ a xs,x=.ref a∧H a=some (.tup xs)∧∀ p H',Same H H'→H' p=some (.tup (cutV xs lo hi))→Q (.ref p) H'
theorem Zbl:SlR X rSlU:=by
 intro pins s σ H x v vl vu lo hi sl Q I rx hs pl pu h;obtain ⟨a,xs,rfl,hx,q⟩:=h
 by_cases hw:HT.sIx xs.length 0 lo=0∧HT.sIx xs.length xs.length hi=xs.length
 · cases rx
   obtain ⟨its,r,ht,hz⟩:=I.tuple (SqT.of hx);have hlen:its.toArray.size=xs.length:=by rw [n7_]; exact r.length.symm
   refine ⟨"tuple",_,PyProof.Rows.slot_tuple_getitem.lookup,ht.typeIs,?_⟩;refine HT.getItem_tuple_whole ht hs pl pu (by rw [hlen]; exact hw) ⟨.ref a,H,I,rfl,q a H (Same.refl H) ?_⟩;unfold cutV;rw [hw.1,hw.2,List.drop_zero,Nat.sub_zero,n59_];exact hx
 · exact Zqr pins s σ H _ _ vl vu lo hi sl Q I rx hs pl pu ⟨a,xs,rfl,SqT.of hx,hw,fun p hp=>q p _ (Same.new hp) Zc⟩
def rNe0 (K:PySem.W.Frag):R2:=fun x y H Q=>∃ a b xs,x=.ref a∧y=.ref b∧SqT K H a xs∧SqT K H b []∧Q (.bl (!decide (xs=[]))) H
theorem Zqf (hu:X.A.units < cLine):OpR X (compareOp .NotEq) (rNe0 X.K):=by
 intro pins s σ H x y v u Q I rx ry h;obtain ⟨a,b,xs,rfl,rfl,h1,h2,q⟩:=h;cases rx; cases ry
 obtain ⟨us,r1,p1,_⟩:=I.tuple h1;obtain ⟨ws,r2,p2,_⟩:=I.tuple h2;have l1:=r1.length;have e:ws=[]:=r2.nil_iff.mpr rfl;subst e;refine SeqAt.RcNeAt.tuples (e:=fun j=>true) p1 p2 hu (fun j h1 h2=>absurd h2 (by simp)) _ _ _ _ ⟨.bl _,H,I,rfl,?_⟩
 have z:(!((List.range (min us.toArray.size (([]:List Value).toArray).size)).all (fun _=>true) && us.toArray.size == (([]:List Value).toArray).size))=(!decide (xs=[])):=by
  rw [n7_,← l1];cases xs <;> simp
 rw [z];exact q
theorem Zri {j:Nat} {pa pb:Pos}:PE X (.UnaryOp .USub (.Constant (.int 1) j pa) pb) (fun _ H Q=>Q (.int (-1)) H):=fun pins s σ H Q I h=>Zgw Zct Zg pins s σ H Q I ⟨1,rfl,h⟩
theorem Zja:PE X e (fun _ _ _=>False):=fun _ _ _ _ _ _ h=>h.elim
theorem Zh9 {pins:List (Addr×Obj)} {σ:St} {H:Hp} {s:Shared} (I:Inv X pins σ H s):sysModules < s.heap.objs.size:=by
 have h:mainGlobals < s.heap.objs.size:=(I.mod.glob.keeps I.bk).lt;exact Nat.lt_trans (by decide) h
def Zrr (t:TA):TE:=fun σ H Q=>t σ H fun xs H1=>xs.length≤sizeLine∧∀ p,H1 p=none→p≠sysModules→Q (.ref p) (upd H1 p (.lst xs))
theorem Ze4 (h:PA X es t):PE X (.List es pos) (Zrr t):=by
 intro pins s σ H Q I hq;refine wpAny_List_spliced (thn (h pos pins s σ H _ I hq) fun us s1 ⟨xs,H1,I1,r,z,q⟩=>⟨by rw [← r.length]; exact z,?_⟩);have hf:H1 s1.heap.objs.size=none:=I1.hok.fresh (n5_ _);refine ⟨.ref s1.heap.objs.size,upd H1 s1.heap.objs.size (.lst xs),I1.laid (t':=s1.toks) (fun b u e=>n2_ _ e) (n5_ _) ?_,rfl,q _ hf (Nat.ne_of_gt (Zh9 I1))⟩;exact ⟨z,us,0,r,n11_ _ rfl⟩
theorem Za4:Zak X (.type "list") (fun xs H Q=>∃ p ys,xs=[.ref p]∧(SqL X.K H p ys∨SqT X.K H p ys)∧∀ l,H l=none→l≠sysModules→Q (.ref l) (upd H l (.lst ys))):=by
 intro pins s σ H xs us Q I r h;obtain ⟨p,ys,rfl,hq,q⟩:=h;obtain ⟨u,rfl,rx⟩:=Zj2 r;cases rx
 have fin:∀ (its:List Value),Vals ys its→ys.length≤sizeLine→∀ (h':Heap) (c':Nat),(∀ b o',s.heap.get? b=some o'→h'.get? b=some o') →
  h'.get? s.heap.objs.size=some { cls:=.type "list",dict:=none,data:=.seq its.toArray c',slots:=#[] }→EP X pins σ Q (.ref s.heap.objs.size) { s with heap:=h' }:=fun its r' hz h' c' kp e =>
  ⟨.ref s.heap.objs.size,_,I.laid (t':=s.toks) kp (n5_ _) (show ObjOk X.prog X.w _ h' _ (.lst ys) from ⟨hz,its,c',r',e⟩),rfl,q _ (I.hok.fresh (n5_ _)) (Nat.ne_of_gt (Zh9 I))⟩
 rcases hq with hq | hq
 · obtain ⟨its,r',pl,hz⟩:=I.list hq;have hlen:=r'.length;obtain ⟨o,ho,hc,n,hd⟩:=pl.isList;exact call_list_seq p (.inl rfl) ho hc hd (fun h' c' kp e=>fin its r' hz h' c' kp e) (by simp only [n7_] <;> omega)
 · obtain ⟨its,r',pl,hz⟩:=I.tuple hq;have hlen:=r'.length;obtain ⟨o,ho,hc,n,hd⟩:=pl;exact call_list_seq p (.inr rfl) ho hc hd (fun h' c' kp e=>fin its r' hz h' c' kp e) (by simp only [n7_] <;> omega)
def Zru:TE:=fun _ H Q=>∀ p,H p=none→Q (.ref p) (upd H p (.dK []))
theorem Zpf:PE X (.Dict [] [] pos) Zru:=fun pins s σ H Q I h =>
 wpAny_Dict_empty ⟨.ref s.heap.objs.size,_,I.laid (a:=s.heap.objs.size) (o:=.dK []) (t':=s.toks) (fun _ _ q=>n2_ _ q) (n5_ _)
  ⟨n55_ _,beq_eq_false_iff_ne.mpr (Ne.symm (n36_ (Zh9 I))),[],.nil,Heap.DictOf.new s.heap⟩,rfl,h _ (I.hok.fresh (n5_ _))⟩
end
theorem Zpx {K:PySem.W.Frag} {a D:Addr} {xs:List V} {g:TG} {tt:TT} {te:TE} {σ0:St} {H:Hp} {Q:VK} (Pv:Nat→St→Hp→Prop) (h0:Pv 0 σ0 (upd H D (.lst []))) (hx:∀ i σ H,i≤xs.length→Pv i σ H→SqT K H a xs)
 (hs:∀ i x σ2 H2,xs[i]? = some x→Pv i σ2 H2→g x σ2 H2 fun σ4 H4=>tt σ4 H4 fun b H5=>if b=true then te σ4 H5 fun y H6=>∃ ys,H6 D=some (.lst ys)∧ys.length < sizeLine ∧
   ∃ m',m' < xs.length - i∧LcN xs.length Pv (i+1) m' σ4 (upd H6 D (.lst (ys++[y]))) else ∃ m',m' < xs.length - i∧LcN xs.length Pv (i+1) m' σ4 H5)
 (hd:∀ σ2 H2,Pv xs.length σ2 H2→Q (.ref D) H2) :
 LcGo (Itt K a) g tt te σ0 H D Q:=by
 refine ⟨LcN xs.length Pv,⟨_,n55_ _,rfl,h0⟩,?_⟩;rintro i m σ2 H2 ⟨hi,rfl,p⟩
 have sq:=hx i σ2 H2 hi p
 by_cases hlt:i < xs.length
 · right
   refine ⟨⟨xs,xs[i],sq,n0_ hlt⟩,?_⟩;rintro x H3 ⟨rfl,hy⟩
   exact hs i x σ2 H3 (hy xs sq) p
 · left
   have e:i=xs.length:=by omega
   subst e;exact ⟨⟨xs,sq,n5_ _⟩,hd σ2 H2 p⟩
end L2
namespace L2
open PySem PySem.Spec PyProof.Rows
def isI:PyData→Bool
 | .int _=>true
 | _=>false
def isT:PyData→Bool
 | .tuple _=>true
 | _=>false
def isFr:PyData→Bool
 | .tuple [.int a,.int b]=>decide (1≤b) && decide (Int.gcd a b=1)
 | _=>false
section
variable {K:PySem.W.Frag} {N:Addr→Prop} {k:Nat} {H:Hp} {v:V} {d:PyData}
theorem Dt.isI (h:Dt N H k v d):(∃ i,v=.int i∧d=.int i∧i.natAbs < 2 ^ k)∨L2.isI d=false:=by
 cases h with
 | int hi=>exact .inl ⟨_,rfl,rfl,hi⟩
 | _=>exact .inr rfl
theorem Dt.isT (h:Dt N H k v d):(∃ a xs ds,v=.ref a∧d=.tuple ds∧H a=some (.tup xs)∧Dts N H k xs ds)∨L2.isT d=false:=by
 cases h with
 | tup h r=>exact .inl ⟨_,_,_,rfl,rfl,h,r⟩
 | _=>exact .inr rfl
theorem Dt.ty (h:Dt N H k v d):∃ t,TyOf K H v t∧PySem.W.kitOne K t (.type "tuple")=some (L2.isT d):=by
 cases h with
 | non=>exact ⟨_,TyOf.non,rfl⟩
 | bl b=>exact ⟨_,TyOf.bl b,rfl⟩
 | int hi=>exact ⟨_,TyOf.int _,rfl⟩
 | str x=>exact ⟨_,TyOf.str x,rfl⟩
 | tup h r=>exact ⟨_,TyOf.tup h,rfl⟩
 | lst h n m r=>exact ⟨_,TyOf.lst h,rfl⟩
 | dic h=>exact ⟨_,TyOf.dK h,rfl⟩
theorem Dts.len0 {xs:List V} {ds:List PyData} (h:Dts N H k xs ds) (hl:xs.length≠2):L2.isFr (.tuple ds)=false:=by
 have e:=h.len
 match ds,e with
 | [],_=>rfl
 | [d],_=>cases d <;> rfl
 | [_,_],e=>exact absurd e hl
 | d :: d2 :: _ :: _,_=>cases d <;> cases d2 <;> rfl
theorem fr_1 {d e:PyData} (h:L2.isI d=false):L2.isFr (.tuple [d,e])=false:=by
 cases d <;> first | rfl | (cases h)
theorem fr_2 {d e:PyData} (h:L2.isI e=false):L2.isFr (.tuple [d,e])=false:=by
 cases d <;> cases e <;> first | rfl | (cases h)
theorem Zn4 {i j:Int} (hj:0 < j):decide ([(Rat.divInt i j).num,((Rat.divInt i j).den:Int)]=[i,j])=(decide (1≤j) && decide (Int.gcd i j=1)):=by
 rw [n26_ (show 1≤j by omega),Bool.true_and];refine decide_eq_decide.mpr ⟨fun h=>?_,fun h=>?_⟩
 · injection h with h1 h2
   injection h2 with h2 _
   have:=FM.gcd_one (Rat.divInt i j)
   rw [h1,h2] at this;exact this
 · have hb:j≠0:=by omega
   have a:=FM.low_num (t:=i) hb;have b:=FM.low_den (t:=i) hb;rw [if_pos hj,h] at a;rw [h] at b;rw [← a,← b];have e1:Int.fdiv i ((1:Nat):Int)=i:=by simp
   have e2:Int.fdiv (j.natAbs:Int) ((1:Nat):Int)=j:=by
    rw [show ((1:Nat):Int)=1 from rfl,Int.fdiv_one]; omega
   rw [e1,e2]
theorem Zf3 {xs:List V} {r:Int} (h0:0≤r) (h1:r < xs.length):∃ v,atI xs r=some v∧v∈xs:=by
 obtain ⟨n,rfl⟩:=Int.eq_ofNat_of_zero_le h0;have hn:n < xs.length:=by omega
 exact ⟨xs[n],Xz (n0_ hn),n41_ hn⟩
def Dom (N:Addr→Prop) (H:Hp):Prop:=∀ b,N b→∃ o,H b=some o
theorem Dom.same {H':Hp} (h:Dom N H) (s:Same H H'):Dom N H':=fun b z=>let ⟨o,e⟩:=h b z; ⟨o,s b o e⟩
theorem Dom.keep {H':Hp} {l:Addr} {o:HO} (h:Dom N H) (s:Keep l H H') (hl:H' l=some o):Dom N H':=fun b z=>by
 by_cases e:b=l
 · subst e; exact ⟨_,hl⟩
 · obtain ⟨o,q⟩:=h b z; exact ⟨o,s b o e q⟩
theorem Dom.new {p:Addr} (h:Dom N H) (n:H p=none):¬ N p:=fun z=>by
 obtain ⟨o,e⟩:=h p z;rw [n] at e; cases e
variable {n m:Nat}
theorem Zjl (xs:List V) (r:Nat):cutV xs none (some (r:Int))=xs.take r:=by
 unfold cutV;rw [HT.sIx_none,HT.sIx_nat,List.drop_zero,Nat.sub_zero]
 by_cases h:r≤xs.length
 · rw [Nat.min_eq_left h]
 · rw [Nat.min_eq_right (by omega),n59_,List.take_of_length_le (by omega)]
theorem Zb0 (xs:List V) (r:Nat):cutV xs (some (r:Int)) none=xs.drop r:=by
 unfold cutV;rw [HT.sIx_none,HT.sIx_nat]
 by_cases h:r≤xs.length
 · rw [Nat.min_eq_left h,List.take_of_length_le (by rw [n44_]; omega)]
 · rw [Nat.min_eq_right (by omega),List.drop_of_length_le (show xs.length≤r by omega)]
   simp
theorem Zd4:∀ {ds:List PyData} {r:Nat} {d:PyData},ds[r]? = some d→Zt ds=Zt (ds.take r)+(nz d+1)+Zt (ds.drop (r+1))∧d.depth≤PyData.depthAll ds
 | [],_,_,h=>by simp at h
 | x :: xs,0,d,h=>by
   simp at h; subst h;refine ⟨by simp [Zt],?_⟩;simp only [PyData.depthAll]; omega
 | x :: xs,r+1,d,h=>by
   obtain ⟨a,b⟩:=Zd4 (ds:=xs) (r:=r) (d:=d) (by simpa using h);refine ⟨?_,?_⟩
   · simp only [List.take_succ_cons,List.drop_succ_cons,Zt]; omega
   · simp only [PyData.depthAll]; omega
theorem Zdp:∀ (ds:List PyData),ds.length≤Zt ds
 | []=>n5_ _
 | x :: xs=>by have:=Zdp xs; simp only [n16_,Zt]; omega
end
end L2
namespace L2
open PySem PySem.Spec PyProof.Rows
section
variable {N:Addr→Prop} {k n m:Nat} {H:Hp} {p:Addr}
mutual
theorem Dt.more (hp:H p=none):∀ {v:V} {d:PyData},Dt N H k v d→Dt (fun b=>N b∨b=p) H k v d
 | _,_,.non=>.non
 | _,_,.bl b=>.bl b
 | _,_,.int h=>.int h
 | _,_,.str x=>.str x
 | _,_,.tup h r=>.tup h (Dts.more hp r)
 | _,_,.lst h n m r=>.lst h (fun z=>z.elim n (fun e=>Zk h hp e)) m (Dts.more hp r)
 | _,_,.dic h=>.dic h
theorem Dts.more (hp:H p=none):∀ {vs:List V} {ds:List PyData},Dts N H k vs ds→Dts (fun b=>N b∨b=p) H k vs ds
 | _,_,.nil=>.nil
 | _,_,.cons r rs=>.cons (Dt.more hp r) (Dts.more hp rs)
end
theorem Dom.more {o:HO} (h:Dom N H) (e:H p=some o):Dom (fun b=>N b∨b=p) H:=fun b z=>z.elim (h b) (fun q=>⟨o,by rw [q]; exact e⟩)
end
end L2
namespace L2
open PySem PySem.Spec PyProof.Rows
section
variable {X:Cx}
theorem Zmb:MtR X "int.bit_length" (fun x vs H Q=>∃ i:Int,x=.int i∧vs=[]∧Q (.int (Builtin.Int.intBits i)) H):=by
 intro pins s σ H x vs v us Q I rx rv h;obtain ⟨i,rfl,rfl,q⟩:=h;obtain ⟨t,rfl⟩:=rx;cases rv
 exact call_int_bit_length ⟨.int _,H,I.tok _,⟨_,rfl⟩,q⟩
theorem Zk2 {x:Str} {i:Int} {pos:Pos} (h:∃ t,X.mg x=some (.int i t)) (hg:Gl X x) (hd:(x == ("__debug__" : Str))=false:=by decide):PE X (.Name x pos) (tC (.int i)):=by
 obtain ⟨t,h⟩:=h;exact Zz hg h ⟨t,rfl⟩ hd
end
end L2
namespace L2
open PySem PySem.Spec PyProof.Rows
section
variable {X:Cx} {pins:List (Addr×Obj)} {σ:List (Option V)} {H:Hp} {s:Shared} {h':Heap}
theorem Inv.turnNew {t':Nat} {ch:List Addr} {a:Addr} {o:HO} (I:Inv X pins σ H s) (k:∀ b u,b∉ch→s.heap.get? b=some u→h'.get? b=some u) (hf:∀ b∈ch,FpOk X pins H b)
 (ha:s.heap.objs.size≤a) (new:ObjOk X.prog X.w (upd H a o) h' a o):Inv X pins σ (upd H a o) { s with heap:=h',toks:=t' }:=by
 have fa:H a=none:=I.hok.fresh ha;have na:∀ b u,H b=some u→b≠a:=fun b u e=>Zk e fa;have nc:∀ b u,H b=some u→b∉ch:=fun b u e z=>by rw [(hf b z).1] at e; cases e
 have la:∀ b u,s.heap.get? b=some u→b≠a:=fun b u e=>n36_ (n9_ (n13_ e) ha)
 refine I.step (g':=s.gens) (d':=s.drawn) (ch:=ch) (fun b hb=>?_) (fun b u _ _ hc e _=>k b u hc e) (fun b u _ _ hc e _=>⟨u.slots,k b u hc e⟩) (fun b u _ e n=>by rw [Zo (la b u e)]; exact n)
  (fun b u hc e=>⟨u,k b u hc e⟩) (fun b xs e=>by rw [Zo (na b _ e)]; exact e) (fun b u v e=>by rw [Zo (na b _ e)]; exact e) (fun b ps e=>⟨#[],by rw [Zo (na b _ e),e]; simp⟩) (fun m hm=>?_) (fun b u e=>?_) I.bare
 · obtain ⟨f0,f1,f2,f3,f4,f5⟩:=hf b hb;exact ⟨f3,f1,f4,f5⟩
 · obtain ⟨u,es,ep,hu,r⟩:=hm;exact ⟨u,es,ep,k _ u (fun z=>(hf _ z).2.1 rfl) hu,r⟩
 · by_cases hb:b=a
   · subst hb; rw [Zc] at e; cases e; exact new
   · rw [Zo hb] at e;refine (I.hok b u e).stay (fun c v hc q=>k c v ?_ q) (fun c q=>by rw [Zo (na c _ q)]; exact q) fun c xs q=>by rw [Zo (na c _ q)]; exact q
     rcases hc with z | z
     · rw [z]; exact nc b u e
     · exact nc c _ z
theorem Inv.turnOnly {t':Nat} {ch:List Addr} (I:Inv X pins σ H s) (k:∀ b u,b∉ch→s.heap.get? b=some u→h'.get? b=some u) (hf:∀ b∈ch,FpOk X pins H b):Inv X pins σ H { s with heap:=h',toks:=t' }:=by
 have nc:∀ b u,H b=some u→b∉ch:=fun b u e z=>by rw [(hf b z).1] at e; cases e
 refine I.step (g':=s.gens) (d':=s.drawn) (ch:=ch) (fun b hb=>?_) (fun b u _ _ hc e _=>k b u hc e) (fun b u _ _ hc e _=>⟨u.slots,k b u hc e⟩) (fun _ _ _ _ n=>n)
  (fun b u hc e=>⟨u,k b u hc e⟩) (fun _ _ e=>e) (fun _ _ _ e=>e) (fun b ps e=>⟨#[],by rw [e]; simp⟩) (fun m hm=>?_) (fun b u e=>?_) I.bare
 · obtain ⟨f0,f1,f2,f3,f4,f5⟩:=hf b hb;exact ⟨f3,f1,f4,f5⟩
 · obtain ⟨u,es,ep,hu,r⟩:=hm;exact ⟨u,es,ep,k _ u (fun z=>(hf _ z).2.1 rfl) hu,r⟩
 · refine (I.hok b u e).stay (fun c v hc q=>k c v ?_ q) (fun _ q=>q) fun _ _ q=>q
   rcases hc with z | z
   · rw [z]; exact nc b u e
   · exact nc c _ z
end
inductive SK where
 | l
 | t
def SK.Sq (K:PySem.W.Frag) (H:Hp) (a:Addr) (xs:List V):SK→Prop
 | .l=>SqL K H a xs
 | .t=>SqT K H a xs
def SK.Is (h:Heap) (a:Addr) (vs:Array Value):SK→Prop
 | .l=>h.IsList a vs
 | .t=>h.IsTuple a vs
def SK.It (h:Heap) (it a:Addr) (i:Nat):SK→Prop
 | .l=>h.IsListIter it a i
 | .t=>h.IsTupleIter it a i
def SK.name:SK→String
 | .l => "list_iterator"
 | .t => "tuple_iterator"
abbrev SK.obj (k:SK) (a:Addr):Obj:={ cls:=.type k.name,data:=.fields #[.ref a,.int 0 0] }
theorem SK.It.ex {k:SK} {h:Heap} {it a:Addr} {i:Nat} (x:k.It h it a i):∃ o,h.get? it=some o∧o.cls=.type k.name∧o.data=.fields #[.ref a,.int i 0]:=by
 cases k <;> exact x
theorem SK.It.of {k:SK} {h:Heap} {it a:Addr} {i:Nat} (x:∃ o,h.get? it=some o∧o.cls=.type k.name∧o.data=.fields #[.ref a,.int i 0]):k.It h it a i:=by
 cases k <;> exact x
theorem SK.It.at {k:SK} {h h':Heap} {it a:Addr} {i:Nat} (x:k.It h it a i) (f:∀ o,h.get? it=some o→h'.get? it=some o):k.It h' it a i:=by
 obtain ⟨o,e,r⟩:=x.ex;exact .of ⟨o,f o e,r⟩
theorem SK.Is.ex {k:SK} {h:Heap} {a:Addr} {vs:Array Value} (x:k.Is h a vs):∃ o n,h.get? a=some o∧o.data=.seq vs n:=by
 cases k with
 | l=>obtain ⟨o,e,_,n,d⟩:=(show h.IsList a vs from x); exact ⟨o,n,e,d⟩
 | t=>obtain ⟨o,e,_,n,d⟩:=(show h.IsTuple a vs from x); exact ⟨o,n,e,d⟩
theorem SK.Is.at {k:SK} {h h':Heap} {a:Addr} {vs:Array Value} (x:k.Is h a vs) (f:∀ o,h.get? a=some o→h'.get? a=some o):k.Is h' a vs:=by
 cases k with
 | l=>obtain ⟨o,e,r⟩:=(show h.IsList a vs from x); exact (⟨o,f o e,r⟩:h'.IsList a vs)
 | t=>obtain ⟨o,e,r⟩:=(show h.IsTuple a vs from x); exact (⟨o,f o e,r⟩:h'.IsTuple a vs)
theorem SK.Sq.is {k:SK} {X:Cx} {pins:List (Addr×Obj)} {σ:St} {H:Hp} {s:Shared} {a:Addr} {xs:List V} (q:k.Sq X.K H a xs) (I:Inv X pins σ H s):∃ its,Vals xs its∧k.Is s.heap a its.toArray:=by
 cases k with
 | l=>obtain ⟨its,rv,p,_⟩:=I.list (show SqL X.K H a xs from q); exact ⟨its,rv,p.isList⟩
 | t=>obtain ⟨its,rv,p,_⟩:=I.tuple (show SqT X.K H a xs from q); exact ⟨its,rv,p⟩
theorem SK.Sq.inj {k:SK} {X:Cx} {pins:List (Addr×Obj)} {σ:St} {H:Hp} {s:Shared} {a:Addr} {xs ys:List V} (q:k.Sq X.K H a xs) (r:k.Sq X.K H a ys) (I:Inv X pins σ H s):xs=ys:=by
 cases k with
 | l=>exact I.list_inj q r
 | t=>exact I.tuple_inj q r
section
variable {prog:Program} {w:World} {A:Around} {E:Value→Shared→Prop} {s:Shared}
theorem SK.draw {k:SK} {it a:Addr} {i:Nat} {vs:Array Value} {x:Value} {Q:Value→Shared→Prop} (hi:k.It s.heap it a i) (ha:k.Is s.heap a vs) (hx:vs[i]? = some x)
 (q:∀ h1,k.It h1 it a (i+1)→Heap.SameBut it s.heap h1→Q x { s with heap:=h1 }):wpAny (model prog w) A (n47_ (.ref it)) Q E s:=by
 cases k with
 | l=>exact wpAny_nextOf_list_item hi ha hx q
 | t =>
   have hi':s.heap.IsTupleIter it a i:=hi;obtain ⟨o,e,c,d⟩:=id hi';obtain ⟨oa,ea,_,n,da⟩:=(show s.heap.IsTuple a vs from ha);unfold n47_;refine n1_ (wpAny_callSpecial?_slot (name:=Str.ofString "__next__") hi'.typeIs F.slot_tuple_iterator_next (wpAny_call_entry F.slot_tuple_iterator_next hi'.typeIs F.entry_tuple_iterator_next ?_ (F.args_tuple_iterator_next_1 _)));refine n1_ (m:=field (.ref it) 0) (wpAny_field e d (x:=.ref a) rfl ?_);show wpAny _ _ (if (Value.ref a == Value.none)=true then _ else _) _ _ s
   rw [if_neg (show ¬ ((Value.ref a == Value.none)=true) from n21_)];refine n1_ (m:=field (.ref it) 1) (wpAny_field e d (x:=.int i 0) rfl ?_);refine n1_ (m:=seqItems? (.ref a)) (wpAny_seqItems ea da ?_);simp only [n60_,hx];refine n1_ (wpAny_setField e d (by simp) (n10_ ⟨x,rfl,n10_ (q _ (SK.It.of ?_) (Heap.SameBut.update ..))⟩));exact ⟨_,Heap.get?_update_self _ e (Obj.isFreed_of_fields (Obj.data_mapFields d _)),(Obj.cls_mapFields ..).trans c,by rw [Obj.data_mapFields d]; simp [rawInt]⟩
theorem SK.dry {k:SK} {it a:Addr} {i:Nat} {vs:Array Value} {Q:Value→Shared→Prop} (hh:A.handled=none) (hi:k.It s.heap it a i) (ha:k.Is s.heap a vs) (hx:vs[i]? = none)
 (q:∀ h1 e,Heap.ExtBut it s.heap h1→(∃ o,h1.get? e=some o∧o.cls=.type "StopIteration")→E (.ref e) { s with heap:=h1 }):wpAny (model prog w) A (n47_ (.ref it)) Q E s:=by
 cases k with
 | l=>exact wpAny_nextOf_list_end hh hi ha hx q
 | t =>
   have hi':s.heap.IsTupleIter it a i:=hi;obtain ⟨o,e,c,d⟩:=id hi';obtain ⟨oa,ea,_,n,da⟩:=(show s.heap.IsTuple a vs from ha);unfold n47_;refine n1_ (wpAny_callSpecial?_slot (name:=Str.ofString "__next__") hi'.typeIs F.slot_tuple_iterator_next (wpAny_call_entry F.slot_tuple_iterator_next hi'.typeIs F.entry_tuple_iterator_next ?_ (F.args_tuple_iterator_next_1 _)));refine n1_ (m:=field (.ref it) 0) (wpAny_field e d (x:=.ref a) rfl ?_);show wpAny _ _ (if (Value.ref a == Value.none)=true then _ else _) _ _ s
   rw [if_neg (show ¬ ((Value.ref a == Value.none)=true) from n21_)];refine n1_ (m:=field (.ref it) 1) (wpAny_field e d (x:=.int i 0) rfl ?_);refine n1_ (m:=seqItems? (.ref a)) (wpAny_seqItems ea da ?_);simp only [n60_,hx];refine n1_ (wpAny_rule (n1_ (wpAny_setField e d (by simp) ?_)));refine n1_ (m:=newExc (.type "StopIteration") []) ?_;simp only [newExc,newTuple];refine n1_ (wpAny_newObj_type (n1_ (m:=firstArgMember _ _) (wpAny_of_eq (a:=Value.none) (by first | rfl | (simp only [firstArgMember]; rfl)) (wpAny_newObj_type ?_ (by size_fits)))) (by size_fits));simp only [raiseNew];refine n1_ (wpAny_handled ?_)
   first | rw [show A.in1.handled=none from hh] | rw [hh]
   refine n1_ (n10_ (wpAny_throw (q _ _ (((Heap.SameBut.update ..).extBut.push _).push _) ⟨_,n11_ _ rfl,rfl⟩)))
theorem SK.iter {k:SK} {a:Addr} {vs:Array Value} {Q:Value→Shared→Prop} (ha:k.Is s.heap a vs) (q:Q (.ref s.heap.objs.size) { s with heap:=s.heap.push (k.obj a) }):wpAny (model prog w) A (pyIter (.ref a)) Q E s:=by
 cases k with
 | l=>exact wpAny_pyIter_list ha q
 | t=>exact wpAny_pyIter_tuple ha q
end
end L2
namespace L2
open PySem PySem.Spec PyProof.Rows
structure ZP (z t o i j a b:Addr):Prop where
 tz:t≠z
 oz:o≠z
 iz:i≠z
 jz:j≠z
 to:t≠o
 ti:t≠i
 tj:t≠j
 oi:o≠i
 oj:o≠j
 ij:i≠j
 az:a≠z
 ao:a≠o
 ai:a≠i
 aj:a≠j
 bz:b≠z
 bo:b≠o
 bi:b≠i
 bj:b≠j
section
variable {prog:Program} {w:World} {A:Around} {E:Value→Shared→Prop} {s:Shared} {k l:SK}
theorem Zmx {z t o i j a b:Addr} {m n:Nat} {xs ys:Array Value} {x y c d:Value} {Q:Value→Shared→Prop} (D:ZP z t o i j a b)
 (hz:IsZip s.heap z t o .none) (ht:IsPair s.heap t (.ref i) (.ref j)) (ho:IsPair s.heap o c d)
 (hi:k.It s.heap i a m) (hj:l.It s.heap j b n) (ha:k.Is s.heap a xs) (hb:l.Is s.heap b ys) (hx:xs[m]? = some x) (hy:ys[n]? = some y)
 (q:∀ h1,IsZip h1 z t o (rawInt s.heap.objs.size)→IsPair h1 o x y→k.It h1 i a (m+1)→l.It h1 j b (n+1)→IsPair h1 s.heap.objs.size x y→h1.objs.size=s.heap.objs.size+1 →
   (∀ e u,e≠z→e≠o→e≠i→e≠j→s.heap.get? e=some u→h1.get? e=some u)→Q (.ref s.heap.objs.size) { s with heap:=h1 }) :
 wpAny (model prog w) A (Builtin.«zip.__next__» ⟨[.ref z],[]⟩) (fun fin s'=>∃ v,fin=.done (.ret v)∧Q v s') E s:=by
 refine n1_ (m:=field (.ref z) 2) (wpAny_field hz rfl (x:=.bool false) rfl ?_);refine n1_ (m:=field (.ref z) 3) (wpAny_field hz rfl (x:=.ref t) rfl (n1_ (wpAny_seqItems ht rfl ?_)));refine n1_ (m:=n69_ (.ref z)) ?_;unfold n69_;refine n1_ (wpAny_field hz rfl (x:=.none) rfl (n10_ ?_));simp only [if_true];refine n1_ (wpAny_rule (n1_ (wpAny_field hz rfl (x:=.ref o) rfl (n1_ (wpAny_setField_rec hz (by simp) fun h1 z1 s1=>?_)))));replace z1:IsZip h1 z t o .ellipsis:=z1;refine n1_ ?_;simp only [List.zipIdx_cons,List.zipIdx_nil,List.forIn_cons,List.forIn_nil];refine n1_ (n1_ (wpAny_onRaise (n1_ (m:=n47_ (.ref i)) ?_)));refine SK.draw (hi.at fun u e=>s1.extBut _ _ D.iz e) (ha.at fun u e=>s1.extBut _ _ D.az e) hx fun h2 i2 s2=>n10_ ?_;have o2:IsPair h2 o c d:=s2.extBut _ _ D.oi (s1.extBut _ _ D.oz ho);refine n1_ (wpAny_seqItems o2 rfl (n1_ (wpAny_updateSeq_pair o2 fun h3 o3 s3=>?_)));replace o3:IsPair h3 o x d:=o3;refine n1_ (wpAny_letGo (n10_ (n1_ (n1_ (wpAny_onRaise (n1_ (m:=n47_ (.ref j)) ?_))))));refine SK.draw (hj.at fun u e=>s3.extBut _ _ D.oj.symm (s2.extBut _ _ D.ij.symm (s1.extBut _ _ D.jz e))) (hb.at fun u e=>s3.extBut _ _ D.bo (s2.extBut _ _ D.bi (s1.extBut _ _ D.bz e))) hy fun h4 j4 s4=>n10_ ?_;have o4:IsPair h4 o x d:=s4.extBut _ _ D.oj o3;refine n1_ (wpAny_seqItems o4 rfl (n1_ (wpAny_updateSeq_pair o4 fun h5 o5 s5=>?_)));replace o5:IsPair h5 o x y:=o5;refine n1_ (wpAny_letGo (n10_ (n10_ (n1_ (wpAny_seqItems o5 rfl (n1_ (wpAny_newTuple ?_)))))));have sz:h5.objs.size=s.heap.objs.size:=by rw [s5.1,s4.1,s3.1,s2.1,s1.1]
 have z5:IsZip h5 z t o .ellipsis:=s5.extBut _ _ D.oz.symm (s4.extBut _ _ D.jz.symm (s3.extBut _ _ D.oz.symm (s2.extBut _ _ D.iz.symm z1)));have k5:∀ e u,e≠z→e≠o→e≠i→e≠j→s.heap.get? e=some u→h5.get? e=some u:=fun e u e1 e2 e3 e4 g=>s5.extBut _ _ e2 (s4.extBut _ _ e4 (s3.extBut _ _ e2 (s2.extBut _ _ e3 (s1.extBut _ _ e1 g))));have i5:k.It h5 i a (m+1):=i2.at fun u e=>s5.extBut _ _ D.oi.symm (s4.extBut _ _ D.ij (s3.extBut _ _ D.oi.symm e));have j5:l.It h5 j b (n+1):=j4.at fun u e=>s5.extBut _ _ D.oj.symm e;have zl:z < h5.objs.size:=n13_ z5;refine n1_ (m:=Builtin.SmallTypes.ownedTupleHandOut (.ref z) (.ref h5.objs.size)) ?_;unfold Builtin.SmallTypes.ownedTupleHandOut;have z6:IsZip (h5.push { cls:=.type "tuple",data:=.seq #[x,y] }) z t o .ellipsis:=n2_ _ z5;refine n1_ (wpAny_setField_rec z6 (by simp) fun h7 z7 s7=>?_);replace z7:IsZip h7 z t o (rawInt h5.objs.size):=z7;refine wpAny_setField_rec z7 (by simp) fun h8 z8 s8=>?_;replace z8:IsZip h8 z t o (rawInt h5.objs.size):=z8;have up:∀ e u,e≠z→h5.get? e=some u→h8.get? e=some u:=fun e u e1 g=>s8.extBut _ _ e1 (s7.extBut _ _ e1 (n2_ _ g));have T8:IsPair h8 h5.objs.size x y:=s8.extBut _ _ (Nat.ne_of_gt zl) (s7.extBut _ _ (Nat.ne_of_gt zl) (n11_ _ rfl));have l8:h8.objs.size=h5.objs.size+1:=by rw [s8.1,s7.1,n65_]
 rw [sz] at z8 T8 l8;refine n10_ ⟨_,rfl,?_⟩;show Q (.ref h5.objs.size) _
 rw [sz];exact q h8 z8 (up _ _ D.oz o5) (i5.at fun u e=>up _ u D.iz e) (j5.at fun u e=>up _ u D.jz e) T8 l8 fun e u e1 e2 e3 e4 g=>up e u e1 (k5 e u e1 e2 e3 e4 g)
theorem Zo7 {z t o i j a b:Addr} {m n:Nat} {xs ys:Array Value} {c d:Value} {Q:Fin→Shared→Prop} (hh:A.handled=none) (D:ZP z t o i j a b)
 (hz:IsZip s.heap z t o .none) (ht:IsPair s.heap t (.ref i) (.ref j)) (ho:IsPair s.heap o c d)
 (hi:k.It s.heap i a m) (hj:l.It s.heap j b n) (ha:k.Is s.heap a xs) (hb:l.Is s.heap b ys) (hx:xs[m]? = none∨ys[n]? = none)
 (q:∀ h1 e,(∀ e u,e≠z→e≠o→e≠i→e≠j→s.heap.get? e=some u→h1.get? e=some u)→(∃ u,h1.get? e=some u∧u.cls=.type "StopIteration")→E (.ref e) { s with heap:=h1 }) :
 wpAny (model prog w) A (Builtin.«zip.__next__» ⟨[.ref z],[]⟩) Q E s:=by
 refine n1_ (m:=field (.ref z) 2) (wpAny_field hz rfl (x:=.bool false) rfl ?_);refine n1_ (m:=field (.ref z) 3) (wpAny_field hz rfl (x:=.ref t) rfl (n1_ (wpAny_seqItems ht rfl ?_)));refine n1_ (m:=n69_ (.ref z)) ?_;unfold n69_;refine n1_ (wpAny_field hz rfl (x:=.none) rfl (n10_ ?_));simp only [if_true];refine n1_ (wpAny_rule (n1_ (wpAny_field hz rfl (x:=.ref o) rfl (n1_ (wpAny_setField_rec hz (by simp) fun h1 z1 s1=>?_)))));replace z1:IsZip h1 z t o .ellipsis:=z1;refine n1_ ?_;simp only [List.zipIdx_cons,List.zipIdx_nil,List.forIn_cons,List.forIn_nil];refine n1_ (n1_ (wpAny_onRaise (n1_ (m:=n47_ (.ref i)) ?_)));cases hm:xs[m]? with
 | none =>
   refine SK.dry hh (hi.at fun u e=>s1.extBut _ _ D.iz e) (ha.at fun u e=>s1.extBut _ _ D.az e) hm fun h2 e s2 ⟨u,g,cu⟩=>?_;have z2:IsZip h2 z t o .ellipsis:=s2 _ _ D.iz.symm z1;have ez:e≠z:=fun r=>by subst r; rw [z2] at g; cases g; simp at cu
   exact wpAny_setField_rec z2 (by simp) fun h3 _ s3=>q h3 e (fun e' u' e1 _ e3 _ r=>s3.extBut _ _ e1 (s2 _ _ e3 (s1.extBut _ _ e1 r))) ⟨u,s3.extBut _ _ ez g,cu⟩
 | some x =>
   have hn:ys[n]? = none:=by rcases hx with r | r; (rw [hm] at r; cases r); exact r
   refine SK.draw (hi.at fun u e=>s1.extBut _ _ D.iz e) (ha.at fun u e=>s1.extBut _ _ D.az e) hm fun h2 i2 s2=>n10_ ?_;have o2:IsPair h2 o c d:=s2.extBut _ _ D.oi (s1.extBut _ _ D.oz ho);refine n1_ (wpAny_seqItems o2 rfl (n1_ (wpAny_updateSeq_pair o2 fun h3 o3 s3=>?_)));refine n1_ (wpAny_letGo (n10_ (n1_ (n1_ (wpAny_onRaise (n1_ (m:=n47_ (.ref j)) ?_))))));refine SK.dry hh (hj.at fun u e=>s3.extBut _ _ D.oj.symm (s2.extBut _ _ D.ij.symm (s1.extBut _ _ D.jz e))) (hb.at fun u e=>s3.extBut _ _ D.bo (s2.extBut _ _ D.bi (s1.extBut _ _ D.bz e))) hn fun h4 e s4 ⟨u,g,cu⟩=>?_;have z4:IsZip h4 z t o .ellipsis:=s4 _ _ D.jz.symm (s3.extBut _ _ D.oz.symm (s2.extBut _ _ D.iz.symm z1));have ez:e≠z:=fun r=>by subst r; rw [z4] at g; cases g; simp at cu
   exact wpAny_setField_rec z4 (by simp) fun h5 _ s5=>q h5 e (fun e' u' e1 e2 e3 e4 r=>s5.extBut _ _ e1 (s4 _ _ e4 (s3.extBut _ _ e2 (s2.extBut _ _ e3 (s1.extBut _ _ e1 r))))) ⟨u,s5.extBut _ _ ez g,cu⟩
theorem Zfs {z t o i j a b:Addr} {m n:Nat} {xs ys:Array Value} {x y c d:Value} {Q:Option Value→Shared→Prop} (D:ZP z t o i j a b)
 (hz:IsZip s.heap z t o .none) (ht:IsPair s.heap t (.ref i) (.ref j)) (ho:IsPair s.heap o c d)
 (hi:k.It s.heap i a m) (hj:l.It s.heap j b n) (ha:k.Is s.heap a xs) (hb:l.Is s.heap b ys) (hx:xs[m]? = some x) (hy:ys[n]? = some y)
 (q:∀ h1,IsZip h1 z t o (rawInt s.heap.objs.size)→IsPair h1 o x y→k.It h1 i a (m+1)→l.It h1 j b (n+1)→IsPair h1 s.heap.objs.size x y→h1.objs.size=s.heap.objs.size+1 →
   (∀ e u,e≠z→e≠o→e≠i→e≠j→s.heap.get? e=some u→h1.get? e=some u)→Q (some (.ref s.heap.objs.size)) { s with heap:=h1 }) :
 wpAny (model prog w) A (pyNext (.ref z)) Q E s:=by
 have hT:s.TypeIs (.ref z) "zip" := ⟨_,hz,rfl⟩;unfold pyNext
 exact n1_ (wpAny_attempt (wpAny_callSpecial?_slot (name:=Str.ofString "__next__") hT F.slot_zip_next (wpAny_call_entry F.slot_zip_next hT F.entry_zip_next
  (Zmx D hz ht ho hi hj ha hb hx hy fun h1 r1 r2 r3 r4 r5 r6 r7=>n10_ (q h1 r1 r2 r3 r4 r5 r6 r7)) (F.args_zip_next_1 _))))
theorem Zhe {z t o i j a b:Addr} {m n:Nat} {xs ys:Array Value} {c d:Value} {Q:Option Value→Shared→Prop} (hh:A.handled=none) (D:ZP z t o i j a b)
 (hz:IsZip s.heap z t o .none) (ht:IsPair s.heap t (.ref i) (.ref j)) (ho:IsPair s.heap o c d)
 (hi:k.It s.heap i a m) (hj:l.It s.heap j b n) (ha:k.Is s.heap a xs) (hb:l.Is s.heap b ys) (hx:xs[m]? = none∨ys[n]? = none)
 (q:∀ h1,(∀ e u,e≠z→e≠o→e≠i→e≠j→s.heap.get? e=some u→h1.get? e=some u)→Q none { s with heap:=h1 }) :
 wpAny (model prog w) A (pyNext (.ref z)) Q E s:=by
 have hT:s.TypeIs (.ref z) "zip" := ⟨_,hz,rfl⟩;unfold pyNext
 refine n1_ (wpAny_attempt (wpAny_callSpecial?_slot (name:=Str.ofString "__next__") hT F.slot_zip_next (wpAny_call_entry F.slot_zip_next hT F.entry_zip_next
  (Zo7 hh D hz ht ho hi hj ha hb hx fun h1 e r1 ⟨u,g,cu⟩=>?_) (F.args_zip_next_1 _))))
 exact n1_ (wpAny_isInstance (T := "StopIteration") (b:=true) ⟨u,g,cu⟩ isSubtype_stop (n10_ (q _ r1)))
abbrev zp1 (k:SK) (h:Heap) (a:Addr):Heap:=h.push (k.obj a)
abbrev zp2 (k l:SK) (h:Heap) (a b:Addr):Heap:=(zp1 k h a).push (l.obj b)
abbrev zp3 (k l:SK) (h:Heap) (a b:Addr):Heap:=(zp2 k l h a b).push { cls:=.type "tuple",data:=.seq #[.ref h.objs.size,.ref (zp1 k h a).objs.size] }
abbrev zp4 (k l:SK) (h:Heap) (a b:Addr):Heap:=(zp3 k l h a b).push { cls:=.type "tuple",data:=.seq #[.none,.none] }
abbrev zp5 (k l:SK) (h:Heap) (a b:Addr):Heap:=(zp4 k l h a b).push { cls:=.type "zip",data:=.fields #[.none,.bool false,.bool false,.ref (zp2 k l h a b).objs.size,.ref (zp3 k l h a b).objs.size] }
theorem Zki (k l:SK) (a b:Addr) (xs ys:Array Value):Meets (Builtin.«zip.__new__» ⟨[.type "zip",.ref a,.ref b],[]⟩) (fun _ R s=>k.Is s.heap a xs∧l.Is s.heap b ys∧R (.ok (.ret (.ref (zp4 k l s.heap a b).objs.size))) { s with heap:=zp5 k l s.heap a b }) :=
 .of_wp fun prog w A R s h=>by
  obtain ⟨hp,g,d,tk,os⟩:=s; obtain ⟨h1,h2,h⟩:=h;have hsub:=sub_zip;have r1:k.Is (Shared.heap ⟨hp,g,d,tk,os⟩) a xs:=h1;have r2:l.Is (Shared.heap ⟨hp.push (k.obj a),g,d,tk,os⟩) b ys:=SK.Is.at h2 fun o e=>n2_ _ e
  wp_walk using SK.iter r1,SK.iter r2
  exact ⟨_,rfl,h⟩
theorem Zi9 {a b:Addr} {xs ys:Array Value} {Q:Value→Shared→Prop} (ha:k.Is s.heap a xs) (hb:l.Is s.heap b ys)
 (q:∀ h1,IsZip h1 (s.heap.objs.size+4) (s.heap.objs.size+2) (s.heap.objs.size+3) .none→IsPair h1 (s.heap.objs.size+2) (.ref s.heap.objs.size) (.ref (s.heap.objs.size+1)) →
   IsPair h1 (s.heap.objs.size+3) .none .none→k.It h1 s.heap.objs.size a 0→l.It h1 (s.heap.objs.size+1) b 0→h1.objs.size=s.heap.objs.size+5 →
   (∀ c o,s.heap.get? c=some o→h1.get? c=some o)→Q (.ref (s.heap.objs.size+4)) { s with heap:=h1 }) :
 wpAny (model prog w) A (call (.type "zip") [.ref a,.ref b]) Q E s:=by
 refine callType_new F.called_zip (by decide) (F.typeCall_zip_2 _ _) (F.newCall_zip_2 _ _) (fun obj=>F.args_object_init_3 obj _ _) F.entry_zip_new (Zki k l a b xs ys) ⟨ha,hb,?_⟩;have n1:(zp1 k s.heap a).objs.size=s.heap.objs.size+1:=n65_ ..;have n2:(zp2 k l s.heap a b).objs.size=s.heap.objs.size+2:=by rw [n65_,n1]
 have n3:(zp3 k l s.heap a b).objs.size=s.heap.objs.size+3:=by rw [n65_,n2]
 have n4:(zp4 k l s.heap a b).objs.size=s.heap.objs.size+4:=by rw [n65_,n3]
 have n5:(zp5 k l s.heap a b).objs.size=s.heap.objs.size+5:=by rw [n65_,n4]
 have m5:(zp5 k l s.heap a b).get? (zp4 k l s.heap a b).objs.size=some _:=n11_ _ rfl;have m4:(zp5 k l s.heap a b).get? (zp3 k l s.heap a b).objs.size=some _:=n2_ _ (n11_ _ rfl);have m3:(zp5 k l s.heap a b).get? (zp2 k l s.heap a b).objs.size=some _:=n2_ _ (n2_ _ (n11_ _ rfl));have m2:(zp5 k l s.heap a b).get? (zp1 k s.heap a).objs.size=some _:=n2_ _ (n2_ _ (n2_ _ (n11_ _ rfl)));have m1:(zp5 k l s.heap a b).get? s.heap.objs.size=some _:=n2_ _ (n2_ _ (n2_ _ (n2_ _ (n11_ _ rfl))));show _∧_
 rw [n2,n3,n4] at m5;rw [n1,n2] at m3;rw [n3] at m4;rw [n1] at m2;rw [n4];exact ⟨⟨_,m5,rfl⟩,q _ m5 m3 m4 (.of ⟨_,m1,rfl,rfl⟩) (.of ⟨_,m2,rfl,rfl⟩) n5 fun c o e=>n2_ _ (n2_ _ (n2_ _ (n2_ _ (n2_ _ e))))⟩
end
end L2
namespace L2
open PySem PySem.Spec PyProof.Rows
def Itz (k l:SK) (K:PySem.W.Frag) (a b:Addr):It :=
 ⟨fun i H=>∃ xs ys x y,k.Sq K H a xs∧l.Sq K H b ys∧xs[i]? = some x∧ys[i]? = some y,
  fun i H v H'=>∃ p x y,v=.ref p∧H p=none∧H'=upd H p (.tup [x,y])∧(∀ xs,k.Sq K H a xs→xs[i]? = some x)∧∀ ys,l.Sq K H b ys→ys[i]? = some y,
  fun i H=>∃ xs ys,k.Sq K H a xs∧l.Sq K H b ys∧(xs.length≤i∨ys.length≤i)⟩
theorem Zig {P:Program} {w:World} {K:PySem.W.Frag} {es:List Expr} {x1:Nat} {tp:Pos} {k l:SK} {z t o i j a b:Addr} (D:ZP z t o i j a b) :
 Turn P w K (.Tuple es x1 tp) (Itz k l K a b) [z,t,o,i,j] z (fun n h=>IsZip h z t o .none∧IsPair h t (.ref i) (.ref j)∧(∃ c d,IsPair h o c d)∧k.It h i a n∧l.It h j b n) where
 mem:=by simp
 obj:=fun n h st e he=>by
  obtain ⟨h1,h2,⟨c,d,h3⟩,h4,h5⟩:=st;simp only [n18_,n25_,or_false] at he
  rcases he with rfl | rfl | rfl | rfl | rfl
  · exact ⟨_,h1,fun v q=>by cases (show Data.fields _=Data.cell v from q)⟩
  · exact ⟨_,h2,fun v q=>by cases (show Data.seq _ _=Data.cell v from q)⟩
  · exact ⟨_,h3,fun v q=>by cases (show Data.seq _ _=Data.cell v from q)⟩
  · obtain ⟨u,e,_,q⟩:=h4.ex; exact ⟨u,e,fun v r=>by rw [q] at r; cases r⟩
  · obtain ⟨u,e,_,q⟩:=h5.ex; exact ⟨u,e,fun v r=>by rw [q] at r; cases r⟩
 keep:=fun n h h' st f=>by
  obtain ⟨h1,h2,⟨c,d,h3⟩,h4,h5⟩:=st;exact ⟨f z (by simp) _ h1,f t (by simp) _ h2,⟨c,d,f o (by simp) _ h3⟩,h4.at fun u e=>f i (by simp) u e,h5.at fun u e=>f j (by simp) u e⟩
 item:=by
  intro X hP hw hK hc n pins s σ H E I hf st hg;subst hP hw hK;obtain ⟨h1,h2,⟨c,d,h3⟩,h4,h5⟩:=st;obtain ⟨xs,ys,x,y,q1,q2,hx,hy⟩:=hg;obtain ⟨us,ru,pu⟩:=q1.is I;obtain ⟨vs,rv,pv⟩:=q2.is I;obtain ⟨u,hu,ux⟩:=ru.get hx;obtain ⟨v,hv,vy⟩:=rv.get hy;have lt:∀ {e o'},s.heap.get? e=some o'→e≠s.heap.objs.size:=fun e=>n36_ (n13_ e);refine Zfs D h1 h2 h3 h4 h5 pu pv (x:=u) (y:=v) (by simpa using hu) (by simpa using hv) fun g r1 r2 r3 r4 r5 r6 r7=>?_;refine ⟨_,rfl,wpAny_letOwnedTupleGo_zip r1 fun g2 z2 s2=>?_⟩;have hp:H s.heap.objs.size=none:=I.hok.fresh (n5_ _);have T2:IsPair g2 s.heap.objs.size u v:=s2.extBut _ _ (Ne.symm (lt h1)) r5
  have I2:Inv X pins σ (upd H s.heap.objs.size (.tup [x,y])) { s with heap:=g2,toks:=s.toks }:=by
   refine I.turnNew (ch:=[z,o,i,j]) (fun e o' ne q=>?_) (fun e he=>hf e ?_) (n5_ _) ⟨z2_,[u,v],.cons ux (.cons vy .nil),⟨_,T2,rfl,_,rfl⟩⟩
   · simp only [n18_,n25_,or_false,not_or] at ne;exact s2.extBut _ _ ne.1 (r7 e o' ne.1 ne.2.1 ne.2.2.1 ne.2.2.2 q)
   · simp only [n18_,n25_,or_false] at he ⊢
     rcases he with q | q | q | q <;> simp [q]
  refine ⟨.ref s.heap.objs.size,_,I2,rfl,⟨_,x,y,rfl,hp,rfl,fun xs' q=>by rw [q.inj q1 I]; exact hx,fun ys' q=>by rw [q.inj q2 I]; exact hy⟩,⟨z2,?_,⟨u,v,s2.extBut _ _ D.oz r2⟩,r3.at fun u' e=>s2.extBut _ _ D.iz e,r4.at fun u' e=>s2.extBut _ _ D.jz e⟩,fun e he=>?_⟩
  · exact s2.extBut _ _ D.tz (r7 _ _ D.tz D.to D.ti D.tj h2)
  · have ne:e≠s.heap.objs.size:=by
     simp only [n18_,n25_,or_false] at he
     rcases he with rfl | rfl | rfl | rfl | rfl
     · exact lt h1
     · exact lt h2
     · exact lt h3
     · obtain ⟨_,q,_⟩:=h4.ex; exact lt q
     · obtain ⟨_,q,_⟩:=h5.ex; exact lt q
    rw [Zo ne];exact (hf e he).1
 done:=by
  intro X hP hw hK hc n pins s σ H E I hf st hg;subst hP hw hK;obtain ⟨h1,h2,⟨c,d,h3⟩,h4,h5⟩:=st;obtain ⟨xs,ys,q1,q2,hl⟩:=hg;obtain ⟨us,ru,pu⟩:=q1.is I;obtain ⟨vs,rv,pv⟩:=q2.is I;have e1:=ru.length;have e2:=rv.length;refine Zhe (I.ok.hd hc) D h1 h2 h3 h4 h5 pu pv ?_ fun g r=>⟨rfl,?_⟩
  · rcases hl with q | q
    · left; simp; omega
    · right; simp; omega
  · refine I.turnOnly (t':=s.toks) (ch:=[z,o,i,j]) (fun e o' ne q=>?_) (fun e he=>hf e ?_)
    · simp only [n18_,n25_,or_false,not_or] at ne;exact r e o' ne.1 ne.2.1 ne.2.2.1 ne.2.2.2 q
    · simp only [n18_,n25_,or_false] at he ⊢
      rcases he with q | q | q | q <;> simp [q]
 self:=fun _ _ _ _ _ st h=>wpAny_pyIter_zip st.1 h
theorem Zn8 {n a b:Addr} (la:a < n) (lb:b < n):ZP (n+4) (n+2) (n+3) n (n+1) a b:=by
 constructor <;> (intro h; have h':@Eq Nat _ _:=h; have la':@LT.lt Nat _ _ _:=la; have lb':@LT.lt Nat _ _ _:=lb; clear h la lb; omega)
theorem Zg2:bootBuiltins "zip" = some (.type "zip"):=by decide +kernel
section
variable {X:Cx} {es:List Expr} {x1:Nat} {tp:Pos}
def iZip (k l:SK) (K:PySem.W.Frag) (ta:TA):TI:=fun σ H R=>ta σ H fun vs H1=>∃ a b,vs=[.ref a,.ref b]∧(∃ xs,k.Sq K H1 a xs)∧(∃ ys,l.Sq K H1 b ys)∧R (Itz k l K a b) H1
theorem Inv.fps {pins:List (Addr×Obj)} {σ:St} {H:Hp} {s:Shared} (I:Inv X pins σ H s) {fp:List Addr} (h:∀ b∈fp,s.heap.objs.size≤b):∀ b∈fp,FpOk X pins H b:=fun b hb=>I.fpOk (h b hb) (I.hok.fresh (h b hb))
theorem Zim (k l:SK) {a b:Expr} {ta:TA} {p pos:Pos} (hg:Gl X "zip") (hm:X.mg "zip" = none) (ha:PA X [a,b] ta) (hs:starEach [a,b] X.env=[(false,eval a X.env),(false,eval b X.env)]:=by rfl) (hs2:starEach [b] X.env=[(false,eval b X.env)]:=by rfl) :
 PI X (.Tuple es x1 tp) (.Call (.Name "zip" p) [a,b] [] pos) (iZip k l X.K ta):=by
 intro pins s σ H R I h;refine Call_ (Zbe I hg hm Zg2 (n51_ (thn (ha pos pins s σ H _ I h) fun us s1 ⟨vs,H1,I1,r1,q1⟩=>?_) (by rw [hs,hs2]) (by rw [hs2]; rfl)));obtain ⟨a,b,e,⟨xs,hx⟩,⟨ys,hy⟩,q⟩:=q1;subst e;cases r1 with
 | cons r rr =>
   cases rr with
   | cons r' rr =>
     cases rr
     cases r
     cases r'
     obtain ⟨us,ru,pu⟩:=hx.is I1;obtain ⟨ws,rw',pw⟩:=hy.is I1;have la:a < s1.heap.objs.size:=by obtain ⟨_,_,e,_⟩:=pu.ex; exact n13_ e
     have lb:b < s1.heap.objs.size:=by obtain ⟨_,_,e,_⟩:=pw.ex; exact n13_ e
     refine Zi9 pu pw fun h1 m1 m2 m3 m4 m5 m6 m7=>wpAny_pyIter_zip m1 ?_;have I2:Inv X pins σ H1 { s1 with heap:=h1,toks:=s1.toks }:=I1.kept m7;refine ⟨_,_,_,_,H1,rfl,I2,Zig (z:=s1.heap.objs.size+4) (t:=s1.heap.objs.size+2) (o:=s1.heap.objs.size+3) (i:=s1.heap.objs.size) (j:=s1.heap.objs.size+1) (k:=k) (l:=l) (a:=a) (b:=b) ?_,⟨m1,m2,⟨_,_,m3⟩,m4,m5⟩,?_,q⟩
     · exact Zn8 la lb
     · have f1:=I1.fps (fp:=[s1.heap.objs.size+4,s1.heap.objs.size+2,s1.heap.objs.size+3,s1.heap.objs.size,s1.heap.objs.size+1]) (by
        intro e he;simp only [n18_,n25_,or_false] at he
        rcases he with rfl | rfl | rfl | rfl | rfl <;> omega)
       exact f1
end
def Ite (k:SK) (K:PySem.W.Frag) (a:Addr):It :=
 ⟨fun i H=>∃ xs x,k.Sq K H a xs∧xs[i]? = some x,
  fun i H v H'=>∃ p x,v=.ref p∧H p=none∧H'=upd H p (.tup [.int i,x])∧∀ xs,k.Sq K H a xs→xs[i]? = some x,
  fun i H=>∃ xs,k.Sq K H a xs∧xs.length=i⟩
theorem SK.draws {prog:Program} {w:World} {A:Around} {k:SK} (hh:A.handled=none) (it a:Addr) (ne:a≠it) (vs:Array Value):Draws prog w A it [it,a] vs.size (fun i v=>vs[i]? = some v) (fun i h=>k.It h it a i∧k.Is h a vs) where
 live:=fun _ _ st=>let ⟨o,e,_⟩:=st.1.ex; ⟨o,e⟩
 frame:=fun _ _ _ st f=>⟨st.1.at fun o e=>f it (by simp) o e,st.2.at fun o e=>f a (by simp) o e⟩
 item:=fun i s Q E hi st q=>SK.draw st.1 st.2 (x:=vs[i]) (by simp [hi]) fun h1 r1 r2=>q _ h1 s.toks (by simp [hi]) ⟨r1,st.2.at fun o e=>r2.extBut _ _ ne e⟩ r2
 done:=fun s Q E st q=>SK.dry hh st.1 st.2 (by simp) q
theorem Zgi {P:Program} {w:World} {K:PySem.W.Frag} {es:List Expr} {x1:Nat} {tp:Pos} {k:SK} {e it a:Addr} (n1:e≠it) (n2:a≠e) (n3:a≠it) :
 Turn P w K (.Tuple es x1 tp) (Ite k K a) [e,it] e (fun n h=>(∃ old,IsEnum h e it n old)∧k.It h it a n) where
 mem:=by simp
 obj:=fun n h st b hb=>by
  obtain ⟨⟨old,h1⟩,h2⟩:=st;simp only [n18_,n25_,or_false] at hb
  rcases hb with rfl | rfl
  · exact ⟨_,h1,fun v q=>by cases (show Data.fields _=Data.cell v from q)⟩
  · obtain ⟨u,e,_,q⟩:=h2.ex; exact ⟨u,e,fun v r=>by rw [q] at r; cases r⟩
 keep:=fun n h h' st f=>by
  obtain ⟨⟨old,h1⟩,h2⟩:=st;exact ⟨⟨old,f e (by simp) _ h1⟩,h2.at fun u q=>f it (by simp) u q⟩
 item:=by
  intro X hP hw hK hc n pins s σ H E I hf st hg;subst hP hw hK;obtain ⟨⟨old,h1⟩,h2⟩:=st;obtain ⟨xs,x,q1,hx⟩:=hg;obtain ⟨us,ru,pu⟩:=q1.is I;obtain ⟨u,hu,ux⟩:=ru.get hx;have lt:∀ {b o'},s.heap.get? b=some o'→b≠s.heap.objs.size:=fun e=>n36_ (n13_ e);have hlen:n < us.toArray.size:=by have:=(n33_.mp hu).1; simpa using this
  refine wpAny_pyNext_enum_itemD (SK.draws (k:=k) (show X.A.in1.handled=none from I.ok.hd hc) it a n3 us.toArray) h1 ⟨h2,pu⟩ hlen n1 (by simp [n1,n2.symm]) fun v g tk hv r1 r2 r3 r4 r5=>?_
  have ev:v=u:=by
   have:us[n]? = some v:=by simpa using hv
   rw [hu] at this; exact (Option.some.inj this).symm
  subst ev;refine ⟨_,rfl,wpAny_letOwnedTupleGo_enum r1 fun g2 z2 s2=>?_⟩;have hp:H s.heap.objs.size=none:=I.hok.fresh (n5_ _);have T2:g2.get? s.heap.objs.size=some { cls:=.type "tuple",data:=.seq #[.int n tk,v] }:=s2.extBut _ _ (Ne.symm (lt h1)) r3
  have I2:Inv X pins σ (upd H s.heap.objs.size (.tup [.int n,x])) { s with heap:=g2,toks:=tk+1 }:=by
   refine I.turnNew (ch:=[e,it]) (fun b o' ne q=>?_) (fun b hb=>hf b hb) (n5_ _) ⟨z2_,[.int n tk,v],.cons ⟨tk,rfl⟩ (.cons ux .nil),⟨_,T2,rfl,_,rfl⟩⟩;simp only [n18_,n25_,or_false,not_or] at ne;exact s2.extBut _ _ ne.1 (r5 b o' ne.1 ne.2 q)
  refine ⟨.ref s.heap.objs.size,_,I2,rfl,⟨_,x,rfl,hp,rfl,fun xs' q=>by rw [q.inj q1 I]; exact hx⟩,⟨⟨v,by simpa using z2⟩,r2.1.at fun u' q=>s2.extBut _ _ n1.symm q⟩,fun b hb=>?_⟩
  have ne:b≠s.heap.objs.size:=by
   simp only [n18_,n25_,or_false] at hb
   rcases hb with rfl | rfl
   · exact lt h1
   · obtain ⟨_,q,_⟩:=h2.ex; exact lt q
  rw [Zo ne];exact (hf b hb).1
 done:=by
  intro X hP hw hK hc n pins s σ H E I hf st hg;subst hP hw hK;obtain ⟨⟨old,h1⟩,h2⟩:=st;obtain ⟨xs,q1,hl⟩:=hg;obtain ⟨us,ru,pu⟩:=q1.is I;have e1:=ru.length;have en:us.toArray.size=n:=by rw [n7_]; omega
  subst en;have D:=SK.draws (prog:=X.prog) (w:=X.w) (k:=k) (show X.A.in1.handled=none from I.ok.hd hc) it a n3 us.toArray;refine wpAny_pyNext_enum_endD D h1 ⟨h2,pu⟩ fun g r=>⟨rfl,?_⟩;exact I.turnOnly (t':=s.toks) (ch:=[it]) (fun b o' ne q=>r b o' (by simpa using ne) q) (fun b hb=>hf b (by simp at hb; simp [hb]))
 self:=fun _ _ _ _ _ st h=>by obtain ⟨⟨old,h1⟩,_⟩:=st; exact wpAny_pyIter_enum h1 h
end L2
namespace L2
open PySem PySem.Spec PyProof.Rows
open AutoSeq1 (wpAny_loadPart')
abbrev Ze7 (it:Addr):Obj:={ cls:=.type "enumerate",data:=.fields #[.none,.bool false,.ref it,rawInt 0,.none,.none] }
theorem Zjn (k:SK) (a:Addr) (vs:Array Value) (o:Obj):Meets (Builtin.«enumerate.__new__» ⟨[.type "enumerate",.ref a],[]⟩) (fun _ R s=>s.heap.get? a=some o∧k.Is s.heap a vs ∧
 R (.ok (.ret (.ref (s.heap.push (k.obj a)).objs.size))) { s with heap:=(s.heap.push (k.obj a)).push (Ze7 s.heap.objs.size) }) :=
 .of_wp fun prog w A R s h=>by
  obtain ⟨hp,g,d,tk,os⟩:=s; obtain ⟨ho,hk,h⟩:=h;have hsub:=sub_enumerate;have r1:k.Is (Shared.heap ⟨hp,g,d,tk,os⟩) a vs:=hk
  wp_walk using wpAny_loadPart' ho
  refine wpAny_stack_any fun st=>n10_ ?_;split
  · rename_i c _ _ _ _ _
    cases (c == Value.type "enumerate")
    · (wp_walk using wpAny_loadPart' ho,SK.iter r1); exact ⟨_,rfl,h⟩
    · (wp_walk using wpAny_loadPart' ho,SK.iter r1); exact ⟨_,rfl,h⟩
  · (wp_walk using wpAny_loadPart' ho,SK.iter r1); exact ⟨_,rfl,h⟩
section
variable {prog:Program} {w:World} {A:Around} {E:Value→Shared→Prop} {s:Shared} {k:SK}
theorem Zgd {a:Addr} {vs:Array Value} {Q:Value→Shared→Prop} (ha:k.Is s.heap a vs)
 (q:∀ h1,IsEnum h1 (s.heap.objs.size+1) s.heap.objs.size 0 .none→k.It h1 s.heap.objs.size a 0→(∀ b o,s.heap.get? b=some o→h1.get? b=some o)→Q (.ref (s.heap.objs.size+1)) { s with heap:=h1 }) :
 wpAny (model prog w) A (call (.type "enumerate") [.ref a]) Q E s:=by
 obtain ⟨o,n,e,d⟩:=ha.ex;refine callType_new F.called_enumerate (by decide) (F.typeCall_enumerate_1 _) (F.newCall_enumerate_1 _) (fun obj=>F.args_object_init_2 obj _) F.entry_enumerate_new (Zjn k a vs o) ⟨e,ha,?_⟩;have n1:(s.heap.push (k.obj a)).objs.size=s.heap.objs.size+1:=n65_ ..;have m2:((s.heap.push (k.obj a)).push (Ze7 s.heap.objs.size)).get? (s.heap.push (k.obj a)).objs.size=some (Ze7 s.heap.objs.size):=n11_ _ rfl;have m1:((s.heap.push (k.obj a)).push (Ze7 s.heap.objs.size)).get? s.heap.objs.size=some (k.obj a):=n2_ _ (n11_ _ rfl);show _∧_
 rw [n1] at m2;rw [n1];exact ⟨⟨_,m2,rfl⟩,q _ m2 (.of ⟨_,m1,rfl,rfl⟩) fun b o' r=>n2_ _ (n2_ _ r)⟩
end
theorem Zew:bootBuiltins "enumerate" = some (.type "enumerate"):=by decide +kernel
section
variable {X:Cx} {es:List Expr} {x1:Nat} {tp:Pos}
def Zrw (k:SK) (K:PySem.W.Frag) (ta:TA):TI:=fun σ H R=>ta σ H fun vs H1=>∃ a,vs=[.ref a]∧(∃ xs,k.Sq K H1 a xs)∧R (Ite k K a) H1
theorem ne3 {n a:Addr} (la:a < n):n+1≠n∧a≠n+1∧a≠n:=by
 have la':@LT.lt Nat _ a n:=la;refine ⟨fun h=>?_,fun h=>?_,fun h=>?_⟩ <;> (have h':@Eq Nat _ _:=h; clear h la; omega)
theorem Zo0 (k:SK) {a:Expr} {ta:TA} {p pos:Pos} (hg:Gl X "enumerate") (hm:X.mg "enumerate" = none) (ha:PA X [a] ta) (hs:starEach [a] X.env=[(false,eval a X.env)]:=by rfl) :
 PI X (.Tuple es x1 tp) (.Call (.Name "enumerate" p) [a] [] pos) (Zrw k X.K ta):=by
 intro pins s σ H R I h;refine Call_ (Zbe I hg hm Zew (n51_ (thn (ha pos pins s σ H _ I h) fun us s1 ⟨vs,H1,I1,r1,q1⟩=>?_) hs rfl));obtain ⟨a,e,⟨xs,hx⟩,q⟩:=q1;subst e;cases r1 with
 | cons r rr =>
   cases rr
   cases r
   obtain ⟨us,ru,pu⟩:=hx.is I1;have la:a < s1.heap.objs.size:=by obtain ⟨_,_,e,_⟩:=pu.ex; exact n13_ e
   refine Zgd pu fun h1 m1 m4 m7=>wpAny_pyIter_enum m1 ?_;have I2:Inv X pins σ H1 { s1 with heap:=h1,toks:=s1.toks }:=I1.kept m7;obtain ⟨z1,z2,z3⟩:=ne3 la;refine ⟨_,_,_,_,H1,rfl,I2,Zgi (e:=s1.heap.objs.size+1) (it:=s1.heap.objs.size) (k:=k) (a:=a) z1 z2 z3,⟨⟨_,m1⟩,m4⟩,?_,q⟩
   exact I1.fps (fp:=[s1.heap.objs.size+1,s1.heap.objs.size]) (by
    intro e he;simp only [n18_,n25_,or_false] at he
    rcases he with rfl | rfl
    · exact Nat.le_succ _
    · exact n5_ _)
end
theorem Zlg {J:It} {n:Nat} {D:Addr} {g:TG} {tt:TT} {te:TE} {σ0:St} {H:Hp} {Q:VK} (Pv:Nat→St→Hp→Prop) (h0:Pv 0 σ0 (upd H D (.lst [])))
 (hx:∀ i σ H,i < n→Pv i σ H→J.go i H) (hz:∀ σ H,Pv n σ H→J.stop n H)
 (hs:∀ i x σ2 H2 H3,i < n→J.yld i H2 x H3→Pv i σ2 H2→g x σ2 H3 fun σ4 H4=>tt σ4 H4 fun b H5=>if b=true then te σ4 H5 fun y H6=>∃ ys,H6 D=some (.lst ys)∧ys.length < sizeLine ∧
   ∃ m',m' < n - i∧LcN n Pv (i+1) m' σ4 (upd H6 D (.lst (ys++[y]))) else ∃ m',m' < n - i∧LcN n Pv (i+1) m' σ4 H5)
 (hd:∀ σ2 H2,Pv n σ2 H2→Q (.ref D) H2):LcGo J g tt te σ0 H D Q:=by
 refine ⟨LcN n Pv,⟨_,n55_ _,rfl,h0⟩,?_⟩;rintro i m σ2 H2 ⟨hi,rfl,p⟩
 by_cases hlt:i < n
 · exact .inr ⟨hx i σ2 H2 hlt p,fun x H3 y=>hs i x σ2 H2 H3 hlt y p⟩
 · have e:i=n:=by omega
   subst e;exact .inl ⟨hz σ2 H2 p,hd σ2 H2 p⟩
theorem Zab {J:It} {n:Nat} {g:TG} {tb:TS} {D:Ends} {σ:St} {H:Hp} (Pv:Nat→St→Hp→Prop) (h0:Pv 0 σ H)
 (hx:∀ i σ H,i < n→Pv i σ H→J.go i H) (hz:∀ σ H,Pv n σ H→J.stop n H)
 (hs:∀ i x σ H H',i < n→J.yld i H x H'→Pv i σ H→g x σ H' fun σ2 H2=>tb { D with nx:=Pv (i+1),ct:=Pv (i+1),bk:=D.nx } σ2 H2) (hd:∀ σ H,Pv n σ H→D.nx σ H) :
 ∃ W:Nat→Nat→St→Hp→Prop,(∃ m,W 0 m σ H)∧∀ i m σ H,W i m σ H →
   (J.stop i H∧D.nx σ H)∨(J.go i H∧∃ N:St→Hp→Prop,(∀ σ' H',N σ' H'→∃ m',m' < m∧W (i+1) m' σ' H')∧∀ x H',J.yld i H x H'→g x σ H' fun σ2 H2=>tb { D with nx:=N,ct:=N,bk:=D.nx } σ2 H2):=by
 refine ⟨fun i m σ H=>m=n - i∧i≤n∧Pv i σ H,⟨n,by simp,n55_ _,h0⟩,?_⟩;rintro i m σ H ⟨rfl,hi,p⟩
 by_cases hlt:i < n
 · exact .inr ⟨hx i σ H hlt p,Pv (i+1),fun σ' H' p'=>⟨n - (i+1),by omega,rfl,hlt,p'⟩,fun x H' y=>hs i x σ H H' hlt y p⟩
 · have e:i=n:=by omega
   subst e;exact .inl ⟨hz σ H p,hd σ H p⟩
end L2
namespace L2
open PySem PySem.Spec PyProof.Rows
section
variable {X:Cx}
theorem Zek:∀ (bs:List Bool),((List.range bs.length).any fun i=>(bs[i]?).getD true)=bs.any id
 | []=>rfl
 | b :: bs=>by
   rw [n16_,List.range_succ_eq_map,List.any_cons,List.any_map,List.any_cons,← Zek bs];rfl
theorem Zmu (hc:X.calm=true):Zak X (.builtin "any") (fun xs H Q=>∃ (p:Addr) (bs:List Bool),xs=[.ref p]∧SqL X.K H p (bs.map V.bl)∧Q (.bl (bs.any id)) H):=by
 intro pins s σ H xs us Q I r h;obtain ⟨p,bs,rfl,hq,q⟩:=h;cases r with
 | cons rx r =>
   cases r
   cases (show _=Value.ref p from rx)
   obtain ⟨its,rv,pl,hz⟩:=I.list hq;have hl:=pl.isList;have hlt:p < s.heap.objs.size:=by obtain ⟨_,e,_⟩:=hl; exact n13_ e
   have hh:X.A.handled=none:=I.ok.hd hc;refine call_any_walk (wpAny_pyIter_list hl ⟨s.heap.objs.size,[s.heap.objs.size,p],[s.heap.objs.size],its.toArray.size,_,_,fun i=>(bs[i]?).getD true,rfl,Walks.list (A:=X.A.in1) hh _ p (n36_ hlt) its.toArray,⟨⟨_,n11_ _ rfl,rfl,rfl⟩,hl.push _⟩,fun i v s' Q' E' hP hQ=>?_,fun h' tk hk=>?_⟩)
   · obtain ⟨b,e,rfl⟩:=Zch rv (show its[i]? = some v by simpa using hP);simp only [e,Option.getD_some] at hQ;exact wpAny_truthy_bool hQ
   · have e:((List.range its.toArray.size).any fun i=>(bs[i]?).getD true)=bs.any id:=by
      rw [n7_,← rv.length,n4_]; exact Zek bs
     rw [e];exact ⟨.bl _,H,I.kept (Zho hk),rfl,q⟩
theorem Zgx:∀ {ns:List Int} {us:List Value} {i:Nat} {v:Value},Vals (ns.map V.int) us→us[i]? = some v→∃ t,v=.int (ns.getD i 0) t
 | [],_,i,v,.nil,e=>by simp at e
 | n :: ns,_,0,v,.cons r t,e=>by
   obtain ⟨k,rfl⟩:=r
   have:v=.int n k:=by simpa using e.symm
   exact ⟨k,this⟩
 | n :: ns,_,i+1,v,.cons r t,e=>by
   obtain ⟨k,h⟩:=Zgx t (by simpa using e);exact ⟨k,by simpa using h⟩
theorem Zeo:∀ (ns:List Int) (acc:List Int),preSum (fun i=>(acc++ns).getD i 0) (acc.length+ns.length)=preSum (fun i=>(acc++ns).getD i 0) acc.length+ns.sum
 | [],acc=>by simp
 | n :: ns,acc=>by
   have:=Zeo ns (acc++[n])
   rw [List.append_assoc] at this;simp only [n17_,n16_,n37_,List.singleton_append] at this ⊢;rw [show acc.length+(ns.length+1)=acc.length+(0+1)+ns.length by omega,this]
   have e:preSum (fun i=>(acc++n :: ns).getD i 0) (acc.length+(0+1))=preSum (fun i=>(acc++n :: ns).getD i 0) acc.length+n:=by
    show preSum (fun i=>(acc++n :: ns).getD i 0) acc.length+(acc++n :: ns).getD acc.length 0=_
    congr 1
    simp
   rw [e,List.sum_cons,Int.add_assoc]
theorem Zdo (hc:X.calm=true):Zak X (.builtin "sum") (fun xs H Q=>∃ (p:Addr) (ns:List Int),xs=[.ref p]∧SqL X.K H p (ns.map V.int)∧Q (.int ns.sum) H):=by
 intro pins s σ H xs us Q I r h;obtain ⟨p,ns,rfl,hq,q⟩:=h;cases r with
 | cons rx r =>
   cases r
   cases (show _=Value.ref p from rx)
   obtain ⟨its,rv,pl,hz⟩:=I.list hq;have hl:=pl.isList;have hlt:p < s.heap.objs.size:=by obtain ⟨_,e,_⟩:=hl; exact n13_ e
   have hh:X.A.handled=none:=I.ok.hd hc;refine call_sum_walkG (wpAny_pyIter_list hl ⟨s.heap.objs.size,[s.heap.objs.size,p],[s.heap.objs.size],its.toArray.size,_,_,fun i=>ns.getD i 0,rfl,Walks.list (A:=X.A.in1) hh _ p (n36_ hlt) its.toArray,⟨⟨_,n11_ _ rfl,rfl,rfl⟩,hl.push _⟩,fun b hb=>?_,fun i v hP=>Zgx rv (by simpa using hP),fun h' tk t' hk=>?_⟩)
   · simp only [n18_,n25_,or_false] at hb;show b < (s.heap.push _).objs.size
     rw [n65_]
     rcases hb with rfl | rfl
     · exact Nat.lt_succ_self _
     · exact Nat.lt_succ_of_lt hlt
   · have e:preSum (fun i=>ns.getD i 0) its.toArray.size=ns.sum:=by
      have:=Zeo ns []
      simp only [List.nil_append,n37_,Nat.zero_add] at this;rw [n7_,← rv.length,n4_,this];show preSum _ 0+_=_
      simp [preSum]
     rw [e];exact ⟨.int _,H,I.kept (Zho hk),⟨_,rfl⟩,q⟩
end
end L2
namespace L2
open PySem PySem.Spec PyProof.Rows
open AutoSeq1 (wpAny_loadPart')
section
variable {X:Cx} {pins:List (Addr×Obj)} {σ:List (Option V)} {H H':Hp} {s:Shared} {h':Heap}
theorem Inv.turnGen {t':Nat} {ch:List Addr} (I:Inv X pins σ H s) (k:∀ b u,b∉ch→s.heap.get? b=some u→h'.get? b=some u) (hf:∀ b∈ch,FpOk X pins H b)
 (old:∀ b u,H b=some u→H' b=some u) (non:∀ b u,s.heap.get? b=some u→H b=none→H' b=none) (new:∀ b u,H b=none→H' b=some u→ObjOk X.prog X.w H' h' b u):Inv X pins σ H' { s with heap:=h',toks:=t' }:=by
 have nc:∀ b u,H b=some u→b∉ch:=fun b u e z=>by rw [(hf b z).1] at e; cases e
 refine I.step (g':=s.gens) (d':=s.drawn) (ch:=ch) (fun b hb=>?_) (fun b u _ _ hc e _=>k b u hc e) (fun b u _ _ hc e _=>⟨u.slots,k b u hc e⟩) (fun b u _ e n=>non b u e n)
  (fun b u hc e=>⟨u,k b u hc e⟩) (fun b xs e=>old b _ e) (fun b u v e=>old b _ e) (fun b ps e=>⟨#[],by rw [old b _ e]; simp⟩) (fun m hm=>?_) (fun b u e=>?_) I.bare
 · obtain ⟨f0,f1,f2,f3,f4,f5⟩:=hf b hb;exact ⟨f3,f1,f4,f5⟩
 · obtain ⟨u,es,ep,hu,r⟩:=hm;exact ⟨u,es,ep,k _ u (fun z=>(hf _ z).2.1 rfl) hu,r⟩
 · cases hb:H b with
   | none=>exact new b u hb e
   | some v =>
     rw [old b v hb] at e;cases e
     refine (I.hok b _ hb).stay (fun c w hc q=>k c w ?_ q) (fun c q=>old c _ q) fun c xs q=>old c _ q
     rcases hc with z | z
     · rw [z]; exact nc b _ hb
     · exact nc c _ z
end
section
variable {X:Cx} {es:List Expr} {x1:Nat} {tp:Pos}
end
end L2
namespace L2
open PySem PySem.Spec PyProof.Rows
def Tk (H H':Hp):Prop:=∀ a xs,H a=some (.tup xs)→H' a=some (.tup xs)
theorem Same.tk {H H':Hp} (s:Same H H'):Tk H H':=fun a xs e=>s a _ e
theorem Tk.of_keep {H H':Hp} {l:Addr} {ys:List V} (k:Keep l H H') (e:H l=some (.lst ys)):Tk H H':=fun a xs q=>k a _ (Zh2 q e (by intro z; cases z)) q
theorem Tk.upd_lst {H:Hp} {D:Addr} {ys zs:List V} (e:H D=some (.lst ys)):Tk H (upd H D (.lst zs)):=fun a xs q=>by rw [Zo (Zh2 q e (by intro z; cases z))]; exact q
def Al {α:Type} (R:V→α→Prop) (vs:List V) (xs:List α):Prop:=vs.length=xs.length∧∀ (i:Nat) (v:V) (x:α),vs[i]? = some v→xs[i]? = some x→R v x
theorem Al.nil {α:Type} {R:V→α→Prop}:Al R [] []:=⟨rfl,fun i v x e=>by simp at e⟩
theorem Al.snoc {α:Type} {R:V→α→Prop} {vs:List V} {xs:List α} {v:V} {x:α} (h:Al R vs xs) (r:R v x):Al R (vs++[v]) (xs++[x]):=by
 refine ⟨by simp [h.1],fun i w y e1 e2=>?_⟩
 by_cases hi:i < vs.length
 · rw [n56_ hi] at e1;rw [n56_ (by rw [← h.1]; exact hi)] at e2;exact h.2 i w y e1 e2
 · have:i=vs.length:=by
    have:=(n33_.mp e1).1
    simp at this; omega
   subst this;rw [n61_ (n5_ _)] at e1;rw [h.1,n61_ (n5_ _)] at e2;simp at e1 e2;subst e1; subst e2;exact r
theorem Al.imp {α:Type} {R S:V→α→Prop} {vs:List V} {xs:List α} (h:Al R vs xs) (f:∀ v x,R v x→S v x):Al S vs xs:=⟨h.1,fun i v x e1 e2=>f v x (h.2 i v x e1 e2)⟩
theorem Al.get {α:Type} {R:V→α→Prop} {vs:List V} {xs:List α} {i:Nat} {v:V} (h:Al R vs xs) (e:vs[i]? = some v):∃ x,xs[i]? = some x∧R v x:=by
 have hi:i < xs.length:=by rw [← h.1]; exact (n33_.mp e).1
 exact ⟨xs[i],n0_ hi,h.2 i v _ e (n0_ hi)⟩
theorem Al.got {α:Type} {R:V→α→Prop} {vs:List V} {xs:List α} {i:Nat} {x:α} (h:Al R vs xs) (e:xs[i]? = some x):∃ v,vs[i]? = some v∧R v x:=by
 have hi:i < vs.length:=by rw [h.1]; exact (n33_.mp e).1
 exact ⟨vs[i],n0_ hi,h.2 i _ x (n0_ hi) e⟩
theorem Al.cons {α:Type} {R:V→α→Prop} {v:V} {vs:List V} {x:α} {xs:List α} (r:R v x) (h:Al R vs xs):Al R (v :: vs) (x :: xs):=by
 refine ⟨by simp [h.1],fun i w y e1 e2=>?_⟩;cases i with
 | zero=>simp at e1 e2; subst e1; subst e2; exact r
 | succ i=>exact h.2 i w y (by simpa using e1) (by simpa using e2)
theorem Al.bls {vs:List V} {bs:List Bool} (h:Al (fun v b=>v=V.bl b) vs bs):vs=bs.map V.bl:=by
 refine List.ext_getElem? fun i=>?_;rw [n3_];cases e:bs[i]? with
 | none =>
   have:=List.getElem?_eq_none_iff.mp e
   rw [List.getElem?_eq_none (by rw [h.1]; exact this)]; rfl
 | some b =>
   obtain ⟨v,ev,rfl⟩:=h.got e;rw [ev]; rfl
theorem Al.ints {vs:List V} {ns:List Int} (h:Al (fun v n=>v=V.int n) vs ns):vs=ns.map V.int:=by
 refine List.ext_getElem? fun i=>?_;rw [n3_];cases e:ns[i]? with
 | none =>
   have:=List.getElem?_eq_none_iff.mp e
   rw [List.getElem?_eq_none (by rw [h.1]; exact this)]; rfl
 | some b =>
   obtain ⟨v,ev,rfl⟩:=h.got e;rw [ev]; rfl
theorem Zjb {J:It} {n:Nat} {D:Addr} {g:TG} {te:TE} {σ0:St} {H:Hp} {Q:VK} {α:Type} (R:Hp→V→α→Prop) (hR:∀ H1 H2 v x,Tk H1 H2→R H1 v x→R H2 v x) (ys_:List α) (hn:ys_.length=n) (hz:n≤1000) (ok:St→Prop) (h0:ok σ0) (hD:H D=none)
 (hgo:∀ i H2,Same H H2→i < n→J.go i H2) (hstop:∀ H2,Same H H2→J.stop n H2)
 (hs:∀ i x σ2 H2 H3 (C:St→V→Hp→Prop),i < n→Same H H2→J.yld i H2 x H3→ok σ2→(∀ σ4 y H5 z,ok σ4→Same H2 H5→ys_[i]? = some z→R H5 y z→C σ4 y H5)→g x σ2 H3 fun σ4 H4=>te σ4 H4 (C σ4))
 (hd:∀ H2 vs,Same H H2→H2 D=some (.lst vs)→Al (R H2) vs ys_→Q (.ref D) H2):LcGo J g tYes te σ0 H D Q:=by
 refine Zlg (n:=n) (fun i σ H2=>Same H H2∧ok σ∧∃ vs,H2 D=some (.lst vs)∧Al (R H2) vs (ys_.take i)) ⟨Same.new hD,h0,[],Zc,by rw [List.take_zero]; exact .nil⟩ (fun i σ H2 hi p=>hgo i H2 p.1 hi) (fun σ H2 p=>hstop H2 p.1) (fun i x σ2 H2 H3 hi y p=>?_) (fun σ2 H2 p=>?_)
 · obtain ⟨s2,o2,vs,e2,a2⟩:=p
   have:=hs i x σ2 H2 H3 (fun σ4 y H6=>∃ ys,H6 D=some (.lst ys)∧ys.length < sizeLine∧∃ m',m' < n - i∧LcN n (fun i σ H2=>Same H H2∧ok σ∧∃ vs,H2 D=some (.lst vs)∧Al (R H2) vs (ys_.take i)) (i+1) m' σ4 (upd H6 D (.lst (ys++[y])))) hi s2 y o2 ?_
   · exact this
   · intro σ4 v H5 z o4 s5 ez rz;have e5:H5 D=some (.lst vs):=s5 _ _ e2;refine ⟨vs,e5,?_,n - (i+1),by omega,by omega,rfl,fun b o e=>?_,o4,vs++[v],Zc,?_⟩
     · rw [a2.1,n68_,sizeLine_eq]; omega
     · rw [Zo (Zk e hD)]; exact s5 _ _ (s2 _ _ e)
     · have tk:Tk H5 (upd H5 D (.lst (vs++[v]))):=Tk.upd_lst e5;have hi':i < ys_.length:=by omega
       rw [n32_ hi'];rw [n0_ hi'] at ez;cases ez
       exact (a2.imp fun v x r=>hR _ _ v x tk (hR _ _ v x s5.tk r)).snoc (hR _ _ _ _ tk rz)
 · obtain ⟨s2,_,vs,e2,a2⟩:=p;rw [List.take_of_length_le (by omega)] at a2;exact hd H2 vs s2 e2 a2
end L2
namespace L2
open PySem PySem.Spec PyProof.Rows
def SK.At (H:Hp) (a:Addr) (vs:List V):SK→Prop
 | .l=>H a=some (.lst vs)
 | .t=>H a=some (.tup vs)
theorem SK.At.sq {k:SK} {K:PySem.W.Frag} {H:Hp} {a:Addr} {vs:List V} (h:k.At H a vs):k.Sq K H a vs:=by
 cases k with
 | l=>exact SqL.of h
 | t=>exact SqT.of h
theorem SK.At.same {k:SK} {H H':Hp} {a:Addr} {vs:List V} (h:k.At H a vs) (s:Same H H'):k.At H' a vs:=by
 cases k with
 | l=>exact s _ _ h
 | t=>exact s _ _ h
def SK.Itk (K:PySem.W.Frag) (a:Addr):SK→L2.It
 | .l=>Itl K a
 | .t=>Itt K a
theorem Zbd {k:SK} {K:PySem.W.Frag} {a:Addr} {H:Hp} {vs:List V} {i:Nat} (h:k.At H a vs) (hi:i < vs.length):(k.Itk K a).go i H:=by
 cases k with
 | l=>exact ⟨vs,vs[i],SqL.of h,n0_ hi⟩
 | t=>exact ⟨vs,vs[i],SqT.of h,n0_ hi⟩
theorem Xe {k:SK} {K:PySem.W.Frag} {a:Addr} {H:Hp} {vs:List V} {i:Nat} (h:k.At H a vs) (hi:vs.length≤i):(k.Itk K a).stop i H:=by
 cases k with
 | l=>exact ⟨vs,SqL.of h,hi⟩
 | t=>exact ⟨vs,SqT.of h,hi⟩
theorem X0 {k:SK} {K:PySem.W.Frag} {a:Addr} {H H':Hp} {vs:List V} {i:Nat} {x:V} (h:k.At H a vs) (y:(k.Itk K a).yld i H x H'):H'=H∧vs[i]? = some x:=by
 cases k with
 | l=>exact ⟨y.1,y.2 vs (SqL.of h)⟩
 | t=>exact ⟨y.1,y.2 vs (SqT.of h)⟩
theorem lc_T {k:SK} {K:PySem.W.Frag} {a D:Addr} {vs:List V} {te:TE} {u0:Option V} {rest:St} {H:Hp} {Q:VK} {α:Type} (R:Hp→V→α→Prop) (hR:∀ H1 H2 v x,Tk H1 H2→R H1 v x→R H2 v x) (ys:List α) (hn:ys.length=vs.length) (hz:vs.length≤1000) (hD:H D=none) (ha:k.At H a vs)
 (hs:∀ (i:Nat) (w:V) (H2:Hp) (C:V→Hp→Prop),vs[i]? = some w→Same H H2→(∀ y H5 z,Same H2 H5→ys[i]? = some z→R H5 y z→C y H5)→te (some w :: rest) H2 C)
 (hd:∀ H2 us,Same H H2→H2 D=some (.lst us)→Al (R H2) us ys→Q (.ref D) H2):LcGo (k.Itk K a) (Z5 0) tYes te (u0 :: rest) H D Q:=by
 refine Zjb R hR ys hn hz (fun σ=>∃ u,σ=u :: rest) ⟨_,rfl⟩ hD (fun i H2 s hi=>Zbd (ha.same s) hi) (fun H2 s=>Xe (ha.same s) (n5_ _)) (fun i x σ2 H2 H3 C hi s y o c=>?_) hd;obtain ⟨u,rfl⟩:=o;obtain ⟨rfl,e⟩:=X0 (ha.same s) y;exact hs i x H3 (C (some x :: rest)) e s fun y H5 z s5 ez rz=>c _ y H5 z ⟨_,rfl⟩ s5 ez rz
theorem lc_Z {k l:SK} {K:PySem.W.Frag} {a b D:Addr} {vs ws:List V} {te:TE} {u0 u1:Option V} {rest:St} {H:Hp} {Q:VK} {α:Type} (R:Hp→V→α→Prop) (hR:∀ H1 H2 v x,Tk H1 H2→R H1 v x→R H2 v x) (ys:List α) (hn:ys.length=min vs.length ws.length) (hz:min vs.length ws.length≤1000) (hD:H D=none) (ha:k.At H a vs) (hb:l.At H b ws)
 (hs:∀ (i:Nat) (v w:V) (H2:Hp) (C:V→Hp→Prop),vs[i]? = some v→ws[i]? = some w→Same H H2→(∀ y H5 z,Same H2 H5→ys[i]? = some z→R H5 y z→C y H5)→te (some v :: some w :: rest) H2 C)
 (hd:∀ H2 us,Same H H2→H2 D=some (.lst us)→Al (R H2) us ys→Q (.ref D) H2):LcGo (Itz k l K a b) (gTup K 2 (Z8 (Z5 0) (Z8 (Z5 1) gNil))) tYes te (u0 :: u1 :: rest) H D Q:=by
 refine Zjb R hR ys hn hz (fun σ=>∃ u u',σ=u :: u' :: rest) ⟨_,_,rfl⟩ hD (fun i H2 s hi=>?_) (fun H2 s=>?_) (fun i x σ2 H2 H3 C hi s y o c=>?_) hd
 · have h1:i < vs.length:=by omega
   have h2:i < ws.length:=by omega
   exact ⟨vs,ws,vs[i],ws[i],(ha.same s).sq,(hb.same s).sq,n0_ h1,n0_ h2⟩
 · exact ⟨vs,ws,(ha.same s).sq,(hb.same s).sq,by omega⟩
 · obtain ⟨u,u',rfl⟩:=o;obtain ⟨p,v,w,rfl,hp,rfl,y1,y2⟩:=y;have s3:Same H2 (upd H2 p (.tup [v,w])):=Same.new hp;refine ⟨p,[v,w],rfl,SqT.of Zc,rfl,v,[w],rfl,w,[],rfl,rfl,?_⟩;exact hs i v w _ (C (some v :: some w :: rest)) (y1 vs (ha.same s).sq) (y2 ws (hb.same s).sq) (s.trans s3) fun y H5 z s5 ez rz=>c _ y H5 z ⟨_,_,rfl⟩ (s3.trans s5) ez rz
def Zn2 {α:Type} (R:Hp→V→α→Prop) (H:Hp) (v:V) (xs:List α):Prop:=∃ a vs,v=.ref a∧H a=some (.tup vs)∧Al (R H) vs xs
end L2
namespace L2
open PySem PySem.Spec PyProof.Rows
abbrev Nms:=List (Str×NameKind)
def relN (sc:Nms) (dn:Nms):Nms:=sc.map fun y=>if y.2 == .free && dn.lookup y.1 == some .cell then (y.1,.cell) else y
def chk (sc dn:Nms) (N XN:List Str) (fr:List (Option Nat)):Bool :=
 sc.all (fun y=>y.2 != .free || dn.lookup y.1 == some .cell) && sc.all (fun y=>y.2 != .local || sc.lookup y.1 == some .local) && sc.all (fun y=>y.2 != .cell || sc.lookup y.1 == some .cell) && (fr.length == N.length) &&
  (List.range fr.length).all fun i=>match fr[i]? with
    | some (some j)=>match N[i]? with
      | some x=>XN[j]? == some x && dn.lookup x == some .cell && (relN sc dn).lookup x == some .cell && sc.all (fun y=>y.1 != x || y.2 != .cell) && sc.any (fun y=>y.1 == x && y.2 == .free)
      | none=>false
    | _=>true
theorem Zbg {cells:List (Str×Addr)} {sc:Nms} {x:Str} (key:(x,NameKind.free)∈sc):∃ c,(Y2 cells sc).lookup x=some c:=by
 have hm:(x,(cells.lookup x).getD 0)∈Y2 cells sc:=by
  unfold Y2;exact List.mem_reverse.mpr (n29_.mpr ⟨(x,.free),List.mem_filter.mpr ⟨key,rfl⟩,rfl⟩)
 cases q:(Y2 cells sc).lookup x with
 | some c'=>exact ⟨c',rfl⟩
 | none =>
   have z:=(List.lookup_eq_none_iff.mp q) _ hm;simp at z
theorem Zfn {sc dn:Nms} {x:Str} {k:NameKind} (hk:k=.cell∨k=.free) (h:(relN sc dn).lookup x=some k):(x,NameKind.free)∈sc∨(x,NameKind.cell)∈sc:=by
 have m:=n28_ h;obtain ⟨⟨n,k'⟩,hm,e⟩:=n29_.mp m
 by_cases hf:k'=.free
 · subst hf
   have:n=x:=by
    dsimp only at e;split at e <;> (injection e)
   subst this;exact .inl hm
 · have b:(k' == NameKind.free)=false:=by simpa using hf
   simp only [b,Bool.false_and,Bool.false_eq_true,if_false] at e;injection e with e1 e2
   subst e1 e2
   rcases hk with rfl | rfl
   · exact .inr hm
   · exact absurd rfl hf
theorem Zbz {scope:Scope} {env:Env} {dn:Nms} (hn:env.scope.names=dn) (hk:env.scope.kind=.function):(relabel scope env).names=relN scope.names dn:=by
 unfold relabel relN;show scope.names.map _=scope.names.map _
 refine List.map_congr_left fun y _=>?_;obtain ⟨n,k⟩:=y;have e:(env.scope.kind == ScopeKind.function)=true:=by rw [hk]; rfl
 have e2:env.kindOf n=dn.lookup n:=by rw [← hn]; rfl
 simp only [e,e2,Bool.and_true]
theorem Yc {X:Cx} {scope:Scope} {N XN:List Str} {fr:List (Option Nat)} (dn:Nms) (hn:X.env.scope.names=dn) (hk:X.env.scope.kind=.function) (hX:X.N=XN) (hc:∀ x,dn.lookup x=some .cell→∃ c,X.env.cells.lookup x=some c)
 (h:chk scope.names dn N XN fr=true) (hs:scope.kind=.function):LcO X scope (Y2 X.env.cells scope.names) N fr:=by
 unfold chk at h;simp only [n22_] at h;obtain ⟨⟨⟨⟨h1,h2⟩,h3⟩,h4⟩,h5⟩:=h
 have hf:∀ y∈scope.names,y.2=.free→∃ c,X.env.cells.lookup y.1=some c:=fun y hy e=>by
  have:=n42_.mp h1 y hy
  rw [e] at this;exact hc _ (by simpa using this)
 refine ⟨Zcx hf,fun x c e=>?_,fun x e=>?_,hs,fun y hy e=>?_,by simpa using h4,fun i j e=>?_⟩
 · have m:=n28_ e;unfold Y2 at m;obtain ⟨⟨n,k⟩,hm,e2⟩:=n29_.mp (List.mem_reverse.mp m);obtain ⟨h1',h2'⟩:=List.mem_filter.mp hm;obtain ⟨c',hc'⟩:=hf _ h1' (by simpa using h2');injection e2 with e3 e4
   subst e3;rw [hc'] at e4;rw [hc',← e4];rfl
 · rw [Zbz hn hk] at e
   have:(x,NameKind.free)∈scope.names∨(x,NameKind.cell)∈scope.names:=e.elim (Zfn (.inl rfl)) (Zfn (.inr rfl))
   rcases this with m | m
   · exact .inr (Zbg m)
   · have:=n42_.mp h3 _ m
     exact .inl (by simpa using this)
 · have:=n42_.mp h2 y hy
   rw [e] at this
   simpa using this
 · have hi:i < fr.length:=(n33_.mp e).1
   have:=n42_.mp h5 i (List.mem_range.mpr hi)
   rw [e] at this;cases hx:N[i]? with
   | none=>rw [hx] at this; cases this
   | some x =>
     rw [hx] at this;simp only [n22_,beq_iff_eq] at this;obtain ⟨⟨⟨⟨t1,t2⟩,t3⟩,t4⟩,t5⟩:=this;obtain ⟨⟨z1,z2⟩,m1,m2⟩:=List.any_eq_true.mp t5;simp only [n22_,beq_iff_eq] at m2;obtain ⟨rfl,rfl⟩:=m2;refine ⟨z1,rfl,by rw [hX]; exact t1,.inl (by rw [hn]; exact t2),.inl (by rw [Zbz hn hk]; exact t3),Zbg m1,fun m=>?_⟩
     have:=n42_.mp t4 _ m
     simp at this
theorem Zdv {cells:List (Str×Addr)} {sc dn:Nms} {x:Str} {n:Nat} (hc:sc.all (fun y=>y.2 != .cell || sc.lookup y.1 == some .cell)=true) (h:(relN sc dn).lookup x=some .cell):∃ c,(cellsFrom n sc (Y2 cells sc)).lookup x=some c:=by
 refine Option.isSome_iff_exists.mp (PySem.W.cellsFrom_some sc n _ ?_)
 rcases Zfn (.inl rfl) h with m | m
 · obtain ⟨c,e⟩:=Zbg (cells:=cells) m;exact .inr (by rw [e]; rfl)
 · have:=n42_.mp hc _ m
   exact .inl (by simpa using this)
theorem Z3 {X:Cx} {scope:Scope} {N:List Str} {fr:List (Option Nat)} (h:scope.names.all (fun y=>y.2 != .cell && y.2 != .free)=true) (hk:scope.kind=.function)
 (hn:∀ y∈scope.names,y.2=.local→scope.names.lookup y.1=some .local) (hl:fr.length=N.length) (hf:fr.all (·.isNone)=true):LcO X scope [] N fr:=by
 have no:∀ y∈scope.names,y.2≠.cell∧y.2≠.free:=fun y hy=>by
  have:=n42_.mp h y hy
  rw [n22_] at this
  simpa using this
 refine ⟨closureFor_none fun x hx=>(no x hx).2,fun x c e=>by simp at e,fun x e=>?_,hk,hn,hl,fun i j e=>?_⟩
 · exfalso
   have key:∀ k,(relabel scope X.env).names.lookup x=some k→k≠.cell∧k≠.free:=fun k e=>by
    obtain ⟨⟨n,k'⟩,hm,e2⟩:=n29_.mp (n28_ e);have b:(k' == NameKind.free)=false:=by simpa using (no _ hm).2
    simp only [b,Bool.false_and,Bool.false_eq_true,if_false] at e2;cases e2
    exact no _ hm
   rcases e with e | e
   · exact (key _ e).1 rfl
   · exact (key _ e).2 rfl
 · have:=n42_.mp hf _ (n6_ e)
   cases this
end L2
namespace L2
open PySem PySem.Spec PyProof.Rows
theorem Zc4 (K:PySem.W.Frag) {X:Cx} (h:X.K=K):IxR X (rIxL K):=h ▸ Z9
theorem Zax (K:PySem.W.Frag) {X:Cx} (h:X.K=K):IxR X (rIxT K):=h ▸ Zbv
theorem Zfa (K:PySem.W.Frag) {X:Cx} (h:X.K=K):OpR X (compareOp .NotIn) (rIn K true):=h ▸ Zgv
theorem Ze9 (K:PySem.W.Frag) {X:Cx} (h:X.K=K):Zak X (.builtin "len") (fun xs H Q=>∃ p ys,xs=[.ref p]∧(SqL K H p ys∨SqT K H p ys)∧Q (.int ys.length) H):=h ▸ Zv
theorem Zd5 (K:PySem.W.Frag) {X:Cx} (h:X.K=K):Zak X (.type "tuple") (fun xs H Q=>∃ p ys,xs=[.ref p]∧((SqL K H p ys∧∀ l,H l=none→Q (.ref l) (upd H l (.tup ys)))∨(SqT K H p ys∧Q (.ref p) H))):=h ▸ Y7
theorem Zmy (K:PySem.W.Frag) {X:Cx} {tg l:Expr} {tl:TE} (h:X.K=K) (hl:PE X l tl):PI X tg l (Zp4 K tl):=h ▸ Yi hl
theorem Zp8 {k:SK} {K:PySem.W.Frag} {a D:Addr} {vs:List V} {te:TE} {u0 u1:Option V} {rest:St} {H:Hp} {Q:VK} {α:Type} (R:Hp→V→α→Prop) (hR:∀ H1 H2 v x,Tk H1 H2→R H1 v x→R H2 v x) (ys:List α) (hn:ys.length=vs.length) (hz:vs.length≤1000) (hD:H D=none) (ha:k.At H a vs)
 (hp:∀ (i:Nat) (w:V),vs[i]? = some w→∃ p x y,w=.ref p∧H p=some (.tup [x,y]))
 (hs:∀ (i:Nat) (p:Addr) (x y:V) (H2:Hp) (C:V→Hp→Prop),vs[i]? = some (.ref p)→H p=some (.tup [x,y])→Same H H2→(∀ y H5 z,Same H2 H5→ys[i]? = some z→R H5 y z→C y H5)→te (some x :: some y :: rest) H2 C)
 (hd:∀ H2 us,Same H H2→H2 D=some (.lst us)→Al (R H2) us ys→Q (.ref D) H2):LcGo (k.Itk K a) (gTup K 2 (Z8 (Z5 0) (Z8 (Z5 1) gNil))) tYes te (u0 :: u1 :: rest) H D Q:=by
 refine Zjb R hR ys hn hz (fun σ=>∃ u u',σ=u :: u' :: rest) ⟨_,_,rfl⟩ hD (fun i H2 s hi=>Zbd (ha.same s) hi) (fun H2 s=>Xe (ha.same s) (n5_ _)) (fun i x σ2 H2 H3 C hi s y o c=>?_) hd;obtain ⟨u,u',rfl⟩:=o;obtain ⟨rfl,e⟩:=X0 (ha.same s) y;obtain ⟨p,x1,y1,rfl,e2⟩:=hp i x e;exact ⟨p,[x1,y1],rfl,SqT.of (s _ _ e2),rfl,x1,[y1],rfl,y1,[],rfl,rfl,hs i p x1 y1 H3 (C (some x1 :: some y1 :: rest)) e e2 s fun y H5 z s5 ez rz=>c _ y H5 z ⟨_,_,rfl⟩ s5 ez rz⟩
end L2
namespace L2
open PySem PySem.Spec PyProof.Rows
theorem X8 {X:Cx} {x:Str} {pos' spos:Pos} {tg elt iter:Expr} {ifs:List Expr} {scope:Scope} {cl:List (Str×Addr)} {N:List Str} {fr:List (Option Nat)} {pos:Pos} {wi:TI} {g g':TG} {tt:TT} {te:TE}
 (hw:swapsWith (.ListComp elt [⟨tg,iter,ifs,0⟩] scope pos) (some (.Name x pos')) spos.line X.env=pure true)
 (hc:X.calm=true) (hg':PG X (.Name x pos') g') (L:LcO X scope cl N fr) (hi:PI X tg iter wi) (hg:∀ C s3 H3 fp,PG (blk X scope cl C N s3 H3 fp) tg g)
 (ht:∀ C s3 H3 fp,PIfs (blk X scope cl C N s3 H3 fp) ifs tt) (he:∀ C s3 H3 fp,PE (blk X scope cl C N s3 H3 fp) elt te)
 (hs:∀ x,foldedSetIterable iter X.env x=pure x:=by intro _; rfl):PS X (.Assign [.Name x pos'] (.ListComp elt [⟨tg,iter,ifs,0⟩] scope pos) spos) (tAsg (tLC wi g tt te fr) g'):=by
 intro pins s σ H D I h;rw [exec_Assign_Name_used _ _ _ _ hw];refine n1_ (wpAny_standAt (n1_ ?_));rw [arm_evalThenUse_ListComp];refine n1_ (wpAny_comprehension_free (Q:=fun _ s'=>wpAny (model X.prog X.w) X.A (pure ()) (fun _ s''=>wpAny (model X.prog X.w) X.A (pure Flow.next) (SP X pins D) X.xe s'') X.xe s') (use:=some (assign (.Name x pos') X.env)) rfl hs L.clos L.kind L.names (thn (hi pins s σ H _ I h) fun v s1 h1=>thn h1 fun itv s2 h2=>?_));obtain ⟨it,fp,tn,J,H2,e,I2,T,st2,f2,h⟩:=h2;subst e;obtain ⟨W,⟨m0,w0⟩,turn⟩:=h s2.heap.objs.size (I2.hok.fresh (n5_ _));refine wpAny_newObj_type ?_;generalize hs3:({ s2 with heap:=s2.heap.push { cls:=.type "list",dict:=none,data:=.seq ([]:List Value).toArray } }:Shared)=s3;refine Zje (ac:=.lst []) hs3.symm hc L hg I2 T st2 f2 ⟨n55_ _,[],_,.nil,n11_ _ rfl⟩ w0 turn (fun _ _ a b=>codeAny_compStart_list a (b _)) (fun LI s4 t n h=>Zco LI t n h) (fun H6 s7 qn I3 fr7 c=>?_) (Zkk ht he);obtain ⟨m7,hn7,c7⟩:=c;have I8:Inv X pins σ H6 s7:=c7 s7.heap (Heap.SameBut.refl ..)
 have fpC:∀ {H6:Hp},H6 s3.heap.objs.size=none→∀ b∈[s3.heap.objs.size],FpOk X pins H6 b:=fun fr b hb=>by
  rw [n8_] at hb;subst hb;exact I3.fpOk (n5_ _) fr
 obtain ⟨oC,esC,epC,geC,dC,skC,nfC⟩:=hn7
 have I9:=I8.pinned (fpC fr7) (fun b hb=>by
  rw [n8_] at hb;subst hb;exact ⟨oC,geC,fun v z=>by rw [dC] at z; cases z⟩)
 refine thn (hg' _ s7 σ H6 (.ref s2.heap.objs.size) (.ref s2.heap.objs.size) _ I9 rfl qn) fun _ s9 ⟨σ9,H9,I10,q9⟩=>?_;have pC:=I10.pin (s3.heap.objs.size,oC) (n30_ _ (n30_ _ (X9 (n8_.mpr rfl) geC)));refine ⟨m7,⟨oC,esC,epC,pC.1,dC,skC,nfC⟩,fun h' sb=>?_⟩;refine n10_ (n10_ ?_);exact ⟨σ9,H9,I10.unpinned.turnGen (t':=s9.toks) (ch:=[s3.heap.objs.size]) (fun b u nb e=>(sb.2 b (fun z=>nb (by rw [z]; exact n8_.mpr rfl))).trans e) (fpC pC.2.1) (fun _ _ e=>e) (fun _ _ _ e=>e) (fun b u e1 e2=>by rw [e1] at e2; cases e2),q9⟩
end L2
namespace L2
open PySem PySem.Spec PyProof.Rows
open AutoSeq1 (wpAny_loadPart')
theorem Zcw:fillsNumberSlot (.type "tuple") "mul" = pure false :=
 PySem.fillsNumberSlot_seq (id := "tuple.__mul__") (r:=some (.builtin "tuple.__rmul__")) F.slot_tuple_mul.lookup (by decide +kernel) F.slot_tuple_rmul.lookup (by decide +kernel)
theorem Zgt:seqRepeat? (.type "tuple")=pure (some (.builtin "tuple.__mul__")):=by
 unfold seqRepeat?;rw [PySem.seqSlot_of (T := "tuple") (name := "__mul__") (id := "tuple.__mul__") F.slot_tuple_mul.lookup (by decide +kernel),PySem.seqSlot_of (T := "tuple") (name := "__rmul__") (id := "tuple.__rmul__") F.slot_tuple_rmul.lookup (by decide +kernel)];rfl
theorem Zd7 (a:Int) (t:Tok) (l:Addr) (items:Array Value) (n:Nat) (dd:Option Addr) (sl:Array (Option Value)) :
 Meets (Builtin.«int.__rmul__» ⟨[.int a t,.ref l],[]⟩) (fun _ R s=>s.heap.get? l=some { cls:=.type "tuple",dict:=dd,data:=.seq items n,slots:=sl }∧R (.ok (.ret Value.notImplemented)) s) :=
 .of_wp fun prog w A R s h=>by obtain ⟨hp,g,d,tk,os⟩:=s; obtain ⟨hl,h⟩:=h; wp_walk; exact ⟨_,rfl,h⟩
theorem Zj6 (l:Addr) (items:Array Value) (n:Nat) (dd:Option Addr) (sl:Array (Option Value)) (x:Int) (u:Tok) (h2:2≤x) (h3:x≤1000) (he:items.isEmpty=false) (hz:items.size≤1000) :
 Meets (Builtin.«tuple.__mul__» ⟨[.ref l,.int x u],[]⟩) (fun _ R s=>s.heap.get? l=some { cls:=.type "tuple",dict:=dd,data:=.seq items n,slots:=sl }∧R (.ok (.ret (Value.ref s.heap.objs.size))) { s with heap:=s.heap.push { cls:=Value.type "tuple",data:=Data.seq ((List.replicate x.toNat items).foldl (·++·) #[]) },toks:=s.toks }) :=
 .of_wp fun prog w A R s h=>by
  obtain ⟨hp,g,d,tk,os⟩:=s; obtain ⟨hl,h⟩:=h;have f1:=AutoSeq1.idx_int; have f2:=AutoSeq1.sub_tuple_tuple; have f3:=AutoSeq1.sub_list_list; have f4:=AutoSeq1.sub_tuple_list; have f5:=AutoSeq1.sub_list_tuple
  have hm:((items.size:Nat):Int) * x≤1000 * 1000:=by
   have h4:((items.size:Nat):Int)≤1000:=by omega
   exact Int.mul_le_mul h4 h3 (by omega) (by omega)
  have hc0:(decide (x < -2 ^ 63) || decide (x ≥ 2 ^ 63))=false:=by
   rw [n14_ (by omega),n14_ (by omega)]; decide
  have hc1:(items.isEmpty || x == 1)=false:=by
   rw [he,beq_false_of_ne (by omega)]; decide
  have hc2:(decide (x≤0) || items.isEmpty)=false:=by
   rw [he,n14_ (by omega)]; decide
  have hc3:¬ ((items.size:Nat):Int) * x > (2 ^ 63 - 1) / 8:=by
   have:(1000 * 1000:Int)≤(2 ^ 63 - 1) / 8:=by decide
   omega
  have sl1:(1000 * 1000:Nat)≤sizeLine:=by decide
  have hc4:Builtin.Tuple.tupleTooMany (((items.size:Nat):Int) * x)=false:=by
   unfold Builtin.Tuple.tupleTooMany;rw [n14_ (by omega)]
  have hsz:(List.foldl (fun x1 x2=>x1++x2) #[] (List.replicate x.toNat items)).size≤sizeLine:=by
   obtain ⟨its⟩:=items;have f0:=Zbr its x.toNat [];rw [List.nil_append] at f0;have f1:List.foldl (fun x1 x2=>x1++x2) #[] (List.replicate x.toNat its.toArray)=(List.replicate x.toNat its).flatten.toArray:=f0;rw [f1,n7_,Zhm];have h5:x.toNat≤1000:=by omega
   have h6:its.length≤1000:=by simpa using hz
   exact n24_ (Nat.mul_le_mul h5 h6) sl1
  wp_walk using wpAny_loadPart' hl
  refine wpAny_ite_false (by rw [hc0]; rfl) ?_
  wp_walk using wpAny_loadPart' hl
  refine wpAny_ite_false (by rw [hc1]; rfl) ?_
  wp_walk using wpAny_loadPart' hl
  refine wpAny_ite_false (by rw [hc2]; rfl) ?_
  wp_walk using wpAny_loadPart' hl
  refine wpAny_ite_false (n14_ hc3) ?_
  wp_walk using wpAny_loadPart' hl
  first | exact ⟨_,rfl,h⟩ | (refine wpAny_ite_false (n14_ (Nat.not_lt.mpr hsz)) ?_; wp_walk; exact ⟨_,rfl,h⟩)
section
variable {X:Cx}
def Zq9:R2:=fun x y H Q=>∃ l k xs,x=.ref l∧y=.int k∧H l=some (.tup xs)∧2≤k∧k≤1000∧xs≠[]∧xs.length≤1000 ∧
 ∀ p H',Same H H'→H' p=some (.tup (List.replicate k.toNat xs).flatten)→Q (.ref p) H'
theorem Ze3:OpR X (binaryOp .Mult) Zq9:=by
 intro pins s σ H x y v u Q I rx ry h;obtain ⟨l,k,xs,rfl,rfl,hH,h2,h3,hne,hz,q⟩:=h;cases rx
 obtain ⟨t,rfl⟩:=ry;obtain ⟨its,r,p,hzz⟩:=I.tuple (SqT.of hH);obtain ⟨⟨cls,dd,data,sl⟩,ho,hc,n,hd⟩:=id p;simp only at hc hd;subst hc hd;have hl:=r.length
 have he:its.toArray.isEmpty=false:=by
  cases its with
  | nil=>exact absurd (List.length_eq_zero_iff.mp hl) hne
  | cons a b=>rfl
 refine wpAny_binaryOp_repeat_ref (T := "tuple") (U := "int") (by decide) ⟨_,ho,rfl⟩ (fun s'=>typeIs_int s' k t) Zcw F.fills_int_mul F.slot_int_rmul Zgt F.slot_int_index.lookup
  (call_meets F.slot_int_rmul (typeIs_int s k t) F.entry_int_rmul (F.args_int_rmul_2 _ _) (Zd7 k t l its.toArray n dd sl)
    ⟨ho,rfl,⟨_,ho,rfl⟩,call_meets F.slot_tuple_mul ⟨_,ho,rfl⟩ F.entry_tuple_mul (F.args_tuple_mul_2 _ _) (Zj6 l its.toArray n dd sl k t h2 h3 he (by rw [n7_,← hl]; exact hz)) ⟨ho,?_⟩⟩)
 have f0:=Zbr its k.toNat [];rw [List.nil_append] at f0;have f1:List.foldl (fun x1 x2=>x1++x2) #[] (List.replicate k.toNat its.toArray)=(List.replicate k.toNat its).flatten.toArray:=f0;rw [f1]
 have hz2:(List.replicate k.toNat xs).flatten.length≤sizeLine:=by
  rw [Zhm];have sl1:(1000 * 1000:Nat)≤sizeLine:=by decide
  exact n24_ (Nat.mul_le_mul (show k.toNat≤1000 by omega) hz) sl1
 exact ⟨.ref _,_,I.laid (t':=s.toks) (o:=.tup (List.replicate k.toNat xs).flatten) (fun b ob q=>n2_ _ q) (n5_ _) ⟨hz2,_,r.rep k.toNat,IsTup.new _ _⟩,rfl,q _ _ (Same.new I.fresh) Zc⟩
def EqT {α:Type} [DecidableEq α] (X:Cx) (d:Nat) (R:Hp→V→α→Prop):Prop:=∀ (A:Around) (pins:List (Addr×Obj)) (σ:St) (H:Hp) (s:Shared) (v u:V) (a b:Value) (x y:α),A.units+d < cLine→Inv X pins σ H s→R H v x→R H u y→RelV v a→RelV u b→SeqAt.EqAt A s a b (decide (x=y))
theorem Zoz {α:Type} [DecidableEq α] [Inhabited α] (xs ys:List α):((List.range (min xs.length ys.length)).all (fun j=>decide (xs.getD j default=ys.getD j default)) && xs.length == ys.length)=decide (xs=ys):=by
 by_cases h:xs=ys
 · subst h
   simp
 · rw [n14_ h,Bool.and_eq_false_iff]
   by_cases hl:xs.length=ys.length
   · left
     rw [Bool.eq_false_iff];intro z;rw [n42_] at z;apply h
     apply List.ext_getElem hl
     intro i h1 h2
     have:=z i (by simp; omega)
     simpa [h1,h2] using this
   · right
     simpa using hl
theorem Znm {α:Type} [DecidableEq α] [Inhabited α] {d:Nat} {R:Hp→V→α→Prop} (E:EqT X d R) {A:Around} {pins:List (Addr×Obj)} {σ:St} {H:Hp} {s:Shared} (hu:A.units+d < cLine) (I:Inv X pins σ H s) {vs us:List V} {xs ys:List α} (h1:Al (R H) vs xs) (h2:Al (R H) us ys) {as bs:List Value} (r1:Vals vs as) (r2:Vals us bs) (j:Nat) (z1:j < as.toArray.size) (z2:j < bs.toArray.size):SeqAt.EqAt A s as.toArray[j] bs.toArray[j] (decide (xs.getD j default=ys.getD j default)):=by
 simp only [n7_] at z1 z2;simp only [List.getElem_toArray];have l1:=r1.length;have l2:=r2.length;have g1:vs[j]? = some vs[j]:=n0_ (by omega);have g2:us[j]? = some us[j]:=n0_ (by omega);obtain ⟨a,e1,ra⟩:=r1.get g1;obtain ⟨b,e2,rb⟩:=r2.get g2;obtain ⟨x,ex,rx⟩:=h1.get g1;obtain ⟨y,ey,ry⟩:=h2.get g2;rw [n0_ z1] at e1;rw [n0_ z2] at e2;cases e1
 cases e2
 rw [n19_,n19_,ex,ey];exact E A pins σ H s _ _ _ _ x y hu I rx ry ra rb
def rEqG {α:Type} [DecidableEq α] (R:Hp→V→α→Prop) (neg:Bool):R2:=fun x y H Q=>∃ xs ys:List α,Zn2 R H x xs∧Zn2 R H y ys∧Q (.bl (if neg then !decide (xs=ys) else decide (xs=ys))) H
theorem Zqx {α:Type} [DecidableEq α] [Inhabited α] {d:Nat} {R:Hp→V→α→Prop} (E:EqT X d R) (hu:X.A.units+d+1 < cLine):OpR X (compareOp .NotEq) (rEqG R true):=by
 intro pins s σ H x y v u Q I rx ry h;obtain ⟨xs,ys,⟨p,vs,rfl,e1,a1⟩,⟨q,us,rfl,e2,a2⟩,k⟩:=h;cases rx
 cases ry
 obtain ⟨as,q1,p1,_⟩:=I.tuple (SqT.of e1);obtain ⟨bs,q2,p2,_⟩:=I.tuple (SqT.of e2);have l1:=q1.length;have l2:=q2.length;refine SeqAt.RcNeAt.tuples (e:=fun j=>decide (xs.getD j default=ys.getD j default)) p1 p2 (by omega) (fun j z1 z2=>Znm E (A:=X.A.in1) (by rw [Around.in1_units]; omega) I a1 a2 q1 q2 j z1 z2) _ _ _ _ ⟨.bl _,H,I,rfl,?_⟩;rw [n7_,n7_,← l1,← l2,a1.1,a2.1,Zoz];exact k
end
end L2
namespace L2
open PySem PySem.Spec PyProof.Rows
theorem Zir {v:V} {u:Value} (h:RelV v u):absV u=some v:=by
 cases v <;> simp only [RelV] at h <;> first | (subst h; rfl) | (obtain ⟨_,rfl⟩:=h; rfl)
theorem Znd {v v':V} {u:Value} (h:RelV v u) (h':RelV v' u):v=v':=Option.some.inj ((Zir h).symm.trans (Zir h'))
section
variable {X:Cx} {α:Type} [DecidableEq α] {R:Hp→V→α→Prop} {d:Nat}
noncomputable def eqOf (R:Hp→V→α→Prop) (H:Hp) (a:α) (y:Value):Bool:=@decide (∃ v,RelV v y∧R H v a) (Classical.propDecidable _)
theorem Zmc {H:Hp} {v:V} {y:Value} {x a:α} (inj:∀ v x y,R H v x→R H v y→x=y) (rv:RelV v y) (r:R H v x):eqOf R H a y=decide (x=a):=by
 unfold eqOf;rw [Bool.eq_iff_iff];simp only [decide_eq_true_iff];refine ⟨fun ⟨v',h1,h2⟩=>?_,fun h=>⟨v,rv,h ▸ r⟩⟩;rw [Znd h1 rv] at h2;exact inj v x a r h2
theorem Zpr {A:Around} {pins:List (Addr×Obj)} {σ:St} {H:Hp} {s:Shared} (E:EqT X d R) (inj:∀ v x y,R H v x→R H v y→x=y) (hu:A.units+d < cLine) (I:Inv X pins σ H s) {vs:List V} {us:List Value} {xs:List α} (r:Vals vs us) (al:Al (R H) vs xs) {x:V} {v:Value} {a:α} (rx:RelV x v) (ra:R H x a) :
 ∀ y∈us.toArray,SeqAt.EqAt A s y v (eqOf R H a y):=fun y hy=>by
 obtain ⟨i,hi,e⟩:=n45_ (show y∈us by simpa using hy);have l1:=r.length;obtain ⟨u,eu,ru⟩:=r.get (n0_ (show i < vs.length by omega));rw [n0_ hi,e] at eu;cases eu
 obtain ⟨z,ez,rz⟩:=al.get (n0_ (show i < vs.length by omega));rw [Zmc inj ru rz];exact E A pins σ H s _ _ _ _ z a hu I rz ra ru rx
theorem Zlf (E:EqT X d R) (inj:∀ H v x y,R H v x→R H v y→x=y) (hu:X.A.units+d+1 < cLine):MtR X "list.index" (fun x xs H Q=>∃ (p:Addr) (vs:List V) (ys:List α) (v:V) (a:α) (j:Nat),x=.ref p∧xs=[v]∧H p=some (.lst vs)∧Al (R H) vs ys∧R H v a∧ys[j]? = some a∧(∀ m,m < j→ys[m]?≠some a)∧ys.length≤1000∧Q (.int j) H):=by
 intro pins s σ H x xs v us Q I rx rv h;obtain ⟨p,vs,ys,y,a,j,rfl,rfl,e,al,ra,ej,hno,hz,q⟩:=h;cases rx
 obtain ⟨u,rfl,ru⟩:=rv.one;obtain ⟨its,r,pl,_⟩:=I.list (SqL.of e);obtain ⟨⟨cls,dd,data,sl⟩,ho,hc,n,hd⟩:=id pl.isList;simp only at hc hd;subst hc hd;have l1:=r.length;have l2:=al.1;have hj:j < ys.length:=(n33_.mp ej).1
 have at_:∀ m (hm:m < its.toArray.size) z,ys[m]? = some z→eqOf R H a its.toArray[m]=decide (z=a):=fun m hm z ez=>by
  have hm':m < its.length:=by simpa using hm
  obtain ⟨w,ew,rw'⟩:=r.get (n0_ (show m < vs.length by omega));rw [n0_ hm'] at ew;cases ew
  simp only [List.getElem_toArray];exact Zmc (inj H) rw' (al.2 m _ z (n0_ (by omega)) ez)
 refine call_meets F.slot_list_index ⟨_,ho,rfl⟩ F.entry_list_index (F.args_list_index_2 _ _) (SeqAt.list_indexAt p its.toArray n dd sl u (eqOf R H a) j (by simp; omega) (by omega) ?_ ?_) ⟨ho,Zpr E (inj H) (by rw [Around.in1_units]; omega) I r al ru ra,?_⟩
 · rw [at_ j (by simp; omega) a ej]; exact n26_ rfl
 · intro m hm hlt;have hm':m < ys.length:=by omega
   rw [at_ m hm ys[m] (n0_ hm')];exact n14_ fun z=>hno m hlt (by rw [n0_ hm',z])
 · exact ⟨.int j,H,I.tok _,⟨_,rfl⟩,q⟩
end
end L2
namespace L2
open PySem PySem.Spec PyProof.Rows PySem.W
section
variable {prog:Program} {w:World} {A:Around} {R:Result→Shared→Prop} {I:Addr} {fp wr:List Addr} {n:Nat} {P:Nat→Value→Prop} {St:Nat→Heap→Prop}
theorem Zi6:(toString "min" ++ toString ".loop" : String) = "min.loop" := by decide
end
section
variable {prog:Program} {w:World} {A:Around} {E:Value→Shared→Prop} {s:Shared}
end
section
variable {X:Cx}
end
end L2
namespace L2
open PySem PySem.Spec PyProof.Rows PySem.W
section
variable {X:Cx}
end
def KTu (K:PySem.W.Frag) (a:Addr) (us:List V):Prop:=∃ (o:Obj) (its:Array Value) (n:Nat),K.lookup a=some o∧o.cls=.type "tuple" ∧ o.data=.seq its n∧its.size≤sizeLine∧Vals us its.toList
theorem KTu.sq {K:PySem.W.Frag} {H:Hp} {a:Addr} {us:List V} (h:KTu K a us):SqT K H a us:=.inr h
end L2
namespace L2
open PySem PySem.Spec PyProof.Rows PySem.W
theorem fsc {N P:List Str} {sc:Scope} (h:sc.kind=.function∧sc.isCoroutine=false∧sc.isGenerator=false∧N.Nodup∧N.take P.length=P∧(∀ x∈P,sc.names.lookup x=some .local∨sc.names.lookup x=some .cell)∧∀ y∈sc.names,y.2≠.free):FnScope N P sc:=let ⟨a,b,c,d,e,f,g⟩:=h; ⟨a,b,c,d,e,f,g⟩
end L2
namespace L2
open PySem PySem.Spec PyProof.Rows PySem.W
theorem Zf7 {X:Cx} (K:PySem.W.Frag) (hK:X.K=K):Zak X (.builtin "isinstance") (fun xs H Q=>∃ x T t b,xs=[x,.ty T]∧TyOf K H x t∧PySem.W.kitOne K t (.type T)=some b∧Q (.bl b) H):=hK ▸ Ys
end L2
set_option maxHeartbeats 4000000
namespace L2
open PySem PySem.Spec PyProof.Rows
section
variable {M:Model} {A:Around} {E:Value→Shared→Prop} {s:Shared}
def FO (h:Heap) (a:Addr) (C:Value) (d:Option Addr) (vs:Array Value):Prop:=∃ o:Obj,h.get? a=some o∧o.cls=C∧o.dict=d∧o.data=.fields vs
theorem Zkp {o:Obj} {f:Array Value→Array Value}:(Obj.mapFields f o).dict=o.dict:=by
 obtain ⟨c,d,dt,sl⟩:=o;cases dt <;> rfl
theorem FO.set {h:Heap} {a:Addr} {C:Value} {d:Option Addr} {vs:Array Value} (x:FO h a C d vs) (f:Array Value→Array Value):FO (h.update a (Obj.mapFields f)) a C d (f vs) :=
 let ⟨o,e,hc,hd,hv⟩:=x
 ⟨_,Heap.get?_update_self _ e (Obj.isFreed_of_fields (Obj.data_mapFields hv f)),(Obj.cls_mapFields _ _).trans hc,Zkp.trans hd,Obj.data_mapFields hv f⟩
theorem FO.keep {h h':Heap} {a:Addr} {C:Value} {d:Option Addr} {vs:Array Value} (x:FO h a C d vs) (k:∀ o,h.get? a=some o→h'.get? a=some o):FO h' a C d vs :=
 let ⟨o,e,r⟩:=x
 ⟨o,k o e,r⟩
theorem Zds {h:Heap} {a b:Addr} {o:Obj} {g:Obj→Obj} (n:b≠a) (e:h.get? b=some o):(h.update a g).get? b=some o:=(n58_ h g (Ne.symm n)).trans e
def Fly (h:Heap) (G:Heap) (e T:Addr) (C:Value):Prop :=
 G.get? e=none∧G.get? T=none∧T≠e∧(∃ vs,FO h e C none vs∧vs[1]? = some (.ref T))∧∃ cT dT ts,FO h T cT dT ts∧ts[3]? = some .none
theorem Fly.lo {h G G':Heap} {e T:Addr} {C:Value} (f:Fly h G e T C) (l:∀ b,G.get? b=none→G'.get? b=none):Fly h G' e T C:=⟨l _ f.1,l _ f.2.1,f.2.2⟩
def Fly0 (h:Heap) (G:Heap) (e:Addr) (C:Value):Prop:=G.get? e=none∧∃ vs,FO h e C none vs∧vs[1]? = some .none
def LftX (fs:List Addr) (S:Addr→Prop) (h h':Heap):Prop :=
 (∀ b o,¬ S b→b∉fs→h.get? b=some o→h'.get? b=some o)∧∀ b o,b∈fs→h.get? b=some o→∃ sl,h'.get? b=some { o with slots:=sl }
theorem FO.ne_frame {base h:Heap} {l:List Env} {a:Addr} {C:Value} {d:Option Addr} {vs:Array Value} (x:FO h a C d vs) (hl:h.FunFrames base l):a∉frs l:=fun hm=>by
 obtain ⟨o,e,_,_,hv⟩:=x;obtain ⟨_,o',e',nf⟩:=hl.mem hm;rw [e] at e'; cases e'; exact nf vs hv
theorem Zny {base:Heap} {env:Env} {outer:List Env} {L e:Addr} {C head:Value} {vs:Array Value} {hadNext:Bool} {G:Heap} {Q:Unit→Shared→Prop}
 (hfr:A.frames=some (env :: outer)) (hl:s.heap.FunFrames base (env :: outer)) (hf:env.frame=some L) (x:FO s.heap e C none vs) (hG:G.get? e=none) (hsz:1 < vs.size) (hz:G.get? s.heap.objs.size=none)
 (h:∀ h',LftX (frs (env :: outer)) (· = e) s.heap h'→Fly h' G e s.heap.objs.size C→Q () { s with heap:=h' }) :
 wpAny M A (do let a ← frameOf env; let pl ← entryPlaceOf L hadNext; let b ← EntryCells.newEntry head a .none (rawInt L) .none pl; setField (.ref e) 1 b) (fun _ s'=>wpAny M A (setFlight (.ref e) none) Q E s') E s:=by
 have nf:=x.ne_frame hl;refine n1_ (wpAny_frameOf_fun hfr hl hf fun g ⟨gz,gk,gs⟩=>n1_ (wpAny_entryPlaceOf fun pl hpl=>n1_ ?_));refine wpAny_newObj_type ?_ (hpl.sizeOk5 _ _ _ _ _);generalize hts:(([head,Value.ref L,.none,rawInt L,.none]++(if pl.isEmpty then List.replicate 6 Value.none else pl)).toArray:Array Value)=ts
 have hts3:3 < ts.size:=by
  rw [← hts]; simp only [n7_,n17_,n16_,n37_]; omega
 have x1:FO g e C none vs:=x.keep fun o q=>(gk e nf).trans q;have ne:g.objs.size≠e:=Nat.ne_of_gt (let ⟨_,q,_⟩:=x1; n13_ q);have y1:FO (g.push { cls:=.type "traceback",dict:=none,data:=.fields ts }) g.objs.size (.type "traceback") none ts:=⟨_,n11_ g rfl,rfl,rfl,rfl⟩;have x2:=x1.keep (h':=g.push { cls:=.type "traceback",dict:=none,data:=.fields ts }) fun o q=>n2_ _ q;have x3:=x2.set (·.setIfInBounds 1 (.ref g.objs.size));have y3:=y1.keep (h':=(g.push { cls:=.type "traceback",dict:=none,data:=.fields ts }).update e (Obj.mapFields (·.setIfInBounds 1 (.ref g.objs.size)))) fun o q=>Zds ne q;obtain ⟨o2,a2,_,_,v2⟩:=id x2;obtain ⟨o3,a3,_,_,v3⟩:=id x3;obtain ⟨p3,b3,_,_,w3⟩:=id y3;have one:(vs.setIfInBounds 1 (.ref g.objs.size))[1]? = some (.ref g.objs.size):=by simp [hsz]
 refine wpAny_setField a2 v2 hsz (n1_ (wpAny_field a3 v3 one ?_));rw [if_pos (by simp)];refine wpAny_setField b3 w3 hts3 ?_;have y4:=y3.set (·.setIfInBounds 3 ((none:Option Addr).elim Value.none fun f=>rawInt f));have x4:=x3.keep fun o q=>Zds (g:=Obj.mapFields (·.setIfInBounds 3 ((none:Option Addr).elim Value.none fun f=>rawInt f))) (Ne.symm ne) q;have keep:∀ b o,b≠e→g.get? b=some o→_:=fun b o n q=>Zds (g:=Obj.mapFields (·.setIfInBounds 3 ((none:Option Addr).elim Value.none fun f=>rawInt f))) (n36_ (n13_ q)) (Zds (g:=Obj.mapFields (·.setIfInBounds 1 (.ref g.objs.size))) n (n2_ { cls:=.type "traceback",dict:=none,data:=.fields ts } q));refine h _ ⟨fun b o n hb q=>keep b o n ((gk b hb).trans q),fun b o hb q=>?_⟩ ?_
 · obtain ⟨sl,q2⟩:=gs b o q;exact ⟨sl,keep b _ (fun z=>nf (z ▸ hb)) q2⟩
 · rw [← gz];exact ⟨hG,by rw [gz]; exact hz,ne,⟨_,x4,one⟩,_,_,_,y4,by simp [hts3]⟩
theorem Znk {base:Heap} {env:Env} {outer:List Env} {L e:Addr} {C:Value} {G:Heap} {Q:Unit→Shared→Prop}
 (hfr:A.frames=some (env :: outer)) (hl:s.heap.FunFrames base (env :: outer)) (hf:env.frame=some L) (f:Fly0 s.heap G e C) (hz:G.get? s.heap.objs.size=none)
 (h:∀ h',LftX (frs (env :: outer)) (· = e) s.heap h'→Fly h' G e s.heap.objs.size C→Q () { s with heap:=h' }):wpAny M A (leaving env (.ref e)) Q E s:=by
 obtain ⟨hG,vs,x,h1⟩:=f;obtain ⟨oe,he,_,_,hd⟩:=id x;unfold leaving noteFrame;simp only [hf];refine n1_ (n1_ (wpAny_field he hd h1 ?_));rw [if_neg (by decide)];exact Zny hfr hl hf x hG (Array.getElem?_eq_some_iff.mp h1).1 hz h
theorem Zko {base:Heap} {env:Env} {outer:List Env} {L e T:Addr} {C:Value} {G:Heap} {Q:Unit→Shared→Prop}
 (hfr:A.frames=some (env :: outer)) (hl:s.heap.FunFrames base (env :: outer)) (hf:env.frame=some L) (f:Fly s.heap G e T C) (hz:G.get? s.heap.objs.size=none)
 (h:∀ h',LftX (frs (env :: outer)) (fun b=>b=e∨b=T) s.heap h'→Fly h' G e s.heap.objs.size C→Q () { s with heap:=h' }) :
 wpAny M A (noteFrame (.ref e) env) (fun _ s'=>wpAny M A (setFlight (.ref e) none) Q E s') E s:=by
 obtain ⟨hG,hT,ne,⟨vs,x,h1⟩,cT,dT,ts,y,h3⟩:=f;obtain ⟨oe,he,_,_,hd⟩:=id x;obtain ⟨oT,eT,_,_,hdT⟩:=id y;have nT:=y.ne_frame hl;unfold noteFrame;simp only [hf];refine n1_ (wpAny_field he hd h1 ?_);rw [if_pos (by simp)];refine n1_ (wpAny_field eT hdT h3 ?_);rw [if_neg (by simp [rawInt])];refine n1_ (wpAny_setField eT hdT (Array.getElem?_eq_some_iff.mp h3).1 ?_);have sz:(s.heap.update T (Obj.mapFields (·.setIfInBounds 3 .none))).objs.size=s.heap.objs.size:=Heap.size_after_update ..;have hl':(s.heap.update T (Obj.mapFields (·.setIfInBounds 3 .none))).FunFrames base (env :: outer):=hl.of_keeps fun b o q nf=>⟨o,Zds (fun z=>by rw [z,eT] at q; cases q; exact nf ts hdT) q,rfl⟩;refine Zny (s:={ s with heap:=s.heap.update T (Obj.mapFields (·.setIfInBounds 3 .none)) }) hfr hl' hf (x.keep fun o q=>Zds (Ne.symm ne) q) hG (Array.getElem?_eq_some_iff.mp h1).1 (by rw [sz]; exact hz) fun h' ⟨k1,k2⟩ k3=>?_;exact h h' ⟨fun b o n hb q=>k1 b o (fun z=>n (.inl z)) hb (Zds (fun z=>n (.inr z)) q),fun b o hb q=>k2 b o hb (Zds (fun z=>nT (z ▸ hb)) q)⟩ (by rw [← sz]; exact k3)
theorem Zop {base:Heap} {env:Env} {outer:List Env} {L e T:Addr} {C:Value} {G:Heap} {Q:Unit→Shared→Prop}
 (hfr:A.frames=some (env :: outer)) (hl:s.heap.FunFrames base (env :: outer)) (hf:env.frame=some L) (f:Fly s.heap G e T C) (hz:G.get? s.heap.objs.size=none)
 (h:∀ h',LftX (frs (env :: outer)) (fun b=>b=e∨b=T) s.heap h'→Fly h' G e s.heap.objs.size C→Q () { s with heap:=h' }):wpAny M A (leaving env (.ref e)) Q E s:=by
 unfold leaving;exact n1_ (Zko hfr hl hf f hz h)
def CX1 (P:Program) (w:World):CXT:=fun outer H s E e s'=>∃ ea T C H',e=.ref ea∧s'.os=s.os∧AllBare s'.gens∧Un (frs outer) [] H H' s.heap s'.heap∧HOk P w H' s'.heap∧Fly s'.heap s.heap ea T (.ref C)∧H' ea=none∧H' T=none∧E (.ref C) none H'
end
structure XeOk (X:Cx) (E:XK):Prop where
 st:X.stack=X.env :: X.outer
 fr:X.env.frame=some X.env.locals
 ex:X.ex=[]
 xe:∀ e s',wpAny (model X.prog X.w) X.A (leaving X.env e) (fun _ s''=>CX1 X.prog X.w X.outer X.H₀ X.s₀ E e s'') (fun _ _=>False) s'→X.xe e s'
section
variable {X:Cx} {E:XK} {pins:List (Addr×Obj)} {σ:St} {H:Hp} {s:Shared} {ea T C:Addr}
theorem Inv.newX (I:Inv X pins σ H s) {b:Addr} (z:s.heap.get? b=none) (hx:b∉X.ex):X.s₀.heap.get? b=none:=by
 cases q:X.s₀.heap.get? b with
 | none=>rfl
 | some o =>
   obtain ⟨o',e⟩:=I.base.there b o q hx;rw [z] at e; cases e
theorem Inv.new0 (I:Inv X pins σ H s) {b:Addr} (z:s.heap.objs.size≤b):X.s₀.heap.get? b=none:=Heap.get?_none_of_le (n24_ I.sz z)
theorem Inv.fsIn (I:Inv X pins σ H s):∀ b∈X.fs,b∈frs X.stack:=fun b hb=>by
 rcases I.ok.stk with e | ⟨e,hf⟩
 · rw [e]; exact hb
 · rw [e];show b∈List.filterMap _ (_ :: X.outer)
   rw [List.filterMap_cons];split
   · exact hb
   · exact n12_ _ hb
theorem Inv.oldOut (I:Inv X pins σ H s) {b:Addr} {o:Obj} (e:X.s₀.heap.get? b=some o) (hb:b∉X.fs):b∉frs X.stack:=fun z=>by
 rcases n18_.mp (I.stkSub b z) with q | q
 · exact absurd (n13_ e) (Nat.not_lt.mpr (by rw [q]; exact I.ok.above))
 · exact hb q
theorem Zn3 (o:XeOk X E) (I:Inv X pins σ H s) {h':Heap} (k1:∀ b o,(X.s₀.heap.get? b≠none∨H b≠none)→b∉frs X.stack→s.heap.get? b=some o→h'.get? b=some o)
 (k2:∀ b o,b∈frs X.stack→s.heap.get? b=some o→∃ sl,h'.get? b=some { o with slots:=sl }) (k3:Fly h' X.s₀.heap ea s.heap.objs.size (.ref C)) (n1:H ea=none) (hE:E (.ref C) none H) :
 CX1 X.prog X.w X.outer X.H₀ X.s₀ E (.ref ea) { s with heap:=h' }:=by
 have hx:∀ {b:Addr},b∉([]:List Addr)→b∉X.ex:=fun z=>by rw [o.ex]; exact z
 refine ⟨ea,s.heap.objs.size,C,H,rfl,I.os,I.bare,⟨fun b u q n hb z=>?_,fun b u q n hb z=>?_,fun b u q n z=>I.base.free b u q n (hx z),fun b u q z=>?_,I.base.tups,I.base.frzs,I.base.tbls⟩,fun b u e=>?_,k3,n1,I.hok.fresh (n5_ _),hE⟩
 · exact k1 b u (.inl (by rw [q]; simp)) (I.oldOut q hb) (I.base.keep b u q n hb (hx z))
 · obtain ⟨sl,e1⟩:=I.base.slot b u q n hb (hx z);obtain ⟨sl',e2⟩:=k2 b _ (I.fsIn b hb) e1;exact ⟨sl',e2⟩
 · obtain ⟨o',e1⟩:=I.base.there b u q (hx z)
   by_cases hb:b∈frs X.stack
   · obtain ⟨sl',e2⟩:=k2 b _ hb e1;exact ⟨_,e2⟩
   · exact ⟨o',k1 b o' (.inl (by rw [q]; simp)) hb e1⟩
 · refine (I.hok b u e).stay (fun c v hc q=>k1 c v ?_ ?_ q) (fun _ q=>q) fun _ _ q=>q
   · rcases hc with z | z
     · rw [z]; exact .inr (by rw [e]; simp)
     · exact .inr (by rw [z]; simp)
   · intro hm
     have:=I.stkFree c hm
     rcases hc with z | z
     · rw [z,e] at this; cases this
     · rw [z] at this; cases this
theorem Znb (o:XeOk X E) (I:Inv X pins σ H s) (f0:Fly0 s.heap X.s₀.heap ea (.ref C)) (n1:H ea=none) (hE:E (.ref C) none H):X.xe (.ref ea) s:=by
 refine o.xe _ _ (Znk (G:=X.s₀.heap) (I.ok.frames.trans (congrArg some o.st)) (o.st ▸ I.stack) o.fr f0 (I.new0 (n5_ _)) fun h' k k3=>?_);rw [← o.st] at k;refine Zn3 o I (fun b u hb hf e=>k.1 b u ?_ hf e) k.2 k3 n1 hE;rintro rfl
 rcases hb with z | z
 · exact z f0.1
 · exact z n1
theorem Zo2 (o:XeOk X E) (I:Inv X pins σ H s) (f1:Fly s.heap X.s₀.heap ea T (.ref C)) (n1:H ea=none) (n2:H T=none) (hE:E (.ref C) none H):X.xe (.ref ea) s:=by
 refine o.xe _ _ (Zop (G:=X.s₀.heap) (I.ok.frames.trans (congrArg some o.st)) (o.st ▸ I.stack) o.fr f1 (I.new0 (n5_ _)) fun h' k k3=>?_);rw [← o.st] at k;refine Zn3 o I (fun b u hb hf e=>k.1 b u ?_ hf e) k.2 k3 n1 hE;rintro (rfl | rfl)
 · rcases hb with z | z
   · exact z f1.1
   · exact z n1
 · rcases hb with z | z
   · exact z f1.2.1
   · exact z n2
theorem XeOk.passes (o:XeOk X E):Zdq (CX1 X.prog X.w) X E:=by
 rintro pins σ H s e s' I ⟨ea,T,C,H',rfl,os,bare,un,hok,fly,n1,n2,hE⟩
 exact Zo2 o (I.call' (ch:=[]) os un hok bare (fun b z=>absurd z (by simp))) (fly.lo fun b z=>I.newX z (by rw [o.ex]; simp)) n1 n2 hE
end
section
variable {P:Program} {w:World} {K:PySem.W.Frag} {mg:Str→Option Value} {base:Heap} {N:List Str} {qual:Str} {scope:Scope} {f:Addr} {cd:Value} {A:Around} {outer:List Env} {s₀:Shared} {H₀:Hp} {E:XK}
theorem Zl0:XeOk (cxOf (CX1 P w) P w K mg base N qual scope f cd A outer s₀ H₀ E) E:=⟨rfl,rfl,rfl,fun _ _ h=>n67_ h (fun _ _ z=>z) fun _ _ z=>z.elim⟩
end
end L2
namespace L2
open PySem PySem.Spec PyProof.Rows
theorem Zom {K:PySem.W.Frag} {h:Heap} {C:Addr} {bmB:List Value} {newId:String} (X:K.In h) (q:PySem.W.excIn K C bmB newId=true) :
 ∃ (bm:List Value) (N:Addr) (nm qn:Str) (bs:List Value) (hd:Bool) (sn:List Str) (sub:List Value) (ab:Bool) (col:Option Bool) (dd:Option Addr) (k0 k1 k2 k3 k5:Option Value) (mN:Str→Option Value),
   h.get? C=some (excClassObj nm qn C N bs bm hd sn sub ab col dd k0 k1 k2 k3 k5 newId)∧h.Ns N mN∧mN "__init__" = none∧OwnTail h bmB bm:=by
 unfold PySem.W.excIn at q;split at q
 · rename_i dd cd sl ho
   split at q
   · rename_i C' bm k0 k1 k2 k3 n k5 hm hs
     simp only [n22_,beq_iff_eq,Bool.not_eq_true'] at q;obtain ⟨⟨⟨⟨⟨rfl,rfl⟩,hdel⟩,ht⟩,hok⟩,hni⟩:=q;obtain ⟨nm,bs,mro,ns,qn,hd,sn,sub,ab,col,del⟩:=cd;dsimp only at hm hdel hok hni;subst hm hdel
     have hsl:sl=#[k0,k1,k2,k3,some (.builtin n),k5]:=by
      obtain ⟨l⟩:=sl;simp only at hs;rw [hs]
     subst hsl;exact ⟨bm,ns,nm,qn,bs,hd,sn,sub,ab,col,dd,k0,k1,k2,k3,k5,_,X _ _ ho,.of_isNs (PySem.W.isNs_of_in X hok),PySem.W.nsMap_none_of_in X hok hni,PySem.W.tail_of_in X ht⟩
   · cases q
 · cases q
structure ExcK (K:PySem.W.Frag) (C:Addr):Prop where
 ex:∃ (bmB:List Value) (newId initId:String),ExcBaseFacts "ValueError" newId initId bmB∧PySem.W.excIn K C bmB newId=true
theorem ObjOk.there {P:Program} {w:World} {H:Hp} {h:Heap} {a:Addr} {o:HO} (x:ObjOk P w H h a o):∃ ob,h.get? a=some ob:=by
 cases o with
 | lst xs=>obtain ⟨_,_,_,_,e⟩:=x; exact ⟨_,e⟩
 | tup xs=>obtain ⟨_,_,_,_,e,_⟩:=x; exact ⟨_,e⟩
 | dK kvs=>obtain ⟨_,_,_,_,o,_,_,e,_⟩:=x; exact ⟨_,e⟩
 | dT kvs=>obtain ⟨_,_,_,_,o,_,_,e,_⟩:=x; exact ⟨_,e⟩
 | set S n=>obtain ⟨o,_,_,_,e,_⟩:=x; exact ⟨_,e⟩
 | ins C dx fs=>obtain ⟨_,_,_,e,_⟩:=x; exact ⟨_,e⟩
 | own y=>exact x
 | xd fs=>obtain ⟨_,⟨o,_,_,e,_⟩,_⟩:=x; exact ⟨_,e⟩
 | rng lo hi=>obtain ⟨_,_,_,e⟩:=x; exact ⟨_,e⟩
 | frz o u=>exact ⟨_,x.1⟩
 | tbl ps=>exact ⟨_,show h.get? a=some _ from x⟩
 | met f y=>exact ⟨_,show h.get? a=some _ from x⟩
 | ext φ=>exact x.2.1
def Zps (E:XK) (C:Addr):TS:=fun _ _ H=>E (.ref C) none H
section
variable {X:Cx} {E:XK}
theorem Zi0 {x t:Str} {j:Nat} {np sp cpos pos:Pos} {C:Addr} (hx:XeOk X E) (hc:X.calm=true) (hg:Gl X x) (hm:X.mg x=some (.ref C)) (Z:ExcK X.K C) (hd:(x == ("__debug__" : Str))=false:=by decide) :
 PS X (.Raise (some (.Call (.Name x np) [.Constant (.str t) j sp] [] cpos)) none pos) (Zps E C):=by
 intro pins s σ H D I h;obtain ⟨bmB,newId,initId,F,q⟩:=Z.ex;obtain ⟨bm,N,nm,qn,bs,hd',sn,sub,ab,col,dd,k0,k1,k2,k3,k5,mN,hC,hN,hni,TL⟩:=Zom I.mod.kin q;refine wpAny_Raise_call_subT (C:=C) (nm:=nm) (q:=qn) (N:=N) (bs:=bs) (bm:=bm) (bmB:=bmB) (hdct:=hd') (sn:=sn) (sub:=sub) (ab:=ab) (col:=col) (dd:=dd) (k0:=k0) (k1:=k1) (k2:=k2) (k3:=k3) (k5:=k5) (mN:=mN) F (TL.hasType F.hasBase) (I.ok.hd hc) rfl hni (Zc7 I hg hm ⟨rfl,?_⟩ hd);have ha:PA X [.Constant (.str t) j sp] _:=Za Z6 Zb rfl;refine Calls.evalArgs_plain (thn (ha cpos pins s σ H (fun vs H1=>H1=H∧vs.length=1) I ⟨rfl,rfl⟩) fun us s1 ⟨vs,H1,I1,r,eH,hl⟩=>?_);subst eH;refine ⟨rfl,by rw [← r.length,hl]; decide,I1.bk _ _ hC,hN.keeps I1.bk,TL.keeps I1.bk,fun h' e hm'=>?_⟩;obtain ⟨kp,nw,t',e1,_,_⟩:=hm';have I2:Inv X pins σ H1 { s1 with heap:=h' }:=I1.kept (t':=s1.toks) kp;refine Znb hx I2 ⟨I1.newX nw (by rw [hx.ex]; simp),_,⟨_,e1,rfl,rfl,rfl⟩,rfl⟩ ?_ h;cases z:H1 e with
 | none=>rfl
 | some u =>
   obtain ⟨o,e2⟩:=(I1.hok e u z).there;rw [show s1.heap.get? e=none from nw] at e2; cases e2
end
section
variable {P:Program} {w:World} {K:PySem.W.Frag} {mg:Str→Option Value} {base:Heap}
theorem Fun.okX {x qual:Str} {st:Stmt} {f:Addr} {fd:FuncData} {N ps:List Str} {k:Nat} {sp:Sp} (F:Fun K x qual st f fd) (S:FnScope N ps (Ze st)) (len:∀ vs H Q E,sp vs H Q E→vs.length=ps.length)
 (hbody:∀ (cdv:Value) (A:Around) (outer:List Env) (s:Shared) (H:Hp) (vs:List V) (Q:VK) (E:XK),Room k (A.deeper (envOfC qual (Ze st) s.heap.objs.size f cdv))→sp vs H Q E →
   ∃ t,PSs (cxOf (CX1 P w) P w K mg base N qual (Ze st) f cdv A outer s H E) (Yh st) t∧t { nx:=fun _ H'=>Q .non H',rt:=Q } (Zal N vs) H):FnOk P w K mg base (CX1 P w) (k+1) f fd ps sp:=by
 obtain ⟨oc,od,kV,doc,pm,an,cdv,ct,osl,rfl,lk,hcd⟩:=F.ex;exact Zno lk hcd S len fun A outer s H vs Q E hr hsp=>hbody cdv A outer s H vs Q E hr hsp
structure CalX (P:Program) (w:World) (K:PySem.W.Frag) (mg:Str→Option Value) (base:Heap) (x:Str) (k:Nat) (ps:List Str) (sp:Sp):Prop where
 ex:∃ (f:Addr) (fd:FuncData),FnOk P w K mg base (CX1 P w) k f fd ps sp∧mg x=some (.ref f)∧PySem.W.keepIn K (.ref f)=true∧Binds K fd ps []
theorem Zde {X:Cx} {x:Str} {k j:Nat} {ps:List Str} {sp:Sp} {E:XK} {p pos:Pos} {e:Expr} {es:List Expr} {t:TA} (C:CalX X.prog X.w X.K X.mg X.base x k ps sp) (hx:Zdq (CX1 X.prog X.w) X E) (hr:Room j X.A) (hj:k≤j) (hg:Gl X x) (ha:PA X (e :: es) t)
 (hdb:(x == ("__debug__" : Str))=false:=by decide) (he:starEach (e :: es) X.env=(false,eval e X.env) :: starEach es X.env:=by rfl) (hpl:(backTo pos (starEach es X.env)).any (·.1)=false:=by rfl) :
 PE X (.Call (.Name x p) (e :: es) [] pos) (fun σ H Q=>t σ H fun vs H1=>sp vs H1 Q E):=by
 obtain ⟨f,fd,F,hm,hk,hb⟩:=C.ex;have h:=Zk0 (dvs:=[]) (E:=E) (p:=p) F (hr.mono hj) hg hm hk hb .nil hx ha hdb he hpl;intro pins s σ H Q I hw;refine h pins s σ H Q I ?_;unfold Zpq
 simpa only [List.append_nil] using hw
end
end L2
namespace L2
open PySem PySem.Spec PyProof.Rows
section
variable {X:Cx} {pins:List (Addr×Obj)} {σ:St} {H:Hp} {s:Shared}
theorem Inv.left {h':Heap} {S:Addr→Prop} (I:Inv X pins σ H s) (k:LftX (frs X.stack) S s.heap h') (tk:Nat)
 (hS:∀ b,S b→H b=none∧X.s₀.heap.get? b=none∧(∀ p∈X.pn++pins,p.1≠b)∧∃ C d vs,FO s.heap b C d vs):Inv X pins σ H { s with heap:=h',toks:=tk }:=by
 obtain ⟨k1,k2⟩:=k
 have nS:∀ b o,s.heap.get? b=some o→(∀ vs,o.data≠.fields vs)→¬ S b:=fun b o e nf z=>by
  obtain ⟨_,_,_,_,_,vs,o',e',_,_,hv⟩:=hS b z;rw [e] at e'; cases e'; exact nf vs hv
 have any:∀ b o,s.heap.get? b=some o→(∀ vs,o.data≠.fields vs)→∃ sl,h'.get? b=some { o with slots:=sl }:=fun b o e nf=>by
  by_cases hb:b∈frs X.stack
  · exact k2 b o hb e
  · exact ⟨o.slots,k1 b o (nS b o e nf) hb e⟩
 have old:∀ b o,X.s₀.heap.get? b=some o→¬ S b:=fun b o e z=>by rw [(hS b z).2.1] at e; cases e
 have ce:∀ c v,s.heap.IsCell c v→h'.IsCell c v:=fun c v ⟨o,e,hd⟩=>by
  obtain ⟨sl,q⟩:=any c o e fun vs z=>by rw [hd] at z; cases z
  exact ⟨_,q,hd⟩
 refine ⟨I.ok,I.os,I.bare,⟨fun b o e n hb hx=>?_,fun b o e n hb hx=>?_,I.base.free,fun b o e hx=>?_,I.base.tups,I.base.frzs,I.base.tbls⟩,?_,fun x c e=>?_,I.free,I.freeC,fun p hp=>?_,fun b u e=>?_,I.len⟩
 · exact k1 b o (old b o e) (I.oldOut e hb) (I.base.keep b o e n hb hx)
 · obtain ⟨sl,e1⟩:=I.base.slot b o e n hb hx;obtain ⟨sl',e2⟩:=k2 b _ (I.fsIn b hb) e1;exact ⟨sl',e2⟩
 · obtain ⟨o',e1⟩:=I.base.there b o e hx
   by_cases hb:b∈frs X.stack
   · obtain ⟨sl',e2⟩:=k2 b _ hb e1;exact ⟨_,e2⟩
   · exact ⟨o',k1 b o' (old b o e) hb e1⟩
 · obtain ⟨m,⟨o,es,ep,ho,hd,r⟩,hl⟩:=I.loc;obtain ⟨sl,q⟩:=any _ o ho fun vs z=>by rw [hd] at z; cases z
   refine ⟨m,⟨_,es,ep,q,hd,r⟩,fun i x v e1 e2 e3=>?_⟩;obtain ⟨u,ru,l⟩:=hl i x v e1 e2 e3;refine ⟨u,ru,?_⟩
   rcases l with l | ⟨kk,c,e,z⟩
   · exact .inl l
   · exact .inr ⟨kk,c,e,ce c _ z⟩
 · obtain ⟨v,z⟩:=I.cell x c e;exact ⟨v,ce c v z⟩
 · obtain ⟨e,n,ne,nf,d⟩:=I.pin p hp;refine ⟨k1 p.1 p.2 (fun z=>(hS _ z).2.2.1 p hp rfl) (fun z=>?_) e,n,ne,nf,d⟩
   rcases n18_.mp (I.stkSub _ z) with q | q
   · exact ne q
   · exact nf q
 · refine (I.hok b u e).stay (fun c v hc q=>k1 c v (fun z=>?_) (fun z=>?_) q) (fun _ q=>q) fun _ _ q=>q
   · have:=(hS c z).1
     rcases hc with r | r
     · rw [r,e] at this; cases this
     · rw [r] at this; cases this
   · have:=I.stkFree c z
     rcases hc with r | r
     · rw [r,e] at this; cases this
     · rw [r] at this; cases this
theorem Inv.track {a C:Addr} {C':Value} {d:Option Addr} {vs:Array Value} {o:HO} (I:Inv X pins σ H s) (x:FO s.heap a C' d vs) (n:H a=none) (n0:X.s₀.heap.get? a=none) (np:∀ p∈X.pn++pins,p.1≠a)
 (new:ObjOk X.prog X.w (upd H a o) s.heap a o):Inv X pins σ (upd H a o) s:=by
 obtain ⟨oa,ea,_,_,hv⟩:=id x;have ne:∀ b u,H b=some u→b≠a:=fun b u e z=>by rw [z,n] at e; cases e
 have un:∀ b,b≠a→(upd H a o) b=H b:=fun b hb=>Zo hb
 have isr:∀ b o',s.heap.get? b=some o'→(∀ vs,o'.data≠.fields vs)→b≠a:=fun b o' e nf z=>by
  rw [z,ea] at e; cases e; exact nf vs hv
 refine ⟨I.ok,I.os,I.bare,⟨I.base.keep,I.base.slot,fun b u e q hx=>?_,I.base.there,fun b xs e=>?_,fun b w' u e=>?_,fun b ps e=>?_⟩,I.loc,I.cell,?_,fun y c e=>?_,fun p hp=>?_,fun b u e=>?_,I.len⟩
 · rw [un b fun z=>by rw [z,n0] at e; cases e]; exact I.base.free b u e q hx
 · have q:=I.base.tups b xs e; rw [un b (ne b _ q)]; exact q
 · have q:=I.base.frzs b w' u e; rw [un b (ne b _ q)]; exact q
 · obtain ⟨m,q⟩:=I.base.tbls b ps e; exact ⟨m,by rw [un b (ne b _ q)]; exact q⟩
 · obtain ⟨m,⟨ol,es,ep,ho,hd,_⟩,_⟩:=I.loc;rw [un _ (isr _ ol ho fun vs z=>by rw [hd] at z; cases z)]; exact I.free
 · obtain ⟨v,oc,ho,hd⟩:=I.cell y c e;rw [un _ (isr _ oc ho fun vs z=>by rw [hd] at z; cases z)]; exact I.freeC y c e
 · obtain ⟨e,q,r⟩:=I.pin p hp;exact ⟨e,by rw [un _ (np p hp)]; exact q,r⟩
 · by_cases hb:b=a
   · subst hb;rw [Zc] at e; cases e; exact new
   · rw [un b hb] at e;refine (I.hok b u e).stay (fun c v _ q=>q) (fun c q=>?_) fun c xs q=>?_
     · rw [un c (ne c _ q)]; exact q
     · rw [un c (ne c _ q)]; exact q
def Zj7 (N:List Str):St:=List.replicate N.length none
theorem Inv.gone {h':Heap} {m':Str→Option Value} (I:Inv X pins σ H s) (hn:h'.Ns X.env.locals m') (hs:Heap.SameBut X.env.locals s.heap h') (tk:Nat):Inv X pins (Zj7 X.N) H { s with heap:=h',toks:=tk }:=by
 have ne:∀ b o,X.s₀.heap.get? b=some o→b≠X.env.locals:=fun b o e=>n36_ (n9_ (n13_ e) I.ok.above);have ce:∀ x c,X.env.cells.lookup x=some c→∀ v,s.heap.IsCell c v→h'.IsCell c v:=fun x c e v z=>z.sameBut hs (I.cne x c e);refine ⟨I.ok,I.os,I.bare,⟨fun b o e n hb hx=>(hs.2 b (ne b o e)).trans (I.base.keep b o e n hb hx),fun b o e n hb hx=>?_,I.base.free,fun b o e hx=>?_,I.base.tups,I.base.frzs,I.base.tbls⟩,⟨m',hn,fun i x v _ e2 _=>?_⟩,fun x c e=>?_,I.free,I.freeC,fun p hp=>?_,fun b u e=>?_,by simp [Zj7]⟩
 · obtain ⟨sl,e1⟩:=I.base.slot b o e n hb hx;exact ⟨sl,(hs.2 b (ne b o e)).trans e1⟩
 · obtain ⟨o',e1⟩:=I.base.there b o e hx;exact ⟨o',(hs.2 b (ne b o e)).trans e1⟩
 · unfold Zj7 at e2;rw [List.getElem?_replicate] at e2;split at e2 <;> cases e2
 · obtain ⟨v,z⟩:=I.cell x c e;exact ⟨v,ce x c e v z⟩
 · obtain ⟨e,n,nl,r⟩:=I.pin p hp;exact ⟨(hs.2 p.1 nl).trans e,n,nl,r⟩
 · refine (I.hok b u e).stay (fun c v hc q=>(hs.2 c fun z=>?_).trans q) (fun _ q=>q) fun _ _ q=>q
   have:=I.free
   rcases hc with r | r
   · rw [← z,r,e] at this; cases this
   · rw [← z,r] at this; cases this
def excA (ea C:Addr):HO:=.ext fun h=>∃ vs,FO h ea (.ref C) none vs
theorem Zo8 {P:Program} {w:World} {h:Heap} {ea C:Addr} {vs:Array Value} (x:FO h ea (.ref C) none vs):ObjOk P w H h ea (excA ea C) :=
 ⟨⟨vs,x⟩,let ⟨o,e,_⟩:=x; ⟨o,e⟩,fun _ _ ⟨v,y⟩ k=>⟨v,y.keep k⟩⟩
abbrev Cx.hdl (X:Cx) (ea:Addr):Cx:={ X with A:=X.A.mark (some (.ref ea)),calm:=false,xe:=fun _ _=>False }
theorem Inv.hdl (I:Inv X pins σ H s) (ea:Addr):Inv (X.hdl ea) pins σ H s :=
 let ok:=I.ok
 ⟨⟨ok.mod,ok.kind,ok.glob,ok.blt,ok.above,ok.inj,ok.has,ok.cab,fun z=>(nomatch z),ok.frames,ok.stk,ok.exf,ok.bs,ok.bsz,ok.noex,ok.exfs,ok.funs,ok.frf⟩,I.os,I.bare,I.base,I.loc,I.cell,I.free,I.freeC,I.pin,I.hok,I.len⟩
theorem Inv.unhdl {ea:Addr} (ok:X.Ok) (I:Inv (X.hdl ea) pins σ H s):Inv X pins σ H s:=⟨ok,I.os,I.bare,I.base,I.loc,I.cell,I.free,I.freeC,I.pin,I.hok,I.len⟩
def xeT (X:Cx) (pins:List (Addr×Obj)) (E:XK):Value→Shared→Prop:=fun e s'=>∃ ea T C H' σ',e=.ref ea∧Inv X pins σ' H' s'∧Fly s'.heap X.s₀.heap ea T (.ref C)∧H' ea=none∧H' T=none∧(∀ p∈X.pn++pins,p.1≠ea∧p.1≠T)∧E (.ref C) none H'
abbrev Cx.tryB (X:Cx) (pins:List (Addr×Obj)) (E:XK):Cx:={ X with pn:=X.pn++pins,xe:=xeT X pins E }
theorem Inv.tryB (I:Inv X pins σ H s) (E:XK):Inv (X.tryB pins E) [] σ H s :=
 let ok:=I.ok
 ⟨⟨ok.mod,ok.kind,ok.glob,ok.blt,ok.above,ok.inj,ok.has,ok.cab,ok.hd,ok.frames,ok.stk,ok.exf,ok.bs,ok.bsz,ok.noex,ok.exfs,ok.funs,ok.frf⟩,I.os,I.bare,I.base,I.loc,I.cell,I.free,I.freeC,fun p hp=>I.pin p (by simpa using hp),I.hok,I.len⟩
theorem Inv.untry {E:XK} {pins':List (Addr×Obj)} (I:Inv (X.tryB pins E) pins' σ H s):Inv X pins σ H s :=
 let ok:=I.ok
 ⟨⟨ok.mod,ok.kind,ok.glob,ok.blt,ok.above,ok.inj,ok.has,ok.cab,ok.hd,ok.frames,ok.stk,ok.exf,ok.bs,ok.bsz,ok.noex,ok.exfs,ok.funs,ok.frf⟩,I.os,I.bare,I.base,I.loc,I.cell,I.free,I.freeC,fun p hp=>I.pin p (List.mem_append_left _ hp),I.hok,I.len⟩
theorem Zpe {E:XK} (hx:X.ex=[]):Zdq (CX1 X.prog X.w) (X.tryB pins E) E:=by
 rintro pins' σ H s e s' I ⟨ea,T,C,H',rfl,os,bare,un,hok,fly,n1,n2,hE⟩
 have I1:=I.call' (ch:=[]) os un hok bare (fun b z=>absurd z (by simp));refine ⟨ea,T,C,H',σ,rfl,I1.untry,fly.lo fun b z=>I.untry.newX z (by rw [hx]; simp),n1,n2,fun p hp=>?_,hE⟩;have q:=(I.untry.pin p hp).1;exact ⟨fun z=>(by rw [z,fly.1] at q; cases q),fun z=>(by rw [z,fly.2.1] at q; cases q)⟩
theorem SP.untry {E:XK} {D:Ends} {f:Flow} (h:SP (X.tryB pins E) [] D f s):SP X pins D f s:=by
 cases f with
 | next=>obtain ⟨σ',H',I,q⟩:=h; exact ⟨σ',H',I.untry,q⟩
 | brk=>obtain ⟨σ',H',I,q⟩:=h; exact ⟨σ',H',I.untry,q⟩
 | cont=>obtain ⟨σ',H',I,q⟩:=h; exact ⟨σ',H',I.untry,q⟩
 | ret u=>obtain ⟨v,σ',H',I,r,q⟩:=h; exact ⟨v,σ',H',I.untry,r,q⟩
def offE (N:List Str) (D:Ends):Ends:={ nx:=fun _ H'=>D.nx (Zj7 N) H',rt:=D.rt,bk:=fun _ H'=>D.bk (Zj7 N) H',ct:=fun _ H'=>D.ct (Zj7 N) H' }
def hE (K:PySem.W.Frag) (PE:Addr) (N:List Str) (i:Nat) (th:TS) (D:Ends):XK:=fun c _ H1=>∃ C,c=.ref C∧PySem.W.exmOne K (.ref C) (.ref PE)=some true∧∀ (σ:St) (ea:Addr),σ.length=N.length→H1 ea=none→th (offE N D) (σ.set i (some (.ref ea))) (upd H1 ea (excA ea C))
def tTry (K:PySem.W.Frag) (PE:Addr) (N:List Str) (i:Nat) (tb:XK→TS) (th:TS):TS:=fun D σ H=>tb (hE K PE N i th D) D σ H
theorem Zo5 {D:Ends} {f:Flow} {ea:Addr} {n:Str} {pos:Pos} {E:Value→Shared→Prop} (ok:X.Ok) (hl:X.env.kindOf n=some .local) (h:SP (X.hdl ea) pins (offE X.N D) f s) :
 wpAny (model X.prog X.w) X.A (do bindName X.env n .none; unbindBehindTheSuite X.env n pos) (fun _ s'=>SP X pins D f s') E s:=by
 have hp:(X.env.scope.kind == .class || (X.env.scope.kind == .module && X.env.locals != X.env.globals))=false:=by rw [ok.kind]; rfl
 cases f with
 | next=>obtain ⟨σ',H',I,q⟩:=h; obtain ⟨m,hn,_⟩:=id I.loc; exact wpAny_nameGoes hl hn hp fun h' m' n' sb=>⟨_,H',(I.unhdl ok).gone n' sb _,q⟩
 | brk=>obtain ⟨σ',H',I,q⟩:=h; obtain ⟨m,hn,_⟩:=id I.loc; exact wpAny_nameGoes hl hn hp fun h' m' n' sb=>⟨_,H',(I.unhdl ok).gone n' sb _,q⟩
 | cont=>obtain ⟨σ',H',I,q⟩:=h; obtain ⟨m,hn,_⟩:=id I.loc; exact wpAny_nameGoes hl hn hp fun h' m' n' sb=>⟨_,H',(I.unhdl ok).gone n' sb _,q⟩
 | ret u=>obtain ⟨v,σ',H',I,r,q⟩:=h; obtain ⟨m,hn,_⟩:=id I.loc; exact wpAny_nameGoes hl hn hp fun h' m' n' sb=>⟨v,_,H',(I.unhdl ok).gone n' sb _,r,q⟩
theorem Zqt {body suite:List Stmt} {b₀:Stmt} {x n:Str} {i:Nat} {np hpos pos:Pos} {PE:Addr} {tb:XK→TS} {th:TS} (hst:X.stack=X.env :: X.outer) (hfr:X.env.frame=some X.env.locals)
 (hb:∀ pins E,PSs (X.tryB pins E) body (tb E)) (hh:∀ ea,PSs (X.hdl ea) (b₀ :: suite) th) (hg:Gl X x) (hm:X.mg x=some (.ref PE))
 (hN:X.N.Nodup) (hi:X.N[i]? = some n) (hl:X.env.kindOf n=some .local) (hd:(x == ("__debug__" : Str))=false:=by decide) :
 PS X (.Try body [.ExceptHandler (some (.Name x np)) (some n) (b₀ :: suite) hpos] [] [] pos) (tTry X.K PE X.N i tb th):=by
 intro pins s σ H D I h;refine wpAny_Try_except (n67_ (hb pins _ [] s σ H D (I.tryB _) h) (fun f s1 q=>?_) fun e s1 q=>?_)
 · have q':=SP.untry q;cases f with
   | next=>exact wpAny_execs_nil q'
   | brk=>exact q'
   | cont=>exact q'
   | ret u=>exact q'
 · obtain ⟨ea,T,C,H1,σ1,rfl,I1,fly,n1,n2,np1,hw⟩:=q;obtain ⟨C',eC,hx,k⟩:=hw;cases eC
   obtain ⟨vsE,xE,_⟩:=fly.2.2.2.1;refine Zko (G:=X.s₀.heap) (I1.ok.frames.trans (congrArg some hst)) (hst ▸ I1.stack) hfr fly (I1.new0 (n5_ _)) fun h2 lf fly2=>?_
   have I2:Inv X pins σ1 H1 { s1 with heap:=h2 }:=I1.left (hst ▸ lf) s1.toks fun b hb=>by
    rcases hb with rfl | rfl
    · exact ⟨n1,fly.1,fun p hp=>(np1 p hp).1,_,_,_,xE⟩
    · obtain ⟨cT,dT,ts,y,_⟩:=fly.2.2.2.2;exact ⟨n2,fly.2.1,fun p hp=>(np1 p hp).2,_,_,_,y⟩
   have nT:H1 s1.heap.objs.size=none:=I1.hok.fresh (n5_ _)
   have npT:∀ p∈X.pn++pins,p.1≠s1.heap.objs.size:=fun p hp z=>by
    have q:=(I1.pin p hp).1;exact absurd (n13_ q) (by rw [z]; exact n70_ _)
   obtain ⟨g1,g2,g3,⟨vs2,x2,v2⟩,cT,dT,ts,y2,t3⟩:=id fly2;refine wpAny_handleBy_cons (codeAny_handlers_test ((Zc7 (X:=X.hdl ea) (I2.hdl ea) hg hm ?_ hd))) (by intro q; cases q)
   have LT:PySem.W.Looks (model X.prog X.w) h2 (typeOf (.ref ea)) (.ref C):=by
    obtain ⟨o,e1,e2,_⟩:=x2;exact e2 ▸ (PySem.W.Looks.ld e1).andThen .now
   refine (PySem.W.exm_one I2.kIn LT hx).here ?_;show codeAny _ _ _ _ _
   refine codeAny_handlers_suite_as ?_;obtain ⟨oE,aE,_,_,wE⟩:=id x2;obtain ⟨oT,aT,_,_,wT⟩:=id y2;refine wpAny_setFlight_none aE wE v2 aT wT (Array.getElem?_eq_some_iff.mp t3).1 ?_
   have I3:Inv X pins σ1 H1 { s1 with heap:=h2.update s1.heap.objs.size (Obj.mapFields (·.setIfInBounds 3 .none)) } :=
    I2.left (S:=(· = s1.heap.objs.size)) ⟨fun b o n _ e=>Zds n e,fun b o hb e=>⟨o.slots,Zds (fun z=>y2.ne_frame I2.stack (z ▸ hb)) e⟩⟩ s1.toks fun b hb=>by
     subst hb;exact ⟨nT,g2,npT,_,_,_,y2⟩
   have x3:FO (h2.update s1.heap.objs.size (Obj.mapFields (·.setIfInBounds 3 .none))) ea (.ref C) none vs2:=x2.keep fun o e=>Zds (Ne.symm g3) e;have I4:=(I3.track (C:=C) (o:=excA ea C) x3 n1 g1 (fun p hp=>(np1 p hp).1) (Zo8 x3)).hdl ea;refine Za2 (X:=X.hdl ea) (v:=.ref ea) I4 hN hi (Or.inl hl) rfl (fun s5 I5=>?_) (.inr hl);refine n67_ (hh ea pins s5 _ _ (offE X.N D) I5 (k σ1 ea I1.len n1)) (fun f s6 q6=>?_) fun _ _ z=>z.elim;exact Zo5 I.ok hl q6
end
end L2
namespace L2
open PySem PySem.Spec PyProof.Rows
def fzO (o:Obj):HO:=.frz o (.own 0)
theorem Zm8 {P:Program} {w:World} {H:Hp} {h:Heap} {a:Addr} {o:Obj} (e:h.get? a=some o):ObjOk P w H h a (fzO o):=⟨e,o,e⟩
def Zci (H:Hp) (c:Addr) (v:V):Prop:=∃ (o:Obj) (u:Value),H c=some (fzO o)∧o.data=.cell (some u)∧RelV v u
def del (H:Hp) (c:Addr):Hp:=fun a=>if a=c then none else H a
theorem Yt {H:Hp} {c a:Addr} (h:a≠c):del H c a=H a:=if_neg h
theorem Zb5 {H:Hp} {c:Addr}:del H c c=none:=if_pos rfl
section
variable {X:Cx} {pins:List (Addr×Obj)} {σ:St} {H:Hp} {s:Shared}
abbrev Cx.fix (X:Cx) (x:Str):Cx:={ X with fn:=fun y=>X.fn y && y != x }
theorem Cx.Ok.fix (ok:X.Ok) (x:Str):(X.fix x).Ok :=
 ⟨ok.mod,ok.kind,ok.glob,ok.blt,ok.above,ok.inj,ok.has,fun y c h e=>ok.cab y c (Bool.and_eq_true_iff.mp h).1 e,ok.hd,ok.frames,ok.stk,ok.exf,ok.bs,ok.bsz,ok.noex,ok.exfs,ok.funs,ok.frf⟩
def tFix (i:Nat) (c:Addr) (t:TE):TE:=fun σ H Q=>∃ v,σ[i]? = some (some v)∧∀ o u,o.data=.cell (some u)→RelV v u→H c=none→t σ (upd H c (fzO o)) fun w H'=>Q w (del H' c)
theorem Inv.fixOn {i:Nat} {x:Str} {c:Addr} {v:V} (I:Inv X pins σ H s) (hN:X.N[i]? = some x) (hk:X.env.scope.names.lookup x=some .cell) (hc:X.env.cells.lookup x=some c) (hf:X.fn x=true) (hv:σ[i]? = some (some v)) :
 H c=none∧(∀ o u,X.H₀ c≠some (.frz o u))∧∃ o u,o.data=.cell (some u)∧RelV v u∧Inv (X.fix x) pins σ (upd H c (fzO o)) s:=by
 obtain ⟨m,hn,hl⟩:=id I.loc;obtain ⟨u,ru,lk⟩:=hl i x v hN hv (.inr (.inl hk));have hH:H c=none:=(I.freeC x c hc).elim id fun z=>by rw [hf] at z; cases z.1
 obtain ⟨o,ho,hd⟩:s.heap.IsCell c (some u):=by
  rcases lk with ⟨k,_⟩ | ⟨_,c',e,z⟩
  · rw [show X.env.kindOf x=some .cell from hk] at k; cases k
  · rw [hc] at e; cases e; exact z
 have hcs:X.s₀.heap.objs.size≤c:=I.ok.cab x c hf hc;have un:∀ b,b≠c→(upd H c (fzO o)) b=H b:=fun b hb=>Zo hb;have ne:∀ b q,H b=some q→b≠c:=fun b q e z=>by rw [z,hH] at e; cases e
 refine ⟨hH,fun o' u' z=>(by have:=I.base.frzs c o' u' z; rw [hH] at this; cases this),o,u,hd,ru,?_⟩;refine ⟨I.ok.fix x,I.os,I.bare,⟨I.base.keep,I.base.slot,fun b q e n hx=>?_,I.base.there,fun b xs e=>?_,fun b w' q e=>?_,fun b ps e=>?_⟩,I.loc,I.cell,?_,fun y c' e=>?_,fun p hp=>?_,fun b q e=>?_,I.len⟩
 · rw [un b fun z=>absurd (n13_ e) (Nat.not_lt.mpr (by rw [z]; exact hcs))]; exact I.base.free b q e n hx
 · have q:=I.base.tups b xs e; rw [un b (ne b _ q)]; exact q
 · have q':=I.base.frzs b w' q e; rw [un b (ne b _ q')]; exact q'
 · obtain ⟨m,q⟩:=I.base.tbls b ps e; exact ⟨m,by rw [un b (ne b _ q)]; exact q⟩
 · rw [un _ (Ne.symm (I.cne x c hc))]; exact I.free
 · by_cases hcc:c'=c
   · have hy:y=x:=I.ok.inj y x c (hcc ▸ e) hc;exact .inr ⟨by show (X.fn y && y != x)=false; rw [hy]; simp,o,_,by rw [hcc,Zc]; rfl⟩
   · rw [un c' hcc];exact (I.freeC y c' e).imp id fun ⟨z,q⟩=>⟨by show (X.fn y && y != x)=false; rw [z]; rfl,q⟩
 · obtain ⟨e,n,r1,r2,d⟩:=I.pin p hp
   have nc:p.1≠c:=fun z=>by
    rw [z,ho] at e;exact d (some u) (by rw [← Option.some.inj e]; exact hd)
   exact ⟨e,(un _ nc).trans n,r1,r2,d⟩
 · by_cases hb:b=c
   · subst hb;rw [Zc] at e; cases e; exact Zm8 ho
   · rw [un b hb] at e;refine (I.hok b q e).stay (fun _ _ _ z=>z) (fun d z=>?_) fun d xs z=>?_
     · rw [un d (ne d _ z)]; exact z
     · rw [un d (ne d _ z)]; exact z
theorem Inv.fixOff {x:Str} {c:Addr} (ok:X.Ok) (hc:X.env.cells.lookup x=some c) (n0:∀ o u,X.H₀ c≠some (.frz o u)) (I2:Inv (X.fix x) pins σ H s):Inv X pins σ (del H c) s:=by
 have kind:H c=none∨∃ o u,H c=some (.frz o u):=(I2.freeC x c hc).imp id fun z=>z.2
 have nt:∀ b q,H b=some q→(∀ o u,q≠.frz o u)→b≠c:=fun b q e n z=>by
  rw [z] at e
  rcases kind with k | ⟨o,u,k⟩
  · rw [k] at e; cases e
  · rw [k] at e; cases e; exact n _ _ rfl
 refine ⟨ok,I2.os,I2.bare,⟨I2.base.keep,I2.base.slot,fun b q e n hx=>?_,I2.base.there,fun b xs e=>?_,fun b w' q e=>?_,fun b ps e=>?_⟩,I2.loc,I2.cell,?_,fun y c' e=>?_,fun p hp=>?_,fun b q e=>?_,I2.len⟩
 · by_cases hb:b=c
   · rw [hb]; exact Zb5
   · rw [Yt hb]; exact I2.base.free b q e n hx
 · have q:=I2.base.tups b xs e; rw [Yt (nt b _ q (by intro _ _ z; cases z))]; exact q
 · have q':=I2.base.frzs b w' q e;have nb:b≠c:=fun z=>n0 w' q (by rw [← z]; exact e);rw [Yt nb]; exact q'
 · obtain ⟨m,q⟩:=I2.base.tbls b ps e; exact ⟨m,by rw [Yt (nt b _ q (by intro _ _ z; cases z))]; exact q⟩
 · by_cases hb:X.env.locals=c
   · rw [hb]; exact Zb5
   · rw [Yt hb]; exact I2.free
 · by_cases hcc:c'=c
   · rw [hcc]; exact .inl Zb5
   · rw [Yt hcc];refine (I2.freeC y c' e).imp id fun ⟨z,q⟩=>⟨?_,q⟩;have hy:y≠x:=fun w=>hcc (Option.some.inj ((w ▸ e).symm.trans hc));have z':(X.fn y && y != x)=false:=z;rw [Bool.and_eq_false_iff] at z';exact z'.elim id fun t=>absurd (bne_eq_false_iff_eq.mp t) hy
 · obtain ⟨e,n,r⟩:=I2.pin p hp;refine ⟨e,?_,r⟩
   by_cases hb:p.1=c
   · rw [hb]; exact Zb5
   · rw [Yt hb]; exact n
 · have hb:b≠c:=fun z=>by rw [z,Zb5] at e; cases e
   rw [Yt hb] at e;refine (I2.hok b q e).stay (fun _ _ _ z=>z) (fun d z=>?_) fun d xs z=>?_
   · rw [Yt (nt d _ z (by intro _ _ t; cases t))]; exact z
   · rw [Yt (nt d _ z (by intro _ _ t; cases t))]; exact z
theorem Zg0 {i:Nat} {x:Str} {c:Addr} {e:Expr} {t:TE} (hN:X.N[i]? = some x) (hk:X.env.scope.names.lookup x=some .cell) (hc:X.env.cells.lookup x=some c) (hf:X.fn x=true) (he:PE (X.fix x) e t):PE X e (tFix i c t):=by
 intro pins s σ H Q I h;obtain ⟨v,hv,h⟩:=h;obtain ⟨hH,n0,o,u,hd,ru,I1⟩:=I.fixOn hN hk hc hf hv;refine n67_ (he pins s σ _ _ I1 (h o u hd ru hH)) (fun r s' q=>?_) fun _ _ z=>z;obtain ⟨w',H',I2,rw',q⟩:=q;exact ⟨w',del H' c,I2.fixOff I.ok hc n0,rw',q⟩
def CodeF (H:Hp) (c:Addr) (q:Str):Prop:=∃ (o:Obj) (vs:Array Value) (t:Tok),H c=some (fzO o)∧o.data=.fields vs∧vs[1]? = some (.str q t)
def TabF (H:Hp) (P:Addr) (q:Str):Prop:=∃ ps:Array Value,H P=some (.tbl ps)∧TriplesOk ps.toList∧∀ pos cv,codeAmong pos ps.toList=some cv→∃ c,cv=.ref c∧CodeF H c q
def BltK (K:PySem.W.Frag) (mg:Str→Option Value):Prop:=∃ (bm:Addr) (o:Obj),mg "__builtins__" = some (.ref bm)∧bm≠builtinsNs∧bm≠mainGlobals∧K.lookup bm=some o∧o.cls=.type "module" ∧ o.dict=some builtinsNs∧o.data=.plain
def LamF (H:Hp) (a:Addr) (q:Str) (params:Arguments) (body:Expr) (scope:Scope) (clos:List (Str×Addr)) (pm:Value):Prop :=
 ∃ (c:Addr) (ct:Value),H a=some (fzO { cls:=.type "function",data:=.func (PySem.W.kla_fn "<lambda>" q params body scope clos pm (.ref c) ct) })∧CodeF H c q
def Xk (P:Addr) (H H':Hp):Prop:=∀ b o,b≠P→H b=some o→H' b=some o
theorem CodeF.keep {P c:Addr} {H':Hp} {q:Str} (x:CodeF H c q) (k:Xk P H H') (n:c≠P):CodeF H' c q:=let ⟨o,vs,t,e,r⟩:=x; ⟨o,vs,t,k _ _ n e,r⟩
theorem CodeF.neP {P c:Addr} {q:Str} {ps:Array Value} (x:CodeF H c q) (e:H P=some (.tbl ps)):c≠P:=fun z=>by
 obtain ⟨o,vs,t,e',_⟩:=x;rw [z,e] at e'; cases e'
theorem Zeh {p:Pos} {a b:Int} {c v:Value}:∀ l:List Value,TriplesOk l→codeAmong p (l++[rawInt a,rawInt b,c])=some v→codeAmong p l=some v∨v=c
 | [],_,h=>by
   right
   simp only [List.nil_append,rawInt,codeAmong] at h;split at h
   · exact (Option.some.inj h).symm
   · cases h
 | .int x t :: .int y u :: z :: r,ht,h=>by
   simp only [List.cons_append,codeAmong] at h ⊢;split at h
   · rename_i q; left; rw [if_pos q]; exact h
   · rename_i q; rw [if_neg q]; exact Zeh r ht h
def tLam (mg:Str→Option Value) (P:Addr) (q:Str) (params:Arguments) (body:Expr) (scope:Scope) (clos:List (Str×Addr)):TE:=fun _ H Q=>TabF H P q∧∀ a H',Xk P H H'→TabF H' P q→H a=none→a≠P→LamF H' a q params body scope clos ((mg "__name__").getD .none)→Q (.ref a) H'
theorem Zjj {params:Arguments} {body:Expr} {scope:Scope} {pos:Pos} {clos:List (Str×Addr)} {cc P:Addr} {q:Str} (hdef:defaultsOf params X.env=([],[])) (hcl:closureFor scope X.env=pure clos) (hcode:X.env.code=.ref cc)
 (hq:X.env.qual ++ "<lambda>" = q) (CK:∀ h,X.K.In h→PySem.W.CodeHd h cc P) (BK:BltK X.K X.mg):PE X (.Lambda params body scope pos) (tLam X.mg P q params body scope clos):=by
 intro pins s σ H Q I h;obtain ⟨⟨ps,hP,ht,hcs⟩,k⟩:=h;have tab:s.heap.get? P=some (PySem.W.tabObj ps):=I.hok P _ hP;have g:s.heap.Ns mainGlobals X.mg:=I.mod.glob.keeps I.bk
 have nB:∀ b o,X.base.get? b=some o→b≠P:=fun b o e z=>by
  have:=(I.bs b o e).2
  rw [z,hP] at this; cases this
 have gP:mainGlobals≠P:=by
  obtain ⟨o,_,_,e,_⟩:=I.mod.glob;exact nB _ o e
 have bat:s.heap.BuiltinsAt X.mg P:=by
  obtain ⟨bm,o,h1,h2,h3,h4,h5⟩:=BK;exact ⟨bm,o,h1,h2,h3,nB _ o (I.mod.kin _ _ h4),I.kIn _ _ h4,h5⟩
 refine PySem.W.kla_eval hdef ?_;rw [hq];cases hc:codeAmong pos ps.toList with
 | some cv =>
   obtain ⟨c,rfl,cf⟩:=hcs pos cv hc;refine PySem.W.kla_makeFunctionHit (mg:=X.mg) hcl I.ok.glob g hcode (CK _ I.kIn) tab ht hc bat fun ctv h' tk kp sz=>?_;have na:H h'.objs.size=none:=I.hok.fresh sz;have un:∀ b o,H b=some o→b≠h'.objs.size:=fun b o e z=>by rw [z,na] at e; cases e
   refine ⟨.ref h'.objs.size,upd H h'.objs.size (fzO _),I.laid (t':=tk) (fun b u e=>n2_ _ (kp b u e)) sz (Zm8 (n11_ h' rfl)),rfl,?_⟩;have kk:Xk P H (upd H h'.objs.size (fzO { cls:=.type "function",data:=.func (PySem.W.kla_fn "<lambda>" q params body scope clos ((X.mg "__name__").getD .none) (.ref c) ctv) })):=fun b o _ e=>by rw [Zo (un b o e)]; exact e
   have cf':∀ {d:Addr},CodeF H d q→CodeF (upd H h'.objs.size (fzO { cls:=.type "function",data:=.func (PySem.W.kla_fn "<lambda>" q params body scope clos ((X.mg "__name__").getD .none) (.ref c) ctv) })) d q:=fun x=>x.keep kk (x.neP hP);refine k _ _ kk ⟨ps,by rw [Zo (un _ _ hP)]; exact hP,ht,fun p v e=>?_⟩ na (fun z=>un _ _ hP z.symm) ⟨c,ctv,Zc,cf' cf⟩;obtain ⟨d,e1,e2⟩:=hcs p v e;exact ⟨d,e1,cf' e2⟩
 | none =>
   refine PySem.W.kla_makeFunction (mg:=X.mg) hcl I.ok.glob g hcode (CK _ I.kIn) tab ht hc gP bat fun c ctv h' tk ext hge hlt hrec htab=>?_;obtain ⟨c0,oc,vs,tq,ec,hoc,hdc,hqc⟩:=hrec;cases ec
   generalize hfo:({ cls:=.type "function",data:=.func (PySem.W.kla_fn "<lambda>" q params body scope clos ((X.mg "__name__").getD .none) (.ref c) ctv) }:Obj)=fo;have ff:fo.isFreed=false:=by rw [← hfo]; rfl
   have nc:H c=none:=I.hok.fresh hge;have sz:s.heap.objs.size≤h'.objs.size:=n24_ hge (Nat.le_of_lt hlt);have na:H h'.objs.size=none:=I.hok.fresh sz;have cP:c≠P:=fun z=>by rw [z,hP] at nc; cases nc
   have aP:h'.objs.size≠P:=fun z=>by rw [z,hP] at na; cases na
   have ac:h'.objs.size≠c:=Nat.ne_of_gt hlt;have kp:∀ b o,b≠P→s.heap.get? b=some o→(h'.push fo).get? b=some o:=fun b o n e=>n2_ _ (ext b o n e);have nP:∀ b,H b=none→b≠P:=fun b n z=>by rw [z,hP] at n; cases n
   generalize hps:ps++#[rawInt pos.line,rawInt pos.col,.ref c]=ps' at htab;generalize hH':upd (upd (upd H P (.tbl ps')) c (fzO oc)) h'.objs.size (fzO fo)=H';have atP:H' P=some (.tbl ps'):=by rw [← hH',Zo (Ne.symm aP),Zo (Ne.symm cP)]; exact Zc
   have atc:H' c=some (fzO oc):=by rw [← hH',Zo (Ne.symm ac)]; exact Zc
   have ata:H' h'.objs.size=some (fzO fo):=by rw [← hH']; exact Zc
   have oth:∀ b,b≠P→b≠c→b≠h'.objs.size→H' b=H b:=fun b h1 h2 h3=>by rw [← hH',Zo h3,Zo h2,Zo h1]
   have tr:∀ b o,b≠P→H b=some o→H' b=some o:=fun b o n e=>by
    rw [oth b n (fun z=>by rw [z,nc] at e; cases e) (fun z=>by rw [z,na] at e; cases e)]; exact e
   have I1:Inv X pins σ H' { s with heap:=h'.push fo,toks:=tk }:=by
    refine I.step (g':=s.gens) (d':=s.drawn) (ch:=[]) (fun _ z=>nomatch z) (fun b o _ _ _ e n=>kp b o (nP b n) e) (fun b o _ _ _ e n=>⟨o.slots,kp b o (nP b n) e⟩) (fun b o _ e n=>?_) (fun b o _ e=>?_) (fun b xs e=>tr b _ ?_ e) (fun b o u e=>tr b _ ?_ e)
     (fun b qs e=>?_) (fun m hm=>?_) (fun b u e=>?_) I.bare
    · have lb:=n13_ e;rw [oth b (nP b n) (n36_ (n9_ lb hge)) (n36_ (n9_ lb sz))]; exact n
    · by_cases hb:b=P
      · exact ⟨_,hb ▸ n2_ _ htab⟩
      · exact ⟨o,kp b o hb e⟩
    · intro z; rw [z,hP] at e; cases e
    · intro z; rw [z,hP] at e; cases e
    · by_cases hb:b=P
      · subst hb; rw [hP] at e; cases e;exact ⟨_,by rw [hps]; exact atP⟩
      · exact ⟨#[],by rw [Array.append_empty]; exact tr b _ hb e⟩
    · obtain ⟨o,es,ep,ho,r⟩:=hm;exact ⟨o,es,ep,kp _ o (nP _ I.free) ho,r⟩
    · by_cases h1:b=P
      · subst h1; rw [atP] at e; cases e;exact n2_ _ htab
      · by_cases h2:b=c
        · subst h2; rw [atc] at e; cases e;exact Zm8 (n2_ _ hoc)
        · by_cases h3:b=h'.objs.size
          · subst h3; rw [ata] at e; cases e;exact Zm8 (n11_ h' ff)
          · rw [oth b h1 h2 h3] at e;refine (I.hok b u e).stay (fun d v hd z=>kp d v ?_ z) (fun d z=>tr d _ ?_ z) fun d xs z=>tr d _ ?_ z
            · rcases hd with r | r
              · rw [r]; exact h1
              · intro z'; rw [z',hP] at r; cases r
            · intro z'; rw [z',hP] at z; cases z
            · intro z'; rw [z',hP] at z; cases z
   have cfc:CodeF H' c q:=⟨oc,vs,tq,atc,hdc,hqc⟩;subst hfo;refine ⟨.ref h'.objs.size,H',I1,rfl,k _ _ tr ⟨ps',atP,?_,fun p v e=>?_⟩ na aP ⟨c,ctv,ata,cfc⟩⟩
   · rw [← hps,Array.toList_append];exact TriplesOk_snoc _ _ _ _ ht
   · rw [← hps,Array.toList_append] at e
     rcases Zeh ps.toList ht e with e' | e'
     · obtain ⟨d,e1,e2⟩:=hcs p v e';exact ⟨d,e1,e2.keep tr (e2.neP hP)⟩
     · exact ⟨c,e',cfc⟩
end
end L2
namespace L2
open PySem PySem.Spec PyProof.Rows
section
variable {P:Program} {w:World} {K:PySem.W.Frag} {mg:Str→Option Value} {base:Heap}
def Zjx (P:Program) (w:World) (K:PySem.W.Frag) (mg:Str→Option Value) (base:Heap) (k:Nat) (a:Addr) (sp:Hp→VK→XK→Prop):Prop :=
 ∀ (A:Around) (outer:List Env) (s:Shared) (H:Hp) (Q:VK) (E:XK),Room k A→Env0 P w K mg base A outer s H→sp H Q E→codeAny (model P w) A (.call (.ref a) ⟨[],[]⟩) (CR (CX1 P w) outer P w H s Q E) s
abbrev Zcn (scope:Scope) (L:Addr) (clos:List (Str×Addr)) (q:Str) (a:Addr) (cd:Value):Env:=newEnv scope L mainGlobals clos (q ++ ".<locals>.") (some a) cd none builtinsNs
def cxL (P:Program) (w:World) (K:PySem.W.Frag) (mg:Str→Option Value) (base:Heap) (N:List Str) (env:Env) (A:Around) (outer:List Env) (s:Shared) (H:Hp) (E:XK):Cx where
 prog:=P
 w:=w
 K:=K
 mg:=mg
 base:=base
 A:=A.deeper env
 N:=N
 s₀:=s
 H₀:=H
 env:=env
 outer:=outer
 stack:=env :: outer
 ex:=[]
 calm:=true
 fn:=fun _=>false
 pn:=[]
 xe:=fun e s'=>wpAny (model P w) (A.deeper env) (leaving env e) (fun _ s''=>CX1 P w outer H s E e s'') (fun e' s''=>CX1 P w outer H s E e' s'') s'
theorem Zqm {N:List Str} {scope:Scope} {L:Addr} {clos:List (Str×Addr)} {q:Str} {a:Addr} {cd:Value} {A:Around} {outer:List Env} {s:Shared} {H:Hp} {E:XK}:XeOk (cxL P w K mg base N (Zcn scope L clos q a cd) A outer s H E) E :=
 ⟨rfl,rfl,rfl,fun _ _ h=>n67_ h (fun _ _ z=>z) fun _ _ z=>z.elim⟩
theorem Zn6 {q:Str} {params:Arguments} {body:Expr} {scope:Scope} {clos:List (Str×Addr)} {pm:Value} {N:List Str} {k:Nat} {a:Addr} {sp:Hp→VK→XK→Prop} (hk:scope.kind=.function) (hco:scope.isCoroutine=false) (hgen:scope.isGenerator=false)
 (hnc:∀ x∈scope.names,x.2≠.cell) (hb:∀ cd ct,bindArgs (PySem.W.kla_fn "<lambda>" q params body scope clos pm cd ct) ⟨[],[]⟩=pure []) (inj:∀ x y c,clos.lookup x=some c→clos.lookup y=some c→x=y)
 (has:∀ x,scope.names.lookup x=some .free→∃ c,clos.lookup x=some c) (hfree:∀ (i:Nat) x,N[i]? = some x→scope.names.lookup x=some .free)
 (hf:∀ H Q E,sp H Q E→LamF H a q params body scope clos pm∧∀ x c,clos.lookup x=some c→∃ o v,H c=some (fzO o)∧o.data=.cell v)
 (h:∀ (A:Around) (outer:List Env) (s:Shared) (H:Hp) (Q:VK) (E:XK) (cd:Value),Room k (A.deeper (Zcn scope s.heap.objs.size clos q a cd))→sp H Q E →
   ∃ (σ:St) (t:TE),σ.length=N.length∧(∀ (i:Nat) x v,N[i]? = some x→σ[i]? = some (some v)→∃ c,clos.lookup x=some c∧Zci H c v)∧PE (cxL P w K mg base N (Zcn scope s.heap.objs.size clos q a cd) A outer s H E) body t∧t σ H Q) :
 Zjx P w K mg base (k+1) a sp:=by
 intro A outer s H Q E hr e0 hs;obtain ⟨⟨c,ct,hA,oc,vs,tq,hc,hdc,hqc⟩,hcl⟩:=hf H Q E hs;obtain ⟨σ,t,hσ,hloc,pe,ht⟩:=h A outer s H Q E (.ref c) (hr.deeper _) hs;have lim:s.heap.NoLimit:=e0.mod.nolimit.keeps fun b o e=>(e0.bs b o e).1;refine PySem.W.kla_callFunE hr.depth (e0.hok a _ hA).1 rfl hco hgen rfl ⟨c,oc,vs,tq,rfl,(e0.hok c _ hc).1,hdc,hqc⟩ ?_;rw [hb];refine n10_ (wpAny_newFunctionEnv hnc (fun x hx=>nomatch hx) (fun h1 hn sb=>?_) hk);have kp:∀ b o,s.heap.get? b=some o→h1.get? b=some o:=fun b o e=>(sb.2 b (n36_ (n13_ e))).trans (n2_ _ e)
 have cel:∀ {x:Str} {d:Addr},clos.lookup x=some d→∃ v,h1.IsCell d v:=fun {x d} e=>by
  obtain ⟨o,v,h1',h2⟩:=hcl x d e;exact ⟨v,o,kp _ _ (e0.hok d _ h1').1,h2⟩
 have nil:∀ b:Addr,b∉([]:List Addr):=fun b z=>by simp at z
 have I:Inv (cxL P w K mg base N (Zcn scope s.heap.objs.size clos q a (.ref c)) A outer s H E) [] σ H { s with heap:=h1,toks:=s.toks+([]:List (Str×Value)).length }:=by
  refine ⟨⟨e0.mod,hk,rfl,rfl,n5_ _,inj,fun x hx=>?_,fun x d z _=>(nomatch z),fun _=>hr.hd,Around.frames_deeper e0.frames,.inr ⟨rfl,rfl⟩,fun b z=>absurd z (nil b),e0.bs,e0.bsz,fun b _ _=>nil b,fun b z=>absurd z (nil b),e0.funs,e0.frf⟩,
   rfl,e0.bare,Un.kept kp,⟨_,hn,fun i x v e1 e2 _=>?_⟩,fun x d e=>cel e,e0.hok.fresh (n5_ _),fun x d e=>?_,fun p hp=>absurd (show p∈([]:List (Addr×Obj)) from hp) (by simp),e0.hok.kept kp,hσ⟩
  · rcases hx with z | z
    · exact absurd rfl (hnc _ (n28_ (show scope.names.lookup x=some .cell from z)))
    · exact has x z
  · obtain ⟨d,e3,o,u,e4,e5,r⟩:=hloc i x v e1 e2;exact ⟨u,r,.inr ⟨.inr (hfree i x e1),d,e3,o,kp _ _ (e0.hok d _ e4).1,e5⟩⟩
  · obtain ⟨o,v,e1,_⟩:=hcl x d e;exact .inr ⟨rfl,o,_,e1⟩
 refine ⟨lim.keeps kp,PySem.W.kla_codeExpr ?_⟩;refine n67_ (pe [] _ σ H _ I ht) (fun u s' hq=>?_) fun e s' hq=>hq;obtain ⟨v,H',J,r,q'⟩:=hq;exact ⟨v,H',J.os,J.bare,J.base,J.hok,r,q'⟩
end
section
variable {X:Cx}
theorem Znr {i k j:Nat} {x:Str} {E:XK} {p pos:Pos} (P:Program) (w:World) (K:PySem.W.Frag) (mg:Str→Option Value) (base:Heap) (hp:X.prog=P∧X.w=w∧X.K=K∧X.mg=mg∧X.base=base) (hN:X.N[i]? = some x) (hv:Vis X.env.scope x) (hx:Zdq (CX1 X.prog X.w) X E) (hr:Room j X.A) (hj:k≤j) (hd:(x == ("__debug__" : Str))=false:=by decide) (hcd:(x == ("__classdict__" : Str))=false:=by decide) :
 PE X (.Call (.Name x p) [] [] pos) (fun σ H Q=>∃ a sp o fd,σ[i]? = some (some (.ref a))∧H a=some (fzO o)∧o.data=.func fd∧Zjx P w K mg base k a sp∧sp H Q E):=by
 obtain ⟨rfl,rfl,rfl,rfl,rfl⟩:=hp;rintro pins s σ H Q I ⟨a,sp,o,fd,ha,hA,hf,L,hs⟩
 refine wpAny_Call_Name_kw (thn (Zol (pos:=p) hN hv hd hcd pins s σ H (fun v H1=>v=.ref a∧H1=H) I ⟨_,ha,rfl,rfl⟩) fun f s1 ⟨v,H1,I1,r,e1,e2⟩=>?_);subst e1 e2;obtain rfl:f=.ref a:=r;refine Calls.callWith_function (first:=[]) (PySem.evalArgs_none ⟨⟨(I1.hok a _ hA).1,hf⟩,?_⟩);refine wpAny_call (codeAny_mono (L X.A X.stack s1 H1 Q E (hr.mono hj) I1.env0 hs) fun r s' hq=>?_);cases r with
 | error e=>exact hx pins σ H1 s1 e s' I1 hq
 | ok fl =>
   cases fl with
   | ret u=>exact I1.after hq
   | next=>exact False.elim hq
   | brk=>exact False.elim hq
   | cont=>exact False.elim hq
end
end L2
namespace L2
open PySem PySem.Spec PyProof.Rows
structure RoomH (k:Nat) (A:Around):Prop where
 dp:A.depth+3 * k+5 < recursionLimit
 un:A.units+16 * k+200 < cLine
 gd:A.guards=some []
theorem RoomH.mono {j k:Nat} {A:Around} (r:RoomH k A) (h:j≤k):RoomH j A:=⟨by have:=r.dp; omega,by have:=r.un; omega,r.gd⟩
theorem RoomH.deeper {k:Nat} {A:Around} (r:RoomH (k+1) A) (env:Env):RoomH k (A.deeper env) :=
 ⟨by have:=r.dp; show A.depth+1+3 * k+5 < _; omega,by have:=r.un; show A.units+3+16 * k+200 < _; omega,r.gd⟩
theorem Room.marked {k:Nat} {A:Around} (r:Room k A) (e:Option Value):RoomH k (A.mark e):=⟨r.dp,r.un,r.gd⟩
structure FnOkH (P:Program) (w:World) (K:PySem.W.Frag) (mg:Str→Option Value) (base:Heap) (k:Nat) (f:Addr) (fd:FuncData) (ps:List Str) (sp:Sp):Prop where
 len:∀ vs H Q E,sp vs H Q E→vs.length=ps.length
 run:∀ (A:Around) (outer:List Env) (s:Shared) (H:Hp) (args:Args) (us:List Value) (vs:List V) (Q:VK),RoomH k A→Env0 P w K mg base A outer s H→BindsTo s fd args (ps.zip us)→Vals vs us→sp vs H Q E0 →
  codeAny (model P w) A (.call (.ref f) args) (CR CX0 outer P w H s Q E0) s
def cxH (P:Program) (w:World) (K:PySem.W.Frag) (mg:Str→Option Value) (base:Heap) (N:List Str) (qual:Str) (scope:Scope) (f:Addr) (cd:Value) (A:Around) (outer:List Env) (s:Shared) (H:Hp):Cx :=
 { cxOf CX0 P w K mg base N qual scope f cd A outer s H E0 with calm:=false,xe:=fun _ _=>False }
section
variable {P:Program} {w:World} {K:PySem.W.Frag} {mg:Str→Option Value} {base:Heap}
theorem Fun.okH {x qual:Str} {st:Stmt} {f:Addr} {fd:FuncData} {N ps:List Str} {k:Nat} {sp:Sp} (F:Fun K x qual st f fd) (S:FnScope N ps (Ze st)) (len:∀ vs H Q E,sp vs H Q E→vs.length=ps.length)
 (hbody:∀ (cdv:Value) (A:Around) (outer:List Env) (s:Shared) (H:Hp) (vs:List V) (Q:VK),RoomH k (A.deeper (envOfC qual (Ze st) s.heap.objs.size f cdv))→sp vs H Q E0 →
   ∃ t,PSs (cxH P w K mg base N qual (Ze st) f cdv A outer s H) (Yh st) t∧t { nx:=fun _ H'=>Q .non H',rt:=Q } (Zal N vs) H):FnOkH P w K mg base (k+1) f fd ps sp:=by
 obtain ⟨oc,od,kV,doc,pm,an,cdv,ct,osl,rfl,lk,hcd⟩:=F.ex;refine ⟨len,fun A outer s H args us vs Q hr e0 hb r hsp=>?_⟩;have hl:=len _ _ _ _ hsp;have KX:K.In s.heap:=e0.mod.kin.keeps fun b o e=>(e0.bs b o e).1;have lim:s.heap.NoLimit:=e0.mod.nolimit.keeps fun b o e=>(e0.bs b o e).1
 have hkind:∀ y∈ps.zip us,(Ze st).names.lookup y.1=some .local∨((Ze st).names.lookup y.1=some .cell∧((cellsFrom (s.heap.objs.size+1) (Ze st).names []).lookup y.1).isSome=true):=fun ⟨n,v⟩ hy=>by
  rcases S.par n (List.of_mem_zip hy).1 with q | q
  · exact .inl q
  · exact .inr ⟨q,PySem.W.cellsFrom_some _ _ _ (.inl q)⟩
 refine codeAny_call_function (by have:=hr.dp; omega) (KX _ _ lk) rfl S.co S.gen rfl (PySem.W.codeRec_of KX hcd) (hb _ _ _ _ ?_);refine wpAny_newFunctionEnv_cells S.kind hkind fun env he s1 x=>?_;subst he;refine ⟨lim.keeps x.toInCall.keep,codeAny_func ?_⟩;obtain ⟨t,ht,hq⟩:=hbody cdv A outer s H vs Q (hr.deeper _) hsp;have e1:Env0 P w K mg base { A with handled:=none } outer s H:=⟨e0.frames,e0.mod,e0.bs,e0.bsz,e0.funs,e0.frf,e0.hok,e0.bare⟩;have I0:Inv (cxOf CX0 P w K mg base N qual (Ze st) f cdv { A with handled:=none } outer s H E0) [] (Zal N vs) H s1:=Zgy S rfl e1 hl r x
 have I:Inv (cxH P w K mg base N qual (Ze st) f cdv A outer s H) [] (Zal N vs) H s1 :=
  let ok:=I0.ok
  ⟨⟨ok.mod,ok.kind,ok.glob,ok.blt,ok.above,ok.inj,ok.has,ok.cab,fun z=>(nomatch z),Around.frames_deeper e0.frames,ok.stk,ok.exf,ok.bs,ok.bsz,ok.noex,ok.exfs,ok.funs,ok.frf⟩,I0.os,I0.bare,I0.base,I0.loc,I0.cell,I0.free,I0.freeC,I0.pin,I0.hok,I0.len⟩
 refine n67_ (ht [] s1 (Zal N vs) H _ I hq) (fun fl s' hs=>?_) fun e s' hs=>hs.elim
 have fin:∀ {σ':St} {H':Hp} {v:V} {u:Value},Inv (cxH P w K mg base N qual (Ze st) f cdv A outer s H) [] σ' H' s'→RelV v u→Q v H'→CE outer P w H s Q u s' :=
  fun {σ' H' v u} J rv q=>⟨v,H',J.os,J.bare,J.base,J.hok,rv,q⟩
 cases fl with
 | ret u =>
   obtain ⟨v,σ',H',J,rv,q⟩:=hs;exact fin J rv q
 | next =>
   obtain ⟨σ',H',J,q⟩:=hs;exact fin (v:=V.non) (u:=Value.none) J rfl q
 | brk =>
   obtain ⟨_,_,_,q⟩:=hs;exact False.elim q
 | cont =>
   obtain ⟨_,_,_,q⟩:=hs;exact False.elim q
structure CalH (P:Program) (w:World) (K:PySem.W.Frag) (mg:Str→Option Value) (base:Heap) (x:Str) (k:Nat) (ps:List Str) (sp:Sp):Prop where
 ex:∃ (f:Addr) (fd:FuncData),FnOkH P w K mg base k f fd ps sp∧mg x=some (.ref f)∧PySem.W.keepIn K (.ref f)=true∧Binds K fd ps []
theorem Zlx {X:Cx} {x:Str} {k j:Nat} {ps:List Str} {sp:Sp} {p pos:Pos} {e:Expr} {es:List Expr} {t:TA} (C:CalH X.prog X.w X.K X.mg X.base x k ps sp) (hr:RoomH j X.A) (hj:k≤j) (hg:Gl X x) (ha:PA X (e :: es) t)
 (hdb:(x == ("__debug__" : Str))=false:=by decide) (he:starEach (e :: es) X.env=(false,eval e X.env) :: starEach es X.env:=by rfl) (hpl:(backTo pos (starEach es X.env)).any (·.1)=false:=by rfl) :
 PE X (.Call (.Name x p) (e :: es) [] pos) (fun σ H Q=>t σ H fun vs H1=>sp vs H1 Q E0):=by
 obtain ⟨f,fd,F,hm,hk,hb⟩:=C.ex;intro pins s σ H Q I h;refine wpAny_Call_Name_kw (Zc7 I hg hm ?_ hdb);refine PySem.W.callWith_K (h₀:=X.base) I.ok.mod.kin hk (thn (ha pos pins s σ H _ I h) fun us s1 ⟨vs,H1,I1,r,q⟩=>⟨I1.kIn,?_⟩) he hpl;have hl:us.length=ps.length:=by rw [← r.length]; exact F.len _ _ _ _ q
 have hb':=hb s1 us I1.kIn (by rw [List.append_nil]; exact hl);rw [List.append_nil] at hb';refine wpAny_call (codeAny_mono (F.run X.A X.stack s1 H1 ⟨us,[]⟩ us vs Q (hr.mono hj) I1.env0 hb' r q) fun r s' hq=>?_);cases r with
 | error e=>exact False.elim hq
 | ok fl =>
   cases fl with
   | ret u=>exact I1.after hq
   | next=>exact False.elim hq
   | brk=>exact False.elim hq
   | cont=>exact False.elim hq
end
end L2
namespace L2
open PySem PySem.Spec PyProof.Rows
section
variable {X:Cx}
theorem Zp0:EqT X 0 (fun _ v (b:Bool)=>v=.bl b):=by
 intro A pins σ H s v u a b x y hu I h1 h2 r1 r2;subst h1 h2;obtain rfl:a=.bool x:=r1;obtain rfl:b=.bool y:=r2;have e:(x == y)=decide (x=y):=by cases x <;> cases y <;> rfl
 exact e ▸ SeqAt.EqAt.bool_bool x y
theorem Zq1 {H:Hp}:∀ (bs:List Bool),Al (fun v b=>v=V.bl b) (bs.map V.bl) bs:=fun bs=>⟨by rw [n4_],fun i v b e1 e2=>by
 rw [n3_,e2] at e1;exact (Option.some.inj e1).symm⟩
theorem Zky (hu:X.A.units+1 < cLine):MtR X "list.index" (fun x xs H Q=>∃ (p:Addr) (bs:List Bool) (j:Nat),x=.ref p∧xs=[.bl true]∧H p=some (.lst (bs.map V.bl))∧bs[j]? = some true∧(∀ m,m < j→bs[m]?≠some true)∧bs.length≤1000∧Q (.int j) H):=by
 intro pins s σ H x xs v us Q I rx rv h;obtain ⟨p,bs,j,rfl,rfl,e,h1,h2,h3,q⟩:=h;exact Zlf (Zp0 (X:=X)) (fun _ _ _ _ a b=>by rw [a] at b; exact V.bl.inj b) (by omega) pins s σ H _ _ v us Q I rx rv ⟨p,_,bs,_,true,j,rfl,rfl,e,Zq1 (H:=H) bs,rfl,h1,h2,h3,q⟩
structure ExcLook (K:PySem.W.Frag) (C:Addr):Prop where
 cls:(PySem.W.clsIn K C).isSome=true
 ga:PySem.W.findIn K (.ref C) "__getattribute__" = some (some (.builtin "BaseException.__getattribute__"))
 gt:PySem.W.findIn K (.ref C) "__getattr__" = some none
 find:PySem.W.findObj K C none "__class__" = some (.bind (.builtin "getset_descriptor.__get__") (.builtin "object.__class__"))
 mro:PySem.W.mroIn K C (.type "object")=some true
 bas:PySem.W.mroIn K C (.type "BaseException")=some true
section
variable {prog:Program} {w:World} {A:Around} {E:Value→Shared→Prop} {h:Heap} {g:Array GenState} {d:PySem.Drawn} {t:Nat} {os:OsState} {x C:Addr} {ox:Obj} {K:PySem.W.Frag}
theorem Zlr {tk:Tok} {Q:Fin→Shared→Prop} (X:K.In h) (I:PySem.W.InstAt h x ox C none) (Z:ExcLook K C) (hq:Q (.done (.ret (.ref C))) ⟨h,g,d,t,os⟩) :
 wpAny (model prog w) A (Builtin.«object.__getattribute__» ⟨[.ref x,.str "__class__" tk],[]⟩) Q E ⟨h,g,d,t,os⟩:=by
 have L0:=I.type (M:=model prog w);have L1:=PySem.W.looks_find (M:=model prog w) X I Z.find;unfold Builtin.«object.__getattribute__»
 repeat (any_goals (first | assumption | with_reducible refine L0.at ?_ | with_reducible refine L1.at ?_ | wp_step))
 refine PySem.W.class_get (s:=⟨h,g,d,t,os⟩) (ox:=ox) (od:=none) X I Z.mro ?_
 repeat (any_goals (first | assumption | wp_step))
theorem Zlv {M:Model} {nameV:Value} {Q:Unit→Shared→Prop} (X:K.In h) (I:PySem.W.InstAt h x ox C none) (Z:ExcLook K C) (hq:Q () ⟨h,g,d,t,os⟩):wpAny M A (checkBuiltinCall "BaseException.__getattribute__" ⟨[.ref x,nameV],[]⟩) Q E ⟨h,g,d,t,os⟩:=by
 have two:(builtinKind "BaseException.__getattribute__",splitId "BaseException.__getattribute__")=(some .slot,some ("BaseException","__getattribute__")):=by decide +kernel
 obtain ⟨z1,z2⟩:=Prod.mk.inj two;have fits:=F.args_bexc_ga (.ref x) nameV;have L0:=I.type (M:=M);have L1:=PySem.W.looks_mroIn (M:=M) X Z.bas;simp only [checkBuiltinCall,z1,z2];refine n1_ ?_
 · unfold isInstance
   repeat (first | with_reducible refine L0.at ?_ | with_reducible refine L1.at ?_ | wp_step)
   exact hq
theorem Zk9 {Q:Option Value→Shared→Prop} (X:K.In h) (I:PySem.W.InstAt h x ox C none) (Z:ExcLook K C) (hq:Q (some (.ref C)) ⟨h,g,d,t+1,os⟩) :
 wpAny (model prog w) A (getAttr? (.ref x) "__class__") Q E ⟨h,g,d,t,os⟩:=by
 have L0:=I.type (M:=model prog w);have L1:=PySem.W.looks_findIn (M:=model prog w) X Z.ga;have L2:=PySem.W.looks_findIn (M:=model prog w) X Z.gt;have f3:=F.attr_ValueError.ga.bind (.ref x);have un:(Value.builtin "BaseException.__getattribute__" == .builtin "object.__getattribute__")=false:=by decide +kernel
 have off:(onTheHeap (.ref C) && Value.builtin "BaseException.__getattribute__" == .builtin "object.__getattribute__")=false:=by rw [un]; rfl
 unfold getAttr? getAttrBy? getAttrBy
 repeat (any_goals (first | assumption | with_reducible refine L0.at ?_ | with_reducible refine L1.at ?_ | with_reducible refine L2.at ?_ | wp_step))
 refine codeAny_call_builtin F.attr_ValueError.ga.plain F.entry_bexc_ga (Zlv X I Z (Zlr X I Z ?_))
 repeat (any_goals (first | assumption | wp_step))
end
theorem Zis {K:PySem.W.Frag} {ea C:Addr} (Z:ExcLook K C):PySem.W.KitX K (.ref ea) (.ref C) (fun h=>∃ vs,FO h ea (.ref C) none vs) where
 ty:=fun M h _ ⟨vs,o,e,ec,_⟩=>ec ▸ (PySem.W.Looks.ld e).andThen .now
 it:=fun M h XK _=>by
  obtain ⟨cd,hc⟩:=Option.isSome_iff_exists.mp Z.cls;unfold PySem.W.clsIn at hc;split at hc
  · rename_i c' d' cd' sl' ho
    intro A' Q' E' s' k q;unfold isType loadHead;exact n1_ (wpAny_loadPart (k _ _ (XK _ _ ho)) (n10_ q))
  · cases hc
 ne:=fun h tp dd its n sl XK htp=>Bool.eq_false_iff.mpr fun q=>by
  have e:C=tp:=Value.ref.inj (beq_iff_eq.mp q);obtain ⟨cd,hc⟩:=Option.isSome_iff_exists.mp Z.cls;unfold PySem.W.clsIn at hc;split at hc
  · rename_i c' d' cd' sl' ho
    have z:=(XK _ _ ho).symm.trans (e ▸ htp);cases z
  · cases hc
 ca:=fun {prog w A E Q s} XK ⟨vs,o,e,ec,ed,ev⟩ k=>by
  have I:PySem.W.InstAt s.heap ea o C none:=⟨e,ec,by unfold PySem.W.notCls; rw [ev],by rw [ed]; trivial⟩;obtain ⟨h,g,d,t,os⟩:=s;exact Zk9 XK I Z k
theorem Zu:Zak X (.builtin "isinstance") (fun xs H Q=>∃ (ea C:Addr) (d:V) (b:Bool),xs=[.ref ea,d]∧H ea=some (excA ea C)∧ExcLook X.K C∧((∃ D,d=.ref D∧PySem.W.kitOne X.K (.ref C) (.ref D)=some b)∨∃ T,d=.ty T∧PySem.W.kitOne X.K (.ref C) (.type T)=some b)∧Q (.bl b) H):=by
 intro pins s σ H xs us Q I r h;obtain ⟨ea,C,d,b,rfl,hA,Z,hd,q⟩:=h;obtain ⟨u,v,rfl,r1,r2⟩:=r.two;cases (show u=.ref ea from r1)
 have ob:=(show ObjOk X.prog X.w H s.heap ea (excA ea C) from I.hok ea _ hA).1
 rcases hd with ⟨D,rfl,hk⟩ | ⟨T,rfl,hk⟩
 · cases (show v=.ref D from r2)
   exact n53_ (Zis Z) I.kIn ob hk (by simp) fun tk=>⟨.bl b,H,I.tok _,rfl,q⟩
 · cases (show v=.type T from r2)
   exact n53_ (Zis Z) I.kIn ob hk (by simp) fun tk=>⟨.bl b,H,I.tok _,rfl,q⟩
end
end L2
namespace L2
open PySem PySem.Spec PyProof.Rows
section
variable {P:Program} {w:World} {K:PySem.W.Frag} {mg:Str→Option Value} {base:Heap}
theorem Fun.okC {x qual:Str} {st:Stmt} {f:Addr} {fd:FuncData} {N ps:List Str} {k:Nat} {sp:Sp} (F:Fun K x qual st f fd) (S:FnScope N ps (Ze st)) (len:∀ vs H Q E,sp vs H Q E→vs.length=ps.length)
 (hbody:∀ (cdv:Value),fd.code=cdv→∀ (A:Around) (outer:List Env) (s:Shared) (H:Hp) (vs:List V) (Q:VK) (E:XK),Room k (A.deeper (envOfC qual (Ze st) s.heap.objs.size f cdv))→sp vs H Q E →
   ∃ t,PSs (cxOf CX0 P w K mg base N qual (Ze st) f cdv A outer s H E).nox (Yh st) t∧t { nx:=fun _ H'=>Q .non H',rt:=Q } (Zal N vs) H):FnOk P w K mg base CX0 (k+1) f fd ps sp:=by
 obtain ⟨oc,od,kV,doc,pm,an,cdv,ct,osl,rfl,lk,hcd⟩:=F.ex;refine Zno lk hcd S len fun A outer s H vs Q E hr hsp=>?_;obtain ⟨t,h,q⟩:=hbody cdv rfl A outer s H vs Q E hr hsp;exact ⟨t,h.nox,q⟩
end
theorem Zog {A:Around} {k:Nat} (hr:RoomH k A):A.units+1 < cLine:=by have:=hr.un; omega
section
variable {X:Cx}
theorem Zo4:EqT X 0 (fun _ v (x:Str)=>v=.str x):=by
 intro A pins σ H s v u a b x y hu I h1 h2 r1 r2;subst h1 h2;obtain ⟨t,rfl⟩:=r1;obtain ⟨t',rfl⟩:=r2
 have e:(x == y)=decide (x=y):=by
  by_cases h:x=y
  · rw [h,n26_ rfl]; exact beq_self_eq_true y
  · rw [n14_ h]; exact beq_eq_false_iff_ne.mpr h
 exact e ▸ SeqAt.EqAt.str_str x t y t'
end
end L2
namespace L2
open PySem PySem.Spec PyProof.Rows
variable {N:Addr→Prop} {k:Nat}
mutual
theorem Dt.keepP {H H':Hp} {l:Addr} {o:HO} (h1:∀ xs,o≠.tup xs) (h2:∀ xs,o≠.lst xs) (h3:o≠.dK []) (hl:H l=some o) (s:Keep l H H'):∀ {v:V} {d:PyData},Dt N H k v d→Dt N H' k v d
 | _,_,.non=>.non
 | _,_,.bl b=>.bl b
 | _,_,.int h=>.int h
 | _,_,.str x=>.str x
 | _,_,.tup h r=>.tup (s _ _ (fun z=>by rw [z,hl] at h; exact h1 _ (Option.some.inj h)) h) (Dts.keepP h1 h2 h3 hl s r)
 | _,_,.lst h n m r=>.lst (s _ _ (fun z=>by rw [z,hl] at h; exact h2 _ (Option.some.inj h)) h) n m (Dts.keepP h1 h2 h3 hl s r)
 | _,_,.dic h=>.dic (s _ _ (fun z=>by rw [z,hl] at h; exact h3 (Option.some.inj h)) h)
theorem Dts.keepP {H H':Hp} {l:Addr} {o:HO} (h1:∀ xs,o≠.tup xs) (h2:∀ xs,o≠.lst xs) (h3:o≠.dK []) (hl:H l=some o) (s:Keep l H H'):∀ {vs:List V} {ds:List PyData},Dts N H k vs ds→Dts N H' k vs ds
 | _,_,.nil=>.nil
 | _,_,.cons r rs=>.cons (Dt.keepP h1 h2 h3 hl s r) (Dts.keepP h1 h2 h3 hl s rs)
end
theorem Dt.keepT {H H':Hp} {P:Addr} {q:Str} {v:V} {d:PyData} (t:TabF H P q) (s:Xk P H H') (h:Dt N H k v d):Dt N H' k v d:=let ⟨_,e,_⟩:=t; h.keepP (by intro _ z; cases z) (by intro _ z; cases z) (by intro z; cases z) e s
section
variable {H H':Hp} {P c c1:Addr} {q:Str}
theorem CodeF.mv (x:CodeF H c q) (k:∀ o,H c=some (fzO o)→H' c=some (fzO o)):CodeF H' c q:=let ⟨o,vs,t,e,r⟩:=x; ⟨o,vs,t,k o e,r⟩
theorem CodeF.neC (x:CodeF H c q) {o1:Obj} {u:Option Value} (e:H c1=some (fzO o1)) (hd:o1.data=.cell u):c≠c1:=fun z=>by
 obtain ⟨o,vs,t,e',hv,_⟩:=x;rw [z,e] at e'; cases e'; rw [hd] at hv; cases hv
theorem CodeF.neL (x:CodeF H c q) {L:Addr} {xs:List V} (e:H L=some (.lst xs)):c≠L:=fun z=>by
 obtain ⟨o,vs,t,e',_⟩:=x;rw [z,e] at e'; cases e'
theorem TabF.mv (x:TabF H P q) (k0:∀ ps,H P=some (.tbl ps)→H' P=some (.tbl ps)) (k:∀ c,CodeF H c q→CodeF H' c q):TabF H' P q :=
 let ⟨ps,e,t,h⟩:=x
 ⟨ps,k0 _ e,t,fun p v z=>let ⟨d,e1,e2⟩:=h p v z; ⟨d,e1,k _ e2⟩⟩
theorem TabF.same (x:TabF H P q) (s:Same H H'):TabF H' P q:=x.mv (fun _ e=>s _ _ e) fun _ c=>c.mv fun _ e=>s _ _ e
theorem TabF.keepL (x:TabF H P q) {L:Addr} {xs:List V} (e:H L=some (.lst xs)) (s:Keep L H H'):TabF H' P q :=
 x.mv (fun _ z=>s _ _ (fun w=>by rw [w,e] at z; cases z) z) fun _ c=>c.mv fun _ z=>s _ _ (c.neL e) z
theorem TabF.del (x:TabF H P q) {o1:Obj} {u:Option Value} (e:H c1=some (fzO o1)) (hd:o1.data=.cell u):TabF (del H c1) P q :=
 x.mv (fun _ z=>by rw [Yt fun w=>by rw [w,e] at z; cases z]; exact z) fun _ c=>c.mv fun _ z=>by rw [Yt (c.neC e hd)]; exact z
variable {a:Addr} {params:Arguments} {body:Expr} {scope:Scope} {clos:List (Str×Addr)} {pm:Value}
theorem LamF.mv (x:LamF H a q params body scope clos pm) (k:∀ b o,H b=some (fzO o)→H' b=some (fzO o)):LamF H' a q params body scope clos pm:=let ⟨d,ct,e,c⟩:=x; ⟨d,ct,k _ _ e,c.mv fun _ z=>k _ _ z⟩
theorem LamF.same (x:LamF H a q params body scope clos pm) (s:Same H H'):LamF H' a q params body scope clos pm:=x.mv fun _ _ e=>s _ _ e
theorem LamF.keepP (x:LamF H a q params body scope clos pm) (t:TabF H P q) (s:Xk P H H'):LamF H' a q params body scope clos pm:=let ⟨_,h,_⟩:=t; x.mv fun b o e=>s _ _ (fun z=>by rw [z,h] at e; cases e) e
theorem LamF.keepL (x:LamF H a q params body scope clos pm) {L:Addr} {xs:List V} (h:H L=some (.lst xs)) (s:Keep L H H'):LamF H' a q params body scope clos pm:=x.mv fun b o e=>s _ _ (fun z=>by rw [z,h] at e; cases e) e
end
variable {N:Addr→Prop} {k:Nat}
def DatO (N:Addr→Prop) (b:Addr) (o:HO):Prop:=(∃ xs,o=.tup xs)∨(∃ xs,o=.lst xs∧¬ N b)∨o=.dK []
mutual
theorem Dt.gen {H H':Hp} (s:∀ b o,DatO N b o→H b=some o→H' b=some o):∀ {v:V} {d:PyData},Dt N H k v d→Dt N H' k v d
 | _,_,.non=>.non
 | _,_,.bl b=>.bl b
 | _,_,.int h=>.int h
 | _,_,.str x=>.str x
 | _,_,.tup h r=>.tup (s _ _ (.inl ⟨_,rfl⟩) h) (Dts.gen s r)
 | _,_,.lst h n m r=>.lst (s _ _ (.inr (.inl ⟨_,rfl,n⟩)) h) n m (Dts.gen s r)
 | _,_,.dic h=>.dic (s _ _ (.inr (.inr rfl)) h)
theorem Dts.gen {H H':Hp} (s:∀ b o,DatO N b o→H b=some o→H' b=some o):∀ {vs:List V} {ds:List PyData},Dts N H k vs ds→Dts N H' k vs ds
 | _,_,.nil=>.nil
 | _,_,.cons r rs=>.cons (Dt.gen s r) (Dts.gen s rs)
end
def Gv (P1 P2:Addr) (H H':Hp):Prop:=∀ b o,b≠P1→b≠P2→H b=some o→H' b=some o
section
variable {P1 P2:Addr} {H H1 H2:Hp} {q:Str}
theorem Gv.refl:Gv P1 P2 H H:=fun _ _ _ _ e=>e
theorem Gv.trans (a:Gv P1 P2 H H1) (b:Gv P1 P2 H1 H2):Gv P1 P2 H H2:=fun c o n m e=>b c o n m (a c o n m e)
theorem Same.gv (s:Same H H1):Gv P1 P2 H H1:=fun b o _ _ e=>s b o e
theorem DatO.neT {b P:Addr} {o:HO} (h:DatO N b o) (e:H b=some o) (t:TabF H P q):b≠P:=fun z=>by
 obtain ⟨ps,e',_⟩:=t;rw [z,e'] at e; cases e
 rcases h with ⟨_,h⟩ | ⟨_,h,_⟩ | h <;> cases h
theorem TabF.gvP {P P':Addr} (t:TabF H P q) {q':Str} (t':TabF H P' q') (n:P≠P') (s:Xk P' H H1):TabF H1 P q:=by
 obtain ⟨ps,e',_⟩:=t';exact t.mv (fun _ e=>s _ _ n e) fun _ c=>c.mv fun _ e=>s _ _ (fun z=>by rw [z,e'] at e; cases e) e
end
theorem Zod {K:PySem.W.Frag} {P1 P2 a:Addr} {H H':Hp} {xs:List V} {q1 q2:Str} (h:SqL K H a xs) (g:Gv P1 P2 H H') (t1:TabF H P1 q1) (t2:TabF H P2 q2):SqL K H' a xs:=by
 obtain ⟨p1,e1,_⟩:=t1;obtain ⟨p2,e2,_⟩:=t2
 rcases h with (h | ⟨o,h⟩) | h
 · exact .inl (.inl (g _ _ (fun z=>by rw [z,e1] at h; cases h) (fun z=>by rw [z,e2] at h; cases h) h))
 · exact .inl (.inr ⟨o,g _ _ (fun z=>by rw [z,e1] at h; cases h) (fun z=>by rw [z,e2] at h; cases h) h⟩)
 · exact .inr h
end L2
namespace L2
open PySem PySem.Spec PyProof.Rows
theorem Zit {H:Hp} {P:Addr} {q:Str} (e:H P=some (.tbl #[])):TabF H P q:=⟨#[],e,by first | trivial | exact .nil | simp [TriplesOk],fun p v z=>by have z':codeAmong p []=some v:=z; first | (cases z'; done) | simp [codeAmong] at z'⟩
theorem Zlq {P:Program} {w:World} {K:PySem.W.Frag} {mg mb:Str→Option Value} {k:Nat} {fa a:Addr} {fd:FuncData} {x:Str} {sp:Sp} {s₁:Shared} {vs:List Value} {ns:List Int} {c1 c2 P1 P2:Addr}
 (KX:K.In s₁.heap) (hns:s₁.heap.Ns mainGlobals mg) (hb:s₁.heap.Ns builtinsNs mb) (hbb:∀ x:Str,x ≠ "__name__" → mb x=bootBuiltins x) (hlim:s₁.heap.NoLimit) (hg:s₁.gens=#[])
 (ha:s₁.heap.get? a=some { cls:=.type "list",data:=.seq vs.toArray }) (hi:IntsAre vs ns) (hl:ns.length≤sizeLine) (hr:Room k callerA)
 (C1:PySem.W.CodeHd s₁.heap c1 P1) (C2:PySem.W.CodeHd s₁.heap c2 P2) (T1:s₁.heap.get? P1=some (PySem.W.tabObj #[])) (T2:s₁.heap.get? P2=some (PySem.W.tabObj #[])) (k1:K.lookup P1=none) (k2:K.lookup P2=none)
 (F:∀ base:Heap,K.In base→base.Ns mainGlobals mg→FnOk P w K mg base CX0 k fa fd [x] sp) (hbind:∀ (s:Shared) (u:Value),BindsTo s fd ⟨[u],[]⟩ [(x,u)])
 (hsp:∀ H:Hp,SqL K H a (ns.map V.int)→H P1=some (.tbl #[])→H P2=some (.tbl #[])→sp [.ref a] H (fun v _=>v=.bl true) fun _ _ _=>False) :
 codeAny (model P w) callerA (.call (.ref fa) ⟨[.ref a],[]⟩) (fun r s'=>r=.ok (.ret (.bool true))∧OldK s₁.heap s'.heap∧s'.os=s₁.os∧AllBare s'.gens) s₁:=by
 have rv:=Zf8 hi;have lenV:=hi.length;have a1:a≠P1:=fun z=>by rw [z,T1] at ha; cases ha
 have a2:a≠P2:=fun z=>by rw [z,T2] at ha; cases ha
 have core:∀ H:Hp,SqL K H a (ns.map V.int)→HOk P w H s₁.heap→(∀ b u,H b=some u→(b=a∧(∃ o xs,u=.frz o (.lst xs))∧K.lookup a=none)∨((b=P1∨b=P2)∧u=.tbl #[]))→H P1=some (.tbl #[])→H P2=some (.tbl #[]) →
  codeAny (model P w) callerA (.call (.ref fa) ⟨[.ref a],[]⟩) (fun r s'=>r=.ok (.ret (.bool true))∧OldK s₁.heap s'.heap∧s'.os=s₁.os∧AllBare s'.gens) s₁:=by
  intro H hS hok hA h1 h2;have base_of:∀ {b:Addr} {o:Obj},s₁.heap.get? b=some o→H b=none→(hidT s₁.heap H).get? b=some o:=fun e n=>Zm9 e n
  have noA:∀ {b:Addr} {o:Obj} {es:Array DictEntry} {ep:Nat},s₁.heap.get? b=some o→o.data=.dict es ep→H b=none:=fun {b o es ep} e d=>by
   cases q:H b with
   | none=>rfl
   | some u =>
     rcases hA b u q with ⟨rfl,_⟩ | ⟨rfl | rfl,_⟩
     · rw [ha] at e; cases e; cases d
     · rw [T1] at e; cases e; cases d
     · rw [T2] at e; cases e; cases d
  have nsK:∀ {b:Addr} {m:Str→Option Value},s₁.heap.Ns b m→(hidT s₁.heap H).Ns b m:=fun {b m} ⟨o,es,ep,e,d,r⟩=>⟨o,es,ep,base_of e (noA e d),d,r⟩
  have hKb:K.In (hidT s₁.heap H):=fun b o e=>base_of (KX b o e) (by
   cases q:H b with
   | none=>rfl
   | some u =>
     rcases hA b u q with ⟨rfl,_,z⟩ | ⟨rfl | rfl,_⟩
     · rw [z] at e; cases e
     · rw [k1] at e; cases e
     · rw [k2] at e; cases e)
  have hM:Mod K mg (hidT s₁.heap H):=⟨hKb,nsK hns,⟨mb,nsK hb,hbb⟩,let ⟨mc,h1,h2⟩:=hlim; ⟨mc,nsK h1,h2⟩⟩;have e0:Env0 P w K mg (hidT s₁.heap H) callerA [] s₁ H:=⟨rfl,hM,fun b o e=>Zow e,Nat.le_of_eq (Zmm _ _),trivial,fun b hb=>absurd (show b∈([]:List Addr) from hb) (by simp),hok,.of_eq hg⟩;refine codeAny_mono ((F _ hKb (nsK hns)).run callerA [] s₁ H ⟨[.ref a],[]⟩ [.ref a] [.ref a] _ _ hr e0 (hbind s₁ (.ref a)) (.cons rfl .nil) (hsp H hS h1 h2)) fun r s' h=>?_;cases r with
  | error e=>exact False.elim h
  | ok fl =>
    cases fl with
    | next=>exact False.elim h
    | brk=>exact False.elim h
    | cont=>exact False.elim h
    | ret u =>
      obtain ⟨v,H',os,bare,un,hok',r',q⟩:=h;have q':v=.bl true:=q;subst q';obtain rfl:u=Value.bool true:=r'
      have tb:∀ (c b:Addr) (o:Obj),PySem.W.CodeHd s₁.heap c b→s₁.heap.get? b=some (PySem.W.tabObj #[])→H b=some (.tbl #[])→s₁.heap.get? b=some o→asItWas s₁.heap s'.heap b o∧∃ o',s'.heap.get? b=some o':=fun c b o hc ht hb e=>by
       obtain ⟨more,e'⟩:=un.tbls b _ hb;have z:s'.heap.get? b=some { cls:=.none,data:=.fields (#[]++more) }:=hok' b _ e';rw [ht] at e;cases e
       exact ⟨.inr (.inl ⟨(hc.tab ht).isCodeTable,rfl,#[],more,rfl,z⟩),_,z⟩
      have all:∀ b o,s₁.heap.get? b=some o→asItWas s₁.heap s'.heap b o∧∃ o',s'.heap.get? b=some o':=fun b o e=>by
       cases q:H b with
       | none =>
         have z:=un.keep b o e q (by intro z; exact absurd (show b∈([]:List Addr) from z) (by simp)) (by simp);exact ⟨.inl z,_,z⟩
       | some u =>
         rcases hA b u q with ⟨rfl,⟨ob,xs,rfl⟩,_⟩ | ⟨rfl | rfl,rfl⟩
         · have z2:=un.frzs _ ob _ q;obtain ⟨e1,_⟩:=hok _ _ q;obtain ⟨e2,_⟩:=hok' _ _ z2;rw [e] at e1; cases e1;exact ⟨.inl e2,_,e2⟩
         · exact tb c1 _ _ C1 T1 h1 e
         · exact tb c2 _ _ C2 T2 h2 e
      exact ⟨rfl,⟨fun b o e=>(all b o e).1,fun b o e=>(all b o e).2⟩,os,bare⟩
 have kT:∀ (H:Hp) b,s₁.heap.get? b=some (PySem.W.tabObj #[])→ObjOk P w H s₁.heap b (.tbl #[]):=fun H b e=>e;cases hk:K.lookup a with
 | some o =>
   have e:=KX a o hk;rw [ha] at e;cases e
   refine core (fun b=>if b=P1∨b=P2 then some (.tbl #[]) else none) (.inr ⟨_,vs.toArray,_,hk,rfl,rfl,rfl,by rw [n7_,lenV]; exact hl,by simpa using rv⟩) (fun b u z=>?_) (fun b u z=>?_) (if_pos (.inl rfl)) (if_pos (.inr rfl))
   · by_cases hb:b=P1∨b=P2
     · have z':=(if_pos hb).symm.trans z;cases z'
       rcases hb with rfl | rfl
       · exact T1
       · exact T2
     · have z':=(if_neg hb).symm.trans z;cases z'
   · by_cases hb:b=P1∨b=P2
     · have z':=(if_pos hb).symm.trans z;cases z'
       exact .inr ⟨hb,rfl⟩
     · have z':=(if_neg hb).symm.trans z;cases z'
 | none =>
   refine core (fun b=>if b=a then some (.frz { cls:=.type "list",data:=.seq vs.toArray } (.lst (ns.map V.int))) else if b=P1∨b=P2 then some (.tbl #[]) else none) (.inl (.inr ⟨{ cls:=.type "list",data:=.seq vs.toArray },if_pos rfl⟩)) (fun b u z=>?_) (fun b u z=>?_) ((if_neg (Ne.symm a1)).trans (if_pos (.inl rfl))) ((if_neg (Ne.symm a2)).trans (if_pos (.inr rfl)))
   · by_cases ha':b=a
     · have z':=(if_pos ha').symm.trans z;cases z'
       subst ha';exact ⟨ha,by rw [n4_]; exact hl,vs,_,rv,ha⟩
     · have z:=(if_neg ha').symm.trans z
       by_cases hb:b=P1∨b=P2
       · have z':=(if_pos hb).symm.trans z;cases z'
         rcases hb with rfl | rfl
         · exact T1
         · exact T2
       · have z':=(if_neg hb).symm.trans z;cases z'
   · by_cases ha':b=a
     · have z':=(if_pos ha').symm.trans z;cases z'
       exact .inl ⟨ha',⟨_,_,rfl⟩,hk⟩
     · have z:=(if_neg ha').symm.trans z
       by_cases hb:b=P1∨b=P2
       · have z':=(if_pos hb).symm.trans z;cases z'
         exact .inr ⟨hb,rfl⟩
       · have z':=(if_neg hb).symm.trans z;cases z'
theorem Zni {l:PySem.W.OpenLaw} {n k:Nat} {q:Program} {loose:List Str} {XP:(Str→Option Value)→Heap→Prop} {YP:World→Heap→Prop} {d:DefRec} {K:Params→PySem.W.Frag} {sp:World→Sp} {x:Str} {c1 c2 P1 P2:Addr}
 (hn:l.most=some n) (hn2:n≤sizeLine) (hdf:d.params.defaults=[]) (hr:Room k callerA)
 (hY:∀ (w:World) (h:Heap),YP w h→(K w.params).In h∧h.get? P1=some (PySem.W.tabObj #[])∧h.get? P2=some (PySem.W.tabObj #[]))
 (hc:∀ P,PySem.W.codeHdIn (K P) c1 P1=true∧PySem.W.codeHdIn (K P) c2 P2=true∧(K P).lookup P1=none∧(K P).lookup P2=none)
 (F:∀ (w:World) (mg:Str→Option Value) (fa:Addr) (h:Heap),(K w.params).In h→h.Ns mainGlobals mg→mg d.name=some (.ref fa) →
   ∃ fd:FuncData,(∀ (s:Shared) (u:Value),BindsTo s fd ⟨[u],[]⟩ [(x,u)]) ∧
     ∀ base:Heap,(K w.params).In base→base.Ns mainGlobals mg→FnOk l.prog w (K w.params) mg base CX0 k fa fd [x] (sp w))
 (hsp:∀ (w:World) (H:Hp) (a:Addr) (ns:List Int),ns.length≤n→SqL (K w.params) H a (ns.map V.int)→H P1=some (.tbl #[])→H P2=some (.tbl #[])→sp w [.ref a] H (fun v _=>v=.bl true) fun _ _ _=>False) :
 PySem.W.WalkO q loose XP YP l.row.toRowW d [] (fun f vs=>PySem.call f vs):=by
 refine Att.attach_call hn hdf fun w s₀ s₁ mg mb fa o pm cd doc a vs ns G Y ho hd hcd hmg hobj hints hlen hg=>?_;obtain ⟨KX,T1,T2⟩:=hY w _ Y;obtain ⟨q1,q2,q3,q4⟩:=hc w.params;obtain ⟨fd,hb,hF⟩:=F w mg fa _ KX G.T.g hmg;exact Zlq KX G.T.g G.T.b G.T.builtins G.T.nolimit hg hobj hints (n24_ hlen hn2) hr (PySem.W.codeHd_of_K KX q1) (PySem.W.codeHd_of_K KX q2) T1 T2 q3 q4 hF hb (fun H hS=>hsp w H a ns hlen hS)
end L2
namespace L2
open PySem PySem.Spec PyProof.Rows
section
variable {P:Program} {w:World} {K:PySem.W.Frag} {mg:Str→Option Value} {base:Heap}
def Zge (P:Program) (w:World) (K:PySem.W.Frag) (mg:Str→Option Value) (base:Heap) (k:Nat) (a:Addr) (sp:V→Hp→VK→XK→Prop):Prop :=
 ∀ (A:Around) (outer:List Env) (s:Shared) (H:Hp) (Q:VK) (E:XK) (v:V) (u:Value),RelV v u→Room k A→Env0 P w K mg base A outer s H→sp v H Q E→codeAny (model P w) A (.call (.ref a) ⟨[u],[]⟩) (CR (CX1 P w) outer P w H s Q E) s
theorem Zov {q:Str} {params:Arguments} {body:Expr} {scope:Scope} {clos:List (Str×Addr)} {pm:Value} {N:List Str} {k:Nat} {a:Addr} {p1:Str} {sp:V→Hp→VK→XK→Prop} (hk:scope.kind=.function) (hco:scope.isCoroutine=false) (hgen:scope.isGenerator=false)
 (hnc:∀ x∈scope.names,x.2≠.cell) (hb:∀ cd ct u,bindArgs (PySem.W.kla_fn "<lambda>" q params body scope clos pm cd ct) ⟨[u],[]⟩=pure [(p1,u)]) (hp1:scope.names.lookup p1=some .local) (inj:∀ x y c,clos.lookup x=some c→clos.lookup y=some c→x=y)
 (has:∀ x,scope.names.lookup x=some .free→∃ c,clos.lookup x=some c) (hN0:N[0]? = some p1) (hfree:∀ (i:Nat) x,N[i+1]? = some x→scope.names.lookup x=some .free)
 (hf:∀ v H Q E,sp v H Q E→LamF H a q params body scope clos pm∧∀ x c,clos.lookup x=some c→∃ o v,H c=some (fzO o)∧o.data=.cell v)
 (h:∀ (A:Around) (outer:List Env) (s:Shared) (H:Hp) (Q:VK) (E:XK) (cd:Value) (v:V),Room k (A.deeper (Zcn scope s.heap.objs.size clos q a cd))→sp v H Q E →
   ∃ (σ:St) (t:TE),σ.length+1=N.length∧(∀ (i:Nat) x v,N[i+1]? = some x→σ[i]? = some (some v)→∃ c,clos.lookup x=some c∧Zci H c v)∧PE (cxL P w K mg base N (Zcn scope s.heap.objs.size clos q a cd) A outer s H E) body t∧t (some v :: σ) H Q) :
 Zge P w K mg base (k+1) a sp:=by
 intro A outer s H Q E v u rv hr e0 hs;obtain ⟨⟨c,ct,hA,oc,vs,tq,hc,hdc,hqc⟩,hcl⟩:=hf v H Q E hs;obtain ⟨σ,t,hσ,hloc,pe,ht⟩:=h A outer s H Q E (.ref c) v (hr.deeper _) hs;have lim:s.heap.NoLimit:=e0.mod.nolimit.keeps fun b o e=>(e0.bs b o e).1;refine PySem.W.kla_callFunE hr.depth (e0.hok a _ hA).1 rfl hco hgen rfl ⟨c,oc,vs,tq,rfl,(e0.hok c _ hc).1,hdc,hqc⟩ ?_;rw [hb];refine n10_ (wpAny_newFunctionEnv hnc (fun x hx=>by rw [n8_.mp hx]; exact hp1) (fun h1 hn sb=>?_) hk);have kp:∀ b o,s.heap.get? b=some o→h1.get? b=some o:=fun b o e=>(sb.2 b (n36_ (n13_ e))).trans (n2_ _ e)
 have cel:∀ {x:Str} {d:Addr},clos.lookup x=some d→∃ v,h1.IsCell d v:=fun {x d} e=>by
  obtain ⟨o,v,h1',h2⟩:=hcl x d e;exact ⟨v,o,kp _ _ (e0.hok d _ h1').1,h2⟩
 have nil:∀ b:Addr,b∉([]:List Addr):=fun b z=>by simp at z
 have I:Inv (cxL P w K mg base N (Zcn scope s.heap.objs.size clos q a (.ref c)) A outer s H E) [] (some v :: σ) H { s with heap:=h1,toks:=s.toks+([(p1,u)]:List (Str×Value)).length }:=by
  refine ⟨⟨e0.mod,hk,rfl,rfl,n5_ _,inj,fun x hx=>?_,fun x d z _=>(nomatch z),fun _=>hr.hd,Around.frames_deeper e0.frames,.inr ⟨rfl,rfl⟩,fun b z=>absurd z (nil b),e0.bs,e0.bsz,fun b _ _=>nil b,fun b z=>absurd z (nil b),e0.funs,e0.frf⟩,
   rfl,e0.bare,Un.kept kp,⟨_,hn,fun i x v' e1 e2 _=>?_⟩,fun x d e=>cel e,e0.hok.fresh (n5_ _),fun x d e=>?_,fun p hp=>absurd (show p∈([]:List (Addr×Obj)) from hp) (by simp),e0.hok.kept kp,hσ⟩
  · rcases hx with z | z
    · exact absurd rfl (hnc _ (n28_ (show scope.names.lookup x=some .cell from z)))
    · exact has x z
  · cases i with
    | zero =>
      have ex:p1=x:=Option.some.inj (hN0.symm.trans e1);subst ex;cases e2
      exact ⟨u,rv,.inl ⟨hp1,by simp⟩⟩
    | succ i =>
      obtain ⟨d,e3,o,u',e4,e5,r⟩:=hloc i x v' e1 (by simpa using e2);exact ⟨u',r,.inr ⟨.inr (hfree i x e1),d,e3,o,kp _ _ (e0.hok d _ e4).1,e5⟩⟩
  · obtain ⟨o,v,e1,_⟩:=hcl x d e;exact .inr ⟨rfl,o,_,e1⟩
 refine ⟨lim.keeps kp,PySem.W.kla_codeExpr ?_⟩;refine n67_ (pe [] _ _ H _ I ht) (fun u s' hq=>?_) fun e s' hq=>hq;obtain ⟨v,H',J,r,q'⟩:=hq;exact ⟨v,H',J.os,J.bare,J.base,J.hok,r,q'⟩
end
def mk (kf:Int→Int) (x:Int) (xs:List Int):Int:=xs.foldl (fun b y=>if kf y < kf b then y else b) x
theorem Zpk {kf:Int→Int} {x y:Int} {xs:List Int}:mk kf x (xs++[y])=if kf y < kf (mk kf x xs) then y else mk kf x xs:=by
 unfold mk; rw [n63_]; rfl
theorem Znz {kf:Int→Int} {x:Int}:∀ (xs:List Int),mk kf x xs∈x :: xs:=fun xs=>by
 induction xs generalizing x with
 | nil=>exact n15_
 | cons y ys ih =>
   have h:=ih (x:=if kf y < kf x then y else x);show mk kf (if kf y < kf x then y else x) ys∈_
   rcases n18_.mp h with h | h
   · rw [h];split
     · exact n12_ _ n15_
     · exact n15_
   · exact n12_ _ (n12_ _ h)
abbrev sO (a b:Value) (c:Nat):Obj:={ cls:=.type "list",dict:=none,data:=.seq #[a,b] c,slots:=#[] }
abbrev XF:XK:=fun _ _ _=>False
structure MinK (X:Cx) (pins:List (Addr×Obj)) (H:Hp) (l q I S:Addr) (x0:Int) (xs:List Int) (kf:Int→Int) (k:Nat) (sp:V→Hp→VK→XK→Prop):Prop where
 hc:X.calm=true
 hr:Room (k+1) X.A
 L:Zge X.prog X.w X.K X.mg X.base k q sp
 hs:∀ i∈x0 :: xs,sp (.int i) H (fun v H'=>v=.int (kf i)∧H'=H) XF
 hl:SqL X.K H l ((x0 :: xs).map V.int)
 fI:FpOk X pins H I
 fS:FpOk X pins H S
 nI:l≠I
 nS:S≠I
section
variable {X:Cx} {pins:List (Addr×Obj)} {σ:St} {H:Hp} {l q I S:Addr} {x0:Int} {xs:List Int} {kf:Int→Int} {k:Nat} {sp:V→Hp→VK→XK→Prop}
theorem MinK.key (M:MinK X pins H l q I S x0 xs kf k sp) {s:Shared} {oI oS:Obj} {i:Int} {v:Value} (J:Inv X pins σ H s) (hi:i∈x0 :: xs) (rv:RelV (.int i) v) (gI:s.heap.get? I=some oI) (gS:s.heap.get? S=some oS) (dI:∀ v,oI.data≠.cell v) (dS:∀ v,oS.data≠.cell v) {Q:Value→Shared→Prop} {E:Value→Shared→Prop}
 (h:∀ t s',Inv X pins σ H s'→s'.heap.get? I=some oI→s'.heap.get? S=some oS→Q (.int (kf i) t) s'):wpAny (model X.prog X.w) X.A.in1 (call (.ref q) [v]) Q E s:=by
 have Jp:Inv X ((I,oI) :: (S,oS) :: pins) σ H s:=J.pins_of fun p hp=>by
  rcases n18_.mp hp with rfl | hp
  · exact ⟨gI,M.fI.1,M.fI.2.1,M.fI.2.2.1,dI⟩
  · rcases n18_.mp hp with rfl | hp
    · exact ⟨gS,M.fS.1,M.fS.2.1,M.fS.2.2.1,dS⟩
    · exact J.pin p (n30_ _ hp)
 have e:=J.env0;refine wpAny_call (codeAny_mono (M.L X.A.in1 X.stack s H _ _ (.int i) v rv M.hr.in1 ⟨e.frames,e.mod,e.bs,e.bsz,e.funs,e.frf,e.hok,e.bare⟩ (M.hs i hi)) fun r s' hq=>?_);cases r with
 | error e=>obtain ⟨ea,T,C,H',_,_,_,_,_,_,_,_,z⟩:=hq; exact z.elim
 | ok fl =>
   cases fl with
   | ret u =>
     obtain ⟨v',H',J',r',rfl,rfl⟩:=Jp.after hq;obtain ⟨t,rfl⟩:=r';refine h t s' (J'.pins_of fun p hp=>J'.pin p (n30_ _ (n12_ _ (n12_ _ hp)))) ?_ ?_
     · exact (J'.pin (I,oI) (n30_ _ n15_)).1
     · exact (J'.pin (S,oS) (n30_ _ (n12_ _ n15_))).1
   | next=>exact False.elim hq
   | brk=>exact False.elim hq
   | cont=>exact False.elim hq
theorem Zhh {h:Heap} {I l:Addr} {n:Nat} (x:h.IsListIter I l n):∃ o,h.get? I=some o∧(∀ v,o.data≠.cell v)∧∀ h':Heap,h'.get? I=some o→h'.IsListIter I l n:=by
 obtain ⟨o,e,c,d⟩:=x;exact ⟨o,e,fun v z=>(by rw [d] at z; cases z),fun h' e'=>⟨o,e',c,d⟩⟩
theorem Zpa {a b:Value} {c:Nat}:∀ v,(sO a b c).data≠.cell v:=fun v z=>by cases (show Data.seq _ _=Data.cell v from z)
theorem Zpj {R:Result→Shared→Prop} {d:Value} (M:MinK X pins H l q I S x0 xs kf k sp)
 (hR:∀ t s',Inv X pins σ H s'→R (.ok (.ret (.int (mk kf x0 xs) t))) s') :
 ∀ (r j:Nat) (s:Shared) (ti tb:Tok) (c:Nat),xs.length - j=r→j≤xs.length→Inv X pins σ H s→s.heap.IsListIter I l (j+1)→s.heap.get? S=some (sO (.int (mk kf x0 (xs.take j)) ti) (.int (kf (mk kf x0 (xs.take j))) tb) c) →
   codeAny (model X.prog X.w) X.A (.builtin "min.loop" ⟨[.ref I,.ref q,.ref S],[("default",d)]⟩) R s:=by
 have hh:X.A.in1.handled=none:=M.hr.hd;intro r
 induction r with
 | zero =>
   intro j s ti tb c hr hj J hit gS;have ej:j=xs.length:=by omega
   obtain ⟨its,rv,pl,_⟩:=J.list M.hl;have hln:its.toArray.size=xs.length+1:=by have:=rv.length; simpa using this.symm
   have W:=Walks.list (prog:=X.prog) (w:=X.w) hh I l M.nI its.toArray;refine codeAny_builtin PySem.F.entry_min_loop ?_;rw [Around.under_plainId PySem.F.plain_min_loop _];show wpAny _ X.A.in1 (seqItems? (.ref S) >>= _) _ _ _
   refine n1_ (wpAny_seqItems gS rfl ?_);show wpAny _ X.A.in1 (tryCatch (pyNext (.ref I)) _ >>= _) _ _ _
   refine n1_ (wpAny_tryCatch (W.done _ _ _ ⟨by rw [hln,← ej]; exact hit,pl.isList⟩ fun h' tk' hk'=>?_));have gS':=hk' S _ (by simpa using M.nS) gS;show wpAny _ X.A.in1 (updateSeq S (fun _=>#[]) >>= _) _ _ _
   refine n1_ ?_;refine wpAny_updateSeq gS' rfl (n1_ (wpAny_letGo (n10_ ?_)));rw [ej,n59_];have J1:Inv X pins σ H { s with heap:=h',toks:=tk' }:=J.turnOnly (ch:=[I]) (fun b u hb e=>hk' b u hb e) fun b hb=>by rw [n8_.mp hb]; exact M.fI
   exact hR ti _ (J1.turnOnly (ch:=[S]) (fun b u hb e=>(n58_ _ _ (by simpa [eq_comm] using hb)).trans e) fun b hb=>by rw [n8_.mp hb]; exact M.fS)
 | succ r ih =>
   intro j s ti tb c hr hj J hit gS;have hlt:j < xs.length:=by omega
   obtain ⟨its,rv,pl,_⟩:=J.list M.hl;have hln:its.toArray.size=xs.length+1:=by have:=rv.length; simpa using this.symm
   have W:=Walks.list (prog:=X.prog) (w:=X.w) hh I l M.nI its.toArray;refine codeAny_builtin PySem.F.entry_min_loop ?_;rw [Around.under_plainId PySem.F.plain_min_loop _];show wpAny _ X.A.in1 (seqItems? (.ref S) >>= _) _ _ _
   refine n1_ (wpAny_seqItems gS rfl ?_);show wpAny _ X.A.in1 (tryCatch (pyNext (.ref I)) _ >>= _) _ _ _
   refine n1_ (wpAny_tryCatch (W.item (j+1) _ _ _ (by rw [hln]; omega) ⟨hit,pl.isList⟩ fun v h' tk' hP hst' hk'=>?_));have hv:its[j+1]? = some v:=by simpa using hP
   have hi:((x0 :: xs).map V.int)[j+1]? = some (.int xs[j]):=by simp [hlt]
   obtain ⟨u,eu,ru⟩:=rv.get hi;rw [hv] at eu;cases eu
   have gS':=hk' S _ (by simpa using M.nS) gS;have J1:Inv X pins σ H { s with heap:=h',toks:=tk' }:=J.turnOnly (ch:=[I]) (fun b u hb e=>hk' b u hb e) fun b hb=>by rw [n8_.mp hb]; exact M.fI
   obtain ⟨oI,gI,dI,kI⟩:=Zhh hst'.1;show wpAny _ X.A.in1 (tryCatch (holding [v] (call (.ref q) [v])) _ >>= _) _ _ _
   refine n1_ (wpAny_tryCatch (n66_ (M.key J1 (n12_ _ (n41_ hlt)) ru gI gS' dI Zpa fun t2 s2 J2 gI2 gS2=>?_)));obtain ⟨t1,rfl⟩:=ru;show wpAny _ X.A.in1 (tryCatch (holding [_,.int (kf xs[j]) t2] (richCompare .Lt (.int (kf xs[j]) t2) (.int (kf (mk kf x0 (xs.take j))) tb) >>= _)) _ >>= _) _ _ _
   refine n1_ (wpAny_tryCatch (n66_ (n1_ (CmpOf.ints_lt (prog:=X.prog) (w:=X.w) (A:=X.A.in1) (P:=fun i v=>∃ t,v=.int ([kf xs[j],kf (mk kf x0 (xs.take j))].getD i 0) t) (fun i=>[kf xs[j],kf (mk kf x0 (xs.take j))].getD i 0) (fun i v h=>h) 0 1 _ _ _ _ _ ⟨t2,rfl⟩ ⟨tb,rfl⟩ ?_))));refine n1_ (n66_ (wpAny_truthy_bool ?_));refine n1_ (wpAny_letGo (n10_ ?_))
   have stp:mk kf x0 (xs.take (j+1))=if kf xs[j] < kf (mk kf x0 (xs.take j)) then xs[j] else mk kf x0 (xs.take j):=by
    rw [n32_ hlt,Zpk]
   show wpAny _ X.A.in1 (if decide (kf xs[j] < kf (mk kf x0 (xs.take j)))=true then _ else _) _ _ _
   by_cases hb:kf xs[j] < kf (mk kf x0 (xs.take j))
   · rw [if_pos hb] at stp;rw [if_pos (n26_ hb)];obtain ⟨c2,hc2⟩:∃ c2,(s2.heap.update S (Obj.mapSeq fun _=>#[.int xs[j] t1,.int (kf xs[j]) t2])).get? S=some (sO (.int xs[j] t1) (.int (kf xs[j]) t2) c2):=⟨_,get?_update_seq gS2 fun _=>#[.int xs[j] t1,.int (kf xs[j]) t2]⟩;refine n1_ ?_;refine wpAny_updateSeq gS2 rfl (n1_ (wpAny_letGo ?_));rw [Zi6];refine n10_ ⟨plainId_quiet PySem.F.plain_min_loop _,ih (j+1) _ t1 t2 c2 (by omega) hlt (J2.turnOnly (ch:=[S]) (fun b u hb e=>(n58_ _ _ (by simpa [eq_comm] using hb)).trans e) fun b hb=>by rw [n8_.mp hb]; exact M.fS) (kI _ ((n58_ _ _ M.nS).trans gI2)) ?_⟩;rw [stp];exact hc2
   · rw [if_neg hb] at stp;rw [if_neg (by rw [n14_ hb]; decide)];refine n1_ (wpAny_letGo ?_);rw [Zi6];refine n10_ ⟨plainId_quiet PySem.F.plain_min_loop _,ih (j+1) _ ti tb c (by omega) hlt J2 (kI _ gI2) ?_⟩;rw [stp];exact gS2
theorem Zjs (a v d:Value):argsOk "min" ⟨[a],[("key",v),("default",d)]⟩:=by unfold argsOk; kernel_rfl
def minV (kf:Int→Int):List Int→V
 | []=>.non
 | x :: xs=>.int (mk kf x xs)
theorem Zms {s:Shared} {ns:List Int} {Q:Value→Shared→Prop} {E:Value→Shared→Prop} (J:Inv X pins σ H s) (hc:X.calm=true) (hr:Room (k+1) X.A) (L:Zge X.prog X.w X.K X.mg X.base k q sp)
 (hs:∀ i∈ns,sp (.int i) H (fun v H'=>v=.int (kf i)∧H'=H) XF) (hl:SqL X.K H l (ns.map V.int)) (hQ:∀ v s',RelV (minV kf ns) v→Inv X pins σ H s'→Q v s') :
 wpAny (model X.prog X.w) X.A (call (.builtin "min") [.ref l] [("key",.ref q),("default",.none)]) Q E s:=by
 have hh:X.A.in1.handled=none:=hr.hd;obtain ⟨its,rv,pl,_⟩:=J.list hl;have ll:l < s.heap.objs.size:=let ⟨o,_,e,_⟩:=pl; n13_ e;refine kmk_tree PySem.F.kind_min PySem.F.plain_min PySem.F.entry_min (Zjs _ _ _) ?_;show wpAny _ X.A.in1 (Builtin.Builtins.bindParams "min" ["key","default"] 0 ⟨[],[("key",.ref q),("default",.none)]⟩ >>= _) _ _ s
 refine n1_ (wpAny_of_eq (show Builtin.Builtins.bindParams "min" ["key","default"] 0 ⟨[],[("key",.ref q),("default",.none)]⟩=pure [some (.ref q),some .none] from rfl) ?_);refine n1_ (n10_ ?_);refine n1_ (wpAny_pyIter_list pl.isList ?_);refine n1_ (wpAny_newList ?_ (n55_ _));rw [Zi6];generalize hI:s.heap.objs.size=I;have sS:(s.heap.push { cls:=.type "list_iterator",data:=.fields #[.ref l,.int 0 0] }).objs.size=I+1:=by rw [← hI]; exact size_push' ..
 generalize hh1:((s.heap.push { cls:=.type "list_iterator",data:=.fields #[.ref l,.int 0 0] }).push { cls:=.type "list",data:=.seq [].toArray:Obj })=h1;refine n10_ ⟨plainId_quiet PySem.F.plain_min_loop _,?_⟩;have kp:∀ b o,s.heap.get? b=some o→h1.get? b=some o:=fun b o e=>by rw [← hh1]; exact n2_ _ (n2_ _ e)
 have J1:Inv X pins σ H { s with heap:=h1 }:=J.kept (t':=s.toks) kp;have fI:FpOk X pins H I:=J.fpOk (Nat.le_of_eq hI) (J.hok.fresh (Nat.le_of_eq hI));have fS:FpOk X pins H (I+1):=J.fpOk (by omega) (J.hok.fresh (by omega));have gI:h1.IsListIter I l 0:=⟨_,by rw [← hh1,← hI]; exact n2_ _ (n11_ _ rfl),rfl,rfl⟩;have gS:h1.get? (I+1)=some { cls:=.type "list",dict:=none,data:=.seq #[] 0,slots:=#[] }:=by rw [← hh1,← sS]; exact n11_ _ rfl
 have pl1:h1.IsList l its.toArray:=by obtain ⟨o,n,e,r⟩:=pl; exact PlainL.isList ⟨o,n,kp _ _ e,r⟩
 have nI:l≠I:=by rw [← hI]; exact n36_ ll
 have nS:I+1≠I:=by omega
 have W:=Walks.list (prog:=X.prog) (w:=X.w) hh I l nI its.toArray;have hln:=rv.length;refine codeAny_builtin PySem.F.entry_min_loop ?_;rw [Around.under_plainId PySem.F.plain_min_loop _];rw [sS];show wpAny _ X.A.in1 (seqItems? (.ref (I+1)) >>= _) _ _ _
 refine n1_ (wpAny_seqItems gS rfl ?_);show wpAny _ X.A.in1 (tryCatch (pyNext (.ref I)) _ >>= _) _ _ _
 cases ns with
 | nil =>
   have e0:its.toArray.size=0:=by simpa using hln.symm
   refine n1_ (wpAny_tryCatch (W.done _ _ _ ⟨by rw [e0]; exact gI,pl1⟩ fun h' tk' hk'=>?_));have J2:=J1.turnOnly (h':=h') (t':=tk') (ch:=[I]) (fun b u hb e=>hk' b u hb e) fun b hb=>by rw [n8_.mp hb]; exact fI
   have fin:=hQ .none _ rfl J2;dsimp only
   repeat (any_goals (first | assumption | wp_step))
 | cons x0 xs =>
   have M:MinK X pins H l q I (I+1) x0 xs kf k sp:=⟨hc,hr,L,hs,hl,fI,fS,nI,nS⟩
   have e0:0 < its.toArray.size:=by
    have:(x0 :: xs).length=its.length:=by simpa using hln
    rw [n7_,← this]; simp
   refine n1_ (wpAny_tryCatch (W.item 0 _ _ _ e0 ⟨gI,pl1⟩ fun v h' tk' hP hst' hk'=>?_));have hv:its[0]? = some v:=by simpa using hP
   have hi:((x0 :: xs).map V.int)[0]? = some (.int x0):=rfl;obtain ⟨u,eu,ru⟩:=rv.get hi;rw [hv] at eu;cases eu
   have gS':=hk' (I+1) _ (by simp) gS;have J2:=J1.turnOnly (h':=h') (t':=tk') (ch:=[I]) (fun b u hb e=>hk' b u hb e) fun b hb=>by rw [n8_.mp hb]; exact fI
   obtain ⟨oI,gI',dI,kI⟩:=Zhh hst'.1;show wpAny _ X.A.in1 (tryCatch (holding [v] (call (.ref q) [v])) _ >>= _) _ _ _
   refine n1_ (wpAny_tryCatch (n66_ (M.key J2 n15_ ru gI' gS' dI (fun v z=>by cases (show Data.seq _ _=Data.cell v from z)) fun t2 s2 J3 gI2 gS2=>?_)));obtain ⟨t1,rfl⟩:=ru;obtain ⟨c2,hc2⟩:∃ c2,(s2.heap.update (I+1) (Obj.mapSeq fun _=>#[.int x0 t1,.int (kf x0) t2])).get? (I+1)=some (sO (.int x0 t1) (.int (kf x0) t2) c2):=⟨_,get?_update_seq gS2 fun _=>#[.int x0 t1,.int (kf x0) t2]⟩;show wpAny _ X.A.in1 (updateSeq (I+1) (fun _=>#[.int x0 t1,.int (kf x0) t2]) >>= _) _ _ _
   refine n1_ ?_;refine wpAny_updateSeq gS2 rfl ?_;rw [Zi6];refine n10_ ⟨plainId_quiet PySem.F.plain_min_loop _,Zpj M (fun t s' J'=>hQ _ s' ⟨t,rfl⟩ J') _ 0 _ t1 t2 c2 rfl (n55_ _) (J3.turnOnly (ch:=[I+1]) (fun b u hb e=>(n58_ _ _ (by simpa [eq_comm] using hb)).trans e) fun b hb=>by rw [n8_.mp hb]; exact fS) (kI _ ((n58_ _ _ nS).trans gI2)) hc2⟩
end
section
variable {M:Model} {A:Around} {E:Value→Shared→Prop} {s:Shared}
theorem Zro {pos:Pos} {T:String} {xs:List (Bool×Sem Value)} {kw:List (Option Str×Sem Value)} {Q:Value→Shared→Prop} (h1:xs.any (·.1)=false) (h2:kw.any (·.1.isNone)=false)
 (h:wpAny M A (evalArgs (.builtin T) true xs kw) (fun z s₁=>wpAny M A (call (.builtin T) ([]++z.pos) z.kw) Q E s₁) E s):wpAny M A (callWith pos (.builtin T) [] xs kw) Q E s:=by
 unfold callWith;refine n1_ (n66_ (thn h fun z s₁ q=>n1_ (wpAny_standAt ?_)));simp only [h1,h2,Bool.or_false];refine n1_ (n10_ ?_);exact n1_ (thn q fun r s₂ hr=>n1_ (n66_ (wpAny_point (n10_ hr))))
end
section
variable {X:Cx}
def Zrg (P:Program) (w:World) (K:PySem.W.Frag) (mg:Str→Option Value) (base:Heap) (k:Nat) (te:TA) (tl:TE):TE:=fun σ H Q=>te σ H fun xs H1=>tl σ H1 fun y H2=>∃ (l q:Addr) (ns:List Int) (sp:V→Hp→VK→XK→Prop) (kf:Int→Int),xs=[.ref l]∧y=.ref q∧SqL K H2 l (ns.map V.int)∧Zge P w K mg base k q sp∧(∀ i∈ns,sp (.int i) H2 (fun v H'=>v=.int (kf i)∧H'=H2) XF)∧Q (minV kf ns) H2
theorem Zou {e le:Expr} {te:TA} {tl:TE} {p pos kp kp2 cp:Pos} {i j k:Nat} (P:Program) (w:World) (K:PySem.W.Frag) (mg:Str→Option Value) (base:Heap) (hp:X.prog=P∧X.w=w∧X.K=K∧X.mg=mg∧X.base=base) (hc:X.calm=true) (hr:Room j X.A) (hj:k+1≤j) (hg:Gl X "min") (hm:X.mg "min" = none) (hv:bootBuiltins "min" = some (.builtin "min"))
 (ha:PA X [e] te) (hl:PE X le tl) (hs:starEach [e] X.env=[(false,eval e X.env)]:=by rfl) :
 PE X (.Call (.Name "min" p) [e] [⟨some "key",le,kp⟩,⟨some "default",.Constant .none i cp,kp2⟩] pos) (Zrg P w K mg base k te tl):=by
 obtain ⟨rfl,rfl,rfl,rfl,rfl⟩:=hp;intro pins s σ H Q I h;refine wpAny_Call_Name_kw (Zbe I hg hm hv ?_);refine Zro (by rw [hs]; rfl) rfl ?_;rw [hs];refine evalArgs_kwB rfl ?_;have h2:=ha pos pins s σ H _ I h;rw [hs] at h2;refine thn h2 fun us s1 ⟨vs,H1,I1,r1,q1⟩=>?_;refine kws_cons (thn (hl pins s1 σ H1 _ I1 q1) fun v s2 ⟨y,H2,I2,ry,l,q,ns,sp,kf,e1,e2,sq,L,hk,hq⟩=>?_);subst e1 e2;obtain rfl:v=.ref q:=ry;cases r1 with
 | cons r rr =>
   cases rr
   cases r
   refine kws_cons (Zer pins s2 σ H2 (fun v H'=>v=.non∧H'=H2) I2 ⟨rfl,rfl⟩ |> fun z=>thn z fun v3 s3 ⟨x3,H3,I3,rx,ex,eH⟩=>?_);subst ex eH;obtain rfl:v3=.none:=rx;refine kws_nil ?_;exact Zms I3 hc (hr.mono hj) L hk sq fun v s' rv J=>⟨_,H3,J,rv,hq⟩
end
end L2
namespace L2
open PySem PySem.Spec PyProof.Rows
theorem Zce {J:It} {n:Nat} {D:Addr} {g:TG} {tt:TT} {te:TE} {σ0:St} {H:Hp} {Q:VK} {α:Type} (R:Hp→V→α→Prop) (hR:∀ H1 H2 v x,Keep D H1 H2→(∃ ws,H1 D=some (.lst ws))→R H1 v x→R H2 v x) (f:Nat→Option α) (hz:n≤1000) (Ok:St→Prop) (h0:Ok σ0) (hD:H D=none)
 (hgo:∀ i H2,Same H H2→i < n→J.go i H2) (hst:∀ H2,Same H H2→J.stop n H2)
 (hs:∀ (i:Nat) (x:V) (σ2:St) (H2 H3:Hp) (C:St→V→Hp→Prop) (N:St→Hp→Prop),i < n→Same H H2→(∃ ws,H2 D=some (.lst ws))→J.yld i H2 x H3→Ok σ2→(∀ σ4 y H5 z,Ok σ4→Same H2 H5→f i=some z→R H5 y z→C σ4 y H5)→(∀ σ4 H5,Ok σ4→Same H2 H5→f i=none→N σ4 H5) →
   g x σ2 H3 fun σ4 H4=>tt σ4 H4 fun b H5=>if b=true then te σ4 H5 (C σ4) else N σ4 H5)
 (hd:∀ H2 us,Same H H2→H2 D=some (.lst us)→Al (R H2) us ((List.range n).filterMap f)→Q (.ref D) H2):LcGo J g tt te σ0 H D Q:=by
 refine Zlg (n:=n) (fun i σ H2=>Same H H2∧Ok σ∧∃ us,H2 D=some (.lst us)∧us.length≤i∧Al (R H2) us ((List.range i).filterMap f)) ⟨Same.new hD,h0,[],Zc,n5_ _,.nil⟩
  (fun i σ H2 hi p=>hgo i H2 p.1 hi) (fun σ H2 p=>hst H2 p.1) (fun i x σ2 H2 H3 hi y p=>?_) (fun σ2 H2 p=>?_)
 · obtain ⟨s2,ok,us,e2,l2,a2⟩:=p
   have rg:(List.range (i+1)).filterMap f=(List.range i).filterMap f++(f i).toList:=by
    rw [List.range_succ,List.filterMap_append];cases e:f i <;> simp [e]
   refine hs i x σ2 H2 H3 _ _ hi s2 ⟨us,e2⟩ y ok (fun σ4 v H5 z ok4 s5 ez rz=>?_) (fun σ4 H5 ok4 s5 ez=>?_)
   · have e5:H5 D=some (.lst us):=s5 _ _ e2;refine ⟨us,e5,by rw [sizeLine_eq]; omega,n - (i+1),by omega,by omega,rfl,fun b o e=>?_,ok4,us++[v],Zc,by simp; omega,?_⟩
     · rw [Zo (Zk e hD)]; exact s5 _ _ (s2 _ _ e)
     · rw [rg,ez];exact (a2.imp fun v x r=>hR _ _ v x Keep.upd ⟨_,e5⟩ (hR _ _ v x s5.keep ⟨_,e2⟩ r)).snoc (hR _ _ _ _ Keep.upd ⟨_,e5⟩ rz)
   · refine ⟨n - (i+1),by omega,by omega,rfl,s2.trans s5,ok4,us,s5 _ _ e2,by omega,?_⟩;rw [rg,ez];simp only [Option.toList,List.append_nil];exact a2.imp fun v x r=>hR _ _ v x s5.keep ⟨_,e2⟩ r
 · obtain ⟨s2,_,us,e2,_,a2⟩:=p;exact hd H2 us s2 e2 a2
section
variable {X:Cx} {tg:Expr}
def iAny (K:PySem.W.Frag) (tl:TE):TI:=fun σ H R=>tl σ H fun x H1=>∃ (a:Addr) (k:SK),x=.ref a∧(∃ xs,k.Sq K H1 a xs)∧R (k.Itk K a) H1
theorem Zaw (K:PySem.W.Frag) {l:Expr} {tl:TE} (h:X.K=K) (hl:PE X l tl):PI X tg l (iAny K tl):=by
 subst h;intro pins s σ H R I h;refine thn (hl pins s σ H _ I h) fun v s1 ⟨x,H1,I1,r1,q1⟩=>?_;obtain ⟨a,k,e,⟨xs,hq⟩,q⟩:=q1;subst e;cases r1
 have fp:∀ b∈[s1.heap.objs.size],FpOk X pins H1 b:=fun b hb=>by
  have e:b=s1.heap.objs.size:=by simpa using hb
  subst e;exact I1.fpOk (n5_ _) (I1.hok.fresh (n5_ _))
 cases k with
 | l =>
   obtain ⟨its,rv,p,hz⟩:=I1.list (show SqL X.K H1 a xs from hq);refine wpAny_pyIter_list p.isList ?_;exact ⟨s1.heap.objs.size,[s1.heap.objs.size],_,_,H1,rfl,I1.kept (t':=s1.toks) fun b o e=>n2_ _ e,Zgp a _,⟨_,n11_ _ rfl,rfl,rfl⟩,fp,q⟩
 | t =>
   obtain ⟨its,rv,p,hz⟩:=I1.tuple (show SqT X.K H1 a xs from hq);refine wpAny_pyIter_tuple (show s1.heap.IsTuple a its.toArray from p) ?_;exact ⟨s1.heap.objs.size,[s1.heap.objs.size],_,_,H1,rfl,I1.kept (t':=s1.toks) fun b o e=>n2_ _ e,Zex a _,⟨_,n11_ _ rfl,rfl,rfl⟩,fp,q⟩
end
section
variable {X:Cx} {es:List Expr} {x1:Nat} {tp:Pos}
def Zrv (K:PySem.W.Frag) (ta:TA):TI:=fun σ H R=>ta σ H fun vs H1=>∃ (a b:Addr) (k l:SK),vs=[.ref a,.ref b]∧(∃ xs,k.Sq K H1 a xs)∧(∃ ys,l.Sq K H1 b ys)∧R (Itz k l K a b) H1
theorem Zmf {a b:Expr} {ta:TA} {p pos:Pos} (hg:Gl X "zip") (hm:X.mg "zip" = none) (ha:PA X [a,b] ta) (hs:starEach [a,b] X.env=[(false,eval a X.env),(false,eval b X.env)]:=by rfl) (hs2:starEach [b] X.env=[(false,eval b X.env)]:=by rfl) :
 PI X (.Tuple es x1 tp) (.Call (.Name "zip" p) [a,b] [] pos) (Zrv X.K ta):=by
 intro pins s σ H R I h;refine Call_ (Zbe I hg hm Zg2 (n51_ (thn (ha pos pins s σ H _ I h) fun us s1 ⟨vs,H1,I1,r1,q1⟩=>?_) (by rw [hs,hs2]) (by rw [hs2]; rfl)));obtain ⟨a,b,k,l,e,⟨xs,hx⟩,⟨ys,hy⟩,q⟩:=q1;subst e;cases r1 with
 | cons r rr =>
   cases rr with
   | cons r' rr =>
     cases rr
     cases r
     cases r'
     obtain ⟨us,ru,pu⟩:=hx.is I1;obtain ⟨ws,rw',pw⟩:=hy.is I1;have la:a < s1.heap.objs.size:=by obtain ⟨_,_,e,_⟩:=pu.ex; exact n13_ e
     have lb:b < s1.heap.objs.size:=by obtain ⟨_,_,e,_⟩:=pw.ex; exact n13_ e
     refine Zi9 pu pw fun h1 m1 m2 m3 m4 m5 m6 m7=>wpAny_pyIter_zip m1 ?_;have I2:Inv X pins σ H1 { s1 with heap:=h1,toks:=s1.toks }:=I1.kept m7;refine ⟨_,_,_,_,H1,rfl,I2,Zig (z:=s1.heap.objs.size+4) (t:=s1.heap.objs.size+2) (o:=s1.heap.objs.size+3) (i:=s1.heap.objs.size) (j:=s1.heap.objs.size+1) (k:=k) (l:=l) (a:=a) (b:=b) ?_,⟨m1,m2,⟨_,_,m3⟩,m4,m5⟩,?_,q⟩
     · exact Zn8 la lb
     · have f1:=I1.fps (fp:=[s1.heap.objs.size+4,s1.heap.objs.size+2,s1.heap.objs.size+3,s1.heap.objs.size,s1.heap.objs.size+1]) (by
        intro e he;simp only [n18_,n25_,or_false] at he
        rcases he with rfl | rfl | rfl | rfl | rfl <;> omega)
       exact f1
def Zp9 (K:PySem.W.Frag) (ta:TA):TI:=fun σ H R=>ta σ H fun vs H1=>∃ (a:Addr) (k:SK),vs=[.ref a]∧(∃ xs,k.Sq K H1 a xs)∧R (Ite k K a) H1
theorem Zjg {a:Expr} {ta:TA} {p pos:Pos} (hg:Gl X "enumerate") (hm:X.mg "enumerate" = none) (ha:PA X [a] ta) (hs:starEach [a] X.env=[(false,eval a X.env)]:=by rfl) :
 PI X (.Tuple es x1 tp) (.Call (.Name "enumerate" p) [a] [] pos) (Zp9 X.K ta):=by
 intro pins s σ H R I h;refine Call_ (Zbe I hg hm Zew (n51_ (thn (ha pos pins s σ H _ I h) fun us s1 ⟨vs,H1,I1,r1,q1⟩=>?_) hs rfl));obtain ⟨a,k,e,⟨xs,hx⟩,q⟩:=q1;subst e;cases r1 with
 | cons r rr =>
   cases rr
   cases r
   obtain ⟨us,ru,pu⟩:=hx.is I1;have la:a < s1.heap.objs.size:=by obtain ⟨_,_,e,_⟩:=pu.ex; exact n13_ e
   refine Zgd pu fun h1 m1 m4 m7=>wpAny_pyIter_enum m1 ?_;have I2:Inv X pins σ H1 { s1 with heap:=h1,toks:=s1.toks }:=I1.kept m7;obtain ⟨z1,z2,z3⟩:=ne3 la;refine ⟨_,_,_,_,H1,rfl,I2,Zgi (e:=s1.heap.objs.size+1) (it:=s1.heap.objs.size) (k:=k) (a:=a) z1 z2 z3,⟨⟨_,m1⟩,m4⟩,?_,q⟩
   exact I1.fps (fp:=[s1.heap.objs.size+1,s1.heap.objs.size]) (by
    intro e he;simp only [n18_,n25_,or_false] at he
    rcases he with rfl | rfl
    · exact Nat.le_succ _
    · exact n5_ _)
end
def rIxA (K:PySem.W.Frag):R2:=fun x y H Q=>∃ (p:Addr) (xs:List V) (i:Int) (v:V) (k:SK),x=.ref p∧y=.int i∧k.Sq K H p xs∧atI xs i=some v∧Q v H
theorem Zl7 (K:PySem.W.Frag) {X:Cx} (h:X.K=K):IxR X (rIxA K):=by
 subst h;intro value slice pins s σ H x y v u Q I rx ry q hs;obtain ⟨p,xs,i,w,k,e1,e2,hq,he,q⟩:=q;cases k with
 | l=>exact Z9 value slice pins s σ H x y v u Q I rx ry ⟨p,xs,i,w,e1,e2,hq,he,q⟩ hs
 | t=>exact Zbv value slice pins s σ H x y v u Q I rx ry ⟨p,xs,i,w,e1,e2,hq,he,q⟩ hs
def Itv (K:PySem.W.Frag) (a:Addr) (n:Nat):It :=
 ⟨fun i H=>∃ xs x,SqL K H a xs∧i < n∧xs[n - 1 - i]? = some x,fun i H v H'=>H'=H∧∀ xs,SqL K H a xs→xs[n - 1 - i]? = some v,fun i _=>i=n⟩
theorem Znn {P:Program} {w:World} {K:PySem.W.Frag} {tg:Expr} (a it:Addr) (n:Nat):Turn P w K tg (Itv K a n) [it] it (fun i h=>h.IsRevIter it a ((n:Int) - 1 - i)) where
 mem:=by simp
 obj:=fun i h st b hb=>by
  have e:b=it:=by simpa using hb
  subst e;obtain ⟨o,e,c,d⟩:=st;exact ⟨o,e,fun v z=>by rw [d] at z; cases z⟩
 keep:=fun i h h' st k=>st.at fun o e=>k it (by simp) o e
 item:=by
  intro X hP hw hK hc i pins s σ H E I hf st hg;subst hP hw hK;obtain ⟨xs,x,hq,hi,hx⟩:=hg;obtain ⟨its,rv,p,hz⟩:=I.list hq;obtain ⟨u,hu,ru⟩:=rv.get hx;obtain ⟨f0,f1,f2,f3,f4,f5⟩:=hf it (by simp);have ej:(n:Int) - 1 - i=((n - 1 - i:Nat):Int):=by omega
  rw [ej] at st;refine wpAny_pyNext_rev_item st p.isList (x:=u) (by simpa using hu) fun h' st' sb=>?_;have I1:Inv X pins σ H { s with heap:=h' }:=I.turned (t':=s.toks) (fun b o hb e=>(sb.2 b hb).trans e) f0 f1 f3 f4 f5;obtain ⟨o,e,c,d⟩:=id st';exact ⟨u,rfl,Zmw (s:={ s with heap:=h' }) e c d (by decide) ⟨x,H,I1,ru,⟨rfl,fun ys hy=>by rw [I.list_inj hy hq]; exact hx⟩,by rw [show (n:Int) - 1 - ((i+1:Nat):Int)=((n - 1 - i:Nat):Int) - 1 by omega]; exact st',fun b hb=>(hf b hb).1⟩⟩
 done:=by
  intro X hP hw hK hc i pins s σ H E I hf st hg;subst hP hw hK;obtain ⟨f0,f1,f2,f3,f4,f5⟩:=hf it (by simp);have e:i=n:=hg;rw [show (n:Int) - 1 - (i:Int) = -1 by omega] at st;exact wpAny_pyNext_rev_end (I.ok.hd hc) st fun h' eb=>⟨rfl,I.turned (t':=s.toks) (fun b o hb e=>eb b o hb e) f0 f1 f3 f4 f5⟩
 self:=fun _ _ _ _ _ st h=>wpAny_pyIter_revIter st h
section
variable {X:Cx} {tg:Expr}
def iRev (K:PySem.W.Frag) (ta:TA):TI:=fun σ H R=>ta σ H fun vs H1=>∃ (a:Addr) (xs:List V),vs=[.ref a]∧SqL K H1 a xs∧R (Itv K a xs.length) H1
theorem Zqe {a:Expr} {ta:TA} {p pos:Pos} (hg:Gl X "reversed") (hm:X.mg "reversed" = none) (hb:bootBuiltins "reversed" = some (.type "reversed")) (ha:PA X [a] ta) (hs:starEach [a] X.env=[(false,eval a X.env)]:=by rfl) :
 PI X tg (.Call (.Name "reversed" p) [a] [] pos) (iRev X.K ta):=by
 intro pins s σ H R I h;refine Call_ (Zbe I hg hm hb (n51_ (thn (ha pos pins s σ H _ I h) fun us s1 ⟨vs,H1,I1,r1,q1⟩=>?_) hs rfl));obtain ⟨a,xs,e,hx,q⟩:=q1;subst e;cases r1 with
 | cons r rr =>
   cases rr
   cases r
   obtain ⟨its,rv,pl,hz⟩:=I1.list hx;refine call_reversed_list pl.isList ?_;have en:(its.toArray.size:Int) - 1=(xs.length:Int) - 1 - ((0:Nat):Int):=by rw [n7_,rv.length]; omega
   refine wpAny_pyIter_revIter (i:=(its.toArray.size:Int) - 1) ⟨_,n11_ _ rfl,rfl,rfl⟩ ?_;refine ⟨s1.heap.objs.size,[s1.heap.objs.size],_,_,H1,rfl,I1.kept (t':=s1.toks) fun b o e=>n2_ _ e,Znn a _ xs.length,?_,fun b hb=>?_,q⟩
   · rw [← en];exact ⟨_,n11_ _ rfl,rfl,rfl⟩
   · have e:b=s1.heap.objs.size:=by simpa using hb
     subst e;exact I1.fpOk (n5_ _) (I1.hok.fresh (n5_ _))
end
section
variable {X:Cx}
theorem Zi3:OpR X (inplaceOp .Mult) (rI CMulB fun i j=>.int (i * j)):=opI fun _ _ _ _ _ _ _ hc q=>imul_int q hc.ok
theorem Zly:OpR X (inplaceOp .FloorDiv) (rI Zpw fun i j=>.int (i.fdiv j)):=opI fun _ _ _ _ _ _ _ hc q=>ifloordiv_int hc.1 q (.inl (PyProof.noPylong_of_log2 (Nat.lt_trans (Zkg hc.2 (by decide)) (by decide))))
end
theorem Zm2 (K:PySem.W.Frag) {X:Cx} (h:X.K=K):SlR X (rSlL K):=h ▸ Zh0
end L2
namespace L2
def gl (k:Int) (ps:List Int):Nat:=ps.foldl (fun c p=>Int.gcd p c) k.natAbs
theorem Zof:∀ ps:List Int,ps.foldl (fun c p=>Int.gcd p (c:Int)) 1=1
 | []=>rfl
 | p :: ps=>by rw [List.foldl_cons,show Int.gcd p ((1:Nat):Int)=1 from Int.gcd_one_right ..]; exact Zof ps
theorem Zph {k p:Int} {ps:List Int}:gl k (ps++[p])=Int.gcd p (gl k ps):=by unfold gl; rw [n63_]; rfl
theorem Zhj {k:Int} {ps:List Int} {i:Nat} (h:gl k (ps.take i)=1):gl k ps=1:=by
 have:gl k ps=(ps.drop i).foldl (fun c p=>Int.gcd p (c:Int)) (gl k (ps.take i)):=by
  unfold gl; rw [← n63_,List.take_append_drop]
 rw [this,h]; exact Zof _
theorem Zoc {k:Int} (hk:k≠0):∀ ps:List Int,0 < gl k ps∧gl k ps≤k.natAbs:=fun ps=>by
 have:∀ (ps:List Int) (c:Nat),0 < c→0 < ps.foldl (fun c p=>Int.gcd p (c:Int)) c∧ps.foldl (fun c p=>Int.gcd p (c:Int)) c≤c:=by
  intro ps
  induction ps with
  | nil=>intro c h; exact ⟨h,n5_ _⟩
  | cons p ps ih =>
    intro c h;have h1:0 < Int.gcd p (c:Int):=Nat.gcd_pos_of_pos_right _ (by simpa using h);have h2:Int.gcd p (c:Int)≤c:=Nat.le_of_dvd h (Nat.gcd_dvd_right p.natAbs (c:Int).natAbs);rw [List.foldl_cons];exact ⟨(ih _ h1).1,n24_ (ih _ h1).2 h2⟩
 exact this ps _ (Int.natAbs_pos.mpr hk)
theorem Zmd {ps:List Int} {n:Nat} (h:∀ p∈ps,p.natAbs < 2 ^ n):gl 0 ps < 2 ^ n:=by
 have:∀ (ps:List Int) (c:Nat),c < 2 ^ n→(∀ p∈ps,p.natAbs < 2 ^ n)→ps.foldl (fun c p=>Int.gcd p (c:Int)) c < 2 ^ n:=by
  intro ps
  induction ps with
  | nil=>intro c hc _; exact hc
  | cons p ps ih =>
    intro c hc hp;rw [List.foldl_cons];refine ih _ ?_ fun q hq=>hp q (n12_ _ hq)
    by_cases h0:p=0
    · subst h0;rw [Int.gcd_zero_left]; simpa using hc
    · exact n20_ (Nat.le_of_dvd (Int.natAbs_pos.mpr h0) (Nat.gcd_dvd_left ..)) (hp p n15_)
 exact this ps 0 (Nat.two_pow_pos n) h
def lcmL (ds:List Int):Int:=ds.foldl (fun m b=>m.fdiv (Int.gcd m b:Int) * b) 1
theorem Zc9 {ds:List Int} {b:Int}:lcmL (ds++[b])=(lcmL ds).fdiv (Int.gcd (lcmL ds) b:Int) * b:=by unfold lcmL; rw [n63_]; rfl
theorem Xq {g k:Int} (h:g≠0):(g * k).fdiv g=k:=by rw [n49_]; exact FM.fdiv_mul h
theorem Zc5 {m b:Int} (hm:0 < m) (hb:0 < b):0 < m.fdiv (Int.gcd m b:Int) * b∧m ∣ m.fdiv (Int.gcd m b:Int) * b∧b ∣ m.fdiv (Int.gcd m b:Int) * b∧(m.fdiv (Int.gcd m b:Int)).natAbs≤m.natAbs∧∀ c:Int,m ∣ c→b ∣ c→m.fdiv (Int.gcd m b:Int) * b ∣ c:=by
 have hg:(0:Int) < Int.gcd m b:=by have:=FM.gcd_ne (t:=m) (b:=b) (by omega); omega
 have h4:Int.gcd m b * Int.lcm m b=(m * b).natAbs:=(Int.gcd_mul_lcm m b).trans (n50_ m b).symm;have l0:∀ c:Int,m ∣ c→b ∣ c→(Int.lcm m b:Int) ∣ c:=fun c h1 h2=>Int.coe_lcm_dvd h1 h2;obtain ⟨k,hk⟩:=Int.gcd_dvd_left m b;obtain ⟨j,hj⟩:=n64_ m b
 have e2:((Int.gcd m b:Int)) * (Int.lcm m b:Int)=m * b:=by
  have:((Int.gcd m b * Int.lcm m b:Nat):Int)=m * b:=by
   rw [h4]; exact Int.natAbs_of_nonneg (Int.le_of_lt (Int.mul_pos hm hb))
  rwa [Int.natCast_mul] at this
 generalize (Int.gcd m b:Int)=g at *;have e:m.fdiv g=k:=by rw [hk]; exact Xq (by omega)
 rw [e]
 have kp:0 < k:=by
  refine Int.pos_of_mul_pos_left (b:=g) ?_ hg;rw [n49_,← hk]; exact hm
 refine ⟨Int.mul_pos kp hb,⟨j,?_⟩,⟨k,n49_ _ _⟩,?_,fun c h1 h2=>?_⟩
 · rw [hj,hk]; grind
 · rw [hk,n50_]; exact Nat.le_mul_of_pos_left _ (by omega)
 · have e3:g * (Int.lcm m b:Int)=g * (k * b):=by rw [e2,← Int.mul_assoc,← hk]
   rw [← Int.eq_of_mul_eq_mul_left (by omega) e3];exact l0 c h1 h2
theorem Xj:∀ (ds:List Int),(∀ x∈ds,0 < x)→0 < lcmL ds∧(∀ x∈ds,x ∣ lcmL ds)∧∀ c:Int,(∀ x∈ds,x ∣ c)→lcmL ds ∣ c:=fun ds=>by
 have:∀ (ds:List Int) (m:Int),0 < m→(∀ x∈ds,0 < x)→0 < ds.foldl (fun m b=>m.fdiv (Int.gcd m b:Int) * b) m∧m ∣ ds.foldl (fun m b=>m.fdiv (Int.gcd m b:Int) * b) m∧(∀ x∈ds,x ∣ ds.foldl (fun m b=>m.fdiv (Int.gcd m b:Int) * b) m)∧∀ c:Int,m ∣ c→(∀ x∈ds,x ∣ c)→ds.foldl (fun m b=>m.fdiv (Int.gcd m b:Int) * b) m ∣ c:=by
  intro ds
  induction ds with
  | nil=>intro m hm _; exact ⟨hm,Int.dvd_refl m,fun x hx=>(nomatch hx),fun c h _=>h⟩
  | cons b ds ih =>
    intro m hm hd;obtain ⟨l1,l2,l3,_,l5⟩:=Zc5 hm (hd b n15_);obtain ⟨i1,i2,i3,i4⟩:=ih _ l1 fun x hx=>hd x (n12_ _ hx);rw [List.foldl_cons];refine ⟨i1,Int.dvd_trans l2 i2,fun x hx=>?_,fun c h1 h2=>i4 c (l5 c h1 (h2 b n15_)) fun x hx=>h2 x (n12_ _ hx)⟩
    rcases n18_.mp hx with rfl | hx
    · exact Int.dvd_trans l3 i2
    · exact i3 x hx
 intro h;obtain ⟨a,_,b,c⟩:=this ds 1 (by decide) h;exact ⟨a,b,fun z hz=>c z (Int.one_dvd z) hz⟩
theorem Zdn {k:Nat}:∀ (ds:List Int),(∀ x∈ds,0 < x∧x.natAbs < 2 ^ k)→(lcmL ds).natAbs < 2 ^ (k * ds.length+1):=fun ds h=>by
 have:∀ (i:Nat),i≤ds.length→(lcmL (ds.take i)).natAbs < 2 ^ (k * i+1):=by
  intro i
  induction i with
  | zero=>intro _; rw [Nat.mul_zero,List.take_zero]; decide
  | succ i ih =>
    intro hi;have hm:=(Xj (ds.take i) fun x hx=>(h x (n46_ hx)).1).1;have hb:=h ds[i] (n41_ hi);rw [n32_ hi,Zc9];refine n9_ (FM.natAbs_mul_lt (n20_ (Zc5 hm hb.1).2.2.2.1 (ih (by omega))) hb.2) (n39_ (by decide) (by rw [Nat.mul_add]; omega))
 have:=this ds.length (n5_ _)
 rwa [n59_] at this
abbrev tops (qs:List Rat):List Int:=qs.map fun q=>q.num
abbrev bots (qs:List Rat):List Int:=qs.map fun q=>(q.den:Int)
def scl (qs:List Rat):Int×Int:=if gl 0 (tops qs)=0 then (1,1) else (lcmL (bots qs),(gl 0 (tops qs):Int))
def wh (qs:List Rat):List Int:=qs.map fun q=>q.num.fdiv (scl qs).2 * (scl qs).1.fdiv q.den
def prt (t m:Int) (own its:List Int):List Int:=List.zipWith (fun o i=>t * o - m * i) own its
def clr (pl:Nat) (hd:List Int) (x:Int×List Int):Int×List Int :=
 if x.2.getD pl 0=0 then x else (hd.getD pl 0,(prt (hd.getD pl 0) (x.2.getD pl 0) x.2 hd).map fun p=>p.fdiv (gl x.1 (prt (hd.getD pl 0) (x.2.getD pl 0) x.2 hd):Int))
abbrev abV (x:Int):Int:=if x < 0 then -x else x
def hds (ls:List (Int×List Int)) (pl:Nat):List Int:=(List.range ls.length).filterMap fun i=>if (ls.getD i (0,[])).2.getD pl 0=0 then none else some (i:Int)
def hkf (ls:List (Int×List Int)) (pl:Nat) (i:Int):Int:=abV ((ls.getD i.toNat (0,[])).2.getD pl 0)
theorem Zhu {ls:List (Int×List Int)} {pl:Nat} {i:Int} (h:i∈hds ls pl):∃ n:Nat,i=n∧n < ls.length∧(ls.getD n (0,[])).2.getD pl 0≠0:=by
 obtain ⟨n,hn,e⟩:=List.mem_filterMap.mp h;split at e
 · cases e
 · cases e; exact ⟨n,rfl,List.mem_range.mp hn,by assumption⟩
def Zay (ls:List (Int×List Int)) (pl:Nat):Option Nat:=match hds ls pl with
 | []=>none
 | x :: xs=>some (mk (hkf ls pl) x xs).toNat
theorem Zbp {ls:List (Int×List Int)} {pl n:Nat} (h:Zay ls pl=some n):n < ls.length∧(ls.getD n (0,[])).2.getD pl 0≠0:=by
 unfold Zay at h;split at h
 · cases h
 · rename_i x xs e
   have hm:mk (hkf ls pl) x xs∈hds ls pl:=by rw [e]; exact Znz xs
   obtain ⟨m,hm,h1,h2⟩:=Zhu hm;cases h
   rw [hm];exact ⟨h1,h2⟩
theorem Zk6 (ls:List (Int×List Int)) (pl:Nat):(Zay ls pl=none∧minV (hkf ls pl) (hds ls pl)=.non)∨∃ n:Nat,Zay ls pl=some n∧minV (hkf ls pl) (hds ls pl)=.int n:=by
 unfold Zay;split
 · rename_i e; left; rw [e]; exact ⟨rfl,rfl⟩
 · rename_i x xs e
   right
   have hm:mk (hkf ls pl) x xs∈hds ls pl:=by rw [e]; exact Znz xs
   obtain ⟨m,hm,_⟩:=Zhu hm;refine ⟨_,rfl,?_⟩;rw [e];show V.int (mk (hkf ls pl) x xs)=_
   rw [hm]; rfl
abbrev Stt:=List (Nat×List Int)×List (Int×List Int)
def stp1 (st:Stt) (pl:Nat):Stt:=match Zay st.2 pl with
 | none=>st
 | some at_=>(st.1++[(pl,(st.2.getD at_ (0,[])).2)],(st.2.eraseIdx at_).map (clr pl (st.2.getD at_ (0,[])).2))
def stp (lines:List (List Int)) (n:Nat):Stt:=(List.range n).foldl stp1 ([],lines.map fun l=>(1,l))
theorem Zjh {lines:List (List Int)} {n:Nat}:stp lines (n+1)=stp1 (stp lines n) n:=by unfold stp; rw [List.range_succ,n63_]; rfl
theorem Zb3 {lines:List (List Int)} {n:Nat} (h:Zay (stp lines n).2 n=none):stp lines (n+1)=stp lines n:=by rw [Zjh]; unfold stp1; rw [h]
theorem Zc2 {lines:List (List Int)} {n a:Nat} (h:Zay (stp lines n).2 n=some a):stp lines (n+1)=((stp lines n).1++[(n,((stp lines n).2.getD a (0,[])).2)],((stp lines n).2.eraseIdx a).map (clr n ((stp lines n).2.getD a (0,[])).2)):=by rw [Zjh]; unfold stp1; rw [h]
def levI (m:Int) (q:Rat):Int:=q.num * m.fdiv q.den
def lvd (qs:List Rat):List Int:=qs.map (levI (lcmL (bots qs)))
theorem Zf4 (q:Rat):q=(q.num:Rat) / (q.den:Rat):=by
 have:=Rat.mkRat_self q
 rw [Rat.mkRat_eq_div] at this;exact this.symm
theorem Zi5 (q:Rat):(q.den:Rat)≠0:=fun z=>q.den_nz (by exact_mod_cast z)
theorem Zld {m:Int} {q:Rat} (h:(q.den:Int) ∣ m):(levI m q:Rat)=q * m:=by
 obtain ⟨k,rfl⟩:=h;unfold levI;rw [n49_ (q.den:Int),FM.fdiv_mul (FM.den_ne q)];have e:=Zf4 q;have hd:=Zi5 q;rw [n38_,n38_];generalize (q.num:Rat)=n at *;have hd2:((q.den:Int):Rat)=(q.den:Rat):=by first | rfl | exact Rat.intCast_natCast _
 rw [hd2];generalize (q.den:Rat)=dd at *;rw [e]
 grind
theorem Xy (qs:List Rat):∀ x∈bots qs,0 < x:=fun x hx=>by
 obtain ⟨q,hq,rfl⟩:=n29_.mp hx;exact FM.den_pos q
theorem Zlb {qs:List Rat} {q:Rat} (h:q∈qs):(q.den:Int) ∣ lcmL (bots qs):=(Xj _ (Xy qs)).2.1 _ (n29_.mpr ⟨q,h,rfl⟩)
theorem Xw {a:Int} (h:a≠0):(a:Rat)≠0:=fun z=>h (by exact_mod_cast z)
theorem Zdd (a b:Int):Rat.divInt a b=(a:Rat) / (b:Rat):=by rw [Rat.divInt_eq_div]
def dotQ (ws:List Int) (qs:List Rat):Rat:=(List.zipWith (fun (w:Int) (q:Rat)=>(w:Rat) * q) ws qs).sum
theorem Zk8 {m:Int}:∀ (ws:List Int) (qs:List Rat),(∀ q∈qs,(q.den:Int) ∣ m)→(((List.zipWith (fun w q=>w * levI m q) ws qs).sum:Int):Rat)=dotQ ws qs * m
 | [],_,_=>by simp [dotQ,Rat.zero_mul]
 | _ :: _,[],_=>by simp [dotQ,Rat.zero_mul]
 | w :: ws,q :: qs,h=>by
   have ih:=Zk8 ws qs fun x hx=>h x (n12_ _ hx);have e:=Zld (h q n15_);unfold dotQ at *;simp only [List.zipWith_cons_cons,List.sum_cons];rw [Rat.intCast_add,ih,n38_,e]
   grind
def mxd (ws:List Int) (qs:List Rat) (b:Int):Rat:=dotQ ws qs / (b:Rat)
theorem Zqp {ws:List Int} {qs:List Rat} {b:Int} (hb:b≠0):Rat.divInt (List.zipWith (fun w t=>w * t) ws (lvd qs)).sum (lcmL (bots qs) * b)=mxd ws qs b:=by
 have h0:=(Xj _ (Xy qs)).1
 have e:(List.zipWith (fun w t=>w * t) ws (lvd qs))=List.zipWith (fun w q=>w * levI (lcmL (bots qs)) q) ws qs:=by
  unfold lvd; rw [List.zipWith_map_right]
 rw [e,Zdd,Zk8 ws qs fun q hq=>Zlb hq,n38_];unfold mxd;have h1:=Xw (show lcmL (bots qs)≠0 by omega);have h2:=Xw hb;generalize dotQ ws qs=x;generalize (lcmL (bots qs):Rat)=m at *;generalize (b:Rat)=c at *
 grind
def trm (pl:Nat) (line:List Int) (xs:List Rat):List (Int×Rat):=((line.drop (pl+1)).zip (xs.drop (pl+1))).filter fun p=>p.1 != 0 && p.2.num != 0
def sumT (ts:List (Int×Rat)):Rat:=(ts.map fun p=>(p.1:Rat) * p.2).sum
def putQ (pl:Nat) (line:List Int) (xs:List Rat):Rat:=((line.getLastD 0:Int) - sumT ((line.drop (pl+1)).zip (xs.drop (pl+1)))) / (line.getD pl 0:Int)
theorem Zm0 (l:List (Int×Rat)):sumT (l.filter fun p=>p.1 != 0 && p.2.num != 0)=sumT l:=by
 induction l with
 | nil=>rfl
 | cons p l ih =>
   unfold sumT at *;rw [List.filter_cons];split
   · simp only [List.map_cons,List.sum_cons,ih]
   · rename_i h
     rw [ih,List.map_cons,List.sum_cons]
     have z:(p.1:Rat) * p.2=0:=by
      by_cases h1:p.1=0
      · rw [h1]; simp
      · have h2:p.2.num=0:=by
         have:¬ (p.1 != 0 && p.2.num != 0)=true:=h
         simp only [n22_,bne_iff_ne,ne_eq,not_and,Classical.not_not] at this;exact this h1
        rw [Rat.num_eq_zero.mp h2]; simp
     rw [z,Rat.zero_add]
theorem Zlj {m:Int}:∀ (ts:List (Int×Rat)),(∀ p∈ts,(p.2.den:Int) ∣ m)→(((ts.map fun p=>p.1 * p.2.num * m.fdiv p.2.den).sum:Int):Rat)=sumT ts * m
 | [],_=>by simp [sumT,Rat.zero_mul]
 | p :: ts,h=>by
   have ih:=Zlj ts fun x hx=>h x (n12_ _ hx);have e:=Zld (h p n15_);unfold sumT at *;unfold levI at e;simp only [List.map_cons,List.sum_cons];rw [Rat.intCast_add,ih,Int.mul_assoc,n38_,e]
   grind
theorem Zot {pl:Nat} {line:List Int} {xs:List Rat} {B:Int} (hB:B=lcmL (bots ((trm pl line xs).map Prod.snd))) (h:line.getD pl 0≠0) :
 Rat.divInt (B * line.getLastD 0 - ((trm pl line xs).map fun p=>p.1 * p.2.num * B.fdiv p.2.den).sum) (B * line.getD pl 0)=putQ pl line xs:=by
 have h0:0 < B:=by rw [hB]; exact (Xj _ (Xy _)).1
 have hd:∀ p∈trm pl line xs,(p.2.den:Int) ∣ B:=fun p hp=>by rw [hB]; exact Zlb (n29_.mpr ⟨p,hp,rfl⟩)
 rw [Zdd,Rat.intCast_sub,Zlj _ hd,n38_,n38_];unfold putQ;rw [show sumT (trm pl line xs)=sumT ((line.drop (pl+1)).zip (xs.drop (pl+1))) from Zm0 _];have h1:=Xw (show B≠0 by omega);have h2:=Xw h;generalize sumT _=x;generalize (B:Rat)=m at *;generalize ((line.getD pl 0:Int):Rat)=c at *;generalize ((line.getLastD 0:Int):Rat)=d at *
 grind
def fil (steps:List (Nat×List Int)) (xs:List Rat):List Rat:=steps.foldr (fun st xs=>xs.set st.1 (putQ st.1 st.2 xs)) xs
def fct (ds:List Int):Int×List Int:=ds.foldl (fun p b=>if 1 < b.fdiv (Int.gcd p.1 b:Int) then (p.1 * b.fdiv (Int.gcd p.1 b:Int),p.2++[b.fdiv (Int.gcd p.1 b:Int)]) else p) (1,[])
def Zcl (fs:List Int):Int:=fs.foldl (· * ·) 1
theorem Zeg {fs:List Int} {f:Int}:Zcl (fs++[f])=Zcl fs * f:=by unfold Zcl; rw [n63_]; rfl
theorem Znu:∀ (ds:List Int),(∀ x∈ds,0 < x)→(fct ds).1=lcmL ds∧Zcl (fct ds).2=lcmL ds∧∀ f∈(fct ds).2,0 < f∧∃ d∈ds,f ∣ d:=fun ds=>by
 suffices H:∀ i,i≤ds.length→(∀ x∈ds,0 < x)→(fct (ds.take i)).1=lcmL (ds.take i)∧Zcl (fct (ds.take i)).2=lcmL (ds.take i)∧∀ f∈(fct (ds.take i)).2,0 < f∧∃ d∈ds,f ∣ d by
  intro h; have:=H ds.length (n5_ _) h; rwa [n59_] at this
 intro i
 induction i with
 | zero=>intro _ _; exact ⟨rfl,rfl,fun f hf=>nomatch hf⟩
 | succ i ih =>
   intro hi h;obtain ⟨i1,i2,i3⟩:=ih (by omega) h;have hb:=h ds[i] (n41_ hi);have hm:=(Xj (ds.take i) fun x hx=>h x (n46_ hx)).1
   have e:fct (ds.take i++[ds[i]])=if 1 < ds[i].fdiv (Int.gcd (fct (ds.take i)).1 ds[i]:Int) then ((fct (ds.take i)).1 * ds[i].fdiv (Int.gcd (fct (ds.take i)).1 ds[i]:Int),(fct (ds.take i)).2++[ds[i].fdiv (Int.gcd (fct (ds.take i)).1 ds[i]:Int)]) else fct (ds.take i):=by
    unfold fct; rw [n63_]; rfl
   rw [n32_ hi,e,i1,Zc9];generalize lcmL (ds.take i)=m at *;generalize hbb:ds[i]=b at *;have hg:(0:Int) < Int.gcd m b:=by have:=FM.gcd_ne (t:=m) (b:=b) (by omega); omega
   obtain ⟨k,hk⟩:=Int.gcd_dvd_left m b;obtain ⟨j,hj⟩:=n64_ m b;have mem:b∈ds:=by rw [← hbb]; exact n41_ hi
   generalize (Int.gcd m b:Int)=g at *;have e1:m.fdiv g=k:=by rw [hk]; exact Xq (by omega)
   have e2:b.fdiv g=j:=by rw [hj]; exact Xq (by omega)
   rw [e1,e2]
   have jp:0 < j:=by
    refine Int.pos_of_mul_pos_left (b:=g) ?_ hg;rw [n49_,← hj]; exact hb
   have eq:m * j=k * b:=by rw [hk,hj]; grind
   split
   · refine ⟨eq,by rw [Zeg,i2,eq],fun f hf=>?_⟩
     rcases n34_.mp hf with hf | hf
     · exact i3 f hf
     · rw [n8_.mp hf];exact ⟨jp,b,mem,⟨g,by rw [hj]; grind⟩⟩
   · have:j=1:=by omega
     subst this;rw [Int.mul_one] at eq;rw [← eq];exact ⟨i1,i2,i3⟩
theorem Zm5 {q:Rat} {f:Int} (hf:0 < f):(q / (f:Rat)).num=q.num.fdiv (Int.gcd q.num f:Int)∧((q / (f:Rat)).den:Int)=q.den * f.fdiv (Int.gcd q.num f:Int):=by
 have hg:(0:Int) < Int.gcd q.num f:=by have:=FM.gcd_ne (t:=q.num) (b:=f) (by omega); omega
 obtain ⟨k,hk⟩:=Int.gcd_dvd_left q.num f;obtain ⟨j,hj⟩:=n64_ q.num f
 have cop:Int.gcd k j=1:=by
  have h:=Int.gcd_mul_left (Int.gcd q.num f:Int) k j;rw [← hk,← hj] at h;have hn:(Int.gcd q.num f:Int).natAbs=Int.gcd q.num f:=by simp
  rw [hn] at h;have h0:0 < Int.gcd q.num f:=by omega
  exact Nat.eq_of_mul_eq_mul_left h0 (by rw [Nat.mul_one]; exact h.symm)
 have cop2:Int.gcd k (q.den:Int)=1:=by
  have h:=FM.gcd_one q
  have hd:Int.gcd k (q.den:Int) ∣ Int.gcd q.num (q.den:Int):=by
   refine Int.dvd_gcd ?_ (n64_ ..);rw [hk];exact Int.dvd_trans (Int.gcd_dvd_left ..) ⟨(Int.gcd q.num f:Int),by rw [n49_]⟩
  rw [h] at hd;exact Nat.dvd_one.mp hd
 generalize hgg:(Int.gcd q.num f:Int)=g at *;have e1:q.num.fdiv g=k:=by rw [hk]; exact Xq (by omega)
 have e2:f.fdiv g=j:=by rw [hj]; exact Xq (by omega)
 rw [e1,e2]
 have jp:0 < j:=by
  refine Int.pos_of_mul_pos_left (b:=g) ?_ hg;rw [n49_,← hj]; exact hf
 have dp:=FM.den_pos q
 have cop3:Int.gcd k (q.den * j)=1:=by
  have h1:Nat.Coprime k.natAbs (q.den:Int).natAbs:=cop2;have h2:Nat.Coprime k.natAbs j.natAbs:=cop;show Nat.gcd k.natAbs ((q.den:Int) * j).natAbs=1
  rw [n50_];exact Nat.Coprime.mul_right h1 h2
 have eq:q / (f:Rat)=Rat.divInt k (q.den * j):=by
  rw [Zdd,n38_];have e:=Zf4 q;have hd:=Zi5 q;have hd2:((q.den:Int):Rat)=(q.den:Rat):=by first | rfl | exact Rat.intCast_natCast _
  rw [hd2];have hgq:(g:Rat)≠0:=Xw (by omega);have hjq:(j:Rat)≠0:=Xw (by omega);have n1:(q.num:Rat)=(g:Rat) * (k:Rat):=by rw [hk,n38_]
  have f1:(f:Rat)=(g:Rat) * (j:Rat):=by rw [hj,n38_]
  rw [f1];rw [n1] at e;generalize (q.den:Rat)=dd at *;rw [e];generalize (g:Rat)=G at *;generalize (k:Rat)=K at *;generalize (j:Rat)=J at *
  grind
 have mk:=FM.fdiv_num (t:=k) (b:=q.den * j) (Int.ne_of_gt (Int.mul_pos dp jp));have md:=FM.fdiv_den (t:=k) (b:=q.den * j) (Int.ne_of_gt (Int.mul_pos dp jp))
 have sg:FM.sg k (q.den * j)=1:=by
  unfold FM.sg;rw [if_neg (by have:=Int.mul_pos dp jp; omega),cop3]; rfl
 rw [sg] at mk md;rw [eq];exact ⟨by rw [← mk]; exact Int.fdiv_one _,by rw [← md]; exact Int.fdiv_one _⟩
theorem Zm4 {q:Rat} {fs:List Int} {f:Int} (h:∀ x∈fs++[f],0 < x):q / (Zcl (fs++[f]):Rat)=q / (Zcl fs:Rat) / (f:Rat):=by
 rw [Zeg,n38_];generalize (Zcl fs:Rat)=a;generalize (f:Rat)=b
 grind
def wid (rows:List (List Rat)):Nat:=match rows with
 | []=>0
 | r :: _=>r.length
def rtv (rows:List (List Rat)) (rights:List Rat):List Rat:=List.zipWith (fun row r=>mxd [(scl row).1] [r] (scl row).2) rows rights
def lns (rows:List (List Rat)) (rights:List Rat):List (List Int):=List.zipWith (fun row t=>wh row++[t]) rows (lvd (rtv rows rights))
def stF (rows:List (List Rat)) (rights:List Rat):Stt:=stp (lns rows rights) (wid rows)
def slv (rows:List (List Rat)) (rights:List Rat):Option (List Rat):=if (stF rows rights).2.any (fun x=>x.2.getD (wid rows) 0 != 0) then none else some ((fil (stF rows rights).1 (List.replicate (wid rows) 0)).map fun x=>x / (Zcl (fct (bots (rtv rows rights))).2:Rat))
def tkn (rows:List (List Rat)) (rights:List Rat):List Nat:=(stF rows rights).1.map Prod.fst
def cols (rows:List (List Rat)) (taken:List Nat):List (List Rat):=taken.map fun p=>rows.map fun r=>r.getD p 0
def mixM (rows:List (List Rat)) (rights:List Rat) (taken:List Nat):Option (List Rat):=slv (cols rows taken++[rights]) (List.replicate taken.length 0++[1])
theorem Zlc (qs:List Rat):(wh qs).length=qs.length:=by simp [wh]
end L2
theorem L2.gen_upd {H H1:L2.Hp} {p:PySem.Addr} {o:L2.HO} (g:L2.upd H p o=H1) (n:H p=none):L2.Same H H1∧H1 p=some o:=g▸⟨L2.Same.new n,L2.Zc⟩
namespace My
open PySem PySem.Spec PyProof.Rows L2
def top (i:Nat):Stmt:=PySem.Challenge.pw_platerest_k12_rows_refused.main.body.getD i (.Pass ⟨0,0,0,0⟩)
theorem Zep:bootBuiltins "abs" = some (.builtin "abs"):=by decide +kernel
theorem Zbu:bootBuiltins "all" = some (.builtin "all"):=by decide +kernel
theorem Zqu:bootBuiltins "any" = some (.builtin "any"):=by decide +kernel
theorem Zlt:bootBuiltins "bool" = some (.type "bool"):=by decide +kernel
theorem Zl2:bootBuiltins "int" = some (.type "int"):=by decide +kernel
theorem Zf:bootBuiltins "isinstance" = some (.builtin "isinstance"):=by decide +kernel
theorem Xh:bootBuiltins "len" = some (.builtin "len"):=by decide +kernel
theorem Zdy:bootBuiltins "list" = some (.type "list"):=by decide +kernel
theorem Znt:bootBuiltins "max" = some (.builtin "max"):=by decide +kernel
theorem Zll:bootBuiltins "min" = some (.builtin "min"):=by decide +kernel
theorem Zk5:bootBuiltins "repr" = some (.builtin "repr"):=by decide +kernel
theorem Zia:bootBuiltins "reversed" = some (.type "reversed"):=by decide +kernel
theorem Zl1:bootBuiltins "sum" = some (.builtin "sum"):=by decide +kernel
theorem Yp:bootBuiltins "tuple" = some (.type "tuple"):=by decide +kernel
structure Bt (mg:Str→Option Value):Prop where
 b_abs:mg "abs" = none
 b_all:mg "all" = none
 b_any:mg "any" = none
 b_bool:mg "bool" = none
 b_enumerate:mg "enumerate" = none
 b_int:mg "int" = none
 b_isinstance:mg "isinstance" = none
 b_len:mg "len" = none
 b_list:mg "list" = none
 b_max:mg "max" = none
 b_min:mg "min" = none
 b_range:mg "range" = none
 b_repr:mg "repr" = none
 b_reversed:mg "reversed" = none
 b_sum:mg "sum" = none
 b_tuple:mg "tuple" = none
 b_zip:mg "zip" = none
 n_GREAT_BITS:∃ t,mg "GREAT_BITS" = some (.int 4000 t)
 n_MOST_ROWS:∃ t,mg "MOST_ROWS" = some (.int 60 t)
abbrev rt (q:Rat):List V:=[.int q.num,.int q.den]
def Zjf:Sp:=fun vs H Q _=>∃ a b:Int,vs=[.int a,.int b]∧Q (.int (Int.gcd a b)) H
def Zel:Sp:=fun vs H Q _=>∃ a b:Int,vs=[.int a,.int b]∧b.natAbs < 2 ^ 4000∧Q (.int (Int.gcd a b)) H
theorem Xm {a n:Nat} (h:a < 2 ^ 64) (hn:64≤n:=by decide):a < 2 ^ n:=n9_ h (n39_ (by decide) hn)
theorem Zn5 {a:Nat} (h:a < 2 ^ 4000):a < 2 ^ 8999:=n9_ h (n39_ (by decide) (by decide))
theorem Zox {x y:Int} (h:y.natAbs < 2 ^ 4000):decide ((4000:Int) < if (Builtin.Int.intBits y:Int) < (Builtin.Int.intBits x:Int) then (Builtin.Int.intBits y:Int) else (Builtin.Int.intBits x:Int))=false:=by
 have:=Zh5 h (by decide)
 refine n14_ ?_;split <;> omega
def Zen:Sp:=fun vs H Q _=>∃ t b:Int,vs=[.int t,.int b]∧b≠0∧b.natAbs < 2 ^ 4000∧∀ (p:Addr) (H':Hp),Same H H'→H' p=some (.tup (rt (Rat.divInt t b)))→Q (.ref p) H'
def StAt (H:Hp) (l:Addr):Prop:=∃ s0 s1 s2:Int,H l=some (.lst [.int s0,.int s1,.int s2])∧0≤s1∧s1 < 4294967296
theorem StAt.keep {H H':Hp} {l m:Addr} (s:StAt H l) (k:Keep m H H') (n:l≠m):StAt H' l:=by
 obtain ⟨a,b,c,h,r⟩:=s;exact ⟨a,b,c,k _ _ n h,r⟩
theorem StAt.same {H H':Hp} {l:Addr} (s:StAt H l) (k:Same H H'):StAt H' l:=by
 obtain ⟨a,b,c,h,r⟩:=s;exact ⟨a,b,c,k _ _ h,r⟩
theorem StAt.new {H:Hp} {l p:Addr} {o:HO} (s:StAt H l) (h:H p=none):StAt (upd H p o) l:=by
 obtain ⟨a,b,c,e,r⟩:=s;exact ⟨a,b,c,by rw [Zo (Zk e h)]; exact e,r⟩
theorem StAt.ne {H:Hp} {l p:Addr} (s:StAt H l) (h:H p=none):l≠p:=by
 obtain ⟨a,b,c,e,r⟩:=s;exact Zk e h
theorem StAt.neT {H:Hp} {l p:Addr} {xs:List V} (s:StAt H l) (h:H p=some (.tup xs)):p≠l:=by
 obtain ⟨a,b,c,e,r⟩:=s;exact Zh2 h e (by intro z; cases z)
def Zma (K:PySem.W.Frag):Sp:=fun vs H Q _=>∃ (a:Addr) (ns:List Int) (k:Nat),vs=[.ref a,.int k]∧SqL K H a (ns.map V.int)∧∀ c:Int,Q (.int c) H
def Ziw (K:PySem.W.Frag):Sp:=fun vs H Q _=>∃ (a:Addr) (ns:List Int) (k:Nat),vs=[.ref a,.int k]∧SqL K H a (ns.map V.int) ∧
 ∀ (p:Addr) (H':Hp),H p=none→Same H H'→StAt H' p→Q (.ref p) H'
def Zg4:Sp:=fun vs H Q _=>∃ (l:Addr) (m:Int),vs=[.ref l,.int m]∧StAt H l∧0 < m∧m.natAbs < 2 ^ 8999∧∀ (r:Int) (H':Hp),0≤r→r < m→Keep l H H'→StAt H' l→Q (.int r) H'
def Znw:Sp:=fun vs H Q _=>∃ t b:Int,vs=[.int t,.int b]∧b≠0∧b.natAbs < 2 ^ 4000∧∀ (p:Addr) (H':Hp),Same H H'→H' p=some (.tup (rt (Rat.divInt t b)))→Q (.ref p) H'
theorem mulS {a b:Int} (ha:a.natAbs < 2 ^ 64) (hb:b.natAbs < 2 ^ 64):CMulB a b:=⟨n9_ ha (n39_ (by decide) (by decide)),n9_ hb (n39_ (by decide) (by decide))⟩
theorem p64:(2:Nat) ^ 64=18446744073709551616:=by decide
def Zb1:Sp:=fun vs H Q _=>∃ N k v d,vs=[v]∧Dt N H k v d∧Q (.bl (isI d)) H
def Zob:Sp:=fun vs H Q _=>∃ N k v d,vs=[v]∧Dt N H k v d∧k≤4000∧Q (.bl (isFr d)) H
def Zji:Sp:=fun vs H Q _=>∃ N k v d,vs=[v]∧Dt N H k v d∧k≤4000∧∀ H',Same H H'→Q (.bl (isFr d)) H'
theorem StAt.lst' {H:Hp} {l:Addr} (s:StAt H l):∃ ys,H l=some (.lst ys):=by
 obtain ⟨a,b,c,h,_⟩:=s;exact ⟨_,h⟩
theorem Dt.keepS {N:Addr→Prop} {l:Addr} {H H':Hp} {k:Nat} {v:V} {d:PyData} (hN:N l) (s:StAt H l) (h:Dt N H k v d) (q:Keep l H H'):Dt N H' k v d:=let ⟨_,e⟩:=s.lst'; h.keep hN e q
theorem Dts.keepS {N:Addr→Prop} {l:Addr} {H H':Hp} {k:Nat} {v:List V} {d:List PyData} (hN:N l) (s:StAt H l) (h:Dts N H k v d) (q:Keep l H H'):Dts N H' k v d:=let ⟨_,e⟩:=s.lst'; h.keep hN e q
theorem Zkr {i:Int} {k:Nat} (h:i.natAbs < 2 ^ k) (hk:k≤4000):i.natAbs < 2 ^ 4000:=n9_ h (n39_ (by decide) (by omega))
theorem Dom.keepS {N:Addr→Prop} {l:Addr} {H H':Hp} (h:Dom N H) (s:Keep l H H') (hl:StAt H' l):Dom N H':=let ⟨_,e⟩:=hl.lst'; h.keep s e
theorem dint {N:Addr→Prop} {H:Hp} {k:Nat} (i:Int) (hk:100≤k) (hi:i.natAbs < 2 ^ 100):Dt N H k (.int i) (.int i):=.int (n9_ hi (n39_ (by decide) hk))
theorem dt2 {N:Addr→Prop} {H:Hp} {k:Nat} {p:Addr} {i j:Int} (h:H p=some (.tup [.int i,.int j])) (hi:i.natAbs < 2 ^ k) (hj:j.natAbs < 2 ^ k):Dt N H k (.ref p) (.tuple [.int i,.int j]):=.tup h (.cons (.int hi) (.cons (.int hj) .nil))
theorem Zml {α:Type} {l:List α} {i:Nat} {x:α} (h:l[i]? = some x):i < l.length:=(n33_.mp h).1
abbrev RB:Hp→V→Bool→Prop:=fun _ v b=>v=V.bl b
theorem hRB:∀ H1 H2 v x,Tk H1 H2→RB H1 v x→RB H2 v x:=fun _ _ _ _ _ e=>e
abbrev RI:Hp→V→Int→Prop:=fun _ v b=>v=V.int b
theorem hRI:∀ H1 H2 v x,Tk H1 H2→RI H1 v x→RI H2 v x:=fun _ _ _ _ _ e=>e
theorem Zhl {H H':Hp} {a:Addr} (s:Same H H') (h:H' a=none):H a=none:=by
 cases e:H a with
 | none=>rfl
 | some o=>rw [s _ _ e] at h; cases h
def Zhf (K:PySem.W.Frag) (mg:Str→Option Value) (x:Str) (a b:Int):Prop:=∃ n,mg x=some (.ref n)∧KTu K n [.int a,.int b]
theorem up {a n:Nat} (m:Nat) (h:a < 2 ^ n) (l:n≤m:=by decide):a < 2 ^ m:=n9_ h (n39_ (by decide) l)
def QT (K:PySem.W.Frag) (H:Hp) (a:Addr) (q:Rat):Prop:=H a=some (.tup (rt q))∨KTu K a (rt q)
theorem QT.sq {K:PySem.W.Frag} {H:Hp} {a:Addr} {q:Rat} (h:QT K H a q):SqT K H a (rt q):=h.elim SqT.of KTu.sq
def IsQ (K:PySem.W.Frag) (H:Hp) (v:V) (q:Rat):Prop:=∃ a,v=.ref a∧QT K H a q
theorem hRQ {K:PySem.W.Frag}:∀ H1 H2 v x,Tk H1 H2→IsQ K H1 v x→IsQ K H2 v x:=fun _ _ _ _ t ⟨a,e,h⟩=>⟨a,e,h.imp (fun z=>t _ _ z) id⟩
theorem lc_Q {k:SK} {K:PySem.W.Frag} {a D:Addr} {us:List V} {qs:List Rat} {te:TE} {u0 u1:Option V} {rest:L2.St} {H:Hp} {Q:VK} {α:Type} (R:Hp→V→α→Prop) (hR:∀ H1 H2 v x,Tk H1 H2→R H1 v x→R H2 v x) (ys:List α) (hn:ys.length=us.length) (hz:us.length≤1000) (hD:H D=none) (ha:k.At H a us) (al:Al (IsQ K H) us qs)
 (hs:∀ (i:Nat) (q:Rat) (H2:Hp) (C:V→Hp→Prop),qs[i]? = some q→Same H H2→(∀ y H5 z,Same H2 H5→ys[i]? = some z→R H5 y z→C y H5)→te (some (.int q.num) :: some (.int q.den) :: rest) H2 C)
 (hd:∀ H2 us,Same H H2→H2 D=some (.lst us)→Al (R H2) us ys→Q (.ref D) H2):LcGo (k.Itk K a) (gTup K 2 (Z8 (Z5 0) (Z8 (Z5 1) gNil))) tYes te (u0 :: u1 :: rest) H D Q:=by
 refine Zjb R hR ys hn hz (fun σ=>∃ u u',σ=u :: u' :: rest) ⟨_,_,rfl⟩ hD (fun i H2 s hi=>Zbd (ha.same s) hi) (fun H2 s=>Xe (ha.same s) (n5_ _)) (fun i x σ2 H2 H3 C hi s y o c=>?_) hd;obtain ⟨u,u',rfl⟩:=o;obtain ⟨rfl,e⟩:=X0 (ha.same s) y;obtain ⟨q,eq,h⟩:=al.get e;obtain ⟨p,rfl,hp⟩:=hRQ _ _ _ _ s.tk h;exact ⟨p,_,rfl,hp.sq,rfl,_,_,rfl,_,_,rfl,rfl,hs i q H3 (C (some (.int q.num) :: some (.int q.den) :: rest)) eq s fun y H5 z s5 ez rz=>c _ y H5 z ⟨_,_,rfl⟩ s5 ez rz⟩
def Zii:Sp:=fun vs H Q _=>∃ (l:Addr) (ds:List Int) (k:Nat),vs=[.ref l]∧H l=some (.lst (ds.map V.int))∧(∀ x∈ds,0 < x∧x.natAbs < 2 ^ k)∧k≤4000∧k * ds.length≤900000∧Q (.int (lcmL ds)) H
def Zdr:Sp:=fun vs H Q _=>∃ (l:Addr) (ps:List Int) (k:Int),vs=[.ref l,.int k]∧H l=some (.lst (ps.map V.int))∧(∀ i,i < ps.length→gl k (ps.take i) < 2 ^ 4000)∧Q (.int (gl k ps)) H
def IsSc (K:PySem.W.Frag) (H:Hp) (v:V) (x:Int×Int):Prop:=∃ p,v=.ref p∧(H p=some (.tup [.int x.1,.int x.2])∨KTu K p [.int x.1,.int x.2])
theorem IsSc.tk {K:PySem.W.Frag}:∀ H1 H2 v x,Tk H1 H2→IsSc K H1 v x→IsSc K H2 v x:=fun _ _ _ _ t ⟨p,e,h⟩=>⟨p,e,h.imp (fun z=>t _ _ z) id⟩
theorem IsSc.sq {K:PySem.W.Frag} {H:Hp} {p:Addr} {x:Int×Int} (h:H p=some (.tup [.int x.1,.int x.2])∨KTu K p [.int x.1,.int x.2]):SqT K H p [.int x.1,.int x.2]:=h.elim SqT.of KTu.sq
structure LnB (b:Nat) (qs:List Rat):Prop where
 bd:∀ q∈qs,FM.B b q
 b4:b≤3999
 sz:b * qs.length≤300000
 len:qs.length≤1000
theorem LnB.bots {b:Nat} {qs:List Rat} (h:LnB b qs):∀ x∈bots qs,0 < x∧x.natAbs < 2 ^ b:=fun x hx=>by
 obtain ⟨q,hq,rfl⟩:=n29_.mp hx;exact ⟨FM.den_pos q,(h.bd q hq).2⟩
theorem LnB.tops {b:Nat} {qs:List Rat} (h:LnB b qs):∀ x∈tops qs,x.natAbs < 2 ^ b:=fun x hx=>by
 obtain ⟨q,hq,rfl⟩:=n29_.mp hx;exact (h.bd q hq).1
theorem LnB.lcm {b:Nat} {qs:List Rat} (h:LnB b qs):(lcmL (L2.bots qs)).natAbs < 2 ^ 300001:=by
 have:=Zdn _ h.bots
 rw [n4_] at this;exact up _ this (by have:=h.sz; omega)
theorem Zem {b:Nat} {qs:List Rat} (h:LnB b qs):0 < (scl qs).1∧(scl qs).1.natAbs < 2 ^ 300001∧0 < (scl qs).2∧(scl qs).2.natAbs < 2 ^ 4000:=by
 unfold scl;split
 · exact ⟨(by decide:(0:Int) < 1),n43_ (by decide),(by decide:(0:Int) < 1),n43_ (by decide)⟩
 · rename_i hn
   refine ⟨(Xj _ fun x hx=>(h.bots x hx).1).1,h.lcm,?_,?_⟩
   · show (0:Int) < (gl 0 (L2.tops qs):Int); omega
   · exact up 4000 (Zmd h.tops) (by have:=h.b4; omega)
def Zip (K:PySem.W.Frag):Sp:=fun vs H Q _=>∃ (a:Addr) (k:SK) (us:List V) (qs:List Rat) (b:Nat),vs=[.ref a]∧k.At H a us∧Al (IsQ K H) us qs∧LnB b qs∧∀ (H':Hp) (v:V),Same H H'→IsSc K H' v (scl qs)→Q v H'
def Ziu (K:PySem.W.Frag):Sp:=fun vs H Q _=>∃ (a:Addr) (k:SK) (us:List V) (qs:List Rat) (b:Nat),vs=[.ref a]∧k.At H a us∧Al (IsQ K H) us qs∧LnB b qs∧∀ (H':Hp) (l:Addr),Same H H'→H l=none→H' l=some (.lst ((wh qs).map V.int))→Q (.ref l) H'
theorem Zd8 {a b:Int} (hb:0 < b):(a.fdiv b).natAbs≤a.natAbs:=by
 rw [Int.fdiv_eq_ediv_of_nonneg a (by omega)];exact Int.natAbs_ediv_le_natAbs a b
theorem Xa {a b:Int} {n:Nat} (hb:0 < b) (h:a.natAbs < 2 ^ n):(a.fdiv b).natAbs < 2 ^ n:=n20_ (Zd8 hb) h
theorem Zmz {b:Nat} {qs:List Rat} (h:LnB b qs):∀ x∈wh qs,x.natAbs < 2 ^ 304000:=fun x hx=>by
 obtain ⟨q,hq,rfl⟩:=n29_.mp hx;obtain ⟨h1,h2,h3,h4⟩:=Zem h;exact up _ (FM.natAbs_mul_lt (Xa h3 (h.bd q hq).1) (Xa (FM.den_pos q) h2)) (by have:=h.b4; omega)
def Zio (K:PySem.W.Frag):Sp:=fun vs H Q _=>∃ (w:Addr) (ws:List Int) (a:Addr) (k:SK) (us:List V) (qs:List Rat) (b:Nat),vs=[.ref w,.ref a]∧H w=some (.lst (ws.map V.int))∧(∀ x∈ws,x.natAbs < 2 ^ 304000)∧k.At H a us∧Al (IsQ K H) us qs∧LnB b qs∧∀ H',Same H H'→Q (.bl (decide ((List.zipWith (· * ·) ws (wh qs)).sum=0))) H'
def IsLn (H:Hp) (v:V) (x:Int×List Int):Prop:=∃ p l,v=.ref p∧H p=some (.tup [.int x.1,.ref l])∧H l=some (.lst (x.2.map V.int))
theorem IsLn.same {H H':Hp} {v:V} {x:Int×List Int} (s:Same H H') (h:IsLn H v x):IsLn H' v x:=let ⟨p,l,e,h1,h2⟩:=h; ⟨p,l,e,s _ _ h1,s _ _ h2⟩
structure LineOk (n:Nat) (x:Int×List Int):Prop where
 nz:x.1≠0
 kn:x.1.natAbs < 2 ^ 4000
 len:x.2.length=n
 bd:∀ e∈x.2,e.natAbs < 2 ^ 400000
def Zei:Sp:=fun vs H Q _=>∃ (kn:Int) (l hd:Addr) (line head:List Int) (pl:Nat),vs=[.int kn,.ref l,.ref hd,.int pl]∧H l=some (.lst (line.map V.int))∧H hd=some (.lst (head.map V.int))∧LineOk head.length (kn,line)∧(∀ e∈head,e.natAbs < 2 ^ 400000)∧pl < head.length∧head.length≤1000 ∧
 ∀ (H':Hp) (p l':Addr),Same H H'→(l'=l∨H l'=none)→H p=none→H' p=some (.tup [.int (clr pl head (kn,line)).1,.ref l'])→H' l'=some (.lst ((clr pl head (kn,line)).2.map V.int))→Q (.ref p) H'
theorem getI {xs:List Int} {i:Nat} (h:i < xs.length):atI (xs.map V.int) (i:Int)=some (.int (xs.getD i 0)):=by
 refine Xz ?_;rw [n3_,n0_ h,n19_,n0_ h]; rfl
theorem Zkm (xs:List Int):xs.map (fun p=>p.fdiv ((1:Nat):Int))=xs:=by
 conv=>rhs; rw [← List.map_id xs]
 refine List.map_congr_left fun x _=>?_;show x.fdiv 1=x
 exact Int.fdiv_one x
abbrev hdPs (p:Pos):Arguments:={ posonlyargs:=[],args:=[{ arg := "at",annotation:=none,pos:=p }],vararg:=none,kwonlyargs:=[],kw_defaults:=[],kwarg:=none,defaults:=[] }
abbrev hdSc:Scope:={ kind:=.function,names:=[("at",.local),("left",.free),("place",.free),("abs",.globalImplicit)],isGenerator:=false,isCoroutine:=false }
abbrev Zkn (j:Nat) (p0 p1 p2 p3 p4 p5 p6 p7 p8:Pos):Expr:=.Call (.Name "abs" p0) [.Subscript (.Subscript (.Subscript (.Name "left" p1) (.Name "at" p2) p3) (.Constant (.int 1) j p4) p5) (.Name "place" p6) p7] [] p8
theorem Zh3 {H:Hp} {c:Addr} {v:V} (h:Zci H c v):∃ o v,H c=some (fzO o)∧o.data=.cell v:=let ⟨o,u,a,b,_⟩:=h; ⟨o,_,a,b⟩
section
variable {P:Program} {w:World} {K:PySem.W.Frag} {mg:Str→Option Value} {base:Heap} {a:Addr} {pm:Value} {q:Str} {j:Nat} {pp p0 p1 p2 p3 p4 p5 p6 p7 p8:Pos} {c1 c2:Addr}
def spHd (a c1 c2:Addr) (q:Str) (pm:Value) (j:Nat) (pp p0 p1 p2 p3 p4 p5 p6 p7 p8:Pos):V→Hp→VK→XK→Prop:=fun v H Q _=>LamF H a q (hdPs pp) (Zkn j p0 p1 p2 p3 p4 p5 p6 p7 p8) hdSc [("place",c2),("left",c1)] pm ∧
 ∃ (la p l:Addr) (us:List V) (pl n:Nat) (kv:V) (xs:List Int),Zci H c1 (.ref la)∧Zci H c2 (.int pl)∧H la=some (.lst us)∧v=.int n∧us[n]? = some (.ref p)∧H p=some (.tup [kv,.ref l])∧H l=some (.lst (xs.map V.int))∧pl < xs.length∧Q (.int (abV (xs.getD pl 0))) H
theorem Zrk (T:Bt mg) (hne:c1≠c2):Zge P w K mg base 2 a (spHd a c1 c2 q pm j pp p0 p1 p2 p3 p4 p5 p6 p7 p8):=by
 refine Zov (k:=1) (N:=["at","left","place"]) (p1 := "at") (q:=q) (params:=hdPs pp) (body:=Zkn j p0 p1 p2 p3 p4 p5 p6 p7 p8) (scope:=hdSc) (clos:=[("place",c2),("left",c1)]) (pm:=pm) rfl rfl rfl ?_ ?_ rfl ?_ ?_ rfl ?_ ?_ ?_
 · intro x hx; simp only [n18_,n25_,or_false] at hx; rcases hx with rfl | rfl | rfl | rfl <;> (intro z; cases z)
 · intro _ _ _; rfl
 · intro x y d h1 h2;simp only [List.lookup] at h1 h2;split at h1 <;> split at h2
   · rename_i e1 _ e2; exact (beq_iff_eq.mp e1).trans (beq_iff_eq.mp e2).symm
   · rename_i e1 _ e2
     split at h2
     · cases h1; cases h2; exact absurd rfl hne
     · cases h2
   · rename_i e1 _ e2
     split at h1
     · cases h1; cases h2; exact absurd rfl hne
     · cases h1
   · rename_i e1 _ e2
     split at h1
     · split at h2
       · rename_i a1 _ a2; exact (beq_iff_eq.mp a1).trans (beq_iff_eq.mp a2).symm
       · cases h2
     · cases h1
 · intro x hx;simp only [List.lookup] at hx;split at hx
   · cases hx
   · split at hx
     · rename_i e; rw [beq_iff_eq.mp e]; exact ⟨c1,rfl⟩
     · split at hx
       · rename_i e; rw [beq_iff_eq.mp e]; exact ⟨c2,rfl⟩
       · split at hx <;> cases hx
 · intro i x e
   match i,e with
   | 0,e=>cases e; rfl
   | 1,e=>cases e; rfl
   | n+2,e=>simp at e
 · rintro v H Q E ⟨l,la,p,l',us,pl,n,kv,xs,h1,h2,_⟩
   refine ⟨l,fun x d e=>?_⟩;simp only [List.lookup] at e;split at e
   · cases e; exact Zh3 h2
   · split at e
     · cases e; exact Zh3 h1
     · cases e
 · rintro A outer s H Q E cd v hr ⟨l,la,p,l',us,pl,n,kv,xs,h1,h2,h3,rfl,h4,h5,h6,h7,h8⟩
   refine ⟨[some (.ref la),some (.int pl)],_,rfl,fun i x z e1 e2=>?_,Zh Zaz rfl T.b_abs Zep (Za (Yj Z9 (Yj Zbv (Yj Z9 (pv 1) (pv 0) (fun _ _=>rfl)) Zg (fun _ _=>rfl)) (pv 2) (fun _ _=>rfl)) Zb rfl),?_⟩
   · match i,e1,e2 with
     | 0,e1,e2=>cases e1; cases e2; exact ⟨c1,rfl,h1⟩
     | 1,e1,e2=>cases e1; cases e2; exact ⟨c2,rfl,h2⟩
     | n+2,e1,e2=>simp at e1
   · exact ⟨_,rfl,_,rfl,la,us,n,_,rfl,rfl,SqL.of h3,Xz h4,p,_,1,_,rfl,rfl,SqT.of h5,rfl,_,rfl,l',_,pl,_,rfl,rfl,SqL.of h6,getI h7,_,rfl,h8⟩
end
def Zht (Ph:Addr):Sp:=fun vs H Q _=>∃ (la:Addr) (us:List V) (ls:List (Int×List Int)) (pl:Nat),vs=[.ref la,.int pl]∧H la=some (.lst us)∧Al (IsLn H) us ls∧(∀ x∈ls,pl < x.2.length)∧ls.length≤1000∧TabF H Ph "head_of.<locals>.<lambda>" ∧
 ∀ H',Xk Ph H H'→TabF H' Ph "head_of.<locals>.<lambda>" → Q (minV (hkf ls pl) (hds ls pl)) H'
theorem Zic {α:Type} {l:List α} {i:Nat} {x z:α} (h:l[i]? = some x):l.getD i z=x:=by rw [n19_,h]; rfl
def IsL (H:Hp) (v:V) (ns:List Int):Prop:=∃ a,v=.ref a∧H a=some (.lst (ns.map V.int))
def IsLnN (N:Addr→Prop) (H:Hp) (v:V) (x:Int×List Int):Prop:=∃ p l,v=.ref p∧¬ N p∧¬ N l∧H p=some (.tup [.int x.1,.ref l])∧H l=some (.lst (x.2.map V.int))
def Zln (N:Addr→Prop) (H H':Hp):Prop:=∀ b o,¬ N b→H b=some o→H' b=some o
theorem IsLnN.keep {N:Addr→Prop} {H H':Hp} {v:V} {x:Int×List Int} (k:Zln N H H') (h:IsLnN N H v x):IsLnN N H' v x:=let ⟨p,l,e,n1,n2,h1,h2⟩:=h; ⟨p,l,e,n1,n2,k _ _ n1 h1,k _ _ n2 h2⟩
theorem IsLnN.ln {N:Addr→Prop} {H:Hp} {v:V} {x:Int×List Int} (h:IsLnN N H v x):IsLn H v x:=let ⟨p,l,e,_,_,h1,h2⟩:=h; ⟨p,l,e,h1,h2⟩
abbrev stI (x:Nat×List Int):Int×List Int:=((x.1:Int),x.2)
abbrev IsSt (H:Hp) (v:V) (x:Nat×List Int):Prop:=IsLn H v (stI x)
structure StpOk (lines:List (List Int)) (n w:Nat):Prop where
 nw:n≤w
 w1:w≤1000
 l1:lines.length≤1000
 ok:∀ i,i≤n→∀ x∈(stp lines i).2,LineOk w x
theorem Zfc {lines:List (List Int)}:∀ i,(stp lines i).2.length≤lines.length∧(stp lines i).1.length≤i
 | 0=>⟨by show ((lines.map fun l=>((1:Int),l))).length≤_; rw [n4_]; exact n5_ _,n5_ _⟩
 | i+1=>by
   have ih:=Zfc (lines:=lines) i;cases e:Zay (stp lines i).2 i with
   | none=>rw [Zb3 e]; exact ⟨ih.1,by omega⟩
   | some a =>
     rw [Zc2 e];simp only [n4_,n17_,n16_,n37_];refine ⟨?_,by omega⟩
     have:=List.length_eraseIdx_le (stp lines i).2 a
     omega
def Zca (Ph:Addr):Sp:=fun vs H Q _=>∃ (La:Addr) (vs':List V) (lines:List (List Int)) (n w:Nat),vs=[.ref La,.int n]∧H La=some (.lst vs')∧Al (IsL H) vs' lines∧StpOk lines n w∧TabF H Ph "head_of.<locals>.<lambda>" ∧
 ∀ (H':Hp) (p a b:Addr) (us ws:List V),Xk Ph H H'→TabF H' Ph "head_of.<locals>.<lambda>" → H' p=some (.tup [.ref a,.ref b])→H' a=some (.lst us)→Al (IsSt H') us (stp lines n).1→H' b=some (.lst ws)→Al (IsL H') ws ((stp lines n).2.map Prod.snd)→Q (.ref p) H'
theorem Al.erase {α:Type} {R:V→α→Prop} {vs:List V} {xs:List α} (h:Al R vs xs) (k:Nat):Al R (vs.eraseIdx k) (xs.eraseIdx k):=⟨by simp only [List.length_eraseIdx,h.1],fun i v x e1 e2=>by
 rw [List.getElem?_eraseIdx] at e1 e2;split at e1
 · rename_i hi; rw [if_pos hi] at e2; exact h.2 i v x e1 e2
 · rename_i hi; rw [if_neg hi] at e2; exact h.2 (i+1) v x e1 e2⟩
theorem Zme {α:Type} (xs:List α):∀ n,(List.range n).filterMap (fun i=>xs[i]?)=xs.take n
 | 0=>rfl
 | n+1=>by
   rw [List.range_succ,List.filterMap_append,Zme xs n,List.take_add_one]
   congr 1
theorem Yl {α:Type} (xs:List α) (n:Nat) (h:n=xs.length):(List.range n).filterMap (fun i=>xs[i]?)=xs:=by
 rw [Zme,h,n59_]
def Zdc (K:PySem.W.Frag):Sp:=fun vs H Q _=>∃ (a:Addr) (k:SK) (us:List V) (qs:List Rat) (b:Nat),vs=[.ref a]∧k.At H a us∧Al (IsQ K H) us qs∧LnB b qs∧∀ (H':Hp) (p l:Addr),Same H H'→H l=none→H' p=some (.tup [.ref l,.int (lcmL (bots qs))])→H' l=some (.lst ((lvd qs).map V.int))→Q (.ref p) H'
def Zih (K:PySem.W.Frag):Sp:=fun vs H Q _=>∃ (w:Addr) (kw:SK) (ws:List Int) (a:Addr) (k:SK) (us:List V) (qs:List Rat) (b:Nat) (c:Int),vs=[.ref w,.ref a,.int c]∧kw.At H w (ws.map V.int)∧(∀ x∈ws,x.natAbs < 2 ^ 304000)∧k.At H a us∧Al (IsQ K H) us qs∧LnB b qs∧c≠0∧(lcmL (bots qs) * c).natAbs < 2 ^ 4000 ∧
 ∀ (H':Hp) (v:V),Same H H'→IsQ K H' v (mxd ws qs c)→Q v H'
theorem Zqw {b:Nat} {qs:List Rat} (h:LnB b qs):∀ x∈lvd qs,x.natAbs < 2 ^ 304000:=fun x hx=>by
 obtain ⟨q,hq,rfl⟩:=n29_.mp hx;exact up _ (FM.natAbs_mul_lt (h.bd q hq).1 (Xa (FM.den_pos q) h.lcm)) (by have:=h.b4; omega)
structure PutOk (pl:Nat) (line:List Int) (xs:List Rat):Prop where
 lt:pl < xs.length
 len:line.length=xs.length+1
 nz:line.getD pl 0≠0
 bd:∀ e∈line,e.natAbs < 2 ^ 400000
 num:∀ x∈xs,x.num.natAbs < 2 ^ 200000
 den:∀ x∈xs,x.den < 2 ^ 4000
 n:xs.length≤200
 sz:(lcmL (bots ((trm pl line xs).map Prod.snd)) * line.getD pl 0).natAbs < 2 ^ 4000
def Zi1 (K:PySem.W.Frag):Sp:=fun vs H Q _=>∃ (pl:Nat) (l a:Addr) (line:List Int) (us:List V) (xs:List Rat),vs=[.int pl,.ref l,.ref a]∧H l=some (.lst (line.map V.int))∧H a=some (.lst us)∧Al (IsQ K H) us xs∧PutOk pl line xs∧∀ (H':Hp) (v:V),Same H H'→IsQ K H' v (putQ pl line xs)→Q v H'
theorem QT.same {K:PySem.W.Frag} {H H':Hp} {a:Addr} {q:Rat} (s:Same H H') (h:QT K H a q):QT K H' a q:=h.imp (fun z=>s _ _ z) id
def IsTm (K:PySem.W.Frag) (D:Addr) (H:Hp) (v:V) (x:Int×Rat):Prop:=∃ p f,v=.ref p∧p≠D∧H p=some (.tup [.int x.1,.ref f])∧((f≠D∧H f=some (.tup (rt x.2)))∨KTu K f (rt x.2))
theorem IsTm.keep {K:PySem.W.Frag} {D:Addr} (H1 H2:Hp) (v:V) (x:Int×Rat) (k:Keep D H1 H2) (h:IsTm K D H1 v x):IsTm K D H2 v x:=let ⟨p,f,e,n1,h1,h2⟩:=h; ⟨p,f,e,n1,k _ _ n1 h1,h2.imp (fun z=>⟨z.1,k _ _ z.1 z.2⟩) id⟩
theorem Zl5 {α:Type} (Z:List α) (c:α→Bool) (n:Nat) (h:n=Z.length):(List.range n).filterMap (fun i=>(Z[i]?).filter c)=Z.filter c:=by
 rw [← List.filter_filterMap,Yl Z n h]
theorem Zju {line:List Int} (h:line≠[]):atI (line.map V.int) (-1)=some (.int (line.getLastD 0)):=by
 have hl:0 < line.length:=List.length_pos_iff.mpr h;unfold atI
 have e:ixN (line.map V.int).length (-1)=some (line.length - 1):=by
  unfold ixN; rw [n4_]; rw [if_neg (by omega),if_pos (by omega)]; congr 1; omega
 rw [e,Option.bind_some,n3_,← List.getLast?_eq_getElem?,List.getLastD_eq_getLast?];obtain ⟨x,hx⟩:∃ x,line.getLast? = some x:=⟨_,List.getLast?_eq_some_getLast h⟩;rw [hx]; rfl
structure FilOk (steps:List (Nat×List Int)) (xs:List Rat):Prop where
 ok:∀ i,i < steps.length→PutOk (steps.getD i (0,[])).1 (steps.getD i (0,[])).2 (fil (steps.drop (i+1)) xs)
def Zgs (K:PySem.W.Frag):Sp:=fun vs H Q _=>∃ (s a:Addr) (ss us:List V) (steps:List (Nat×List Int)) (xs:List Rat),vs=[.ref s,.ref a]∧H s=some (.lst ss)∧Al (IsSt H) ss steps∧H a=some (.lst us)∧Al (IsQ K H) us xs∧FilOk steps xs∧∀ (H':Hp) (l:Addr) (us':List V),Same H H'→H' l=some (.lst us')→Al (IsQ K H') us' (fil steps xs)→Q (.ref l) H'
def Ze0:Sp:=fun vs H Q _=>∃ (l:Addr) (ds:List Int),vs=[.ref l]∧H l=some (.lst (ds.map V.int))∧(∀ x∈ds,0 < x∧x.natAbs < 2 ^ 4000)∧ds.length≤200∧∀ (H':Hp) (m:Addr),Same H H'→H' m=some (.lst ((fct ds).2.map V.int))→Q (.ref m) H'
def Zet (K:PySem.W.Frag):Sp:=fun vs H Q _=>∃ (v:V) (q:Rat) (l:Addr) (fs:List Int),vs=[v,.ref l]∧IsQ K H v q∧H l=some (.lst (fs.map V.int))∧(∀ x∈fs,0 < x∧x.natAbs < 2 ^ 4000)∧fs.length≤200∧q.num.natAbs < 2 ^ 200000∧q.den < 2 ^ 4000∧∀ (H':Hp) (v':V),Same H H'→IsQ K H' v' (q / (Zcl fs:Rat))→Q v' H'
theorem Zae {α:Type} (x:α):∀ n:Nat,(List.replicate n [x]).flatten=List.replicate n x
 | 0=>rfl
 | n+1=>by rw [List.replicate_succ,List.flatten_cons,Zae x n]; rfl
def IsQs (K:PySem.W.Frag) (H:Hp) (v:V) (qs:List Rat):Prop:=∃ a us,v=.ref a∧H a=some (.tup us)∧Al (IsQ K H) us qs
theorem IsQs.tk {K:PySem.W.Frag} {H H':Hp} {v:V} {qs:List Rat} (t:Tk H H') (h:IsQs K H v qs):IsQs K H' v qs:=let ⟨a,us,e,h1,h2⟩:=h; ⟨a,us,e,t _ _ h1,h2.imp fun v x r=>hRQ _ _ _ _ t r⟩
theorem Zfo {D:Addr} {H1 H2:Hp} (k:Keep D H1 H2) (e:∃ ws,H1 D=some (.lst ws)):Tk H1 H2:=fun b xs h=>k _ _ (fun z=>by obtain ⟨ws,e⟩:=e; rw [z,e] at h; cases h) h
def Zgu (K:PySem.W.Frag):Sp:=fun vs H Q _=>∃ (a:Addr) (k:SK) (us:List V) (rows:List (List Rat)),vs=[.ref a]∧k.At H a us∧Al (IsQs K H) us rows∧Q (.int (wid rows)) H
structure RtB (b:Nat) (rows:List (List Rat)) (rights:List Rat):Prop where
 rl:rights.length=rows.length
 n:rows.length≤200
 rb:∀ r∈rows,LnB b r
 gb:∀ q∈rights,FM.B b q
 b2:b≤1990
theorem Zmt {b:Nat} {qs:List Rat} (h:LnB b qs):(scl qs).2.natAbs < 2 ^ (b+1):=by
 unfold scl;split
 · exact n43_ (by omega)
 · exact up _ (Zmd h.tops) (by omega)
theorem RtB.mx {b:Nat} {rows:List (List Rat)} {rights:List Rat} (R:RtB b rows rights) {row:List Rat} {r:Rat} (h1:row∈rows) (h2:r∈rights):LnB b [r]∧(scl row).2≠0∧(lcmL (bots [r]) * (scl row).2).natAbs < 2 ^ 4000:=by
 have B1:LnB b [r]:=⟨fun q hq=>by rw [n8_.mp hq]; exact R.gb r h2,by have:=R.b2; omega,by have:=R.b2; simp; omega,by simp⟩;have s:=Zem (R.rb row h1);refine ⟨B1,by omega,?_⟩;have l:=Zdn _ B1.bots;exact up _ (FM.natAbs_mul_lt l (Zmt (R.rb row h1))) (by have:=R.b2; simp; omega)
def Zdi (K:PySem.W.Frag):Sp:=fun vs H Q _=>∃ (a g:Addr) (k kg:SK) (us gs:List V) (rows:List (List Rat)) (rights:List Rat) (b:Nat),vs=[.ref a,.ref g]∧k.At H a us∧Al (IsQs K H) us rows∧kg.At H g gs∧Al (IsQ K H) gs rights∧RtB b rows rights ∧
 ∀ (H':Hp) (l:Addr) (es:List V),Same H H'→H l=none→H' l=some (.lst es)→Al (IsQ K H') es (rtv rows rights)→Q (.ref l) H'
def Zcp (K:PySem.W.Frag):Sp:=fun vs H Q _=>∃ (s:Addr) (ss:List V) (steps:List (Nat×List Int)) (n:Nat),vs=[.ref s,.int n,.int 0]∧H s=some (.lst ss)∧Al (IsSt H) ss steps∧steps.length≤1000∧n≤1000∧(∀ x∈steps,x.2.length=n+1)∧FilOk steps (List.replicate n 0) ∧
 ∀ (H':Hp) (l:Addr) (us':List V),Same H H'→H' l=some (.lst us')→Al (IsQ K H') us' (fil steps (List.replicate n 0))→Q (.ref l) H'
structure SeOk (b c:Nat) (rows:List (List Rat)) (rights:List Rat):Prop extends RtB b rows rights where
 wd:∀ r∈rows,r.length=wid rows
 w:wid rows≤190
 eb:LnB c (rtv rows rights)
 so:StpOk (lns rows rights) (wid rows) (wid rows+1)
 fo:FilOk (stF rows rights).1 (List.replicate (wid rows) 0)
 fb:∀ x∈fil (stF rows rights).1 (List.replicate (wid rows) 0),x.num.natAbs < 2 ^ 200000∧x.den < 2 ^ 4000
theorem Zjk {lines:List (List Int)} {n w:Nat} (SO:StpOk lines n w):∀ i,i≤n→∀ x∈(stp lines i).1,x.2.length=w
 | 0,_,x,hx=>nomatch hx
 | i+1,hi,x,hx=>by
   have ih:=Zjk SO i (by omega);cases e:Zay (stp lines i).2 i with
   | none=>rw [Zb3 e] at hx; exact ih x hx
   | some a =>
     rw [Zc2 e] at hx
     rcases n34_.mp hx with hx | hx
     · exact ih x hx
     · rw [n8_.mp hx];obtain ⟨ha,_⟩:=Zbp e;have gd:(stp lines i).2.getD a (0,[])=(stp lines i).2[a]:=by rw [n19_,n0_ ha]; rfl
       rw [gd];exact (SO.ok i (by omega) _ (n41_ ha)).len
theorem Zor:∀ (ds:List Int),(fct ds).2.length≤ds.length:=fun ds=>by
 suffices H:∀ i,i≤ds.length→(fct (ds.take i)).2.length≤i by have:=H ds.length (n5_ _); rwa [n59_] at this
 intro i
 induction i with
 | zero=>intro _; exact n5_ _
 | succ i ih =>
   intro hi;have ih:=ih (by omega)
   have e:fct (ds.take i++[ds[i]])=if 1 < ds[i].fdiv (Int.gcd (fct (ds.take i)).1 ds[i]:Int) then ((fct (ds.take i)).1 * ds[i].fdiv (Int.gcd (fct (ds.take i)).1 ds[i]:Int),(fct (ds.take i)).2++[ds[i].fdiv (Int.gcd (fct (ds.take i)).1 ds[i]:Int)]) else fct (ds.take i):=by
    unfold fct; rw [n63_]; rfl
   rw [n32_ hi,e];split
   · rw [n17_]; exact Nat.succ_le_succ ih
   · omega
theorem Zq6 {c:Nat} {qs:List Rat} (B:LnB c qs):∀ f∈(fct (bots qs)).2,0 < f∧f.natAbs < 2 ^ 4000:=fun f hf=>by
 obtain ⟨h0,d,hd,dv⟩:=(Znu (bots qs) (Xy qs)).2.2 f hf;have b:=B.bots d hd;refine ⟨h0,n20_ (Nat.le_of_dvd (by omega) (Int.natAbs_dvd_natAbs.mpr dv)) (up _ b.2 (by have:=B.b4; omega))⟩
def SolV (K:PySem.W.Frag) (H:Hp) (v:V):Option (List Rat)→Prop
 | none=>v=.non
 | some xs=>IsQs K H v xs
theorem SolV.tk {K:PySem.W.Frag} {H H':Hp} {v:V} {o:Option (List Rat)} (t:Tk H H') (h:SolV K H v o):SolV K H' v o:=by
 cases o with
 | none=>exact h
 | some xs=>exact IsQs.tk t h
def Zbj (K:PySem.W.Frag) (Ph:Addr):Sp:=fun vs H Q _=>∃ (a ca g:Addr) (k kg:SK) (us gs:List V) (rows:List (List Rat)) (rights:List Rat) (b c:Nat),vs=[.ref a,.ref ca]∧k.At H a us∧Al (IsQs K H) us rows∧H ca=some (.lst [.ref g])∧kg.At H g gs∧Al (IsQ K H) gs rights∧SeOk b c rows rights∧TabF H Ph "head_of.<locals>.<lambda>" ∧
 ∀ (H':Hp) (p t f:Addr) (v:V),Xk Ph H H'→TabF H' Ph "head_of.<locals>.<lambda>" → H' p=some (.tup [.ref t,.ref f])→H' t=some (.lst ((tkn rows rights).map fun n:Nat=>V.int n))→H' f=some (.lst [v])→SolV K H' v (slv rows rights)→Q (.ref p) H'
def Za3 (K:PySem.W.Frag) (Ph:Addr):Sp:=fun vs H Q _=>∃ (a g:Addr) (k kg:SK) (us gs:List V) (rows:List (List Rat)) (rights:List Rat) (b c:Nat),vs=[.ref a,.ref g]∧k.At H a us∧Al (IsQs K H) us rows∧kg.At H g gs∧Al (IsQ K H) gs rights∧SeOk b c rows rights∧TabF H Ph "head_of.<locals>.<lambda>" ∧
 ∀ (H':Hp) (p t:Addr) (v:V),Xk Ph H H'→TabF H' Ph "head_of.<locals>.<lambda>" → H' p=some (.tup [.ref t,v])→H' t=some (.lst ((tkn rows rights).map fun n:Nat=>V.int n))→SolV K H' v (slv rows rights)→Q (.ref p) H'
def Zfp (K:PySem.W.Frag) (Ph:Addr):Sp:=fun vs H Q _=>∃ (a g t:Addr) (k:SK) (us gs:List V) (rows:List (List Rat)) (rights:List Rat) (taken:List Nat) (b c:Nat),vs=[.ref a,.ref g,.ref t]∧k.At H a us∧Al (IsQs K H) us rows∧H g=some (.tup gs)∧Al (IsQ K H) gs rights∧H t=some (.lst (taken.map fun n:Nat=>V.int n))∧rows.length≤1000∧taken.length≤1000∧(∀ p∈taken,∀ r∈rows,p < r.length)∧SeOk b c (cols rows taken++[rights]) (List.replicate taken.length 0++[1])∧TabF H Ph "head_of.<locals>.<lambda>" ∧
 ∀ (H':Hp) (v:V),Xk Ph H H'→TabF H' Ph "head_of.<locals>.<lambda>" → SolV K H' v (mixM rows rights taken)→Q v H'
def bt (β:Nat):Nat→Nat
 | 0=>β
 | i+1=>2 * bt β i+1
def gt (β γ:Nat):Nat→Nat
 | 0=>γ
 | i+1=>gt β γ i+bt β i+1
def eb (β γ n s p:Nat):Nat:=if p < n then bt β s else gt β γ s
structure LB (β γ n s:Nat) (x:Int×List Int):Prop where
 nz:x.1≠0
 kn:x.1.natAbs < 2 ^ bt β s
 len:x.2.length=n+1
 bd:∀ p v,x.2[p]? = some v→v.natAbs < 2 ^ eb β γ n s p
theorem Zoo (β s:Nat):bt β s≤bt β (s+1):=by show _≤2 * bt β s+1; omega
theorem Zq4 (β γ n s p:Nat):eb β γ n s p≤eb β γ n (s+1) p:=by
 unfold eb;split
 · exact Zoo β s
 · show _≤gt β γ s+bt β s+1; omega
theorem LB.up {β γ n s:Nat} {x:Int×List Int} (h:LB β γ n s x):LB β γ n (s+1) x:=⟨h.nz,My.up _ h.kn (Zoo β s),h.len,fun p v e=>My.up _ (h.bd p v e) (Zq4 ..)⟩
theorem Zoh {a b:Int} {n:Nat} (ha:a.natAbs < 2 ^ n) (hb:b.natAbs < 2 ^ n):(a - b).natAbs < 2 ^ (n+1):=by
 rw [Nat.pow_succ]; omega
theorem Zhw {l:List Int} {p:Nat} (h:p < l.length):l[p]? = some (l.getD p 0):=by rw [n19_,n0_ h]; rfl
theorem LB.clr {β γ n s pl:Nat} {x y:Int×List Int} (h:LB β γ n s x) (g:LB β γ n s y) (hp:pl < n) (nz:y.2.getD pl 0≠0):LB β γ n (s+1) (clr pl y.2 x):=by
 unfold L2.clr;split
 · exact h.up
 · have t:=g.bd pl _ (Zhw (by have:=g.len; omega));have m:=h.bd pl _ (Zhw (by have:=h.len; omega));have e:eb β γ n s pl=bt β s:=if_pos hp;rw [e] at t m;refine ⟨nz,My.up _ t (Zoo β s),?_,fun p v ev=>?_⟩
   · rw [n4_]; unfold prt; rw [n62_,h.len,g.len]; exact Nat.min_self _
   · change ((prt (y.2.getD pl 0) (x.2.getD pl 0) x.2 y.2).map _)[p]? = some v at ev;rw [n3_] at ev;obtain ⟨u,eu,rfl⟩:=n31_.mp ev;have gp:=(Zoc h.nz (prt (y.2.getD pl 0) (x.2.getD pl 0) x.2 y.2)).1;refine Xa (by omega) ?_;unfold prt at eu;rw [n52_] at eu;split at eu
     · rename_i o i eo ei
       cases eu
       have ho:=h.bd p o eo;have hi:=g.bd p i ei
       have z:eb β γ n (s+1) p=bt β s+eb β γ n s p+1:=by
        unfold eb; split
        · show 2 * bt β s+1=_; omega
        · show gt β γ s+bt β s+1=_; omega
       rw [z];exact Zoh (FM.natAbs_mul_lt t ho) (FM.natAbs_mul_lt m hi)
     · cases eu
structure SI (β γ n m i:Nat) (S:Stt):Prop where
 left:∀ x∈S.2,LB β γ n S.1.length x
 cnt:S.1.length+S.2.length=m
 le:S.1.length≤i
 st:∀ k x,S.1[k]? = some x→x.1 < i∧x.2.getD x.1 0≠0∧LB β γ n k (1,x.2)
theorem Zi4 {β γ n:Nat} {lines:List (List Int)} (b1:1≤β) (h:∀ l∈lines,l.length=n+1∧∀ p v,l[p]? = some v→v.natAbs < 2 ^ eb β γ n 0 p):∀ i,i≤n→SI β γ n lines.length i (stp lines i)
 | 0,_=>by
   refine ⟨fun x hx=>?_,by show 0+(lines.map fun l=>((1:Int),l)).length=_; simp,n5_ _,fun k x e=>by cases e⟩;change x∈lines.map _ at hx;obtain ⟨l,hl,rfl⟩:=n29_.mp hx;exact ⟨by show (1:Int)≠0; decide,n43_ (by show β≠0; omega),(h l hl).1,(h l hl).2⟩
 | i+1,hi=>by
   have ih:=Zi4 b1 h i (by omega);cases e:Zay (stp lines i).2 i with
   | none =>
     rw [Zb3 e];exact ⟨ih.left,ih.cnt,by have:=ih.le; omega,fun k x e=>⟨by have:=(ih.st k x e).1; omega,(ih.st k x e).2⟩⟩
   | some a =>
     obtain ⟨ha,hz⟩:=Zbp e;rw [Zc2 e];have gd:(stp lines i).2.getD a (0,[])=(stp lines i).2[a]:=by rw [n19_,n0_ ha]; rfl
     rw [gd] at hz ⊢;have hh:=ih.left _ (n41_ ha);generalize hS:stp lines i=S at *;generalize S.2[a]=hd at *;refine ⟨fun x hx=>?_,?_,?_,fun k x ek=>?_⟩
     · change x∈(S.2.eraseIdx a).map (L2.clr i hd.2) at hx;obtain ⟨y,hy,rfl⟩:=n29_.mp hx
       have:=(ih.left y (List.mem_of_mem_eraseIdx hy)).clr hh (by omega) hz
       rw [show (S.1++[(i,hd.2)],(S.2.eraseIdx a).map (L2.clr i hd.2)).1.length=S.1.length+1 by simp];exact this
     · show (S.1++[(i,hd.2)]).length+((S.2.eraseIdx a).map (L2.clr i hd.2)).length=_
       rw [n17_,n4_,List.length_eraseIdx,if_pos ha]
       have:=ih.cnt
       show S.1.length+1+_=_
       omega
     · show (S.1++[(i,hd.2)]).length≤_
       rw [n17_];exact Nat.succ_le_succ ih.le
     · change (S.1++[(i,hd.2)])[k]? = some x at ek
       by_cases hk:k < S.1.length
       · rw [n56_ hk] at ek;exact ⟨by have:=(ih.st k x ek).1; omega,(ih.st k x ek).2⟩
       · rw [n61_ (by omega)] at ek
         have k0:k - S.1.length=0:=by
          cases z:k - S.1.length with
          | zero=>rfl
          | succ z'=>rw [z] at ek; simp at ek
         rw [k0] at ek;cases ek
         have:k=S.1.length:=by omega
         subst this
         exact ⟨Nat.lt_succ_self i,hz,⟨by show (1:Int)≠0; decide,n43_ (by
          have:∀ s,1≤bt β s:=fun s=>by
           induction s with
           | zero=>exact b1
           | succ s ih=>show 1≤2 * bt β s+1; omega
          have:=this S.1.length; omega),hh.len,hh.bd⟩⟩
theorem Zhv {x:Rat} {P Z:Int} (hP:P≠0) (h:x * (P:Rat)=(Z:Rat)):(x.den:Int) ∣ P∧x.num.natAbs≤Z.natAbs:=by
 have e:=Zf4 x;have hd:=Zi5 x
 have q:x.num * P=Z * x.den:=by
  have:((x.num * P:Int):Rat)=((Z * x.den:Int):Rat):=by
   rw [n38_,n38_,← h];have hd2:((x.den:Int):Rat)=(x.den:Rat):=by first | rfl | exact Rat.intCast_natCast _
   rw [hd2];have key:∀ y n dd p:Rat,dd≠0→y=n / dd→n * p=y * p * dd:=fun y n dd p h1 h2=>by rw [h2]; grind
   exact key _ _ _ _ hd e
  exact_mod_cast this
 have c:=FM.gcd_one x
 have dv:(x.den:Int) ∣ P:=by
  have h1:(x.den:Int) ∣ x.num * P:=⟨Z,by rw [q,n49_]⟩
  have h2:x.den ∣ x.num.natAbs * P.natAbs:=by
   have:=Int.natAbs_dvd_natAbs.mpr h1
   rwa [n50_] at this
  have h3:Nat.Coprime x.den x.num.natAbs:=by
   have:Nat.gcd x.num.natAbs x.den=1:=c
   rw [Nat.gcd_comm] at this; exact this
  exact Int.ofNat_dvd_left.mpr (h3.dvd_of_dvd_mul_left h2)
 refine ⟨dv,?_⟩;obtain ⟨k,rfl⟩:=dv;have k0:k≠0:=fun z=>hP (by rw [z,Int.mul_zero])
 have q2:Z=x.num * k:=by
  have:(x.den:Int) * Z=(x.den:Int) * (x.num * k):=by rw [n49_ _ Z,← q]; grind
  exact Int.eq_of_mul_eq_mul_left (FM.den_ne x) this
 rw [q2,n50_];exact Nat.le_mul_of_pos_right _ (by omega)
def pbt (β:Nat):Nat→Nat→Nat
 | _,0=>0
 | k,l+1=>bt β k+pbt β (k+1) l
theorem Ziy {β k l:Nat} (h:k+l≤4):pbt β k l≤15 * β+11:=by
 match k,l,h with
 | k,0,_=>exact n55_ _
 | 0,1,_=>simp only [pbt,bt]; omega
 | 0,2,_=>simp only [pbt,bt]; omega
 | 0,3,_=>simp only [pbt,bt]; omega
 | 0,4,_=>simp only [pbt,bt]; omega
 | 1,1,_=>simp only [pbt,bt]; omega
 | 1,2,_=>simp only [pbt,bt]; omega
 | 1,3,_=>simp only [pbt,bt]; omega
 | 2,1,_=>simp only [pbt,bt]; omega
 | 2,2,_=>simp only [pbt,bt]; omega
 | 3,1,_=>simp only [pbt,bt]; omega
 | 0,l+5,h=>omega
 | 1,l+4,h=>omega
 | 2,l+3,h=>omega
 | 3,l+2,h=>omega
 | k+4,l+1,h=>omega
def ZQ (P:Int) (ξ:Nat) (x:Rat):Prop:=∃ Z:Int,x * (P:Rat)=(Z:Rat)∧Z.natAbs < 2 ^ ξ
theorem Zp5 {P:Int} {a ξ:Nat}:∀ (ts:List (Int×Rat)),(∀ p∈ts,p.1.natAbs < 2 ^ a∧ZQ P ξ p.2)→∃ Z:Int,sumT ts * (P:Rat)=(Z:Rat)∧Z.natAbs≤ts.length * 2 ^ (a+ξ)
 | [],_=>⟨0,by simp [sumT,Rat.zero_mul],by simp⟩
 | p :: ts,h=>by
   obtain ⟨Z,e,hZ⟩:=Zp5 ts fun q hq=>h q (n12_ _ hq);obtain ⟨h1,Y,e2,hY⟩:=h p n15_;refine ⟨p.1 * Y+Z,?_,?_⟩
   · rw [Rat.intCast_add,n38_,← e,← e2];unfold sumT;rw [List.map_cons,List.sum_cons];generalize (List.map (fun p:Int×Rat=>(p.1:Rat) * p.2) ts).sum=S;generalize (P:Rat)=p';generalize (p.1:Rat)=q'
     grind
   · have h3:=FM.natAbs_mul_lt h1 hY;have h4:=Int.natAbs_add_le (p.1 * Y) Z;rw [n16_,Nat.add_mul,Nat.one_mul];omega
structure StG (β:Nat) (n k:Nat) (x:Nat×List Int):Prop where
 lt:x.1 < n
 len:x.2.length=n+1
 nz:x.2.getD x.1 0≠0
 pv:(x.2.getD x.1 0).natAbs < 2 ^ bt β k
 bd:∀ e∈x.2,e.natAbs < 2 ^ 40000
theorem Zn9 {β n:Nat} (hn:n≤190) (hβ:15 * β+11≤3980):∀ (L:List (Nat×List Int)) (k:Nat),k+L.length≤4→(∀ j x,L[j]? = some x→StG β n (k+j) x)→(fil L (List.replicate n 0)).length=n∧∃ P:Int,P≠0∧P.natAbs≤2 ^ pbt β k L.length∧∀ x∈fil L (List.replicate n 0),ZQ P (45000 * L.length) x
 | [],k,_,_=>⟨by show (List.replicate n (0:Rat)).length=n; simp,1,by decide,by show 1≤2 ^ 0; decide,fun x hx=>by
    change x∈List.replicate n (0:Rat) at hx;rw [List.eq_of_mem_replicate hx];exact ⟨0,by simp [Rat.zero_mul],Nat.two_pow_pos _⟩⟩
 | x :: L,k,hk,h=>by
   rw [n16_] at hk
   obtain ⟨ln,P,hP,lP,hx⟩:=Zn9 hn hβ L (k+1) (by omega) fun j y e=>by
    have:=h (j+1) y (by rw [List.getElem?_cons_succ]; exact e)
    rwa [show k+1+j=k+(j+1) by omega]
   have G:StG β n k x:=h 0 x rfl;have ef:fil (x :: L) (List.replicate n 0)=(fil L (List.replicate n 0)).set x.1 (putQ x.1 x.2 (fil L (List.replicate n 0))):=rfl;rw [ef];generalize fil L (List.replicate n 0)=X at *;have pb:pbt β (k+1) L.length≤15 * β+11:=Ziy (by omega);have pb2:pbt β k (L.length+1)≤15 * β+11:=Ziy (by omega);have pe:pbt β k (L.length+1)=bt β k+pbt β (k+1) L.length:=rfl;have hZ:∀ (Z:Int),Z.natAbs < 2 ^ (45000 * L.length)→(Z * x.2.getD x.1 0).natAbs < 2 ^ (45000 * (L.length+1)):=fun Z z=>My.up _ (FM.natAbs_mul_lt z G.pv) (by rw [Nat.mul_add]; omega);refine ⟨by rw [List.length_set]; exact ln,P * x.2.getD x.1 0,Int.mul_ne_zero hP G.nz,?_,fun y hy=>?_⟩
   · rw [n50_,n16_,pe,Nat.add_comm,Nat.pow_add];exact Nat.mul_le_mul lP (Nat.le_of_lt G.pv)
   · rw [n16_]
     rcases List.mem_or_eq_of_mem_set hy with hy | rfl
     · obtain ⟨Z,e,z⟩:=hx y hy;refine ⟨Z * x.2.getD x.1 0,?_,hZ Z z⟩;rw [n38_,n38_,← e];generalize (P:Rat)=p'
       grind
     · obtain ⟨S,eS,hS⟩:=Zp5 (P:=P) (a:=40000) (ξ:=45000 * L.length) ((x.2.drop (x.1+1)).zip (X.drop (x.1+1))) fun p hp=>by
        obtain ⟨h1,h2⟩:=List.of_mem_zip hp;exact ⟨G.bd _ (n48_ h1),hx _ (n48_ h2)⟩
       have hl:((x.2.drop (x.1+1)).zip (X.drop (x.1+1))).length≤190:=by
        rw [List.length_zip,n44_,n44_]; omega
       refine ⟨x.2.getLastD 0 * P - S,?_,?_⟩
       · unfold putQ;rw [Rat.intCast_sub,n38_,n38_,← eS];have hz:=Xw G.nz;generalize sumT _=s at *;generalize ((x.2.getD x.1 0:Int):Rat)=c at *;generalize (P:Rat)=p' at *
         grind
       · have lst:(x.2.getLastD 0).natAbs < 2 ^ 40000:=by
          have:x.2≠[]:=fun z=>by have:=G.len; rw [z] at this; cases this
          rw [List.getLastD_eq_getLast?,List.getLast?_eq_some_getLast this];exact G.bd _ (List.getLast_mem this)
         have l1:(x.2.getLastD 0 * P).natAbs < 2 ^ (45000 * (L.length+1) - 1):=by
          have:P.natAbs < 2 ^ 3981:=n20_ lP (Nat.pow_lt_pow_right (by decide) (by omega))
          exact My.up _ (FM.natAbs_mul_lt lst this) (by rw [Nat.mul_add]; omega)
         have l2:S.natAbs < 2 ^ (45000 * (L.length+1) - 1):=by
          have:S.natAbs≤2 ^ 8 * 2 ^ (40000+45000 * L.length):=n24_ hS (Nat.mul_le_mul_right _ (by have:(2:Nat) ^ 8=256:=rfl; omega))
          rw [← Nat.pow_add] at this;exact n20_ this (Nat.pow_lt_pow_right (by decide) (by rw [Nat.mul_add]; omega))
         have:=Zoh l1 l2
         rwa [show 45000 * (L.length+1) - 1+1=45000 * (L.length+1) by omega] at this
theorem Zjw {β n:Nat} (hn:n≤190) (hβ:15 * β+11≤3980) {L:List (Nat×List Int)} (hk:L.length≤4) (h:∀ j x,L[j]? = some x→StG β n j x):FilOk L (List.replicate n 0)∧∀ x∈fil L (List.replicate n 0),x.num.natAbs < 2 ^ 200000∧x.den < 2 ^ 4000:=by
 have nd:∀ (L:List (Nat×List Int)) (k:Nat),k+L.length≤4→(∀ j x,L[j]? = some x→StG β n (k+j) x)→(fil L (List.replicate n 0)).length=n∧(∀ x∈fil L (List.replicate n 0),x.num.natAbs < 2 ^ 200000∧x.den < 2 ^ 4000)∧∃ P:Int,P≠0∧P.natAbs≤2 ^ pbt β k L.length∧∀ x∈fil L (List.replicate n 0),(x.den:Int) ∣ P:=fun L k hk h=>by
  obtain ⟨ln,P,hP,lP,hx⟩:=Zn9 hn hβ L k hk h;have pb:pbt β k L.length≤15 * β+11:=Ziy (by omega);refine ⟨ln,fun x hx'=>?_,P,hP,lP,fun x hx'=>?_⟩
  · obtain ⟨Z,e,z⟩:=hx x hx';obtain ⟨d,m⟩:=Zhv hP e;refine ⟨My.up _ (n20_ m z) (by omega),?_⟩
    have:x.den≤P.natAbs:=Nat.le_of_dvd (by omega) (Int.ofNat_dvd_left.mp d)
    exact n20_ (n24_ this lP) (Nat.pow_lt_pow_right (by decide) (by omega))
  · obtain ⟨Z,e,z⟩:=hx x hx';exact (Zhv hP e).1
 refine ⟨⟨fun i hi=>?_⟩,(nd L 0 (by omega) fun j x e=>by rw [Nat.zero_add]; exact h j x e).2.1⟩;have ei:=n0_ hi;have gd:L.getD i (0,[])=L[i]:=by rw [n19_,ei]; rfl
 rw [gd];have G:=h i _ ei
 obtain ⟨ln,nb,P,hP,lP,dv⟩:=nd (L.drop (i+1)) (i+1) (by rw [n44_]; omega) fun j x e=>by
  rw [List.getElem?_drop] at e; exact h _ x e
 refine ⟨by rw [ln]; exact G.lt,by rw [ln]; exact G.len,G.nz,fun e he=>My.up _ (G.bd e he),fun x hx=>(nb x hx).1,fun x hx=>(nb x hx).2,by omega,?_⟩
 have dl:lcmL (bots ((trm L[i].1 L[i].2 (fil (L.drop (i+1)) (List.replicate n 0))).map Prod.snd)) ∣ P:=(Xj _ (Xy _)).2.2 P fun z hz=>by
  obtain ⟨q,hq,rfl⟩:=n29_.mp hz;obtain ⟨t,ht,rfl⟩:=n29_.mp hq;exact dv _ (n48_ (List.of_mem_zip (List.mem_filter.mp ht).1).2)
 have l1:=Nat.le_of_dvd (by omega) (Int.natAbs_dvd_natAbs.mpr dl);have pe:bt β i+pbt β (i+1) (L.drop (i+1)).length=pbt β i ((L.drop (i+1)).length+1):=rfl;have pb:pbt β i ((L.drop (i+1)).length+1)≤15 * β+11:=Ziy (by rw [n44_]; omega);rw [n50_];have l2:=Nat.mul_le_mul (n24_ l1 lP) (Nat.le_of_lt G.pv);rw [← Nat.pow_add] at l2;exact n20_ l2 (Nat.pow_lt_pow_right (by decide) (by omega))
structure SysOk (rows:List (List Rat)) (rights:List Rat):Prop where
 rl:rights.length=rows.length
 n:rows.length≤60
 wd:∀ r∈rows,r.length=wid rows
 w:wid rows≤190
 rb:∀ r∈rows,∀ q∈r,FM.B 101 q
 lc:∀ r∈rows,(lcmL (bots r)).natAbs < 2 ^ 146
 gb:∀ q∈rights,FM.B 101 q
 mw:rows.length≤4∨wid rows≤4
theorem SysOk.rt {rows:List (List Rat)} {rights:List Rat} (S:SysOk rows rights):RtB 101 rows rights:=⟨S.rl,by have:=S.n; omega,fun r hr=>⟨S.rb r hr,by decide,by rw [S.wd r hr]; have:=S.w; omega,by rw [S.wd r hr]; have:=S.w; omega⟩,S.gb,by decide⟩
theorem Zl9 {rows:List (List Rat)} {rights:List Rat} (S:SysOk rows rights) {r:List Rat} (hr:r∈rows):(scl r).1.natAbs < 2 ^ 146:=by
 unfold scl;split
 · exact n43_ (by decide)
 · exact S.lc r hr
theorem SysOk.eb {rows:List (List Rat)} {rights:List Rat} (S:SysOk rows rights):LnB 250 (rtv rows rights):=by
 have hl:(rtv rows rights).length=rows.length:=by unfold rtv; rw [n62_,S.rl]; exact Nat.min_self _
 refine ⟨fun q hq=>?_,by decide,by rw [hl]; have:=S.n; omega,by rw [hl]; have:=S.n; omega⟩;obtain ⟨i,hi,e⟩:=n45_ hq;have e':(rtv rows rights)[i]? = some q:=by rw [← e]; exact n0_ hi
 unfold rtv at e';rw [n52_] at e';split at e'
 · rename_i row r er eg
   cases e'
   have m1:=n6_ er;have m2:=n6_ eg;have so:=Zem (S.rt.rb row m1);have s2:=Zmt (S.rt.rb row m1);have s1:=Zl9 S m1;have gb:=S.gb r m2;have hP:(r.den:Int) * (scl row).2≠0:=Int.mul_ne_zero (FM.den_ne r) (by omega)
   have q:mxd [(scl row).1] [r] (scl row).2 * (((r.den:Int) * (scl row).2:Int):Rat)=(((scl row).1 * r.num:Int):Rat):=by
    unfold mxd dotQ;rw [n38_,n38_];have e:=Zf4 r;have hd:=Zi5 r;have hs:=Xw (show (scl row).2≠0 by omega);have hd2:((r.den:Int):Rat)=(r.den:Rat):=by first | rfl | exact Rat.intCast_natCast _
    rw [hd2];show (((scl row).1:Rat) * r+0) / _ * _=_
    generalize ((scl row).1:Rat)=a at *;generalize ((scl row).2:Rat)=b at *;generalize (r.num:Rat)=n at *;generalize (r.den:Rat)=dd at *;rw [e]
    grind
   obtain ⟨d,m⟩:=Zhv hP q;refine ⟨My.up _ (n20_ m (FM.natAbs_mul_lt s1 gb.1)),?_⟩
   have:=Nat.le_of_dvd (by omega) (Int.natAbs_dvd_natAbs.mpr d)
   exact My.up _ (n20_ this (FM.natAbs_mul_lt gb.2 s2))
 · cases e'
theorem SysOk.lines {rows:List (List Rat)} {rights:List Rat} (S:SysOk rows rights):(lns rows rights).length=rows.length∧∀ l∈lns rows rights,l.length=wid rows+1∧∀ p v,l[p]? = some v→v.natAbs < 2 ^ My.eb 247 16000 (wid rows) 0 p:=by
 have hl:(rtv rows rights).length=rows.length:=by unfold rtv; rw [n62_,S.rl]; exact Nat.min_self _
 have ll:(lns rows rights).length=rows.length:=by unfold lns lvd; rw [n62_,n4_,hl]; exact Nat.min_self _
 refine ⟨ll,fun l hm=>?_⟩;obtain ⟨i,hi,e⟩:=n45_ hm;have e':(lns rows rights)[i]? = some l:=by rw [← e]; exact n0_ hi
 unfold lns at e';rw [n52_] at e';split at e'
 · rename_i row t er et
   cases e'
   have m1:=n6_ er;have lw:(wh row).length=wid rows:=by rw [Zlc,S.wd row m1]
   refine ⟨by rw [n17_,lw]; rfl,fun p v ev=>?_⟩;unfold My.eb
   by_cases hp:p < wid rows
   · rw [if_pos hp];rw [n56_ (by omega)] at ev;obtain ⟨q,hq,rfl⟩:=n29_.mp (n6_ ev);have so:=Zem (S.rt.rb row m1);exact My.up 247 (FM.natAbs_mul_lt (Xa so.2.2.1 (S.rb row m1 q hq).1) (Xa (FM.den_pos q) (Zl9 S m1)))
   · rw [if_neg hp];rw [n61_ (by omega)] at ev
     have:v=t:=by
      rw [lw] at ev;cases z:p - wid rows with
      | zero=>rw [z] at ev; exact (Option.some.inj ev).symm
      | succ z'=>rw [z] at ev; simp at ev
     subst this;obtain ⟨q,hq,rfl⟩:=n29_.mp (n6_ et);have lc:=Zdn _ S.eb.bots;rw [n4_,hl] at lc;exact My.up 16000 (FM.natAbs_mul_lt (S.eb.bd q hq).1 (Xa (FM.den_pos q) lc)) (by have:=S.n; omega)
 · cases e'
theorem eb_4 {n s p:Nat} (h:s≤4):My.eb 247 16000 n s p≤40000:=by
 unfold My.eb
 match s,h with
 | 0,_=>split <;> simp only [gt,bt] <;> omega
 | 1,_=>split <;> simp only [gt,bt] <;> omega
 | 2,_=>split <;> simp only [gt,bt] <;> omega
 | 3,_=>split <;> simp only [gt,bt] <;> omega
 | 4,_=>split <;> simp only [gt,bt] <;> omega
theorem bt_4 {s:Nat} (h:s≤4):bt 247 s≤4000:=by
 match s,h with
 | 0,_=>simp only [bt]; omega
 | 1,_=>simp only [bt]; omega
 | 2,_=>simp only [bt]; omega
 | 3,_=>simp only [bt]; omega
 | 4,_=>simp only [bt]; omega
theorem SysOk.se {rows:List (List Rat)} {rights:List Rat} (S:SysOk rows rights):SeOk 101 250 rows rights:=by
 obtain ⟨ll,hL⟩:=S.lines;have SIs:=Zi4 (β:=247) (γ:=16000) (n:=wid rows) (lines:=lns rows rights) (by decide) hL
 have s4:∀ i,i≤wid rows→(stp (lns rows rights) i).1.length≤4:=fun i hi=>by
  have h:=SIs i hi;have h1:=h.cnt;have h2:=h.le
  rcases S.mw with m | m <;> omega
 have sn:=s4 (wid rows) (n5_ _)
 have fb:=Zjw (β:=247) (n:=wid rows) S.w (by decide) (L:=(stF rows rights).1) sn fun j x e=>by
  obtain ⟨h1,h2,h3⟩:=(SIs (wid rows) (n5_ _)).st j x e;have hj:j < (stF rows rights).1.length:=(n33_.mp e).1;have j4:j≤4:=by have:(stF rows rights).1.length≤4:=sn; omega
  have ln:x.2.length=wid rows+1:=h3.len;refine ⟨h1,ln,h2,?_,fun e' he=>?_⟩
  · have:=h3.bd x.1 _ (Zhw (by show _ < x.2.length; omega))
    rwa [show My.eb 247 16000 (wid rows) j x.1=bt 247 j from if_pos h1] at this
  · obtain ⟨p,hp,rfl⟩:=n45_ he;exact My.up _ (h3.bd p _ (n0_ hp)) (eb_4 j4)
 exact { toRtB:=S.rt,wd:=S.wd,w:=S.w,eb:=S.eb,so:=⟨by omega,by have:=S.w; omega,by rw [ll]; have:=S.n; omega,fun i hi x hx=>by
  have h:=(SIs i hi).left x hx;refine ⟨h.nz,My.up _ h.kn (bt_4 (s4 i hi)),h.len,fun e he=>?_⟩;obtain ⟨p,hp,rfl⟩:=n45_ he;exact My.up _ (h.bd p _ (n0_ hp)) (n24_ (eb_4 (s4 i hi)) (by decide))⟩,fo:=fb.1,fb:=fb.2 }
def Y1 (n:Nat) (d:PyData):Bool:=match d with
 | .tuple ds=>decide (ds.length=n) && ds.all isFr
 | _=>false
theorem Zfg {n:Nat} {d:PyData} (h:isT d=false):Y1 n d=false:=by cases d <;> first | rfl | (cases h)
theorem Zjc {n:Nat} {ds:List PyData} (h:ds.length≠n):Y1 n (.tuple ds)=false:=by
 show (decide (ds.length=n) && _)=false
 rw [n14_ h]; rfl
theorem Zij {n:Nat} {ds:List PyData} (h:ds.length=n):Y1 n (.tuple ds)=ds.all isFr:=by
 show (decide (ds.length=n) && _)=_
 rw [n26_ h]; rfl
theorem Zkw {ds:List PyData} {i:Nat} {dx:PyData} (h:ds[i]? = some dx):nz dx≤nz (.tuple ds):=by
 have:=(Zd4 h).1
 show _≤1+Zt ds
 omega
def Zga:Sp:=fun vs H Q _=>∃ N k v d n,vs=[v,.int ((n:Nat):Int)]∧Dt N H k v d∧k≤4000∧nz d≤1000∧∀ H',Same H H'→Q (.bl (Y1 n d)) H'
def CLS:List Str:=["NoBalance","NoDeed","NoDeeds","NoFirm","NoFraction","NoFrame","NoHolding","NoInner","NoLine","NoLoads","NoLot","NoMotions","NoPiece","NoPlate","NoRest","NoRounds","NoRows","NoStresses","NoThick","NoTurning","NoWay","NoWays","NoWhole","NotHeld","TooMany","NoText"]
def WRD:List Str:=["balance","deed","deeds","firm","fraction","frame","holding","inner","line","loads","lot","motions","piece","plate","rest","rounds","rows","stresses","thick","turning","way","ways","whole","held","many","text"]
structure Kind (K:PySem.W.Frag) (cl:Str→Addr) (C:Addr) (ix:Nat):Prop where
 is:∀ (i:Nat) x,CLS[i]? = some x→PySem.W.kitOne K (.ref C) (.ref (cl x))=some (decide (i=ix))
 ve:PySem.W.kitOne K (.ref C) (.type "ValueError")=some true
 pe:PySem.W.exmOne K (.ref C) (.ref (cl "PlateError"))=some true
 lk:ExcLook K C
structure Ek (K:PySem.W.Frag) (mg:Str→Option Value) (cl:Str→Addr):Prop where
 nm:∀ x,x∈CLS→mg x=some (.ref (cl x))
 vb:mg "ValueError" = none
 mpe:mg "PlateError" = some (.ref (cl "PlateError"))
 e_NoRows:ExcK K (cl "NoRows")
 k_NoRows:Kind K cl (cl "NoRows") 16
theorem Ek.m_NoRows {K:PySem.W.Frag} {mg:Str→Option Value} {cl:Str→Addr} (Z:Ek K mg cl):mg "NoRows" = some (.ref (cl "NoRows")):=Z.nm _ (by decide)
theorem Zre:bootBuiltins "ValueError" = some (.type "ValueError"):=by decide +kernel
def mk26 (ix:Nat):List Bool:=[decide (0=ix),decide (1=ix),decide (2=ix),decide (3=ix),decide (4=ix),decide (5=ix),decide (6=ix),decide (7=ix),decide (8=ix),decide (9=ix),decide (10=ix),decide (11=ix),decide (12=ix),decide (13=ix),decide (14=ix),decide (15=ix),decide (16=ix),decide (17=ix),decide (18=ix),decide (19=ix),decide (20=ix),decide (21=ix),decide (22=ix),decide (23=ix),decide (24=ix),decide (25=ix)]
def IxOk (ix:Nat):Prop:=ix=16
def Mono (sp:Hp→VK→XK→Prop):Prop:=∀ H (Q Q':VK) (E E':XK),(∀ v H1,Q v H1→Q' v H1)→(∀ c a H1,E c a H1→E' c a H1)→sp H Q E→sp H Q' E'
def Zdh (P:Program) (w:World) (K:PySem.W.Frag) (mg:Str→Option Value) (base:Heap) (cl:Str→Addr):Sp:=fun vs H Q _=>∃ a sp o fd,vs=[.ref a]∧H a=some (fzO o)∧o.data=.func fd∧Zjx P w K mg base 12 a sp∧Mono sp ∧
 sp H (fun v H1=>∀ L,H1 L=none→Q (.ref L) (upd H1 L (.lst [v]))) (fun c _ H1=>∃ C ix,c=.ref C∧Kind K cl C ix∧IxOk ix∧∀ T H2,Same H1 H2→H2 T=some (.tup [.str (WRD.getD ix "")])→Q (.ref T) H2)
def bot2:List PyData→Int
 | [_,.int j]=>j
 | _=>1
mutual
def okB (c:Int):PyData→Bool
 | .tuple xs=>(!isFr (.tuple xs) || decide (bot2 xs ∣ c)) && okBs c xs
 | .none=>true
 | .bool _=>true
 | .int _=>true
 | .str _=>true
 | .list _=>true
 | .dict _=>true
def okBs (c:Int):List PyData→Bool
 | []=>true
 | x :: xs=>okB c x && okBs c xs
end
theorem Ziq {c:Int}:∀ {xs:List PyData},okBs c xs=true↔∀ x∈xs,okB c x=true
 | []=>⟨fun _ x h=>(nomatch h),fun _=>rfl⟩
 | x :: xs=>by
   show (okB c x && okBs c xs)=true↔_
   rw [n22_,Ziq (xs:=xs)];exact ⟨fun h y hy=>(n18_.mp hy).elim (fun e=>e ▸ h.1) (h.2 y),fun h=>⟨h x n15_,fun y hy=>h y (n12_ _ hy)⟩⟩
theorem Zaf {c:Int} {xs:List PyData}:okB c (.tuple xs)=true↔(isFr (.tuple xs)=true→bot2 xs ∣ c)∧∀ x∈xs,okB c x=true:=by
 show ((!isFr (.tuple xs) || decide (bot2 xs ∣ c)) && okBs c xs)=true↔_
 rw [n22_,Ziq];cases isFr (.tuple xs) <;> simp
mutual
theorem Za5 {c c':Int} (h:c ∣ c'):∀ {d:PyData},okB c d=true→okB c' d=true
 | .tuple xs,e=>by
   have e':((!isFr (.tuple xs) || decide (bot2 xs ∣ c)) && okBs c xs)=true:=e;rw [n22_] at e';show ((!isFr (.tuple xs) || decide (bot2 xs ∣ c')) && okBs c' xs)=true
   rw [n22_];refine ⟨?_,Zd2 h e'.2⟩;have e1:=e'.1;cases hf:isFr (.tuple xs) with
   | false=>rfl
   | true =>
     rw [hf] at e1
     have:bot2 xs ∣ c:=n27_ (by simpa using e1)
     simpa using Int.dvd_trans this h
 | .none,_=>rfl
 | .bool _,_=>rfl
 | .int _,_=>rfl
 | .str _,_=>rfl
 | .list _,_=>rfl
 | .dict _,_=>rfl
theorem Zd2 {c c':Int} (h:c ∣ c'):∀ {xs:List PyData},okBs c xs=true→okBs c' xs=true
 | [],_=>rfl
 | x :: xs,e=>by
   have e':(okB c x && okBs c xs)=true:=e;rw [n22_] at e';show (okB c' x && okBs c' xs)=true
   rw [Za5 h e'.1,Zd2 h e'.2]; rfl
end
def OkE (k:Nat) (d:PyData):Prop:=∃ e:Int,1≤e∧e.natAbs < 2 ^ k∧okB (60 * e) d=true
theorem okE0 {k:Nat} {d:PyData} (h:okB 60 d=true) (hk:1≤k):OkE k d:=⟨1,by decide,n43_ (by omega),h⟩
theorem OkE.up {k k':Nat} {d:PyData} (h:OkE k d) (hk:k≤k'):OkE k' d:=let ⟨e,a,b,c⟩:=h; ⟨e,a,My.up _ b hk,c⟩
theorem Zft {xs:List PyData} (h:isFr (.tuple xs)=true):∃ i j,xs=[.int i,.int j]∧1≤j∧Int.gcd i j=1:=by
 match xs,h with
 | [],h=>cases h
 | [d],h=>cases d <;> cases h
 | [d,e],h =>
   cases d <;> cases e <;> first | (cases h; done) | skip
   rename_i i j
   have h':(decide (1≤j) && decide (Int.gcd i j=1))=true:=h;rw [n22_] at h';exact ⟨i,j,rfl,n27_ h'.1,n27_ h'.2⟩
 | d :: e :: f :: g,h=>cases d <;> cases e <;> cases h
theorem okT {N:Addr→Prop} {H:Hp} {k:Nat} {vs:List V} {xs:List PyData} {e:Int} (h:Dts N H k vs xs) (h1:1≤e) (h2:e.natAbs < 2 ^ k) (hx:∀ x∈xs,okB (60 * e) x=true):OkE k (.tuple xs):=by
 cases hf:isFr (.tuple xs) with
 | false=>exact ⟨e,h1,h2,Zaf.mpr ⟨fun z=>by (rw [hf] at z; cases z),hx⟩⟩
 | true =>
   obtain ⟨i,j,rfl,j1,_⟩:=Zft hf;refine ⟨j,j1,?_,Zaf.mpr ⟨fun _=>⟨60,n49_ _ _⟩,fun x hx=>?_⟩⟩
   · match vs,h with
     | [_,_],.cons _ (.cons b .nil)=>cases b with | int h=>exact h
   · simp only [n18_,n25_,or_false] at hx
     rcases hx with rfl | rfl <;> rfl
def TgO (N:Addr→Prop) (H:Hp) (k n m:Nat) (v:V):Prop:=∃ d,Dt N H k v d∧d.depth≤n∧nz d≤m∧OkE k d
def TgOs (N:Addr→Prop) (H:Hp) (k n m:Nat) (xs:List V):Prop:=∀ v∈xs,TgO N H k n m v
section
variable {N:Addr→Prop} {H:Hp} {k n m:Nat} {v:V}
theorem TgO.keepS {l:Addr} {H':Hp} (hN:N l) (s:StAt H l) (h:TgO N H k n m v) (q:Keep l H H'):TgO N H' k n m v:=let ⟨d,a,b⟩:=h; ⟨d,Dt.keepS hN s a q,b⟩
theorem TgO.up {k' n' m':Nat} (h:TgO N H k n m v) (hk:k≤k') (hn:n≤n') (hm:m≤m'):TgO N H k' n' m' v:=let ⟨d,a,b,c,e⟩:=h; ⟨d,a.up hk,n24_ b hn,n24_ c hm,e.up hk⟩
theorem TgOs.nil:TgOs N H k n m []:=fun v h=>by cases h
theorem TgOs.cons {xs:List V} (h:TgO N H k n m v) (t:TgOs N H k n m xs):TgOs N H k n m (v :: xs):=fun w z=>by
 rcases n18_.mp z with rfl | z
 · exact h
 · exact t w z
theorem TgOs.app {xs ys:List V} (h:TgOs N H k n m xs) (t:TgOs N H k n m ys):TgOs N H k n m (xs++ys):=fun w z=>(n34_.mp z).elim (h w) (t w)
end
def Zkq:Sp:=fun vs H Q _=>∃ l N,vs=[.ref l]∧StAt H l∧N l∧Dom N H∧∀ H' v,Keep l H H'→StAt H' l→TgO N H' 100 2 20 v→Q v H'
def Za8 (n:Nat):Sp:=fun vs H Q _=>∃ l N k v d,vs=[.ref l,v]∧StAt H l∧N l∧Dom N H∧Dt N H k v d∧100≤k∧d.depth≤n∧nz d≤100000∧okB 60 d=true∧∀ H' v',Keep l H H'→StAt H' l→TgO N H' (k+1) (n+2) (2 * nz d+40) v'→Q v' H'
theorem Dts.cutM {N:Addr→Prop} {H:Hp} {k:Nat} {xs:List V} {ds:List PyData} (h:Dts N H k xs ds) (lo hi:Option Int):∃ es,Dts N H k (cutV xs lo hi) es∧Zt es≤Zt ds∧PyData.depthAll es≤PyData.depthAll ds∧∀ x∈es,x∈ds:=by
 refine ⟨_,(h.drop _).take _,?_,?_,fun x hx=>n48_ (n46_ hx)⟩
 · exact n24_ (Zjy _ _) (Zj9 _ _)
 · exact n24_ (Zb2 _ _) (Zb4 _ _)
theorem okS {N:Addr→Prop} {H:Hp} {k:Nat} {vs:List V} {xs:List PyData} (h:Dts N H (k+1) vs xs) (hx:∀ x∈xs,okB 60 x=true):OkE (k+1) (.tuple xs):=okT (e:=1) h (by decide) (n43_ (by omega)) hx
def Y8:PyData→Nat
 | .tuple ds=>ds.length
 | _=>0
def wd1:List PyData→Nat
 | []=>0
 | r :: _=>Y8 r
def Zcv:PyData→Bool
 | .tuple ds=>decide (ds.length≤60) && ds.all isT && ds.all (Y1 (wd1 ds))
 | _=>false
def Zbc (dr dg:PyData):Bool:=Zcv dr && Y1 (Y8 dr) dg
def frQ:PyData→Rat
 | .tuple [.int i,.int j]=>Rat.divInt i j
 | _=>0
def rowQ:PyData→List Rat
 | .tuple ds=>ds.map frQ
 | _=>[]
def Zw:PyData→List (List Rat)
 | .tuple ds=>ds.map rowQ
 | _=>[]
theorem fr_Q {K:PySem.W.Frag} {N:Addr→Prop} {H:Hp} {k:Nat} {v:V} {d:PyData} (h:Dt N H k v d) (e:isFr d=true):IsQ K H v (frQ d)∧FM.B k (frQ d)∧∀ c,okB c d=true→((frQ d).den:Int) ∣ c:=by
 rcases h.isT with ⟨p,xs,ds,rfl,rfl,hp,hs⟩ | e'
 · obtain ⟨i,j,rfl,j1,g1⟩:=Zft e
   match xs,hs with
   | [x,y],.cons a (.cons b .nil) =>
     cases a with
     | int hi =>
       cases b with
       | int hj =>
         have q:=Zn4 (i:=i) (show 0 < j by omega);rw [n26_ j1,n26_ g1] at q;have q:=n27_ q;injection q with q1 q2
         injection q2 with q2 _
         show IsQ K H _ (Rat.divInt i j)∧FM.B k (Rat.divInt i j)∧_
         refine ⟨⟨p,rfl,.inl ?_⟩,⟨by rw [q1]; exact hi,?_⟩,fun c hc=>?_⟩
         · rw [rt,q1,q2]; exact hp
         · have:((Rat.divInt i j).den:Int).natAbs < 2 ^ k:=by rw [q2]; exact hj
           exact this
         · show ((Rat.divInt i j).den:Int) ∣ c
           rw [q2];exact (Zaf.mp hc).1 e
 · have z:isFr d=false:=by cases d <;> first | rfl | (cases e')
   rw [z] at e; cases e
theorem Zc8 {K:PySem.W.Frag} {N:Addr→Prop} {H:Hp} {k n:Nat} {v:V} {d:PyData} (h:Dt N H k v d) (e:Y1 n d=true):∃ p us,v=.ref p∧H p=some (.tup us)∧Al (IsQ K H) us (rowQ d)∧(rowQ d).length=n∧Y8 d=n∧(∀ q∈rowQ d,FM.B k q)∧∀ c,okB c d=true→∀ q∈rowQ d,(q.den:Int) ∣ c:=by
 rcases h.isT with ⟨p,xs,ds,rfl,rfl,hp,hs⟩ | e'
 · have e':(decide (ds.length=n) && ds.all isFr)=true:=e;rw [n22_] at e';have hl:=n27_ e'.1;have ha:=n42_.mp e'.2;have hx:=hs.len;refine ⟨p,xs,rfl,hp,⟨by show xs.length=(ds.map frQ).length; rw [n4_]; exact hx,fun i v x e1 e2=>?_⟩,by show (ds.map frQ).length=n; rw [n4_]; exact hl,hl,fun q hq=>?_,fun c hc q hq=>?_⟩
   · obtain ⟨dx,ed,hd⟩:=hs.get e1;change (ds.map frQ)[i]? = some x at e2;rw [n3_,ed] at e2;cases e2
     exact (fr_Q hd (ha dx (n6_ ed))).1
   · obtain ⟨dx,hm,rfl⟩:=n29_.mp hq;obtain ⟨i,hi,rfl⟩:=n45_ hm;obtain ⟨d',ed,hd⟩:=hs.get (n0_ (show i < xs.length by omega));rw [n0_ hi] at ed;cases ed
     exact (fr_Q (K:=K) hd (ha _ hm)).2.1
   · obtain ⟨dx,hm,rfl⟩:=n29_.mp hq;obtain ⟨i,hi,rfl⟩:=n45_ hm;obtain ⟨d',ed,hd⟩:=hs.get (n0_ (show i < xs.length by omega));rw [n0_ hi] at ed;cases ed
     exact (fr_Q (K:=K) hd (ha _ hm)).2.2 c ((Zaf.mp hc).2 _ hm)
 · rw [Zfg e'] at e; cases e
theorem Zo6 {n:Nat} {d:PyData} (e:Y1 n d=true):1+6 * n≤nz d:=by
 cases d with
 | tuple ds =>
   have e':(decide (ds.length=n) && ds.all isFr)=true:=e;rw [n22_] at e';have h1:=n27_ e'.1;have h2:=n42_.mp e'.2
   have:6 * ds.length≤Zt ds:=by
    clear e e' h1
    induction ds with
    | nil=>exact n55_ _
    | cons x ds ih =>
      have:=ih fun y hy=>h2 y (n12_ _ hy)
      have hx:nz x=5:=by
       have hx:=h2 x n15_;cases x with
       | tuple xs=>obtain ⟨i,j,rfl,_⟩:=Zft hx; rfl
       | _=>cases hx
      show 6 * (ds.length+1)≤nz x+1+Zt ds
      omega
   show 1+6 * n≤1+Zt ds
   omega
 | _=>cases e
theorem Zgo {K:PySem.W.Frag} {N:Addr→Prop} {H:Hp} {k:Nat} {v:V} {d:PyData} (h:Dt N H k v d) (e:Zcv d=true):∃ p us,v=.ref p∧H p=some (.tup us)∧Al (IsQs K H) us (Zw d)∧(Zw d).length=Y8 d∧Y8 d≤60∧(∀ r∈Zw d,r.length=wid (Zw d))∧(∀ r∈Zw d,∀ q∈r,FM.B k q)∧(∀ c,okB c d=true→∀ r∈Zw d,∀ q∈r,(q.den:Int) ∣ c)∧6 * wid (Zw d)≤nz d:=by
 rcases h.isT with ⟨p,xs,ds,rfl,rfl,hp,hs⟩ | e'
 · have e':(decide (ds.length≤60) && ds.all isT && ds.all (Y1 (wd1 ds)))=true:=e;rw [n22_,n22_] at e';have hl:=n27_ e'.1.1;have ha:=n42_.mp e'.2;have hx:=hs.len
   have get:∀ dx∈ds,∃ v,Dt N H k v dx:=fun dx hm=>by
    obtain ⟨i,hi,rfl⟩:=n45_ hm;obtain ⟨d',ed,hd⟩:=hs.get (n0_ (show i < xs.length by omega));rw [n0_ hi] at ed;cases ed
    exact ⟨_,hd⟩
   have wd:wid (ds.map rowQ)=wd1 ds:=by
    cases ds with
    | nil=>rfl
    | cons r ds =>
      obtain ⟨v,hd⟩:=get r n15_;obtain ⟨_,_,_,_,_,h1,h2,_⟩:=Zc8 (K:=K) hd (ha r n15_);show (rowQ r).length=Y8 r
      rw [h1]; rfl
   refine ⟨p,xs,rfl,hp,⟨by show xs.length=(ds.map rowQ).length; rw [n4_]; exact hx,fun i v x e1 e2=>?_⟩,by show (ds.map rowQ).length=ds.length; rw [n4_],hl,fun r hr=>?_,fun r hr q hq=>?_,fun c hc r hr q hq=>?_,?_⟩
   · obtain ⟨dx,ed,hd⟩:=hs.get e1;change (ds.map rowQ)[i]? = some x at e2;rw [n3_,ed] at e2;cases e2
     obtain ⟨p',us,h1,h2,h3,_⟩:=Zc8 (K:=K) hd (ha dx (n6_ ed));exact ⟨p',us,h1,h2,h3⟩
   · obtain ⟨dx,hm,rfl⟩:=n29_.mp hr;obtain ⟨v,hd⟩:=get dx hm;show _=wid (ds.map rowQ)
     rw [wd];obtain ⟨_,_,_,_,_,h1,_⟩:=Zc8 (K:=K) hd (ha dx hm);exact h1
   · obtain ⟨dx,hm,rfl⟩:=n29_.mp hr;obtain ⟨v,hd⟩:=get dx hm;obtain ⟨_,_,_,_,_,_,_,h1,_⟩:=Zc8 (K:=K) hd (ha dx hm);exact h1 q hq
   · obtain ⟨dx,hm,rfl⟩:=n29_.mp hr;obtain ⟨v,hd⟩:=get dx hm;obtain ⟨_,_,_,_,_,_,_,_,h1⟩:=Zc8 (K:=K) hd (ha dx hm);exact h1 c ((Zaf.mp hc).2 dx hm) q hq
   · show 6 * wid (ds.map rowQ)≤1+Zt ds
     rw [wd];cases ds with
     | nil=>exact n55_ _
     | cons r ds =>
       have:=Zo6 (ha r n15_)
       show 6 * wd1 (r :: ds)≤1+(nz r+1+Zt ds)
       omega
 · have z:Zcv d=false:=by cases d <;> first | rfl | (cases e')
   rw [z] at e; cases e
structure PairOk (d1 d2:PyData):Prop where
 ln:Y8 d1≤4∨Y8 d2≤4∨wid (Zw d1)≤3
 n1:nz d1≤1000
 ok:∃ e:Int,1≤e∧e.natAbs < 2 ^ 101∧okB (60 * e) d1=true∧okB (60 * e) d2=true
theorem Zoa {e:Int} {qs:List Rat} (h1:1≤e) (h2:e.natAbs < 2 ^ 101) (h:∀ q∈qs,(q.den:Int) ∣ 60 * e):(lcmL (bots qs)).natAbs < 2 ^ 146:=by
 have _:=@Zd2
 have d:=(Xj _ (Xy qs)).2.2 (60 * e) fun x hx=>by
  obtain ⟨q,hq,rfl⟩:=n29_.mp hx;exact h q hq
 have l:=Nat.le_of_dvd (by omega) (Int.natAbs_dvd_natAbs.mpr d);exact n20_ l (My.up _ (FM.natAbs_mul_lt (show (60:Int).natAbs < 2 ^ 6 by decide) h2))
theorem Zn1 {N:Addr→Prop} {H:Hp} {k:Nat} {v u:V} {d1 d2:PyData} (h1:Dt N H k v d1) (h2:Dt N H k u d2) (hk:k≤101) (g:Zbc d1 d2=true) (p:PairOk d1 d2) :
 SysOk (Zw d1) (rowQ d2)∧SysOk (cols (Zw d1) (tkn (Zw d1) (rowQ d2))++[rowQ d2]) (List.replicate (tkn (Zw d1) (rowQ d2)).length 0++[1]):=by
 have g':(Zcv d1 && Y1 (Y8 d1) d2)=true:=g;rw [n22_] at g';have K:PySem.W.Frag:=[];obtain ⟨_,_,_,_,_,l1,l60,wd,rb,dv,wz⟩:=Zgo (K:=K) h1 g'.1;obtain ⟨_,_,_,_,_,l2,l3,gb,gd⟩:=Zc8 (K:=K) h2 g'.2;obtain ⟨e,e1,e2,o1,o2⟩:=p.ok;have dv:=dv _ o1;have gd:=gd _ o2;have wW:wid (Zw d1)≤190:=by have:=p.n1; omega
 have ln:(Zw d1).length≤4∨wid (Zw d1)≤3:=by
  rcases p.ln with h | h | h
  · left; omega
  · left; omega
  · right; exact h
 have S:SysOk (Zw d1) (rowQ d2):=⟨by omega,by omega,wd,wW,fun r hr q hq=>(rb r hr q hq).mono hk,fun r hr=>Zoa e1 e2 (dv r hr),fun q hq=>(gb q hq).mono hk,by rcases ln with h | h <;> omega⟩;refine ⟨S,?_⟩
 have tl:(tkn (Zw d1) (rowQ d2)).length≤wid (Zw d1)∧(tkn (Zw d1) (rowQ d2)).length≤(Zw d1).length∧∀ p∈tkn (Zw d1) (rowQ d2),p < wid (Zw d1):=by
  obtain ⟨ll,hL⟩:=S.lines;have SIs:=Zi4 (β:=247) (γ:=16000) (n:=wid (Zw d1)) (lines:=lns (Zw d1) (rowQ d2)) (by decide) hL (wid (Zw d1)) (n5_ _);have c:=SIs.cnt;have le:=SIs.le;unfold tkn;rw [n4_];refine ⟨le,by show (stp (lns (Zw d1) (rowQ d2)) (wid (Zw d1))).1.length≤_; omega,fun p hp=>?_⟩;obtain ⟨x,hx,rfl⟩:=n29_.mp hp;obtain ⟨i,hi,e⟩:=n45_ hx;exact (SIs.st i x (by rw [← e]; exact n0_ hi)).1
 obtain ⟨t1,t2,t3⟩:=tl;have lc:(cols (Zw d1) (tkn (Zw d1) (rowQ d2))).length=(tkn (Zw d1) (rowQ d2)).length:=by unfold cols; rw [n4_]
 have cm:∀ r∈cols (Zw d1) (tkn (Zw d1) (rowQ d2))++[rowQ d2],r.length=(Zw d1).length∧∀ q∈r,FM.B 101 q∧(q.den:Int) ∣ 60 * e:=fun r hr=>by
  rcases n34_.mp hr with hr | hr
  · obtain ⟨pl,hp,rfl⟩:=n29_.mp hr;refine ⟨by rw [n4_],fun q hq=>?_⟩;obtain ⟨row,hrow,rfl⟩:=n29_.mp hq;have lt:pl < row.length:=by rw [wd row hrow]; exact t3 pl hp
    have m:row.getD pl 0∈row:=by rw [n19_,n0_ lt]; exact n41_ lt
    exact ⟨S.rb row hrow _ m,dv row hrow _ m⟩
  · rw [n8_.mp hr];exact ⟨by omega,fun q hq=>⟨S.gb q hq,gd q hq⟩⟩
 have wC:wid (cols (Zw d1) (tkn (Zw d1) (rowQ d2))++[rowQ d2])=(Zw d1).length:=by
  cases e:cols (Zw d1) (tkn (Zw d1) (rowQ d2))++[rowQ d2] with
  | nil=>simp at e
  | cons r rs=>exact (cm r (by rw [e]; exact n15_)).1
 refine ⟨by rw [n17_,n17_,lc,n40_]; rfl,by rw [n17_,lc]; show _+1≤_; rcases ln with h | h <;> omega,fun r hr=>by rw [wC]; exact (cm r hr).1,by rw [wC]; omega,fun r hr q hq=>((cm r hr).2 q hq).1,fun r hr=>Zoa e1 e2 fun q hq=>((cm r hr).2 q hq).2,fun q hq=>?_,?_⟩
 · rcases n34_.mp hq with hq | hq
   · rw [List.eq_of_mem_replicate hq]; exact ⟨by decide,by decide⟩
   · rw [n8_.mp hq]; exact ⟨by decide,by decide⟩
 · rw [wC,n17_,lc];show _+1≤4∨_
   rcases ln with h | h
   · right; exact h
   · left; omega
theorem Zjm {d:PyData} (h:isT d=false):Zcv d=false:=by cases d <;> first | rfl | (cases h)
def Zef:Sp:=fun vs H Q _=>∃ N k a us ds,vs=[.ref a]∧H a=some (.tup us)∧Dts N H k us ds∧ds.all isT=true∧Q (.int (wd1 ds)) H
def Zgz:Sp:=fun vs H Q _=>∃ N k v d,vs=[v]∧Dt N H k v d∧k≤4000∧nz d≤1000∧∀ H',Same H H'→Q (.bl (Zcv d)) H'
def Zan (c:Addr):Sp:=fun vs H Q E=>∃ N k v u d1 d2,vs=[v,u]∧Dt N H k v d1∧Dt N H k u d2∧k≤4000∧nz d1≤1000∧nz d2≤1000∧∀ H',Same H H'→(if Zbc d1 d2=true then Q .non H' else E (.ref c) none H')
def Zb7 (Ph c:Addr):Sp:=fun vs H Q E=>∃ N k v u d1 d2,vs=[v,u]∧Dt N H k v d1∧Dt N H k u d2∧k≤101∧nz d1≤1000∧nz d2≤1000∧PairOk d1 d2∧TabF H Ph "head_of.<locals>.<lambda>" ∧ (if Zbc d1 d2=true then ∀ r H',Xk Ph H H'→TabF H' Ph "head_of.<locals>.<lambda>" → Q r H' else ∀ H',Same H H'→E (.ref c) none H')
theorem Zq7 {N:Addr→Prop} {H:Hp} {k:Nat} {v u:V} {d1 d2:PyData} (h1:Dt N H k v d1) (h2:Dt N H k u d2) (hk:k≤101) (g:Zbc d1 d2=true) (p:PairOk d1 d2):(tkn (Zw d1) (rowQ d2)).length≤190∧∀ p∈tkn (Zw d1) (rowQ d2),∀ r∈Zw d1,p < r.length:=by
 have S:=(Zn1 h1 h2 hk g p).1;obtain ⟨ll,hL⟩:=S.lines;have SIs:=Zi4 (β:=247) (γ:=16000) (n:=wid (Zw d1)) (lines:=lns (Zw d1) (rowQ d2)) (by decide) hL (wid (Zw d1)) (n5_ _);have le:=SIs.le;have wW:=S.w;unfold tkn;rw [n4_];refine ⟨by show (stp (lns (Zw d1) (rowQ d2)) (wid (Zw d1))).1.length≤_; omega,fun p hp r hr=>?_⟩;obtain ⟨x,hx,rfl⟩:=n29_.mp hp;obtain ⟨i,hi,e⟩:=n45_ hx;rw [S.wd r hr];exact (SIs.st i x (by rw [← e]; exact n0_ hi)).1
def Y0 (c:Addr):Sp:=fun vs H Q E=>∃ N k v u x d1 d2 d3,vs=[v,u,x]∧Dt N H k v d1∧Dt N H k u d2∧Dt N H k x d3∧k≤280∧nz d1≤990∧nz d2≤990∧nz d3≤990∧(if Zbc d1 d2=true then ∀ b H',Same H H'→Q (.bl b) H' else ∀ H',Same H H'→E (.ref c) none H')
theorem Zf9 {b:Nat} {qs:List Rat} (h:∀ q∈qs,FM.B b q) (hb:b≤290) (hl:qs.length≤1000):LnB b qs:=⟨h,by omega,n24_ (Nat.mul_le_mul hb hl) (by decide),hl⟩
theorem Zi7 {α:Type} {P:α→Prop} {xs:List α} {y:α} (h:∀ x∈xs,P x) (hy:P y):∀ x∈xs++[y],P x:=fun x hx=>(n34_.mp hx).elim (h x) fun z=>by rw [n8_.mp z]; exact hy
theorem Zok {n:Nat} {d:PyData} (e:Y1 n d=true):n≤nz d:=by
 cases d with
 | tuple ds =>
   have e':(decide (ds.length=n) && ds.all isFr)=true:=e;rw [n22_] at e'
   have:=n27_ e'.1
   have:=Zdp ds
   show n≤1+Zt ds
   omega
 | _=>cases e
theorem StAt.neN {H:Hp} {l p:Addr} (s:StAt H l) (h:H p=none):p≠l:=fun z=>s.ne h z.symm
theorem tkS {H H':Hp} {l:Addr} (k:Keep l H H') (s:StAt H l):Tk H H':=by
 obtain ⟨a,b,c,e,_⟩:=s;exact Tk.of_keep k e
theorem Zk1 {J:It} {n:Nat} {l D:Addr} {g:TG} {te:TE} {σ0:L2.St} {H:Hp} {Q:VK} {α:Type} (R:Hp→V→α→Prop) (hR:∀ H1 H2 v x,Tk H1 H2→R H1 v x→R H2 v x) (hz:n≤1000) (ok:L2.St→Prop) (h0:ok σ0) (hD:H D=none) (hl:StAt H l)
 (hgo:∀ i H2,Keep l H H2→i < n→J.go i H2) (hstop:∀ H2,Keep l H H2→J.stop n H2)
 (hs:∀ i x σ2 H2 H3 (C:L2.St→V→Hp→Prop),i < n→Keep l H H2→StAt H2 l→J.yld i H2 x H3→ok σ2→(∀ σ4 y H5 z,ok σ4→Keep l H2 H5→StAt H5 l→R H5 y z→C σ4 y H5)→g x σ2 H3 fun σ4 H4=>te σ4 H4 (C σ4))
 (hd:∀ H2 vs ys,Keep l H H2→StAt H2 l→H2 D=some (.lst vs)→ys.length=n→Al (R H2) vs ys→Q (.ref D) H2):LcGo J g tYes te σ0 H D Q:=by
 have neD:D≠l:=hl.neN hD;refine Zlg (n:=n) (fun i σ H2=>Keep l H H2∧StAt H2 l∧ok σ∧∃ vs ys,ys.length=i∧H2 D=some (.lst vs)∧Al (R H2) vs ys) ⟨Keep.new hD,hl.new hD,h0,[],[],rfl,Zc,.nil⟩ (fun i σ H2 hi p=>hgo i H2 p.1 hi) (fun σ H2 p=>hstop H2 p.1) (fun i x σ2 H2 H3 hi y p=>?_) (fun σ2 H2 p=>?_)
 · obtain ⟨s2,l2,o2,vs,ys,hy,e2,a2⟩:=p;refine hs i x σ2 H2 H3 (fun σ4 y H6=>∃ ys,H6 D=some (.lst ys)∧ys.length < sizeLine∧∃ m',m' < n - i∧LcN n (fun i σ H2=>Keep l H H2∧StAt H2 l∧ok σ∧∃ vs ys,ys.length=i∧H2 D=some (.lst vs)∧Al (R H2) vs ys) (i+1) m' σ4 (upd H6 D (.lst (ys++[y])))) hi s2 l2 y o2 ?_;intro σ4 v H5 z o4 s5 l5 rz;have e5:H5 D=some (.lst vs):=s5 _ _ neD e2;have tk:Tk H5 (upd H5 D (.lst (vs++[v]))):=Tk.upd_lst e5;refine ⟨vs,e5,?_,n - (i+1),by omega,by omega,rfl,fun b o nb e=>?_,?_,o4,vs++[v],ys++[z],by simp [hy],Zc,?_⟩
   · rw [a2.1,sizeLine_eq]; omega
   · rw [Zo (Zk e hD)]; exact s5 _ _ nb (s2 _ _ nb e)
   · obtain ⟨a,b,c,e,r⟩:=l5;exact ⟨a,b,c,by rw [Zo neD.symm]; exact e,r⟩
   · exact (a2.imp fun v x r=>hR _ _ v x tk (hR _ _ v x (tkS s5 l2) r)).snoc (hR _ _ _ _ tk rz)
 · obtain ⟨s2,l2,_,vs,ys,hy,e2,a2⟩:=p;exact hd H2 vs ys s2 l2 e2 hy a2
def Zg9 (n:Nat):Sp:=fun vs H Q _=>∃ l:Addr,vs=[.ref l]∧StAt H l∧∀ (H':Hp) (p:Addr) (q:Rat),Keep l H H'→StAt H' l→H' p=some (.tup (rt q))→FM.B n q∧q.den ∣ 60→Q (.ref p) H'
theorem Zpp (t:Int) {b:Int} (h:b≠0):((Rat.divInt t b).den:Int) ∣ b:=by
 rw [← FM.fdiv_den h]
 have hs:FM.sg t b ∣ b:=by
  unfold FM.sg;split
  · exact Int.neg_dvd.mpr (n64_ t b)
  · exact n64_ t b
 obtain ⟨k,hk⟩:=hs
 have e:b.fdiv (FM.sg t b)=k:=by
  have h0:=FM.sg_ne (t:=t) h;generalize FM.sg t b=g at *;rw [hk,n49_]; exact FM.fdiv_mul h0
 rw [e];exact ⟨_,by rw [n49_]; exact hk⟩
theorem Zo9 (t:Int) {b:Int} (h1:1≤b) (h6:b≤6):(Rat.divInt t b).den ∣ 60:=by
 have h:=Zpp t (show b≠0 by omega)
 have h2:b ∣ 60:=by
  have:b=1∨b=2∨b=3∨b=4∨b=5∨b=6:=by omega
  rcases this with rfl | rfl | rfl | rfl | rfl | rfl <;> decide
 exact_mod_cast Int.dvd_trans h h2
def IsQt (H:Hp) (v:V) (q:Rat):Prop:=∃ p,v=.ref p∧H p=some (.tup (rt q))
theorem IsQt.tk {H H':Hp} {v:V} {q:Rat} (t:Tk H H') (h:IsQt H v q):IsQt H' v q:=let ⟨p,e,a⟩:=h; ⟨p,e,t _ _ a⟩
def IsRt (H:Hp) (v:V) (qs:List Rat):Prop:=∃ a us,v=.ref a∧H a=some (.tup us)∧Al (IsQt H) us qs
theorem IsRt.tk {H H':Hp} {v:V} {qs:List Rat} (t:Tk H H') (h:IsRt H v qs):IsRt H' v qs:=let ⟨a,us,e,h1,h2⟩:=h; ⟨a,us,e,t _ _ h1,h2.imp fun _ _ r=>r.tk t⟩
def frD (q:Rat):PyData:=.tuple [.int q.num,.int q.den]
def rowD (qs:List Rat):PyData:=.tuple (qs.map frD)
def Zf5 (ms:List (List Rat)):PyData:=.tuple (ms.map rowD)
structure Dr (q:Rat):Prop where
 b:FM.B 60 q
 d:q.den ∣ 60
theorem Zg7 {α:Type} {N:Addr→Prop} {H:Hp} {k:Nat} {R:V→α→Prop} {f:α→PyData}:∀ {us:List V} {xs:List α},Al R us xs→(∀ v x,x∈xs→R v x→Dt N H k v (f x))→Dts N H k us (xs.map f)
 | [],[],_,_=>.nil
 | [],_ :: _,h,_=>by cases h.1
 | _ :: _,[],h,_=>by cases h.1
 | u :: us,x :: xs,h,g=>.cons (g u x n15_ (h.2 0 u x rfl rfl)) (Zg7 (R:=R) ⟨Nat.succ.inj h.1,fun i v y e1 e2=>h.2 (i+1) v y e1 e2⟩ fun v y hy r=>g v y (n12_ _ hy) r)
theorem Zqg {N:Addr→Prop} {H:Hp} {v:V} {q:Rat} (h:IsQt H v q) (r:Dr q):Dt N H 100 v (frD q):=by
 obtain ⟨p,rfl,hp⟩:=h;exact dt2 hp (up _ r.b.1) (up 100 (show ((q.den:Int)).natAbs < 2 ^ 60 from r.b.2))
theorem Zdx {N:Addr→Prop} {H:Hp} {v:V} {qs:List Rat} (h:IsRt H v qs) (r:∀ q∈qs,Dr q):Dt N H 100 v (rowD qs):=by
 obtain ⟨a,us,rfl,ha,al⟩:=h;exact .tup ha (Zg7 al fun v x hx hv=>Zqg hv (r x hx))
theorem Zpb {N:Addr→Prop} {H:Hp} {a:Addr} {us:List V} {ms:List (List Rat)} (ha:H a=some (.tup us)) (al:Al (IsRt H) us ms) (r:∀ m∈ms,∀ q∈m,Dr q):Dt N H 100 (.ref a) (Zf5 ms):=.tup ha (Zg7 al fun v x hx hv=>Zdx hv (r x hx))
theorem Ziz {α:Type} {f:α→List PyData} {xs:List α}:isFr (.tuple (xs.map fun x=>.tuple (f x)))=false:=by
 match xs with
 | []=>rfl
 | [x]=>rfl
 | [x,y]=>rfl
 | x :: y :: z :: w=>rfl
theorem okdF {q:Rat} (h:Dr q):okB 60 (frD q)=true:=Zaf.mpr ⟨fun _=>show ((q.den:Nat):Int) ∣ ((60:Nat):Int) from Int.ofNat_dvd.mpr h.d,fun x hx=>by
 simp only [n18_,n25_,or_false] at hx
 rcases hx with rfl | rfl <;> rfl⟩
theorem okdR {qs:List Rat} (h:∀ q∈qs,Dr q):okB 60 (rowD qs)=true:=Zaf.mpr ⟨fun z=>by (rw [show isFr (.tuple (qs.map frD))=false from Ziz] at z; cases z),fun x hx=>by
 obtain ⟨q,hq,rfl⟩:=n29_.mp hx;exact okdF (h q hq)⟩
theorem okdS {ms:List (List Rat)} (h:∀ m∈ms,∀ q∈m,Dr q):okB 60 (Zf5 ms)=true:=Zaf.mpr ⟨fun z=>by (rw [show isFr (.tuple (ms.map rowD))=false from Ziz] at z; cases z),fun x hx=>by
 obtain ⟨m,hm,rfl⟩:=n29_.mp hx;exact okdR (h m hm)⟩
theorem Zlw (qs:List Rat):nz (rowD qs)=1+6 * qs.length:=by
 show 1+Zt (qs.map frD)=_
 have:Zt (qs.map frD)=6 * qs.length:=by
  induction qs with
  | nil=>rfl
  | cons q qs ih=>show nz (frD q)+1+Zt (qs.map frD)=_; rw [ih,n16_]; show 5+1+_=_; omega
 omega
theorem Zhy {ms:List (List Rat)} {w:Nat} (h:∀ m∈ms,m.length≤w):nz (Zf5 ms)≤1+ms.length * (2+6 * w):=by
 show 1+Zt (ms.map rowD)≤_
 have:Zt (ms.map rowD)≤ms.length * (2+6 * w):=by
  induction ms with
  | nil=>exact n55_ _
  | cons m ms ih =>
    have i:=ih fun x hx=>h x (n12_ _ hx);have l:=h m n15_;show nz (rowD m)+1+Zt (ms.map rowD)≤_
    rw [Zlw,n16_,Nat.add_mul];omega
 omega
theorem Zh8 {α:Type} {f:α→PyData} {n:Nat}:∀ {xs:List α},(∀ x∈xs,(f x).depth≤n)→PyData.depthAll (xs.map f)≤n
 | [],_=>n55_ _
 | x :: xs,h=>by
   have:=Zh8 (f:=f) (xs:=xs) fun y hy=>h y (n12_ _ hy)
   have:=h x n15_
   show max _ _≤_
   omega
theorem Zbh (qs:List Rat):(rowD qs).depth≤2:=Nat.succ_le_succ (Zh8 fun x _=>n5_ 1)
theorem Za9 (ms:List (List Rat)):(Zf5 ms).depth≤3:=Nat.succ_le_succ (Zh8 fun x _=>Zbh x)
def Zkv:Sp:=fun vs H Q _=>∃ (l:Addr) (n:Nat),vs=[.ref l,.int n]∧StAt H l∧n≤1000∧∀ (H':Hp) (v:V) (ms:List Rat),Keep l H H'→StAt H' l→IsRt H' v ms→ms.length=n→(∀ q∈ms,Dr q)→Q v H'
def Zgh:Sp:=fun vs H Q _=>∃ N k v d n,vs=[.int ((n:Nat):Int),v]∧Dt N H k v d∧k≤4000∧nz d≤1000∧∀ H',Same H H'→Q (.bl (Y1 n d)) H'
def Zey:Sp:=fun vs H Q _=>∃ N k v u d1 d2,vs=[v,u]∧Dt N H k v d1∧Dt N H k u d2∧k≤4000∧nz d1≤1000∧nz d2≤1000∧∀ H',Same H H'→Q (.bl (Zbc d1 d2)) H'
def Ze5 (K:PySem.W.Frag) (cl:Str→Addr):Sp:=fun vs H Q _=>∃ ea C ix,vs=[.ref ea]∧H ea=some (excA ea C)∧Kind K cl C ix∧∀ L H',Same H H'→H' L=some (.lst ((mk26 ix).map V.bl))→Q (.ref L) H'
def Zie (K:PySem.W.Frag) (cl:Str→Addr):Sp:=fun vs H Q _=>∃ ea C ix,vs=[.ref ea]∧H ea=some (excA ea C)∧Kind K cl C ix∧IxOk ix∧∀ T H',Same H H'→H' T=some (.tup [.str (WRD.getD ix "")])→Q (.ref T) H'
abbrev noPs:Arguments:={ posonlyargs:=[],args:=[],vararg:=none,kwonlyargs:=[],kw_defaults:=[],kwarg:=none,defaults:=[] }
abbrev lsc (ns:List (Str×NameKind)):Scope:={ kind:=.function,names:=ns,isGenerator:=false,isCoroutine:=false }
theorem Yw {β:Type} {x:Str} {y:β}:∀ {l:List (Str×β)},l.lookup x=some y→(x,y)∈l
 | [],h=>by cases h
 | (a,b) :: l,h=>by
   rw [List.lookup_cons] at h;split at h
   · rename_i e
     cases h
     rw [beq_iff_eq.mp e]; exact n15_
   · exact n12_ _ (Yw h)
section
variable {P:Program} {w:World} {K:PySem.W.Frag} {mg:Str→Option Value} {base:Heap} {c a Ph:Addr} {pm:Value} {q:Str} {p0 p1 p2 p3 p4:Pos}
def spR2 (a c1 c2 Ph c:Addr) (q:Str) (pm:Value) (p0 p1 p2 p3:Pos):Hp→VK→XK→Prop:=fun H Q E =>
 LamF H a q noPs (.Call (.Name "solved" p0) [.Name "_law_rows" p1,.Name "_law_rights" p2] [] p3) (lsc [("_law_rights",.free),("_law_rows",.free),("solved",.globalImplicit)]) [("_law_rows",c1),("_law_rights",c2)] pm∧∃ v u,Zci H c1 v∧Zci H c2 u∧Zb7 Ph c [v,u] H Q E
theorem Zmg {c1 c2:Addr}:Mono (spR2 a c1 c2 Ph c q pm p0 p1 p2 p3):=by
 rintro H Q Q' E E' hQ hE ⟨l,v,u,h1,h2,N,k,v',u',d1,d2,e,k1,k2,hk,z1,z2,po,tb,q⟩
 refine ⟨l,v,u,h1,h2,N,k,v',u',d1,d2,e,k1,k2,hk,z1,z2,po,tb,?_⟩;split
 · rename_i h; rw [if_pos h] at q; exact fun r H' s t=>hQ _ _ (q r H' s t)
 · rename_i h; rw [if_neg h] at q; exact fun H' s=>hE _ _ _ (q H' s)
theorem Zrf {c1 c2:Addr} (X_op:CalX P w K mg base "solved" 10 ["rows","rights"] (Zb7 Ph c)) (hne:c1≠c2):Zjx P w K mg base 12 a (spR2 a c1 c2 Ph c q pm p0 p1 p2 p3):=by
 refine Zn6 (k:=11) (N:=["_law_rows","_law_rights"]) (q:=q) (params:=noPs) (body:=.Call (.Name "solved" p0) [.Name "_law_rows" p1,.Name "_law_rights" p2] [] p3) (scope:=lsc [("_law_rights",.free),("_law_rows",.free),("solved",.globalImplicit)]) (clos:=[("_law_rows",c1),("_law_rights",c2)]) (pm:=pm) rfl rfl rfl ?_ ?_ ?_ ?_ ?_ ?_ ?_
 · intro x hx; simp only [n18_,n25_,or_false] at hx; rcases hx with rfl | rfl | rfl <;> (intro z; cases z)
 · intro _ _; rfl
 · intro x y d h1 h2;have m1:=Yw h1;have m2:=Yw h2;simp only [n18_,n25_,or_false,Prod.mk.injEq] at m1 m2
   rcases m1 with ⟨e1,z1⟩ | ⟨e1,z1⟩ <;> rcases m2 with ⟨e2,z2⟩ | ⟨e2,z2⟩ <;> first | exact e1.trans e2.symm | (exfalso; first | exact hne (z1.symm.trans z2) | exact hne (z2.symm.trans z1))
 · intro x hx;have m:=Yw hx;simp only [n18_,n25_,or_false,Prod.mk.injEq] at m
   rcases m with ⟨rfl,_⟩ | ⟨rfl,_⟩ | ⟨_,z⟩
   · exact ⟨c2,rfl⟩
   · exact ⟨c1,rfl⟩
   · cases z
 · intro i x e
   match i,e with
   | 0,e=>cases e; rfl
   | 1,e=>cases e; rfl
   | n+2,e=>simp at e
 · rintro H Q E ⟨l,v,u,h1,h2,_⟩
   refine ⟨l,fun x d e=>?_⟩;have m:=Yw e;simp only [n18_,n25_,or_false,Prod.mk.injEq] at m
   rcases m with ⟨_,rfl⟩ | ⟨_,rfl⟩
   · exact Zh3 h1
   · exact Zh3 h2
 · rintro A outer s H Q E cd hr ⟨l,v,u,h1,h2,h3⟩
   refine ⟨[some v,some u],_,rfl,fun i x z e1 e2=>?_,Zde X_op Zqm.passes hr (by decide) rfl (Za (pv 0) (Za (pv 1) Zb rfl) rfl) rfl,⟨_,rfl,_,rfl,h3⟩⟩
   match i,e1,e2 with
   | 0,e1,e2=>cases e1; cases e2; exact ⟨c1,rfl,h1⟩
   | 1,e1,e2=>cases e1; cases e2; exact ⟨c2,rfl,h2⟩
   | n+2,e1,e2=>simp at e1
def spR3 (op:Str) (a c1 c2 c3 c:Addr) (q:Str) (pm:Value) (p0 p1 p2 p3 p4:Pos):Hp→VK→XK→Prop:=fun H Q E =>
 LamF H a q noPs (.Call (.Name op p0) [.Name "_law_rows" p1,.Name "_law_rights" p2,.Name "_law_thing" p3] [] p4) (lsc [("_law_rights",.free),("_law_rows",.free),("_law_thing",.free),(op,.globalImplicit)]) [("_law_thing",c3),("_law_rows",c1),("_law_rights",c2)] pm∧∃ v u x,Zci H c1 v∧Zci H c2 u∧Zci H c3 x∧Y0 c [v,u,x] H Q E
theorem Zmi {op:Str} {c1 c2 c3:Addr}:Mono (spR3 op a c1 c2 c3 c q pm p0 p1 p2 p3 p4):=by
 rintro H Q Q' E E' hQ hE ⟨l,v,u,x,h1,h2,h3,N,k,v',u',x',d1,d2,d3,e,k1,k2,k3,hk,z1,z2,z3,q⟩
 refine ⟨l,v,u,x,h1,h2,h3,N,k,v',u',x',d1,d2,d3,e,k1,k2,k3,hk,z1,z2,z3,?_⟩;split
 · rename_i h; rw [if_pos h] at q; exact fun r H' s=>hQ _ _ (q r H' s)
 · rename_i h; rw [if_neg h] at q; exact fun H' s=>hE _ _ _ (q H' s)
theorem Zpy {op:Str} {c1 c2 c3:Addr} (X_op:CalX P w K mg base op 7 ["rows","rights","thing"] (Y0 c)) (n12:c1≠c2) (n13:c1≠c3) (n23:c2≠c3) (hop:∀ (L:Addr) (cl:List (Str×Addr)) (cd:Value),(Zcn (lsc [("_law_rights",.free),("_law_rows",.free),("_law_thing",.free),(op,.globalImplicit)]) L cl q a cd).kindOf op=some .globalImplicit) (hdb:(op == ("__debug__" : Str))=false):Zjx P w K mg base 12 a (spR3 op a c1 c2 c3 c q pm p0 p1 p2 p3 p4):=by
 refine Zn6 (k:=11) (N:=["_law_rows","_law_rights","_law_thing"]) (q:=q) (params:=noPs) (body:=.Call (.Name op p0) [.Name "_law_rows" p1,.Name "_law_rights" p2,.Name "_law_thing" p3] [] p4) (scope:=lsc [("_law_rights",.free),("_law_rows",.free),("_law_thing",.free),(op,.globalImplicit)]) (clos:=[("_law_thing",c3),("_law_rows",c1),("_law_rights",c2)]) (pm:=pm) rfl rfl rfl ?_ ?_ ?_ ?_ ?_ ?_ ?_
 · intro x hx; simp only [n18_,n25_,or_false] at hx; rcases hx with rfl | rfl | rfl | rfl <;> (intro z; cases z)
 · intro _ _; rfl
 · intro x y d h1 h2;have m1:=Yw h1;have m2:=Yw h2;simp only [n18_,n25_,or_false,Prod.mk.injEq] at m1 m2
   rcases m1 with ⟨e1,z1⟩ | ⟨e1,z1⟩ | ⟨e1,z1⟩ <;> rcases m2 with ⟨e2,z2⟩ | ⟨e2,z2⟩ | ⟨e2,z2⟩ <;> first | exact e1.trans e2.symm | (exfalso; first | exact n12 (z1.symm.trans z2) | exact n12 (z2.symm.trans z1) | exact n13 (z1.symm.trans z2) | exact n13 (z2.symm.trans z1) | exact n23 (z1.symm.trans z2) | exact n23 (z2.symm.trans z1))
 · intro x hx;have m:=Yw hx;simp only [n18_,n25_,or_false,Prod.mk.injEq] at m
   rcases m with ⟨rfl,_⟩ | ⟨rfl,_⟩ | ⟨rfl,_⟩ | ⟨_,z⟩
   · exact ⟨c2,rfl⟩
   · exact ⟨c1,rfl⟩
   · exact ⟨c3,rfl⟩
   · cases z
 · intro i x e
   match i,e with
   | 0,e=>cases e; rfl
   | 1,e=>cases e; rfl
   | 2,e=>cases e; rfl
   | n+3,e=>simp at e
 · rintro H Q E ⟨l,v,u,x,h1,h2,h3,_⟩
   refine ⟨l,fun x d e=>?_⟩;have m:=Yw e;simp only [n18_,n25_,or_false,Prod.mk.injEq] at m
   rcases m with ⟨_,rfl⟩ | ⟨_,rfl⟩ | ⟨_,rfl⟩
   · exact Zh3 h3
   · exact Zh3 h1
   · exact Zh3 h2
 · rintro A outer s H Q E cd hr ⟨l,v,u,x,h1,h2,h3,h4⟩
   refine ⟨[some v,some u,some x],_,rfl,fun i x z e1 e2=>?_,Zde X_op Zqm.passes hr (by decide) (hop _ _ _) (Za (pv 0) (Za (pv 1) (Za (pv 2) Zb rfl) rfl) rfl) hdb,⟨_,rfl,_,rfl,_,rfl,h4⟩⟩
   match i,e1,e2 with
   | 0,e1,e2=>cases e1; cases e2; exact ⟨c1,rfl,h1⟩
   | 1,e1,e2=>cases e1; cases e2; exact ⟨c2,rfl,h2⟩
   | 2,e1,e2=>cases e1; cases e2; exact ⟨c3,rfl,h3⟩
   | n+3,e1,e2=>simp at e1
end
theorem Zq5 {A:Around} {k:Nat} (hr:Room k A):A.units+0+1 < cLine:=by have:=hr.un; omega
def Zfh (Ph Pw:Addr):Sp:=fun vs H Q _=>∃ N v u x d1 d2 d3,vs=[v,u,x]∧Dt N H 101 v d1∧Dt N H 101 u d2∧Dt N H 101 x d3∧d1.depth≤8∧d2.depth≤8∧d3.depth≤8∧nz d1≤900∧nz d2≤900∧nz d3≤900∧PairOk d1 d2∧Ph≠Pw∧TabF H Ph "head_of.<locals>.<lambda>" ∧ TabF H Pw "_law_right.<locals>.<lambda>" ∧ ∀ H',Gv Ph Pw H H'→TabF H' Ph "head_of.<locals>.<lambda>" → TabF H' Pw "_law_right.<locals>.<lambda>" → Q (.bl true) H'
theorem al1s (x:Str):Al (fun v (x:Str)=>v=V.str x) [V.str x] [x]:=⟨rfl,fun i v y e1 e2=>by
 match i,e1,e2 with
 | 0,e1,e2=>cases e1; cases e2; rfl
 | n+1,e1,e2=>simp at e1⟩
def Zn7 (H:Hp) (a c1 c2 c3:Addr):Prop:=(∃ q pm p0 p1 p2 p3,LamF H a q noPs (.Call (.Name "solved" p0) [.Name "_law_rows" p1,.Name "_law_rights" p2] [] p3) (lsc [("_law_rights",.free),("_law_rows",.free),("solved",.globalImplicit)]) [("_law_rows",c1),("_law_rights",c2)] pm) ∨
 ∃ op,(op = "is_solution" ∨ op = "is_mix")∧∃ q pm p0 p1 p2 p3 p4,LamF H a q noPs (.Call (.Name op p0) [.Name "_law_rows" p1,.Name "_law_rights" p2,.Name "_law_thing" p3] [] p4) (lsc [("_law_rights",.free),("_law_rows",.free),("_law_thing",.free),(op,.globalImplicit)]) [("_law_thing",c3),("_law_rows",c1),("_law_rights",c2)] pm
def Zg8 (g:Bool) (H:Hp) (v:V):Prop:=if g=true then ∃ M r,v=.ref M∧H M=some (.lst [r]) else ∃ T,v=.ref T∧H T=some (.tup [.str "rows"])
theorem Zna {P:Program} {w:World} {K:PySem.W.Frag} {mg:Str→Option Value} {base:Heap} {cl:Str→Addr} {Ph a c1 c2 c3:Addr} {H:Hp} {N:Addr→Prop} {v u x:V} {d1 d2 d3:PyData} {Q:VK} {E:XK} (Z:Ek K mg cl) (X1:CalX P w K mg base "solved" 10 ["rows","rights"] (Zb7 Ph (cl "NoRows"))) (X2:CalX P w K mg base "is_solution" 7 ["rows","rights","thing"] (Y0 (cl "NoRows"))) (X3:CalX P w K mg base "is_mix" 7 ["rows","rights","thing"] (Y0 (cl "NoRows")))
 (lm:Zn7 H a c1 c2 c3) (cf1:Zci H c1 v) (cf2:Zci H c2 u) (cf3:Zci H c3 x) (n12:c1≠c2) (n13:c1≠c3) (n23:c2≠c3) (h1:Dt N H 101 v d1) (h2:Dt N H 101 u d2) (h3:Dt N H 101 x d3) (z1:nz d1≤900) (z2:nz d2≤900) (z3:nz d3≤900) (PO:PairOk d1 d2) (th:TabF H Ph "head_of.<locals>.<lambda>")
 (fin:∀ w' H5,Xk Ph H H5→TabF H5 Ph "head_of.<locals>.<lambda>" → Zg8 (Zbc d1 d2) H5 w'→Q w' H5):Zdh P w K mg base cl [.ref a] H Q E:=by
 rcases lm with ⟨q,pm,p0,p1,p2,p3,lm⟩ | ⟨op,ho,q,pm,p0,p1,p2,p3,p4,lm⟩
 · obtain ⟨dd,ct,hA,cf⟩:=id lm;refine ⟨a,_,_,_,rfl,hA,rfl,Zrf X1 n12,Zmg,lm,v,u,cf1,cf2,N,101,v,u,d1,d2,rfl,h1,h2,by decide,by omega,by omega,PO,th,?_⟩;cases e:Zbc d1 d2 with
   | true =>
     rw [if_pos rfl];intro r H' kp tb L nL;exact fin _ _ (fun b o n e=>Same.new nL _ _ (kp b o n e)) (tb.same (Same.new nL)) (by unfold Zg8; rw [e,if_pos rfl]; exact ⟨L,r,rfl,Zc⟩)
   | false =>
     rw [if_neg (by decide)];intro H' s;exact ⟨_,16,rfl,Z.k_NoRows,rfl,fun T H2 s2 hT=>fin _ _ (fun b o _ e=>s2 _ _ (s _ _ e)) (th.same (s.trans s2)) (by unfold Zg8; rw [e,if_neg (by decide)]; exact ⟨T,rfl,hT⟩)⟩
 · obtain ⟨dd,ct,hA,cf⟩:=id lm
   have LO:Zjx P w K mg base 12 a (spR3 op a c1 c2 c3 (cl "NoRows") q pm p0 p1 p2 p3 p4):=by
    rcases ho with rfl | rfl
    · exact Zpy X2 n12 n13 n23 (fun _ _ _=>rfl) rfl
    · exact Zpy X3 n12 n13 n23 (fun _ _ _=>rfl) rfl
   refine ⟨a,_,_,_,rfl,hA,rfl,LO,Zmi,lm,v,u,x,cf1,cf2,cf3,N,101,v,u,x,d1,d2,d3,rfl,h1,h2,h3,by decide,by omega,by omega,by omega,?_⟩;cases e:Zbc d1 d2 with
   | true =>
     rw [if_pos rfl];intro r H' s L nL;exact fin _ _ (fun b o _ e=>Same.new nL _ _ (s _ _ e)) (th.same (s.trans (Same.new nL))) (by unfold Zg8; rw [e,if_pos rfl]; exact ⟨L,_,rfl,Zc⟩)
   | false =>
     rw [if_neg (by decide)];intro H' s;exact ⟨_,16,rfl,Z.k_NoRows,rfl,fun T H2 s2 hT=>fin _ _ (fun b o _ e=>s2 _ _ (s _ _ e)) (th.same (s.trans s2)) (by unfold Zg8; rw [e,if_neg (by decide)]; exact ⟨T,rfl,hT⟩)⟩
mutual
theorem Dt.less {N:Addr→Prop} {p:Addr} {H:Hp} {k:Nat}:∀ {v:V} {d:PyData},Dt (fun b=>N b∨b=p) H k v d→Dt N H k v d
 | _,_,.non=>.non
 | _,_,.bl b=>.bl b
 | _,_,.int h=>.int h
 | _,_,.str x=>.str x
 | _,_,.tup h r=>.tup h (Dts.less r)
 | _,_,.lst h n m r=>.lst h (fun z=>n (.inl z)) m (Dts.less r)
 | _,_,.dic h=>.dic h
theorem Dts.less {N:Addr→Prop} {p:Addr} {H:Hp} {k:Nat}:∀ {vs:List V} {ds:List PyData},Dts (fun b=>N b∨b=p) H k vs ds→Dts N H k vs ds
 | _,_,.nil=>.nil
 | _,_,.cons a b=>.cons (Dt.less a) (Dts.less b)
end
theorem Dt.gv {N:Addr→Prop} {k:Nat} {P1 P2:Addr} {q1 q2:Str} {H H':Hp} {v:V} {d:PyData} (h:Dt N H k v d) (g:Gv P1 P2 H H') (t1:TabF H P1 q1) (t2:TabF H P2 q2):Dt N H' k v d:=Dt.gen (fun b o x e=>g b o (x.neT e t1) (x.neT e t2) e) h
theorem Tk.gv {P1 P2:Addr} {q1 q2:Str} {H H':Hp} (g:Gv P1 P2 H H') (t1:TabF H P1 q1) (t2:TabF H P2 q2):Tk H H':=fun b xs e=>g b _ (fun z=>by obtain ⟨ps,h,_⟩:=t1; rw [z,h] at e; cases e) (fun z=>by obtain ⟨ps,h,_⟩:=t2; rw [z,h] at e; cases e) e
def IsRsT (H:Hp) (v:V) (ms:List (List Rat)):Prop:=∃ a us,v=.ref a∧H a=some (.tup us)∧Al (IsRt H) us ms
theorem IsRsT.tk {H H':Hp} {v:V} {ms:List (List Rat)} (t:Tk H H') (h:IsRsT H v ms):IsRsT H' v ms:=let ⟨a,us,e,h1,h2⟩:=h; ⟨a,us,e,t _ _ h1,h2.imp fun _ _ r=>r.tk t⟩
theorem IsRsT.dt {N:Addr→Prop} {H:Hp} {v:V} {ms:List (List Rat)} (h:IsRsT H v ms) (r:∀ m∈ms,∀ q∈m,Dr q):Dt N H 100 v (Zf5 ms):=by
 obtain ⟨a,us,rfl,ha,al⟩:=h;exact Zpb ha al r
theorem Zpg (q:Rat):frQ (frD q)=q:=by
 show Rat.divInt q.num q.den=q
 exact Rat.num_divInt_den q
theorem Zku (qs:List Rat):rowQ (rowD qs)=qs:=by
 show (qs.map frD).map frQ=qs
 rw [List.map_map]
 conv=>rhs; rw [← List.map_id qs]
 exact List.map_congr_left fun q _=>Zpg q
theorem Zhp (ms:List (List Rat)):Zw (Zf5 ms)=ms:=by
 show (ms.map rowD).map rowQ=ms
 rw [List.map_map]
 conv=>rhs; rw [← List.map_id ms]
 exact List.map_congr_left fun q _=>Zku q
def Pr (N:Addr→Prop) (H:Hp) (v:V):Prop:=∃ p x y d1 d2,v=.ref p∧H p=some (.tup [x,y])∧Dt N H 101 x d1∧Dt N H 101 y d2∧d1.depth≤8∧d2.depth≤8∧nz d1≤900∧nz d2≤900∧PairOk d1 d2
theorem Pr.same {N:Addr→Prop} {H H':Hp} {v:V} (h:Pr N H v) (s:Same H H'):Pr N H' v:=let ⟨p,x,y,d1,d2,e,h0,h1,h2,r⟩:=h; ⟨p,x,y,d1,d2,e,s _ _ h0,h1.same s,h2.same s,r⟩
theorem Pr.keepS {N:Addr→Prop} {H H':Hp} {v:V} {l:Addr} (h:Pr N H v) (hN:N l) (s:StAt H l) (k:Keep l H H'):Pr N H' v:=let ⟨p,x,y,d1,d2,e,h0,h1,h2,r⟩:=h; ⟨p,x,y,d1,d2,e,tkS k s _ _ h0,Dt.keepS hN s h1 k,Dt.keepS hN s h2 k,r⟩
theorem Pr.gv {N:Addr→Prop} {P1 P2:Addr} {q1 q2:Str} {H H':Hp} {v:V} (h:Pr N H v) (g:Gv P1 P2 H H') (t1:TabF H P1 q1) (t2:TabF H P2 q2):Pr N H' v:=let ⟨p,x,y,d1,d2,e,h0,h1,h2,r⟩:=h; ⟨p,x,y,d1,d2,e,Tk.gv g t1 t2 _ _ h0,Dt.gv h1 g t1 t2,Dt.gv h2 g t1 t2,r⟩
theorem Pr.more {N:Addr→Prop} {H:Hp} {v:V} {p:Addr} (h:Pr N H v) (n:H p=none):Pr (fun b=>N b∨b=p) H v:=let ⟨p,x,y,d1,d2,e,h0,h1,h2,r⟩:=h; ⟨p,x,y,d1,d2,e,h0,h1.more n,h2.more n,r⟩
theorem Pr.less {N:Addr→Prop} {H:Hp} {v:V} {p:Addr} (h:Pr (fun b=>N b∨b=p) H v):Pr N H v:=by
 have _:=@Dts.less N p H;obtain ⟨p,x,y,d1,d2,e,h0,h1,h2,r⟩:=h;exact ⟨p,x,y,d1,d2,e,h0,Dt.less h1,Dt.less h2,r⟩
theorem Pr.keepL {N:Addr→Prop} {H H':Hp} {v:V} {l:Addr} {ys:List V} (h:Pr N H v) (hN:N l) (e:H l=some (.lst ys)) (k:Keep l H H'):Pr N H' v:=let ⟨p,x,y,d1,d2,e',h0,h1,h2,r⟩:=h; ⟨p,x,y,d1,d2,e',Tk.of_keep k e _ _ h0,h1.keep hN e k,h2.keep hN e k,r⟩
theorem Zhk {N:Addr→Prop} {H:Hp} {p:Addr} {x y:V} {k1 k2:Nat} {d1 d2:PyData} {e:Int} (h0:H p=some (.tup [x,y])) (h1:Dt N H k1 x d1) (h2:Dt N H k2 y d2) (l1:k1≤101) (l2:k2≤101) (e1:d1.depth≤8) (e2:d2.depth≤8) (n1:nz d1≤900) (n2:nz d2≤900) (ln:Y8 d1≤4∨Y8 d2≤4∨wid (Zw d1)≤3) (x1:1≤e) (x2:e.natAbs < 2 ^ 101) (o1:okB (60 * e) d1=true) (o2:okB (60 * e) d2=true):Pr N H (.ref p) :=
 ⟨p,x,y,d1,d2,rfl,h0,h1.up l1,h2.up l2,e1,e2,n1,n2,⟨ln,by omega,e,x1,x2,o1,o2⟩⟩
theorem Zd0 {N:Addr→Prop} {H:Hp} {p:Addr} {x y:V} {ms:List (List Rat)} {qs:List Rat} (h0:H p=some (.tup [x,y])) (h1:IsRsT H x ms) (h2:IsRt H y qs) (r1:∀ m∈ms,∀ q∈m,Dr q) (r2:∀ q∈qs,Dr q) (n1:nz (Zf5 ms)≤900) (n2:qs.length≤140) (ln:ms.length≤4∨qs.length≤4∨wid ms≤3):Pr N H (.ref p) :=
 Zhk (e:=1) h0 (h1.dt r1) (Zdx h2 r2) (by decide) (by decide) (n24_ (Za9 ms) (by decide)) (n24_ (Zbh qs) (by decide)) n1 (by rw [Zlw]; omega) (by
  rw [Zhp];show (ms.map rowD).length≤4∨(qs.map frD).length≤4∨_
  rw [n4_,n4_]; exact ln) (by decide) (n43_ (by decide)) (okdS r1) (okdR r2)
theorem dr1:Dr 1:=⟨⟨by decide,by decide⟩,by decide⟩
theorem ones {n:Nat}:∀ q∈List.replicate n (1:Rat),Dr q:=fun q hq=>by rw [List.eq_of_mem_replicate hq]; exact dr1
theorem Zql {n:Nat}:∀ m∈List.replicate n [(1:Rat)],∀ q∈m,Dr q:=fun m hm q hq=>by
 rw [List.eq_of_mem_replicate hm] at hq;rw [n8_.mp hq]; exact dr1
theorem Ze6 {α:Type} {R:V→α→Prop} {v:V} {x:α} (r:R v x) (n:Nat):Al R (List.replicate n v) (List.replicate n x):=⟨by rw [n40_,n40_],fun i u y e1 e2=>by
 rw [List.getElem?_replicate] at e1 e2;split at e1
 · rename_i h; rw [if_pos h] at e2; cases e1; cases e2; exact r
 · cases e1⟩
theorem Al.drop1 {α:Type} {R:V→α→Prop} {vs:List V} {xs:List α} (h:Al R vs xs) (n:Nat):Al R (vs.drop n) (xs.drop n):=⟨by rw [n44_,n44_,h.1],fun i v x e1 e2=>by
 rw [List.getElem?_drop] at e1 e2; exact h.2 _ v x e1 e2⟩
theorem Al.app2 {α:Type} {R:V→α→Prop} {vs us:List V} {xs ys:List α} (h:Al R vs xs) (g:Al R us ys):Al R (vs++us) (xs++ys):=⟨by rw [n17_,n17_,h.1,g.1],fun i v x e1 e2=>by
 have l:=h.1
 by_cases hi:i < vs.length
 · rw [n56_ hi] at e1;rw [n56_ (by omega)] at e2;exact h.2 i v x e1 e2
 · rw [n61_ (by omega)] at e1 e2;rw [← l] at e2;exact g.2 _ v x e1 e2⟩
theorem Gv.keepS {P1 P2 l:Addr} {H0 H H':Hp} (g:Gv P1 P2 H0 H) (n:H0 l=none) (k:Keep l H H'):Gv P1 P2 H0 H':=fun b o n1 n2 e=>k b o (Zk e n) (g b o n1 n2 e)
theorem Gv.same {P1 P2:Addr} {H0 H H':Hp} (g:Gv P1 P2 H0 H) (s:Same H H'):Gv P1 P2 H0 H':=fun b o n1 n2 e=>s _ _ (g b o n1 n2 e)
def Zi8 (K:PySem.W.Frag) (Ph Pw:Addr):Sp:=fun vs H Q _=>∃ (a:Addr) (ns:List Int),vs=[.ref a]∧SqL K H a (ns.map V.int)∧ns.length≤63∧Ph≠Pw∧TabF H Ph "head_of.<locals>.<lambda>" ∧ TabF H Pw "_law_right.<locals>.<lambda>" ∧ ∀ H',Q (.bl true) H'
structure LI (Ph Pw l po:Addr) (H0:Hp) (rs rt:V) (ms:List (List Rat)) (qs:List Rat) (H:Hp):Prop where
 st:StAt H l
 rs:IsRsT H rs ms
 rt:IsRt H rt qs
 on:IsRt H (.ref po) [1]
 gv:Gv Ph Pw H0 H
 th:TabF H Ph "head_of.<locals>.<lambda>"
 tw:TabF H Pw "_law_right.<locals>.<lambda>"
section
variable {Ph Pw l po:Addr} {H0 H H':Hp} {rs rt:V} {ms:List (List Rat)} {qs:List Rat}
theorem LI.same (I:LI Ph Pw l po H0 rs rt ms qs H) (s:Same H H'):LI Ph Pw l po H0 rs rt ms qs H':=⟨I.st.same s,I.rs.tk s.tk,I.rt.tk s.tk,I.on.tk s.tk,Gv.same I.gv s,I.th.same s,I.tw.same s⟩
theorem LI.keep (I:LI Ph Pw l po H0 rs rt ms qs H) (n:H0 l=none) (k:Keep l H H') (s':StAt H' l):LI Ph Pw l po H0 rs rt ms qs H' :=
 have t:=tkS k I.st
 let ⟨_,e⟩:=I.st.lst'
 ⟨s',I.rs.tk t,I.rt.tk t,I.on.tk t,Gv.keepS I.gv n k,I.th.keepL e k,I.tw.keepL e k⟩
theorem LI.gvS (I:LI Ph Pw l po H0 rs rt ms qs H) (g:Gv Ph Pw H H') (t1:TabF H' Ph "head_of.<locals>.<lambda>") (t2:TabF H' Pw "_law_right.<locals>.<lambda>"):LI Ph Pw l po H0 rs rt ms qs H' :=
 have t:=Tk.gv g I.th I.tw
 ⟨(let ⟨a,b,c,e,r⟩:=I.st; ⟨a,b,c,g _ _ (fun z=>by obtain ⟨ps,h,_⟩:=I.th; rw [z,h] at e; cases e) (fun z=>by obtain ⟨ps,h,_⟩:=I.tw; rw [z,h] at e; cases e) e,r⟩),I.rs.tk t,I.rt.tk t,I.on.tk t,Gv.trans I.gv g,t1,t2⟩
theorem LI.nn (I:LI Ph Pw l po H0 rs rt ms qs H) {p:Addr} (n:H p=none):H0 p=none:=by
 cases e:H0 p with
 | none=>rfl
 | some o =>
   exfalso
   by_cases h1:p=Ph
   · obtain ⟨ps,h,_⟩:=I.th; rw [← h1,n] at h; cases h
   · by_cases h2:p=Pw
     · obtain ⟨ps,h,_⟩:=I.tw; rw [← h2,n] at h; cases h
     · rw [I.gv p o h1 h2 e] at n; cases n
theorem LI.upd (I:LI Ph Pw l po H0 rs rt ms qs H) {L:Addr} {xs ys:List V} (e:H L=some (.lst xs)) (n:H0 L=none) (nl:l≠L):LI Ph Pw l po H0 rs rt ms qs (upd H L (.lst ys)) :=
 have t:Tk H (L2.upd H L (.lst ys)):=Tk.upd_lst e
 ⟨I.st.keep Keep.upd nl,I.rs.tk t,I.rt.tk t,I.on.tk t,fun b o n1 n2 e'=>by rw [Zo (Zk e' n)]; exact I.gv b o n1 n2 e',I.th.keepL e Keep.upd,I.tw.keepL e Keep.upd⟩
end
def PVs (N:Addr→Prop) (H:Hp) (vs:List V):Prop:=∀ v∈vs,Pr N H v
theorem PVs.same {N:Addr→Prop} {H H':Hp} {vs:List V} (h:PVs N H vs) (s:Same H H'):PVs N H' vs:=fun v hv=>(h v hv).same s
theorem PVs.keepS {N:Addr→Prop} {H H':Hp} {vs:List V} {l:Addr} (h:PVs N H vs) (hN:N l) (s:StAt H l) (k:Keep l H H'):PVs N H' vs:=fun v hv=>(h v hv).keepS hN s k
theorem PVs.cons {N:Addr→Prop} {H:Hp} {v:V} {vs:List V} (h:Pr N H v) (t:PVs N H vs):PVs N H (v :: vs):=fun x hx=>by
 rcases n18_.mp hx with rfl | hx
 · exact h
 · exact t x hx
theorem PVs.nil {N:Addr→Prop} {H:Hp}:PVs N H []:=fun v h=>by cases h
theorem PVs.app {N:Addr→Prop} {H:Hp} {vs ws:List V} (h:PVs N H vs) (t:PVs N H ws):PVs N H (vs++ws):=fun x hx=>(n34_.mp hx).elim (h x) (t x)
structure MQ (ms:List (List Rat)) (qs:List Rat):Prop where
 m4:ms.length≤4
 w3:∀ m∈ms,m.length≤3
 dm:∀ m∈ms,∀ q∈m,Dr q
 q4:qs.length=ms.length
 dq:∀ q∈qs,Dr q
theorem MQ.nzm {ms:List (List Rat)} {qs:List Rat} (h:MQ ms qs):nz (Zf5 ms)≤81:=by
 have:=Zhy h.w3
 have:=h.m4
 omega
theorem MQ.nzq {ms:List (List Rat)} {qs:List Rat} (h:MQ ms qs):nz (rowD qs)≤25:=by
 have:=Zlw qs
 have:=h.m4
 have:=h.q4
 omega
section
variable (P:Program) (w:World) (K:PySem.W.Frag) (mg:Str→Option Value) (base:Heap)
abbrev a0_:=Cal P w K mg base "plain_divisor" 1 ["one","other"] Zjf
abbrev a1_:=Cal P w K mg base "divisor" 2 ["one","other"] Zel
abbrev a2_:=Cal P w K mg base "in_common" 3 ["parts","known"] Zdr
abbrev a3_:=Cal P w K mg base "multiple" 3 ["bottoms"] Zii
abbrev a4_:=Cal P w K mg base "scale_of" 4 ["line"] (Zip K)
abbrev a5_:=Cal P w K mg base "whole" 5 ["line"] (Ziu K)
abbrev a6_:=Cal P w K mg base "cleared" 4 ["known","line","head","place"] Zei
abbrev a7_:=Cal P w K mg base "levelled" 4 ["parts"] (Zdc K)
abbrev a8_:=Cal P w K mg base "reduced" 3 ["top","bottom"] Zen
abbrev a9_:=Cal P w K mg base "put_at" 4 ["place","line","found"] (Zi1 K)
abbrev a10_:=Cal P w K mg base "mixed" 5 ["weights","parts","bottom"] (Zih K)
abbrev a11_:=Cal P w K mg base "filled" 5 ["steps","found"] (Zgs K)
abbrev a12_:=Cal P w K mg base "factors_of" 3 ["bottoms"] Ze0
abbrev a13_:=Cal P w K mg base "lowered" 3 ["part","factors"] (Zet K)
abbrev a14_:=Cal P w K mg base "places_of" 1 ["rows"] (Zgu K)
abbrev a15_:=Cal P w K mg base "rights_to" 6 ["rows","rights"] (Zdi K)
abbrev a16_:=Cal P w K mg base "settled_by" 6 ["steps","places","at"] (Zcp K)
abbrev a17_:=Cal P w K mg base "is_whole" 1 ["thing"] Zb1
abbrev a18_:=Cal P w K mg base "is_fraction" 3 ["thing"] Zob
abbrev a19_:=Cal P w K mg base "_law_cell_at" 1 ["_law_script","_law_k"] (Zma K)
abbrev a20_:=Cal P w K mg base "_law_low" 1 ["_law_top","_law_bottom"] Znw
abbrev a21_:=Cal P w K mg base "_law_whole" 1 ["_law_thing"] Zb1
abbrev a22_:=Cal P w K mg base "_law_choice" 1 ["_law_state_here","_law_many"] Zg4
abbrev a23_:=Cal P w K mg base "_law_odd" 2 ["_law_state_here"] Zkq
abbrev a24_:=Cal P w K mg base "are_fractions" 4 ["thing","many"] Zga
abbrev a25_:=Cal P w K mg base "places_of" 1 ["rows"] Zef
abbrev a26_:=Cal P w K mg base "are_rows" 5 ["thing"] Zgz
abbrev a27_:=Cal P w K mg base "comes_to_nought" 6 ["weights","line"] (Zio K)
abbrev a28_:=Cal P w K mg base "_law_fraction" 2 ["_law_state_here"] (Zg9 60)
abbrev a29_:=Cal P w K mg base "_law_is_fraction" 2 ["_law_thing"] Zji
abbrev a30_:=Cal P w K mg base "_law_are" 4 ["_law_many","_law_thing"] Zgh
abbrev a31_:=Cal P w K mg base "_law_is_good" 5 ["_law_rows","_law_rights"] Zey
abbrev a32_:=Cal P w K mg base "_law_bent" 5 ["_law_state_here","_law_thing"] (Za8 2)
abbrev a33_:=Cal P w K mg base "_law_bent" 6 ["_law_state_here","_law_thing"] (Za8 3)
abbrev a34_:=Cal P w K mg base "_law_row" 3 ["_law_state_here","_law_many"] Zkv
abbrev a35_:=Cal P w K mg base "_law_state" 2 ["_law_script","_law_k"] (Ziw K)
end
section
variable {P:Program} {w:World} {K:PySem.W.Frag} {mg:Str→Option Value} {base:Heap} {f:Addr} {fd:FuncData} (T:Bt mg)
include T
abbrev Xs:Stmt:=top 3
theorem Zcu (F:Fun K "plain_divisor" "plain_divisor" Xs f fd):FnOk P w K mg base CX0 1 f fd ["one","other"] Zjf:=by
 have sc:FnScope ["one","other"] ["one","other"] (Ze Xs):=fsc (by decide +kernel);refine F.ok sc (fun vs H Q E h=>by obtain ⟨a,b,rfl,_⟩:=h;rfl) fun cdv A outer s H vs Q E hr h=>?_;obtain ⟨a,b,rfl,q⟩:=h;have nd:=sc.nd;refine' ⟨_,?term,?read⟩
 case term=>refine' @Zd _ _ _ _ _ ?g1 (Zi (Zm (Zh Zaz rfl T.b_abs Zep (Za (pv 0) Zb rfl))));case g1=>refine' @Zfl _ _ _ _ _ _ PassesOwn.never ?g2 ?g3;(case g2=>refine' @Zx _ _ _ (pv 1) (fun _=>rfl));case g3=>refine' @Zi _ _ _ ?g4;case g4=>refine' @Zix _ _ (0) (1) _ _ _ _ _ _ _ _ _ _ _ rfl nd rfl rfl (by decide) rfl rfl (Za (pv 1) (Za (Zq Zav (pv 0) (pv 1)) Zb rfl) rfl) rfl (by rfl)
 refine Zfb (fun σ H'=>∃ x y:Int,σ=[some (.int x),some (.int y)]∧H'=H∧Int.gcd x y=Int.gcd a b) (fun σ _=>match σ with | [_,some (.int y)]=>y.natAbs | _=>0) ⟨a,b,rfl,rfl,rfl⟩ ?_ ?_
 · rintro σ H' ⟨x,y,rfl,rfl,e⟩
   refine ⟨_,rfl,(y != 0),rfl,?_⟩
   by_cases hy:y=0
   · subst hy;refine iteF ?_;refine ⟨_,rfl,x,rfl,?_⟩
     have z:(if x < 0 then -x else x)=(Int.gcd a b:Int):=by
      rw [← e,Int.gcd_zero_right];split <;> omega
     rw [z];exact q
   · rw [show (y != 0)=true by simpa using hy];refine iteT ?_;refine ⟨_,rfl,_,rfl,_,rfl,x,y,rfl,rfl,hy,_,_,rfl,⟨y,x.fmod y,rfl,rfl,by rw [FM.gcd_fmod hy]; exact e⟩,FM.fmod_abs_lt hy⟩
 · rintro σ H' Q1 Q2 hq ⟨v,e,k,t,q'⟩
   exact ⟨v,e,k,t,hq _ _ q'⟩
abbrev Zd1:Stmt:=top 7
theorem Zkf (F:Fun K "divisor" "divisor" Zd1 f fd) (Cr_:a0_ P w K mg base):FnOk P w K mg base CX0 2 f fd ["one","other"] Zel:=by
 have sc:FnScope ["one","other","half"] ["one","other"] (Ze Zd1):=fsc (by decide +kernel);refine F.ok sc (fun vs H Q E h=>by obtain ⟨a,b,rfl,_⟩:=h;rfl) fun cdv A outer s H vs Q E hr h=>?_;obtain ⟨a,b,rfl,hb,q⟩:=h;refine' ⟨_,?term,?read⟩
 case term=>refine' @Zd _ _ _ _ _ ?g1 (Zi (Zm (Zl Cr_ hr (by decide) rfl (Za (pv 0) (Za (pv 1) Zb rfl) rfl))));case g1=>refine' @Zfl _ _ _ _ _ _ PassesOwn.never ?g2 Zlo;case g2=>refine' @Z0 _ _ _ _ _ _ _ _ Zeb ?g3 (Zk2 T.n_GREAT_BITS rfl) (Z4 _);case g3=>refine' @Zh _ _ _ _ _ _ _ _ _ (Zgq rfl) rfl T.b_min Zll ?g4 (by decide) (by decide) (by rfl) (by rfl);case g4=>refine' @Za _ _ _ _ _ ?g5 ?g6 rfl;(case g5=>refine' @Zoj _ _ _ _ _ _ _ _ _ PySem.F.plainAttrs_int PySem.F.slot_int_bit_length PySem.F.type_int_bit_length Zmb (pv 0) (by rfl) (by rfl));case g6=>refine' @Za _ _ _ _ _ ?g7 Zb rfl;case g7=>refine' @Zoj _ _ _ _ _ _ _ _ _ PySem.F.plainAttrs_int PySem.F.slot_int_bit_length PySem.F.type_int_bit_length Zmb (pv 1) (by rfl) (by rfl)
 refine Zfb (fun σ H'=>σ=[some (.int a),some (.int b),none]∧H'=H) (fun σ _=>0) ⟨rfl,rfl⟩ ?_ ?_
 · rintro σ H' ⟨rfl,rfl⟩
   refine ⟨_,rfl,rfl,_,rfl,rfl,_,rfl,rfl,_,rfl,rfl,_,_,rfl,_,_,rfl,rfl,_,rfl,?_⟩;rw [Zox hb];refine iteF ?_;exact ⟨_,rfl,_,rfl,a,b,rfl,q⟩
 · rintro σ H' Q1 Q2 hq ⟨v1,e1,t1,i1,a1,n1,v2,e2,t2,i2,a2,n2,i,j,e3,i4,j4,e4,e5,b,e6,q'⟩
   exact ⟨v1,e1,t1,i1,a1,n1,v2,e2,t2,i2,a2,n2,i,j,e3,i4,j4,e4,e5,b,e6,hq _ _ q'⟩
abbrev Zdu:Stmt:=top 41
theorem Zj4 (F:Fun K "reduced" "reduced" Zdu f fd) (Cc_:a1_ P w K mg base):FnOk P w K mg base CX0 3 f fd ["top","bottom"] Zen:=by
 have sc:FnScope ["top","bottom","common"] ["top","bottom"] (Ze Zdu):=fsc (by decide +kernel);refine F.ok sc (fun vs H Q E h=>by obtain ⟨t,b,rfl,_⟩:=h;rfl) fun cdv A outer s H vs Q E hr h=>?_;obtain ⟨t,b,rfl,hb,hz,q⟩:=h;have nd:=sc.nd;refine' ⟨_,?term,?read⟩
 case term=>refine' @Zd _ _ _ _ _ ?g1 ?g2;(case g1=>refine' @Zr _ _ (2) _ _ _ _ nd rfl (Or.inl rfl) (Zl Cc_ hr (by decide) rfl (Za (pv 0) (Za (pv 1) Zb rfl) rfl)) (by rfl) (by first | exact Or.inl rfl | exact Or.inr rfl | assumption));case g2=>refine' @Zd _ _ _ _ _ ?g3 (Zi (Zm (Zn (Za (Zq Yo (pv 0) (pv 2)) (Za (Zq Yo (pv 1) (pv 2)) Zb rfl) rfl))));case g3=>refine' @Y3 _ _ _ _ _ _ _ _ (Z0 Zkd (pv 1) Zg (Z4 _)) ?g4 Z2;case g4=>refine' @Zi _ _ _ ?g5;case g5=>refine' @Zr _ _ (2) _ _ _ _ nd rfl (Or.inl rfl) (Zgw Zct (pv 2)) (by rfl) (by first | exact Or.inl rfl | exact Or.inr rfl | assumption)
 refine ⟨_,rfl,_,rfl,t,b,rfl,hz,?_⟩;have hg:=FM.gcd_ne (t:=t) hb;have hgz:(Int.gcd t b) < 2 ^ 8999:=n20_ (Nat.gcd_le_right _ (Int.natAbs_pos.mpr hb)) (Zn5 hz);have hsg:FM.sg t b≠0:=FM.sg_ne hb
 have hsz:(FM.sg t b).natAbs < 2 ^ 8999:=by
  unfold FM.sg;split
  · rw [Int.natAbs_neg]; exact hgz
  · exact hgz
 have fin:∀ g:Int,g=FM.sg t b→∀ p,H p=none→Q (.ref p) (upd H p (.tup [.int (t.fdiv g),.int (b.fdiv g)])):=by
  rintro g rfl p hp
  rw [FM.fdiv_num hb,FM.fdiv_den hb];exact q p _ (Same.new hp) Zc
 refine ⟨_,rfl,_,_,rfl,rfl,_,rfl,?_⟩;refine ite2 (fun hlt=>?_) (fun hlt=>?_)
 · have hlt':b < 0:=n27_ hlt;have e:-(Int.gcd t b:Int)=FM.sg t b:=by unfold FM.sg; rw [if_pos hlt']
   refine ⟨_,rfl,_,rfl,?_⟩;refine ⟨_,rfl,_,rfl,t,_,rfl,rfl,⟨by rw [e]; exact hsg,by rw [e]; exact hsz⟩,_,rfl,_,rfl,b,_,rfl,rfl,⟨by rw [e]; exact hsg,by rw [e]; exact hsz⟩,z2_,?_⟩;exact fin _ e
 · have hlt':¬ b < 0:=fun z=>hlt (n26_ z);have e:(Int.gcd t b:Int)=FM.sg t b:=by unfold FM.sg; rw [if_neg hlt']
   refine ⟨_,rfl,_,rfl,t,_,rfl,rfl,⟨by rw [e]; exact hsg,by rw [e]; exact hsz⟩,_,rfl,_,rfl,b,_,rfl,rfl,⟨by rw [e]; exact hsg,by rw [e]; exact hsz⟩,z2_,?_⟩;exact fin _ e
abbrev Zck:Stmt:=top 40
theorem Zhi (F:Fun K "multiple" "multiple" Zck f fd) (Cc_:a1_ P w K mg base):FnOk P w K mg base CX0 3 f fd ["bottoms"] Zii:=by
 have sc:FnScope ["bottoms","many","bottom"] ["bottoms"] (Ze Zck):=fsc (by decide +kernel);refine F.ok sc (fun vs H Q E h=>by obtain ⟨l,ds,k,rfl,_⟩:=h;rfl) fun cdv A outer s H vs Q E hr h=>?_;obtain ⟨l,ds,k,rfl,hl,hd,hk4,h9,q⟩:=h;have nd:=sc.nd;refine' ⟨_,?term,?read⟩
 case term=>refine' @Zd _ _ _ _ _ ?g1 ?g2;(case g1=>refine' @Zr _ _ (1) _ _ _ _ nd rfl (Or.inl rfl) Zg (by rfl) (by first | exact Or.inl rfl | exact Or.inr rfl | assumption));case g2=>refine' @Zd _ _ _ _ _ ?g3 (Zi (Zm (pv 1)));case g3=>refine' @Zai _ _ _ _ _ _ _ _ PassesOwn.never rfl (Yi (pv 0)) (Zs (i:=2) nd rfl (Or.inl rfl)) ?g4 (by intro _ ; rfl);case g4=>refine' @Zi _ _ _ ?g5;case g5=>refine' @Zr _ _ (1) _ _ _ _ nd rfl (Or.inl rfl) (Zq Yq (Zq Yo (pv 1) (Zl Cc_ hr (by decide) rfl (Za (pv 1) (Za (pv 2) Zb rfl) rfl))) (pv 2)) (by rfl) (by first | exact Or.inl rfl | exact Or.inr rfl | assumption)
 refine ⟨_,rfl,l,rfl,⟨_,SqL.of hl⟩,?_⟩;refine Zab (n:=ds.length) (fun i σ H2=>H2=H∧∃ (x:Option V),σ=[some (.ref l),some (.int (lcmL (ds.take i))),x]) ⟨rfl,_,rfl⟩ (fun i σ H2 hi p=>⟨_,V.int ds[i],SqL.of (p.1 ▸ hl),by simp [hi]⟩) (fun σ H2 p=>⟨_,SqL.of (p.1 ▸ hl),by simp⟩) (fun i x σ H2 H3 hi y p=>?_) (fun σ H2 p=>?_)
 · obtain ⟨rfl,x',rfl⟩:=p;obtain ⟨rfl,y2⟩:=y;have ex:=y2 _ (SqL.of hl);rw [n3_,n0_ hi] at ex;cases ex
   obtain ⟨b0,b64⟩:=hd ds[i] (n41_ hi);have hm:=(Xj (ds.take i) fun x hx=>(hd x (n46_ hx)).1).1;have sz:=Zdn (k:=k) (ds.take i) fun x hx=>hd x (n46_ hx);have ki:k * (ds.take i).length≤900000:=n24_ (Nat.mul_le_mul_left k (by rw [n68_]; omega)) h9;have hg:=FM.gcd_ne (t:=lcmL (ds.take i)) (b:=ds[i]) (by omega);have gz:(Int.gcd (lcmL (ds.take i)) ds[i]) < 2 ^ k:=n20_ (Nat.gcd_le_right _ (by omega)) b64;have st:=Zc5 hm b0;refine ⟨_,rfl,_,rfl,_,rfl,_,ds[i],rfl,up 4000 b64 hk4,_,_,rfl,rfl,⟨hg,up 8999 gz (by omega)⟩,_,rfl,_,_,rfl,rfl,⟨up 1000000 (n20_ st.2.2.2.1 sz) (by omega),up 1000000 b64 (by omega)⟩,?_⟩;refine ⟨rfl,some (.int ds[i]),?_⟩;rw [n32_ hi,Zc9];rfl
 · obtain ⟨rfl,x',rfl⟩:=p;rw [n59_];exact ⟨_,rfl,q⟩
abbrev Zbk:Stmt:=top 52
theorem Zgf (F:Fun K "in_common" "in_common" Zbk f fd) (Cc_:a1_ P w K mg base):FnOk P w K mg base CX0 3 f fd ["parts","known"] Zdr:=by
 have sc:FnScope ["parts","known","common","part"] ["parts","known"] (Ze Zbk):=fsc (by decide +kernel);refine F.ok sc (fun vs H Q E h=>by obtain ⟨l,ps,k,rfl,_⟩:=h;rfl) fun cdv A outer s H vs Q E hr h=>?_;obtain ⟨l,ps,k,rfl,hl,hG,q⟩:=h;have nd:=sc.nd;refine' ⟨_,?term,?read⟩
 case term=>refine' @Zd _ _ _ _ _ ?g1 ?g2;(case g1=>refine' @Zr _ _ (2) _ _ _ _ nd rfl (Or.inl rfl) (Zh Zaz rfl T.b_abs Zep (Za (pv 1) Zb rfl)) (by rfl) (by first | exact Or.inl rfl | exact Or.inr rfl | assumption));case g2=>refine' @Zd _ _ _ _ _ ?g3 (Zi (Zm (pv 2)));case g3=>refine' @Zai _ _ _ _ _ _ _ _ PassesOwn.never rfl (Yi (pv 0)) (Zs (i:=3) nd rfl (Or.inl rfl)) ?g4 (by intro _ ; rfl);case g4=>refine' @Zd _ _ _ _ _ ?g5 ?g6;(case g5=>refine' @Y3 _ _ _ _ _ _ _ _ (Z0 Zfj (pv 2) Zg (Z4 _)) (Zi Zng) Z2);case g6=>refine' @Zi _ _ _ ?g7;case g7=>refine' @Zr _ _ (2) _ _ _ _ nd rfl (Or.inl rfl) (Zl Cc_ hr (by decide) rfl (Za (pv 3) (Za (pv 2) Zb rfl) rfl)) (by rfl) (by first | exact Or.inl rfl | exact Or.inr rfl | assumption)
 refine ⟨_,rfl,_,rfl,?_⟩;refine ⟨_,rfl,l,rfl,⟨_,SqL.of hl⟩,?_⟩
 have e0:(if k < 0 then -k else k)=((gl k (ps.take 0):Nat):Int):=by
  rw [List.take_zero]; show _=((k.natAbs:Nat):Int); split <;> omega
 refine Zab (n:=ps.length) (fun i σ H2=>H2=H∧∃ (x:Option V),σ=[some (.ref l),some (.int k),some (.int (gl k (ps.take i))),x]) ⟨rfl,none,by rw [e0]; rfl⟩ (fun i σ H2 hi p=>⟨_,V.int ps[i],SqL.of (p.1 ▸ hl),by simp [hi]⟩) (fun σ H2 p=>⟨_,SqL.of (p.1 ▸ hl),by simp⟩) (fun i x σ H2 H3 hi y p=>?_) (fun σ H2 p=>?_)
 · obtain ⟨rfl,x',rfl⟩:=p;obtain ⟨rfl,y2⟩:=y;have ex:=y2 _ (SqL.of hl);rw [n3_,n0_ hi] at ex;cases ex
   refine ⟨_,rfl,rfl,_,rfl,?_⟩;refine ite2 (fun h1=>?_) (fun h1=>?_)
   · have g1:gl k (ps.take i)=1:=by
      have:=V.int.inj (n27_ h1); omega
     refine ⟨_,rfl,?_⟩;rw [g1,← Zhj g1];exact q
   · refine ⟨_,rfl,_,rfl,ps[i],_,rfl,hG i hi,?_⟩;refine ⟨rfl,some (.int ps[i]),?_⟩;rw [n32_ hi,Zph];rfl
 · obtain ⟨rfl,x',rfl⟩:=p;rw [n59_];exact ⟨_,rfl,q⟩
abbrev Zcd:Stmt:=top 53
theorem Zif (F:Fun K "scale_of" "scale_of" Zcd f fd) (O1:Zhf K mg "ONE" 1 1) (Cj_:a2_ P w K mg base) (Cf_:a3_ P w K mg base):FnOk P w K mg base CX0 4 f fd ["line"] (Zip K):=by
 have sc:FnScope ["line","common"] ["line"] (Ze Zcd):=fsc (by decide +kernel);refine F.ok sc (fun vs H Q E h=>by obtain ⟨a,k,us,qs,b,rfl,_⟩:=h;rfl) fun cdv A outer s H vs Q E hr h=>?_;obtain ⟨a,k,us,qs,b,rfl,ha,al,B,q⟩:=h;have nd:=sc.nd;obtain ⟨o_,hog,hok⟩:=O1;refine' ⟨_,?term,?read⟩
 case term=>refine' @Zd _ _ _ _ _ ?g1 ?g2;(case g1=>refine' @Zr _ _ (1) _ _ _ _ nd rfl (Or.inl rfl) ?g3 (by rfl) (by first | exact Or.inl rfl | exact Or.inr rfl | assumption);case g3=>refine' @Zl _ _ _ _ _ _ _ _ _ _ _ Cj_ hr (by decide) rfl ?g4 (by decide) (by rfl) (by rfl);case g4=>refine' @Za _ _ _ _ _ ?g5 (Za Zg Zb rfl) rfl;case g5=>refine' @Y5 _ _ _ _ _ _ _ (["top","bottom"]) ([none,none]) _ _ ((gTup K 2 (Z8 (Z5 0) (Z8 (Z5 1) gNil)))) _ _ rfl (Z3 (by decide) rfl (by decide) rfl rfl) (Zaw K rfl (pv 0)) (fun _ _ _ _=>Yb (n:=2) rfl (Zj (pgB 0) (Zj (pgB 1) Zy))) (fun _ _ _ _=>Zp) (fun _ _ _ _=>pv 0) (by intro _ ; rfl));case g2=>refine' @Zi _ _ _ ?g6;case g6=>refine' @Zm _ _ _ _ ?g7;case g7=>refine' @Zbq _ _ _ _ _ _ _ _ ?g8 ?g9 ?ga;(case g8=>refine' @Zx _ _ _ (pv 1) (fun _=>rfl));(case g9=>refine' @Zn _ _ _ _ _ ?gb;case gb=>refine' @Za _ _ _ _ _ ?gc (Za (pv 1) Zb rfl) rfl;case gc=>refine' @Zl _ _ _ _ _ _ _ _ _ _ _ Cf_ hr (by decide) rfl ?gd (by decide) (by rfl) (by rfl);case gd=>refine' @Za _ _ _ _ _ ?ge Zb rfl;case ge=>refine' @Y5 _ _ _ _ _ _ _ (["top","bottom"]) ([none,none]) _ _ ((gTup K 2 (Z8 (Z5 0) (Z8 (Z5 1) gNil)))) _ _ rfl (Z3 (by decide) rfl (by decide) rfl rfl) (Zaw K rfl (pv 0)) (fun _ _ _ _=>Yb (n:=2) rfl (Zj (pgB 0) (Zj (pgB 1) Zy))) (fun _ _ _ _=>Zp) (fun _ _ _ _=>pv 1) (by intro _ ; rfl));case ga=>refine' @Zz _ _ _ _ _ rfl hog (show RelV (.ref o_) (Value.ref o_) from rfl) (by decide)
 refine ⟨_,rfl,a,k,rfl,⟨_,ha.sq⟩,fun D nD=>?_⟩;refine lc_Q (k:=k) (us:=us) RI hRI (tops qs) (by simp [al.1]) (by rw [al.1]; exact B.len) nD ha al (fun i x' H2 C ex s2 c=>?_) (fun H2 us' s2 e2 a2=>?_)
 · exact ⟨_,rfl,c _ _ _ (Same.refl _) (by rw [n3_,ex]; rfl) rfl⟩
 rw [a2.ints] at e2;refine ⟨D,_,0,rfl,e2,fun i hi=>up 4000 (Zmd fun p hp=>B.tops p (n46_ hp)) (by have:=B.b4; omega),?_⟩;refine ⟨_,rfl,_,rfl,?_⟩
 by_cases hz:gl 0 (tops qs)=0
 · rw [hz];refine iteF ?_;refine q H2 _ s2 ⟨o_,rfl,.inr ?_⟩;unfold scl; rw [if_pos hz]; exact hok
 · rw [show (((gl 0 (tops qs):Nat):Int) != 0)=true by simpa using hz];refine iteT ?_;have al2:Al (IsQ K H2) us qs:=al.imp fun v x r=>hRQ _ _ _ _ s2.tk r;refine ⟨_,rfl,a,k,rfl,⟨_,(ha.same s2).sq⟩,fun E nE=>?_⟩;refine lc_Q (k:=k) (us:=us) RI hRI (bots qs) (by simp [al.1]) (by rw [al.1]; exact B.len) nE (ha.same s2) al2 (fun i x' H4 C ex s4 c=>?_) (fun H4 us'' s4 e4 a4=>?_)
   · exact ⟨_,rfl,c _ _ _ (Same.refl _) (by rw [n3_,ex]; rfl) rfl⟩
   rw [a4.ints] at e4;refine ⟨E,_,b,rfl,e4,B.bots,by have:=B.b4; omega,by rw [n4_]; have:=B.sz; omega,?_⟩;refine ⟨_,rfl,z2_,fun p np=>?_⟩;refine q _ _ (s2.trans (s4.trans (Same.new np))) ⟨p,rfl,.inl ?_⟩;unfold scl; rw [if_neg hz]; exact Zc
abbrev Zfv:Stmt:=top 54
theorem Znq (F:Fun K "whole" "whole" Zfv f fd) (Ck_:a4_ P w K mg base):FnOk P w K mg base CX0 5 f fd ["line"] (Ziu K):=by
 have sc:FnScope ["line","many","common"] ["line"] (Ze Zfv):=fsc (by decide +kernel);refine F.ok sc (fun vs H Q E h=>by obtain ⟨a,k,us,qs,b,rfl,_⟩:=h;rfl) fun cdv A outer s H vs Q E hr h=>?_;obtain ⟨a,k,us,qs,b,rfl,ha,al,B,q⟩:=h;have nd:=sc.nd;refine' ⟨_,?term,?read⟩
 case term=>refine' @Zd _ _ _ _ _ ?g1 ?g2;(case g1=>refine' @Zam _ _ _ _ _ _ (Zl Ck_ hr (by decide) rfl (Za (pv 0) Zb rfl)) ?g3 (by rfl) (by rfl) (by rfl);case g3=>refine' @Yb _ _ _ _ _ (2) rfl (Zj (Zs (i:=1) nd rfl (Or.inr rfl)) (Zj (Zs (i:=2) nd rfl (Or.inr rfl)) Zy)) (by rfl) (by rfl));case g2=>refine' @Zi _ _ _ ?g4;case g4=>refine' @Zm _ _ _ _ ?g5;case g5=>refine' @Y5 _ _ _ _ _ _ _ (["top","bottom","common","many"]) ([none,none,some 2,some 1]) _ _ ((gTup K 2 (Z8 (Z5 0) (Z8 (Z5 1) gNil)))) _ _ rfl (Yc (XN:=["line","many","common"]) (Scope.names (Ze Zfv)) rfl rfl rfl (fun _ h=>Z1 h) (by decide +kernel) rfl) (Zaw K rfl (pv 0)) (fun _ _ _ _=>Yb (n:=2) rfl (Zj (pgB 0) (Zj (pgB 1) Zy))) (fun _ _ _ _=>Zp) (fun _ _ _ _=>Zq Yq (Zq Yo (pv 0) (pv 2)) (Zq Yo (pv 3) (pv 1))) (by intro _ ; rfl)
 obtain ⟨c1,c2,c3,c4⟩:=Zem B;refine ⟨_,rfl,a,k,us,qs,b,rfl,ha,al,B,fun H1 v s1 ⟨p,e,hp⟩=>?_⟩;subst e;refine ⟨p,_,rfl,IsSc.sq hp,rfl,_,_,rfl,_,_,rfl,rfl,?_⟩;have al2:Al (IsQ K H1) us qs:=al.imp fun v x r=>hRQ _ _ _ _ s1.tk r;refine ⟨_,rfl,a,k,rfl,⟨_,(ha.same s1).sq⟩,fun D nD=>?_⟩;refine lc_Q (k:=k) (us:=us) RI hRI (wh qs) (by simp [wh,al.1]) (by rw [al.1]; exact B.len) nD (ha.same s1) al2 (fun i x' H2 C ex s2 c=>?_) (fun H2 us' s2 e2 a2=>?_)
 · have hm:=n6_ ex;have hx:=B.bd x' hm;refine ⟨_,rfl,_,rfl,_,_,rfl,rfl,⟨by omega,up 8999 c4⟩,_,rfl,_,rfl,_,_,rfl,rfl,⟨FM.den_ne x',up 8999 (show (x'.den:Int).natAbs < 2 ^ b from hx.2) (by have:=B.b4; omega)⟩,_,_,rfl,rfl,⟨up 1000000 (Xa c3 hx.1) (by have:=B.b4; omega),up 1000000 (Xa (FM.den_pos x') c2)⟩,c _ _ _ (Same.refl _) (by unfold wh; rw [n3_,ex]; rfl) rfl⟩
 rw [a2.ints] at e2;exact q H2 D (s1.trans s2) (Zhl s1 nD) e2
abbrev Xc:Stmt:=top 55
theorem Zbw (F:Fun K "comes_to_nought" "comes_to_nought" Xc f fd) (Ch_:a5_ P w K mg base):FnOk P w K mg base CX0 6 f fd ["weights","line"] (Zio K):=by
 have sc:FnScope ["weights","line"] ["weights","line"] (Ze Xc):=fsc (by decide +kernel);refine F.ok sc (fun vs H Q E h=>by obtain ⟨w,ws,a,k,us,qs,b,rfl,_⟩:=h;rfl) fun cdv A outer s H vs Q E hr h=>?_;obtain ⟨w,ws,a,k,us,qs,b,rfl,hw,hws,ha,al,B,q⟩:=h;have hu:=Zlm hr;refine' ⟨_,?term,?read⟩
 case term=>refine' @Zi _ _ _ ?g1;case g1=>refine' @Zm _ _ _ _ ?g2;case g2=>refine' @Zas _ _ _ _ _ _ _ _ Zfj ?g3 Zg (Z4 _);case g3=>refine' @Zh _ _ _ _ _ _ _ _ _ (Zdo rfl) rfl T.b_sum Zl1 ?g4 (by decide) (by decide) (by rfl) (by rfl);case g4=>refine' @Za _ _ _ _ _ ?g5 Zb rfl;case g5=>refine' @Y5 _ _ _ _ _ _ _ (["weight","part"]) ([none,none]) _ _ ((gTup K 2 (Z8 (Z5 0) (Z8 (Z5 1) gNil)))) _ _ rfl (Z3 (by decide) rfl (by decide) rfl rfl) ?g6 (fun _ _ _ _=>Yb (n:=2) rfl (Zj (pgB 0) (Zj (pgB 1) Zy))) (fun _ _ _ _=>Zp) (fun _ _ _ _=>Zq Yq (pv 0) (pv 1)) (by intro _ ; rfl);case g6=>refine' @Zim _ _ _ _ .l .l _ _ _ _ _ rfl T.b_zip (Za (pv 0) (Za (Zl Ch_ hr (by decide) rfl (Za (pv 1) Zb rfl)) Zb rfl) rfl) (by rfl) (by rfl)
 refine ⟨_,rfl,_,rfl,a,k,us,qs,b,rfl,ha,al,B,fun H1 l s1 nl hl=>?_⟩;refine ⟨w,l,rfl,⟨_,SqL.of (s1 _ _ hw)⟩,⟨_,SqL.of hl⟩,fun D nD=>?_⟩;have hlen:(wh qs).length=qs.length:=by simp [wh]
 refine lc_Z (k:=.l) (l:=.l) (vs:=ws.map V.int) (ws:=(wh qs).map V.int) RI hRI (List.zipWith (· * ·) ws (wh qs)) (by simp) (by simp [hlen]; have:=B.len; omega) nD (s1 _ _ hw) hl (fun i v u H2 C hv hu s2 c=>?_) (fun H2 us' s2 e2 a2=>?_)
 · rw [n3_] at hv hu;obtain ⟨x,ex,rfl⟩:=n31_.mp hv;obtain ⟨y,ey,rfl⟩:=n31_.mp hu;exact ⟨_,rfl,_,rfl,x,y,rfl,rfl,⟨up 1000000 (hws x (n6_ ex)),up 1000000 (Zmz B y (n6_ ey))⟩,c _ _ _ (Same.refl _) (by rw [n52_,ex,ey]) rfl⟩
 · rw [a2.ints] at e2;refine ⟨D,_,rfl,SqL.of e2,rfl,?_⟩;rw [show decide (V.int (List.zipWith (· * ·) ws (wh qs)).sum=V.int 0)=decide ((List.zipWith (· * ·) ws (wh qs)).sum=0) from decide_eq_decide.mpr ⟨V.int.inj,fun z=>by rw [z]⟩];exact q H2 (s1.trans s2)
abbrev Zap:Stmt:=top 57
theorem Zke (F:Fun K "cleared" "cleared" Zap f fd) (Cj_:a2_ P w K mg base):FnOk P w K mg base CX0 4 f fd ["known","line","head","place"] Zei:=by
 have sc:FnScope ["known","line","head","place","many","top","parts","common"] ["known","line","head","place"] (Ze Zap):=fsc (by decide +kernel);refine F.ok sc (fun vs H Q E h=>by obtain ⟨kn,l,hd,line,head,pl,rfl,_⟩:=h;rfl) fun cdv A outer s H vs Q E hr h=>?_;obtain ⟨kn,l,hd,line,head,pl,rfl,hl,hh,LO,hB,hpl,h1k,q⟩:=h;have nd:=sc.nd;have hu:=Zlm hr;refine' ⟨_,?term,?read⟩
 case term=>refine' @Zd _ _ _ _ _ ?g1 ?g2;(case g1=>refine' @Zr _ _ (4) _ _ _ _ nd rfl (Or.inr rfl) ?g3 (by rfl) (by first | exact Or.inl rfl | exact Or.inr rfl | assumption);case g3=>refine' @Yj _ _ _ _ _ _ _ Z9 (pv 1) (pv 3) (fun _ _=>rfl));case g2=>refine' @Zd _ _ _ _ _ ?g4 ?g5;(case g4=>refine' @Y3 _ _ _ _ _ _ _ _ (Z0 Zfj (pv 4) Zg (Z4 _)) (Zi (Zm (Zn (Za (pv 0) (Za (pv 1) Zb rfl) rfl)))) Z2);case g5=>refine' @Zd _ _ _ _ _ ?g6 ?g7;(case g6=>refine' @Zr _ _ (5) _ _ _ _ nd rfl (Or.inr rfl) ?g8 (by rfl) (by first | exact Or.inl rfl | exact Or.inr rfl | assumption);case g8=>refine' @Yj _ _ _ _ _ _ _ Z9 (pv 2) (pv 3) (fun _ _=>rfl));case g7=>refine' @Zd _ _ _ _ _ ?g9 ?ga;(case g9=>refine' @X8 _ _ _ _ _ _ _ _ _ _ (["own","its","top","many"]) ([none,none,some 5,some 4]) _ _ ((gTup K 2 (Z8 (Z5 0) (Z8 (Z5 1) gNil)))) _ _ _ rfl rfl (Zs (i:=6) nd rfl (Or.inl rfl)) (Yc (XN:=["known","line","head","place","many","top","parts","common"]) (Scope.names (Ze Zap)) rfl rfl rfl (fun _ h=>Z1 h) (by decide +kernel) rfl) ?gb (fun _ _ _ _=>Yb (n:=2) rfl (Zj (pgB 0) (Zj (pgB 1) Zy))) (fun _ _ _ _=>Zp) (fun _ _ _ _=>Zq Zgm (Zq Yq (pv 2) (pv 0)) (Zq Yq (pv 3) (pv 1))) (by intro _ ; rfl);case gb=>refine' @Zim _ _ _ _ .l .l _ _ _ _ _ rfl T.b_zip (Za (pv 1) (Za (pv 2) Zb rfl) rfl) (by rfl) (by rfl));case ga=>refine' @Zd _ _ _ _ _ ?gc ?gd;(case gc=>refine' @Zr _ _ (7) _ _ _ _ nd rfl (Or.inr rfl) (Zl Cj_ hr (by decide) rfl (Za (pv 6) (Za (pv 0) Zb rfl) rfl)) (by rfl) (by first | exact Or.inl rfl | exact Or.inr rfl | assumption));case gd=>refine' @Zd _ _ _ _ _ ?ge (Zi (Zm (Zn (Za (pv 5) (Za (pv 6) Zb rfl) rfl))));case ge=>refine' @Y3 _ _ _ _ _ _ _ _ (Z0 Zeb (pv 7) Zg (Z4 _)) ?gf Z2;case gf=>refine' @Zi _ _ _ ?gg;case gg=>refine' @X8 _ _ _ _ _ _ _ _ _ _ (["part","common"]) ([none,some 7]) _ _ _ _ _ _ rfl rfl (Zs (i:=6) nd rfl (Or.inl rfl)) (Yc (XN:=["known","line","head","place","many","top","parts","common"]) (Scope.names (Ze Zap)) rfl rfl rfl (fun _ h=>Z1 h) (by decide +kernel) rfl) (Yi (pv 6)) (fun _ _ _ _=>pgB 0) (fun _ _ _ _=>Zp) (fun _ _ _ _=>Zq Yo (pv 0) (pv 1)) (by intro _ ; rfl)
 have ll:line.length=head.length:=LO.len;refine ⟨_,rfl,_,rfl,l,_,pl,_,rfl,rfl,SqL.of hl,getI (by omega),?_⟩;refine ⟨_,rfl,rfl,_,rfl,?_⟩;refine ite2 (fun hz=>?_) (fun hz=>?_)
 · have h0:line.getD pl 0=0:=V.int.inj (n27_ hz);have ec:clr pl head (kn,line)=(kn,line):=by unfold clr; rw [if_pos h0]
   refine ⟨_,rfl,_,rfl,z2_,fun p np=>?_⟩;rw [ec] at q;exact q _ p l (Same.new np) (.inl rfl) np Zc (Same.new np _ _ hl)
 · have h0:line.getD pl 0≠0:=fun z=>hz (n26_ (by rw [z]));refine ⟨_,rfl,_,rfl,hd,_,pl,_,rfl,rfl,SqL.of hh,getI hpl,?_⟩;generalize ht:head.getD pl 0=t at *;generalize hm:line.getD pl 0=m at *;have tB:t.natAbs < 2 ^ 400000:=by rw [← ht,n19_,n0_ hpl]; exact hB _ (n41_ hpl)
   have mB:m.natAbs < 2 ^ 400000:=by rw [← hm,n19_,n0_ (by omega)]; exact LO.bd _ (n41_ _)
   refine ⟨_,rfl,_,rfl,l,hd,rfl,⟨_,SqL.of hl⟩,⟨_,SqL.of hh⟩,fun D nD=>?_⟩;have lp:(prt t m line head).length=head.length:=by simp [prt,ll]
   refine lc_Z (k:=.l) (l:=.l) (vs:=line.map V.int) (ws:=head.map V.int) RI hRI (prt t m line head) (by simp [lp,ll]) (by simp; omega) nD hl hh (fun i v u H2 C hv hu s2 c=>?_) (fun H2 us' s2 e2 a2=>?_)
   · rw [n3_] at hv hu;obtain ⟨x,ex,rfl⟩:=n31_.mp hv;obtain ⟨y,ey,rfl⟩:=n31_.mp hu;have xB:=LO.bd x (n6_ ex);have yB:=hB y (n6_ ey);exact ⟨_,rfl,_,rfl,t,x,rfl,rfl,⟨up 1000000 tB,up 1000000 xB⟩,_,rfl,_,rfl,m,y,rfl,rfl,⟨up 1000000 mB,up 1000000 yB⟩,_,_,rfl,rfl,c _ _ _ (Same.refl _) (by unfold prt; rw [n52_,ex,ey]) rfl⟩
   · rw [a2.ints] at e2;have gp:=Zoc LO.nz;have g4:∀ ps,gl kn ps < 2 ^ 4000:=fun ps=>n20_ (gp ps).2 LO.kn;refine ⟨_,rfl,_,rfl,D,_,kn,rfl,e2,fun i hi=>g4 _,?_⟩
     have ec:clr pl head (kn,line)=(t,(prt t m line head).map fun p=>p.fdiv (gl kn (prt t m line head):Int)):=by
      unfold clr; rw [show (kn,line).2.getD pl 0=m from hm,if_neg h0,ht]
     rw [ec] at q;generalize hg:gl kn (prt t m line head)=g at *;have g0:0 < g:=by rw [← hg]; exact (gp _).1
     have g9:g < 2 ^ 8999:=by rw [← hg]; exact up 8999 (g4 _)
     refine ⟨_,rfl,_,_,rfl,rfl,_,rfl,?_⟩;refine ite2 (fun h1=>?_) (fun h1=>?_)
     · refine ⟨_,rfl,D,rfl,⟨_,SqL.of e2⟩,fun E nE=>?_⟩;refine lc_T (k:=.l) (vs:=(prt t m line head).map V.int) RI hRI ((prt t m line head).map fun p=>p.fdiv (g:Int)) (by simp) (by simp; omega) nE e2 (fun i v H4 C hv s4 c=>?_) (fun H4 us4 s4 e4 a4=>?_)
       · rw [n3_] at hv;obtain ⟨x,ex,rfl⟩:=n31_.mp hv;exact ⟨_,rfl,_,rfl,x,_,rfl,rfl,⟨by omega,g9⟩,c _ _ _ (Same.refl _) (by rw [n3_,ex]; rfl) rfl⟩
       · rw [a4.ints] at e4;refine ⟨_,rfl,_,rfl,z2_,fun p np=>?_⟩;exact q _ p E (s2.trans (s4.trans (Same.new np))) (.inr (Zhl s2 nE)) (Zhl (s2.trans s4) np) Zc (Same.new np _ _ e4)
     · have h1':¬ ((1:Int) < (g:Int)):=fun z=>h1 (n26_ z);have e1:g=1:=by omega
       subst e1;rw [Zkm] at q;refine ⟨_,rfl,_,rfl,z2_,fun p np=>?_⟩;exact q _ p D (s2.trans (Same.new np)) (.inr nD) (Zhl s2 np) Zc (Same.new np _ _ e2)
abbrev Xv:Stmt:=top 56
theorem Zj1 (F:Fun K "head_of" "head_of" Xv f fd) {cc Ph:Addr} (hcd:fd.code=.ref cc) (CK:∀ h,K.In h→PySem.W.CodeHd h cc Ph) (BK:BltK K mg):FnOk P w K mg base CX0 5 f fd ["left","place"] (Zht Ph):=by
 have sc:FnScope ["left","place","heads"] ["left","place"] (Ze Xv):=fsc (by decide +kernel);refine F.okC sc (fun vs H Q E h=>?_) (fun cdv ecd A outer s H vs Q E hr h=>?_)
 · obtain ⟨la,us,ls,pl,rfl,_⟩:=h;rfl
 · obtain ⟨la,us,ls,pl,rfl,hl,al,hpl,h1k,tb,q⟩:=h;have nd:=sc.nd;refine' ⟨_,?term,?read⟩
   case term=>refine' @Zd _ _ _ _ _ ?g1 (Zi (Zm (Zg0 (i:=0) rfl rfl rfl rfl (Zg0 (i:=1) rfl rfl rfl rfl (Zou (k:=2) P w K mg base ⟨rfl,rfl,rfl,rfl,rfl⟩ rfl hr (by decide) rfl T.b_min Zll (Za (pv 2) Zb rfl) (Zjj (cc:=cc) (P:=Ph) (q := "head_of.<locals>.<lambda>") rfl rfl (ecd.symm.trans hcd) rfl CK BK))))));case g1=>refine' @X8 _ _ _ _ _ _ _ _ _ _ (["at","known","line","place"]) ([none,none,none,some 1]) _ _ ((gTup K 2 (Z8 (Z5 0) (Z8 (gTup K 2 (Z8 (Z5 1) (Z8 (Z5 2) gNil))) gNil)))) _ _ _ rfl rfl (Zs (i:=2) nd rfl (Or.inl rfl)) (Yc (XN:=["left","place","heads"]) (Scope.names (Ze Xv)) rfl rfl rfl (fun _ h=>Z1 h) (by decide +kernel) rfl) ?g2 (fun _ _ _ _=>Yb (n:=2) rfl (Zj (pgB 0) (Zj (Yb (n:=2) rfl (Zj (pgB 1) (Zj (pgB 2) Zy))) Zy))) (fun _ _ _ _=>Zfm (Z0 Ze1 (Yj (Zc4 K rfl) (pv 2) (pv 3) (fun _ _=>rfl)) Zg (Z4 _))) (fun _ _ _ _=>pv 0) (by intro _ ; rfl);case g2=>refine' @Zo0 _ _ _ _ .l _ _ _ _ rfl T.b_enumerate (Za (pv 0) Zb rfl) (by rfl)
   case read =>
    have lu:=al.1;refine ⟨_,rfl,la,rfl,⟨_,SqL.of hl⟩,fun D nD=>?_⟩;refine Zce (n:=us.length) (fun _ v (x:Int)=>v=V.int x) (fun _ _ _ _ _ _ e=>e) (fun i=>if (ls.getD i (0,[])).2.getD pl 0=0 then none else some (i:Int)) (by omega) (fun σ=>∃ a b c,σ=[a,b,c,some (.int pl)]) ⟨_,_,_,rfl⟩ nD (fun i H2 s hi=>⟨us,us[i],SqL.of (s _ _ hl),n0_ hi⟩) (fun H2 s=>⟨us,SqL.of (s _ _ hl),rfl⟩) (fun i x σ2 H2 H3 C N hi s2 _ y ok c n=>?_) (fun H2 us2 s2 e2 a2=>?_)
    · obtain ⟨a1,a2,a3,rfl⟩:=ok;obtain ⟨p,w',rfl,np,rfl,y1⟩:=y;have ew:=y1 us (SqL.of (s2 _ _ hl));obtain ⟨x,ex,p',l',rfl,hp',hl'⟩:=al.get ew;have s3:Same H2 (upd H2 p (.tup [.int i,.ref p'])):=Same.new np;have gd:=Zic (z:=((0:Int),([]:List Int))) ex;rw [gd] at c n;refine ⟨p,_,rfl,SqT.of Zc,rfl,_,_,rfl,_,_,rfl,p',_,rfl,SqT.of (s3 _ _ (s2 _ _ hp')),rfl,_,_,rfl,_,_,rfl,rfl,rfl,?_⟩;refine ⟨_,rfl,_,rfl,l',_,pl,_,rfl,rfl,SqL.of (s3 _ _ (s2 _ _ hl')),getI (hpl x (n6_ ex)),rfl,_,rfl,?_⟩
      by_cases hz:x.2.getD pl 0=0
      · rw [n26_ (show V.int (x.2.getD pl 0)=.int 0 by rw [hz])];exact iteF (n _ _ ⟨_,_,_,rfl⟩ s3 (if_pos hz))
      · rw [n14_ (show ¬ V.int (x.2.getD pl 0)=.int 0 from fun z=>hz (V.int.inj z))];exact iteT ⟨_,rfl,c _ _ _ _ ⟨_,_,_,rfl⟩ s3 (if_neg hz) rfl⟩
    · rw [lu] at a2;rw [show us2=(hds ls pl).map V.int from Al.ints (ns:=hds ls pl) a2] at e2;refine ⟨_,rfl,fun o1 u1 hd1 r1 nc1=>⟨_,rfl,fun o2 u2 hd2 r2 nc2=>?_⟩⟩;have c12:s.heap.objs.size+1≠s.heap.objs.size+1+1:=n36_ (Nat.lt_succ_self _);generalize hc1:s.heap.objs.size+1=c1 at *;generalize hc2:c1+1=c2 at *;have nc2':H2 c2=none:=by rw [Zo (Ne.symm c12)] at nc2; exact nc2
      have sF:Same H2 (upd (upd H2 c1 (fzO o1)) c2 (fzO o2)):=(Same.new nc1).trans (Same.new nc2);have z1:upd (upd H2 c1 (fzO o1)) c2 (fzO o2) c1=some (fzO o1):=by rw [Zo c12]; exact Zc
      have z2:upd (upd H2 c1 (fzO o1)) c2 (fzO o2) c2=some (fzO o2):=Zc;generalize upd (upd H2 c1 (fzO o1)) c2 (fzO o2)=GF at sF z1 z2 ⊢;have S2:=s2.trans sF;refine ⟨_,rfl,tb.same S2,fun aL H5 kp tb5 naL nP lam=>?_⟩
      have nPt:∀ b o,(∀ ps,o≠HO.tbl ps)→GF b=some o→b≠Ph:=fun b o n e z=>by
       obtain ⟨ps,h,_⟩:=tb.same S2;rw [z,h] at e; exact n _ (Option.some.inj e).symm
      have k5:∀ b o,(∀ ps,o≠HO.tbl ps)→GF b=some o→H5 b=some o:=fun b o n e=>kp b o (nPt b o n e) e;have y1:=k5 _ _ (by intro ps z; cases z) z1;have y2:=k5 _ _ (by intro ps z; cases z) z2;obtain ⟨q',pm',j',pp,p0,p1,p2,p3,p4,p5,p6,p7,p8,lam⟩:∃ q' pm' j' pp p0 p1 p2 p3 p4 p5 p6 p7 p8,LamF H5 aL q' (hdPs pp) (Zkn j' p0 p1 p2 p3 p4 p5 p6 p7 p8) hdSc [("place",c2),("left",c1)] pm':=⟨_,_,_,_,_,_,_,_,_,_,_,_,_,lam⟩;refine ⟨D,aL,hds ls pl,spHd aL c1 c2 q' pm' j' pp p0 p1 p2 p3 p4 p5 p6 p7 p8,hkf ls pl,rfl,rfl,SqL.of (k5 _ _ (by intro ps z; cases z) (sF _ _ e2)),Zrk T c12,fun i hi=>?_,?_⟩
      · obtain ⟨n,rfl,hn,hz⟩:=Zhu hi;obtain ⟨w',ew,p',l',rfl,hp',hl'⟩:=al.got (n0_ hn);have gd:=Zic (z:=((0:Int),([]:List Int))) (n0_ hn);refine ⟨lam,la,p',l',us,pl,n,_,_,⟨o1,u1,y1,hd1,r1⟩,⟨o2,u2,y2,hd2,r2⟩,k5 _ _ (by intro ps z; cases z) (S2 _ _ hl),rfl,ew,k5 _ _ (by intro ps z; cases z) (S2 _ _ hp'),k5 _ _ (by intro ps z; cases z) (S2 _ _ hl'),hpl _ (n41_ hn),?_,rfl⟩;unfold hkf;rw [n60_,gd]
      · have dk:∀ b o,H2 b=some o→b≠Ph→del (del H5 c2) c1 b=some o:=fun b o e n=>by
         have n1:b≠c1:=Zk e nc1;have n2:b≠c2:=Zk e nc2';rw [Yt n1,Yt n2]; exact kp b o n (sF _ _ e)
        refine q _ (fun b o n e=>dk b o (s2 _ _ e) n) ?_;have t1:TabF (del H5 c2) Ph "head_of.<locals>.<lambda>" := tb5.del y2 hd2;exact t1.del (by rw [Yt c12]; exact y1) hd1
abbrev Zbx:Stmt:=top 58
theorem Zjv (F:Fun K "stepped" "stepped" Zbx f fd) {Ph:Addr} (Cak_:a6_ P w K mg base) (Cal_:Cal P w K mg base "head_of" 5 ["left","place"] (Zht Ph)):FnOk P w K mg base CX0 6 f fd ["lines","places"] (Zca Ph):=by
 have sc:FnScope ["lines","places","steps","left","place","at","head"] ["lines","places"] (Ze Zbx):=fsc (by decide +kernel);refine F.ok sc (fun vs H Q E h=>by obtain ⟨La,vs',lines,n,w,rfl,_⟩:=h;rfl) fun cdv A outer s H vs Q E hr h=>?_;obtain ⟨La,vs',lines,n,w',rfl,hL,al,SO,tb,q⟩:=h;have nd:=sc.nd;refine' ⟨_,?term,?read⟩
 case term=>refine' @Zd _ _ _ _ _ ?g1 ?g2;(case g1=>refine' @Zr _ _ (2) _ _ _ _ nd rfl (Or.inl rfl) ?g3 (by rfl) (by first | exact Or.inl rfl | exact Or.inr rfl | assumption);case g3=>refine' @Yd _ _ _ _ Zb);case g2=>refine' @Zd _ _ _ _ _ ?g4 ?g5;(case g4=>refine' @X8 _ _ _ _ _ _ _ _ _ _ (["line"]) ([none]) _ _ _ _ _ _ rfl rfl (Zs (i:=3) nd rfl (Or.inl rfl)) (Z3 (by decide) rfl (by decide) rfl rfl) (Yi (pv 0)) (fun _ _ _ _=>pgB 0) (fun _ _ _ _=>Zp) (fun _ _ _ _=>Zn (Za Zg (Za (pv 0) Zb rfl) rfl)) (by intro _ ; rfl));case g5=>refine' @Zd _ _ _ _ _ ?g6 ?g7;(case g6=>refine' @Zai _ _ _ _ _ _ _ _ PassesOwn.never rfl ?g8 (Zs (i:=4) nd rfl (Or.inr rfl)) ?g9 (by intro _ ; rfl);(case g8=>refine' @Xp _ _ _ _ _ _ rfl T.b_range (Za (pv 1) Zb rfl) (by rfl));case g9=>refine' @Zd _ _ _ _ _ ?ga ?gb;(case ga=>refine' @Zr _ _ (5) _ _ _ _ nd rfl (Or.inl rfl) (Zl Cal_ hr (by decide) rfl (Za (pv 3) (Za (pv 4) Zb rfl) rfl)) (by rfl) (by first | exact Or.inl rfl | exact Or.inr rfl | assumption));case gb=>refine' @Zi _ _ _ ?gc;case gc=>refine' @Y3 _ _ _ _ _ _ _ _ (Z0 Zpc (pv 5) Zer (Z4 _)) ?gd Z2;case gd=>refine' @Zd _ _ _ _ _ ?ge ?gf;(case ge=>refine' @Zr _ _ (6) _ _ _ _ nd rfl (Or.inr rfl) ?gg (by rfl) (by first | exact Or.inl rfl | exact Or.inr rfl | assumption);case gg=>refine' @Yj _ _ _ _ _ _ _ Zbv ?gh Zg (fun _ _=>rfl);case gh=>refine' @Zbb _ _ _ _ _ _ _ _ _ _ _ _ PySem.F.plainAttrs_list PySem.F.slot_list_pop PySem.F.type_list_pop Zm7 (pv 3) (Za (pv 5) Zb rfl) (by rfl) (by rfl) (by rfl) (by rfl) (by rfl));case gf=>refine' @Zd _ _ _ _ _ ?gi ?gj;(case gi=>refine' @Yx _ _ _ _ ?gk (by rfl);case gk=>refine' @Zbb _ _ _ _ _ _ _ _ _ _ _ _ PySem.F.plainAttrs_list PySem.F.slot_list_append PySem.F.type_list_append Ym (pv 2) (Za (Zn (Za (pv 4) (Za (pv 6) Zb rfl) rfl)) Zb rfl) (by rfl) (by rfl) (by rfl) (by rfl) (by rfl));case gj=>refine' @Zi _ _ _ ?gl;case gl=>refine' @X8 _ _ _ _ _ _ _ _ _ _ (["known","line","head","place"]) ([none,none,some 6,some 4]) _ _ ((gTup K 2 (Z8 (Z5 0) (Z8 (Z5 1) gNil)))) _ _ _ rfl rfl (Zs (i:=3) nd rfl (Or.inl rfl)) (Yc (XN:=["lines","places","steps","left","place","at","head"]) (Scope.names (Ze Zbx)) rfl rfl rfl (fun _ h=>Z1 h) (by decide +kernel) rfl) (Yi (pv 3)) (fun _ _ _ _=>Yb (n:=2) rfl (Zj (pgB 0) (Zj (pgB 1) Zy))) (fun _ _ _ _=>Zp) (fun _ _ _ _=>Zl Cak_ hr (by decide) rfl (Za (pv 0) (Za (pv 1) (Za (pv 2) (Za (pv 3) Zb rfl) rfl) rfl) rfl)) (by intro _ ; rfl));case g7=>refine' @Zi _ _ _ ?gm;case gm=>refine' @Zm _ _ _ _ ?gn;case gn=>refine' @Zn _ _ _ _ _ ?go;case go=>refine' @Za _ _ _ _ _ (pv 2) ?gp rfl;case gp=>refine' @Za _ _ _ _ _ ?gq Zb rfl;case gq=>refine' @Y5 _ _ _ _ _ _ _ (["known","line"]) ([none,none]) _ _ ((gTup K 2 (Z8 (Z5 0) (Z8 (Z5 1) gNil)))) _ _ rfl (Z3 (by decide) rfl (by decide) rfl rfl) (Yi (pv 3)) (fun _ _ _ _=>Yb (n:=2) rfl (Zj (pgB 0) (Zj (pgB 1) Zy))) (fun _ _ _ _=>Zp) (fun _ _ _ _=>pv 1) (by intro _ ; rfl)
 have lv:=al.1;refine ⟨z0_,fun sa nsa=>?_⟩;have s0:Same H (upd H sa (.lst [])):=Same.new nsa;refine ⟨_,rfl,La,rfl,⟨_,SqL.of (s0 _ _ hL)⟩,fun D nD=>?_⟩;have hsa0:(upd H sa (.lst [])) sa=some (.lst []):=Zc;have tb0:=tb.same s0;generalize upd H sa (.lst [])=H0 at s0 nD hsa0 tb0 ⊢
 have nPh:∀ {G:Hp} {b:Addr} {o:HO},TabF G Ph "head_of.<locals>.<lambda>" → (∀ ps,o≠HO.tbl ps)→G b=some o→b≠Ph:=fun t n e z=>by
  obtain ⟨ps,h,_⟩:=t;rw [z,h] at e; exact n _ (Option.some.inj e).symm
 refine Zce (n:=vs'.length) (IsLnN fun b=>b=sa∨b=D∨b=Ph) (fun H1 H2 v x k _ h=>h.keep fun b o n e=>k b o (fun z=>n (.inr (.inl z))) e) (fun i=>(lines.map fun l=>((1:Int),l))[i]?) (by have:=SO.l1; omega) (fun σ=>∃ a,σ=[a]) ⟨_,rfl⟩ nD (fun i H2 s hi=>Zbd (k:=.l) (show SK.l.At H2 La vs' from s _ _ (s0 _ _ hL)) hi) (fun H2 s=>Xe (k:=.l) (show SK.l.At H2 La vs' from s _ _ (s0 _ _ hL)) (n5_ _)) (fun i x σ2 H2 H3 C N hi s2 eD y ok c n=>?_) (fun H2 ws s2 e2 a2=>?_)
 · obtain ⟨a1,rfl⟩:=ok;obtain ⟨ws',eD⟩:=eD;obtain ⟨rfl,ex⟩:=X0 (k:=.l) (show SK.l.At H2 La vs' from s2 _ _ (s0 _ _ hL)) y;obtain ⟨ln,el,l,rfl,hl⟩:=al.get ex;refine Zat ?_;refine ⟨_,rfl,z2_,fun p np=>?_⟩;have hl2:=s2 _ _ (s0 _ _ hl);have sa2:=s2 _ _ hsa0;have tb2:=tb0.same s2;refine c _ _ _ (1,ln) ⟨_,rfl⟩ (Same.new np) (by rw [n3_,el]; rfl) ⟨p,l,rfl,?_,?_,Zc,Same.new np _ _ hl2⟩
   · obtain ⟨ps,htb,_⟩:=tb2;rintro (rfl | rfl | rfl)
     · rw [sa2] at np; cases np
     · rw [eD] at np; cases np
     · rw [htb] at np; cases np
   · rintro (rfl | rfl | z)
     · rw [s0 _ _ hl] at hsa0;rw [hl] at nsa; cases nsa
     · rw [s0 _ _ hl] at nD; cases nD
     · exact nPh tb2 (by intro ps z; cases z) hl2 z
 rw [Yl _ _ (by rw [n4_]; exact lv)] at a2;refine ⟨_,rfl,_,rfl,by omega,by have:=SO.nw; have:=SO.w1; omega,?_⟩;refine Zdz (fun i σ H2=>∃ sa la us ws x1 x2 x3,σ=[some (.ref La),some (.int n),some (.ref sa),some (.ref la),x1,x2,x3]∧Xk Ph H H2∧TabF H2 Ph "head_of.<locals>.<lambda>" ∧ H sa=none∧H la=none∧sa≠la∧H2 sa=some (.lst us)∧H2 la=some (.lst ws)∧Al (fun v x=>IsLnN (fun b=>b=sa∨b=la∨b=Ph) H2 v (stI x)) us (stp lines i).1∧Al (IsLnN (fun b=>b=sa∨b=la∨b=Ph) H2) ws (stp lines i).2) ?_ (fun i σ H2 hi p=>?_) (fun σ H2 p=>?_)
 · exact ⟨sa,D,[],ws,_,_,_,rfl,fun b o _ e=>s2 _ _ (s0 _ _ e),tb0.same s2,nsa,Zhl s0 nD,fun z=>(by rw [z,nD] at hsa0; cases hsa0),s2 _ _ hsa0,e2,.nil,a2⟩
 · clear s0 nsa hsa0 tb0 nD s2 e2 a2;obtain ⟨sa,la,us,ws,x1,x2,x3,rfl,kp,tb2,nsa,nla,sl,hsa,hla,aS,aL⟩:=p;have hin:i < n:=by simpa using hi
   have i0:(0:Int)+(i:Int)=i:=by omega
   rw [i0];have OK:=SO.ok i (by omega);have lens:=Zfc (lines:=lines) i;have l1:=SO.l1; have w1:=SO.w1; have nw:=SO.nw;refine ⟨_,rfl,_,rfl,la,ws,(stp lines i).2,i,rfl,hla,aL.imp fun v x r=>r.ln,fun x hx=>by rw [(OK x hx).len]; omega,by omega,tb2,fun H3 kp3 tb3=>?_⟩;have kN3:Zln (fun b=>b=sa∨b=la∨b=Ph) H2 H3:=fun b o n e=>kp3 b o (fun z=>n (.inr (.inr z))) e;have kp13:Xk Ph H H3:=fun b o n e=>kp3 b o n (kp b o n e);have aS3:=aS.imp fun v x r=>r.keep kN3;have aL3:=aL.imp fun v x r=>r.keep kN3;have hsa3:=kp3 _ _ (nPh tb2 (by intro ps z; cases z) hsa) hsa;have hla3:=kp3 _ _ (nPh tb2 (by intro ps z; cases z) hla) hla;refine ⟨_,rfl,rfl,_,rfl,?_⟩
   rcases Zk6 (stp lines i).2 i with ⟨e1,e2⟩ | ⟨at_,e1,e2⟩
   · rw [e2,n26_ rfl];refine iteF ?_;exact ⟨sa,la,us,ws,_,_,_,rfl,kp13,tb3,nsa,nla,sl,hsa3,hla3,by rw [Zb3 e1]; exact aS3,by rw [Zb3 e1]; exact aL3⟩
   · rw [e2,n14_ (by intro z; cases z)];refine iteT ?_;obtain ⟨ha,_⟩:=Zbp e1;have st:=Zc2 e1;generalize hS:stp lines i=S at *;obtain ⟨w',ew,pw,hl,rfl,np1,np2,hpw,hhl⟩:=aL3.got (n0_ ha);have gd:S.2.getD at_ (0,[])=S.2[at_]:=by rw [n19_,n0_ ha]; rfl
     rw [gd] at st;have OKh:=OK _ (n41_ ha);generalize S.2[at_]=hd at *;have lw:=aL3.1;refine ⟨_,rfl,.inl ⟨rfl,_,SqL.of hla3⟩,_,rfl,la,ws,(at_:Int),at_,_,rfl,rfl,hla3,by omega,by omega,seqIndex_of (by omega) (by omega),ew,?_⟩;have kN4:Zln (fun b=>b=sa∨b=la∨b=Ph) H3 (upd H3 la (.lst (ws.eraseIdx at_))):=fun b o n e=>by rw [Zo fun z=>n (.inr (.inl z))]; exact e
     have hla4:upd H3 la (.lst (ws.eraseIdx at_)) la=some (.lst (ws.eraseIdx at_)):=Zc;have hsa4:upd H3 la (.lst (ws.eraseIdx at_)) sa=some (.lst us):=by rw [Zo sl]; exact hsa3
     have tb4:TabF (upd H3 la (.lst (ws.eraseIdx at_))) Ph "head_of.<locals>.<lambda>" := tb3.keepL hla3 Keep.upd;have kp4:Xk Ph H (upd H3 la (.lst (ws.eraseIdx at_))):=fun b o n e=>by rw [Zo (Zk e nla)]; exact kp13 b o n e
     generalize upd H3 la (.lst (ws.eraseIdx at_))=H4 at kN4 hla4 hsa4 tb4 kp4 ⊢;refine ⟨pw,_,1,_,rfl,rfl,SqT.of (kN4 _ _ np1 hpw),rfl,?_⟩;refine ⟨_,rfl,.inl ⟨rfl,_,SqL.of hsa4⟩,_,rfl,_,rfl,z2_,fun p np=>⟨sa,us,_,rfl,rfl,Same.new np _ _ hsa4,by rw [aS3.1,sizeLine_eq]; omega,?_⟩⟩;have nep:∀ {b:Addr} {o:HO},H4 b=some o→b≠p:=fun e z=>by rw [z,np] at e; cases e
     generalize hH5:upd (upd H4 p (.tup [.int (i:Int),.ref hl])) sa (.lst (us++[.ref p]))=H5;have nps:p≠sa:=fun z=>nep hsa4 z.symm;have kN5:Zln (fun b=>b=sa∨b=la∨b=Ph) H4 H5:=fun b o n e=>by rw [← hH5,Zo fun z=>n (.inl z),Zo (nep e)]; exact e
     have hsa5:H5 sa=some (.lst (us++[.ref p])):=by rw [← hH5]; exact Zc
     have hla5:H5 la=some (.lst (ws.eraseIdx at_)):=by rw [← hH5,Zo (Ne.symm sl),Zo (nep hla4)]; exact hla4
     have hp5:H5 p=some (.tup [.int (i:Int),.ref hl]):=by rw [← hH5,Zo nps]; exact Zc
     have tb5:TabF H5 Ph "head_of.<locals>.<lambda>" := by rw [← hH5]; exact (tb4.same (Same.new np)).keepL (Same.new np _ _ hsa4) Keep.upd
     have kp5:Xk Ph H H5:=fun b o n e=>by rw [← hH5,Zo (Zk e nsa),Zo (nep (kp4 b o n e))]; exact kp4 b o n e
     clear hH5;have kN35:Zln (fun b=>b=sa∨b=la∨b=Ph) H3 H5:=fun b o n e=>kN5 b o n (kN4 b o n e);have aS5:=aS3.imp fun v x r=>r.keep kN35;have aL5:=Al.erase (aL3.imp fun v x r=>r.keep kN35) at_
     have hhl5:=kN35 _ _ np2 hhl;have nlaP:la≠Ph:=nPh tb5 (by intro ps z; cases z) hla5
     have npN:¬ (p=sa∨p=la∨p=Ph):=by
      rintro (z | z | z)
      · exact nps z
      · exact nep hla4 z.symm
      · exact nPh tb5 (by intro ps z; cases z) hp5 z
     refine ⟨_,rfl,la,rfl,⟨_,SqL.of hla5⟩,fun D nD=>?_⟩;have lw5:=aL5.1;refine Zce (n:=(ws.eraseIdx at_).length) (IsLnN fun b=>b=sa∨b=D∨b=Ph) (fun H1 H2 v x k _ h=>h.keep fun b o n e=>k b o (fun z=>n (.inr (.inl z))) e) (fun j=>((S.2.eraseIdx at_).map (clr i hd.2))[j]?) (by rw [lw5]; have:=List.length_eraseIdx_le S.2 at_; omega) (fun σ=>∃ a b,σ=[a,b,some (.ref hl),some (.int i)]) ⟨_,_,rfl⟩ nD (fun j H2 s hj=>Zbd (k:=.l) (show SK.l.At H2 la _ from s _ _ hla5) hj) (fun H2 s=>Xe (k:=.l) (show SK.l.At H2 la _ from s _ _ hla5) (n5_ _)) (fun j x σ2 H6 H7 C N hj s6 eD y ok c n=>?_) (fun H6 ws6 s6 e6 a6=>?_)
     · obtain ⟨a1,a2,rfl⟩:=ok;obtain ⟨wsD,eD⟩:=eD;obtain ⟨rfl,ex⟩:=X0 (k:=.l) (show SK.l.At H6 la _ from s6 _ _ hla5) y;obtain ⟨ln,el,p1,l1',rfl,m1,m2,hp1,hl1⟩:=aL5.get ex;refine ⟨p1,_,rfl,SqT.of (s6 _ _ hp1),rfl,_,_,rfl,_,_,rfl,rfl,?_⟩;have OKl:=OK ln (List.mem_of_mem_eraseIdx (n6_ el));refine Za0 ?_;refine ⟨_,rfl,_,rfl,_,rfl,_,rfl,ln.1,l1',hl,ln.2,hd.2,i,rfl,s6 _ _ hl1,s6 _ _ hhl5,by rw [OKh.len]; exact OKl,OKh.bd,by rw [OKh.len]; omega,by rw [OKh.len]; omega,fun H8 p8 l8 s8 hor np8 hp8 hl8=>?_⟩;have sa6:=s6 _ _ hsa5;have tb6:=tb5.same s6;refine c _ _ _ (clr i hd.2 ln) ⟨_,_,rfl⟩ s8 (by rw [n3_,el]; rfl) ⟨p8,l8,rfl,?_,?_,hp8,hl8⟩
       · obtain ⟨ps,htb,_⟩:=tb6;rintro (rfl | rfl | rfl)
         · rw [sa6] at np8; cases np8
         · rw [eD] at np8; cases np8
         · rw [htb] at np8; cases np8
       · rcases hor with rfl | nl8
         · rintro (z | rfl | z)
           · exact m2 (.inl z)
           · rw [hl1] at nD; cases nD
           · exact m2 (.inr (.inr z))
         · obtain ⟨ps,htb,_⟩:=tb6;rintro (rfl | rfl | rfl)
           · rw [sa6] at nl8; cases nl8
           · rw [eD] at nl8; cases nl8
           · rw [htb] at nl8; cases nl8
     · rw [Yl _ _ (by rw [n4_]; exact lw5)] at a6
       have nD2:∀ b o,H6 b=some o→(b=sa∨b=D∨b=Ph)→(b=sa∨b=la∨b=Ph)∨b=D:=fun b o _ z=>by
        rcases z with z | z | z
        · exact .inl (.inl z)
        · exact .inr z
        · exact .inl (.inr (.inr z))
       have toD:∀ {v:V} {x:Int×List Int},IsLnN (fun b=>b=sa∨b=la∨b=Ph) H5 v x→IsLnN (fun b=>b=sa∨b=D∨b=Ph) H6 v x:=fun {v x} ⟨p',l',e,n1,n2,h1,h2⟩ =>
        ⟨p',l',e,fun z=>(by
         rcases z with z | z | z
         · exact n1 (.inl z)
         · rw [z,nD] at h1; cases h1
         · exact n1 (.inr (.inr z))),fun z=>(by
         rcases z with z | z | z
         · exact n2 (.inl z)
         · rw [z,nD] at h2; cases h2
         · exact n2 (.inr (.inr z))),s6 _ _ h1,s6 _ _ h2⟩
       refine ⟨sa,D,us++[.ref p],ws6,_,_,_,rfl,fun b o n e=>s6 _ _ (kp5 b o n e),tb5.same s6,nsa,?_,fun z=>(by rw [z,nD] at hsa5; cases hsa5),s6 _ _ hsa5,e6,?_,?_⟩
       · cases e:H D with
         | none=>rfl
         | some o =>
           by_cases z:D=Ph
           · obtain ⟨ps,htb,_⟩:=tb5;rw [z,htb] at nD; cases nD
           · have:=kp5 D o z e
             rw [nD] at this; cases this
       · rw [st];exact (aS5.imp fun v x r=>toD r).snoc (toD ⟨p,hl,rfl,npN,np2,hp5,hhl5⟩)
       · rw [st]; exact a6
 · clear s0 nsa hsa0 tb0 nD s2 e2 a2;obtain ⟨sa,la,us,ws,x1,x2,x3,rfl,kp,tb2,nsa,nla,sl,hsa,hla,aS,aL⟩:=p;have ln:=aL.1;have lens:=Zfc (lines:=lines) n;have l1:=SO.l1;simp only [n60_] at aS aL ln;refine ⟨_,rfl,_,rfl,la,rfl,⟨_,SqL.of hla⟩,fun D nD=>?_⟩;refine Zce (n:=ws.length) (fun H v (x:List Int)=>∃ l,v=V.ref l∧l≠D∧H l=some (.lst (x.map V.int))) (fun H1 H2 v x k _ ⟨l,e,n,h⟩=>⟨l,e,n,k _ _ n h⟩) (fun j=>((stp lines n).2.map Prod.snd)[j]?) (by omega) (fun σ=>∃ a b,σ=[a,b]) ⟨_,_,rfl⟩ nD (fun j H2 s hj=>Zbd (k:=.l) (show SK.l.At H2 la _ from s _ _ hla) hj) (fun H2 s=>Xe (k:=.l) (show SK.l.At H2 la _ from s _ _ hla) (n5_ _)) (fun j x σ2 H6 H7 C N hj s6 eD y ok c n=>?_) (fun H6 ws6 s6 e6 a6=>?_)
   · obtain ⟨a1,a2,rfl⟩:=ok;obtain ⟨rfl,ex⟩:=X0 (k:=.l) (show SK.l.At H6 la _ from s6 _ _ hla) y;obtain ⟨x,el,p1,l1',rfl,m1,m2,hp1,hl1⟩:=aL.get ex;refine ⟨p1,_,rfl,SqT.of (s6 _ _ hp1),rfl,_,_,rfl,_,_,rfl,rfl,?_⟩;refine Za0 ?_;exact ⟨_,rfl,c _ _ _ x.2 ⟨_,_,rfl⟩ (Same.refl _) (by rw [n3_,el]; rfl) ⟨l1',rfl,fun z=>(by rw [z,nD] at hl1; cases hl1),s6 _ _ hl1⟩⟩
   · rw [Yl _ _ (by rw [n4_]; exact ln)] at a6;refine ⟨z2_,fun p np=>?_⟩;have s7:Same H6 (upd H6 p (.tup [.ref sa,.ref D])):=Same.new np;refine q _ p sa D us ws6 (fun b o n e=>s7 _ _ (s6 _ _ (kp b o n e))) ((tb2.same s6).same s7) Zc (s7 _ _ (s6 _ _ hsa)) (aS.imp fun v x r=>(r.ln.same s6).same s7) (s7 _ _ e6) (a6.imp fun v x ⟨l,e,_,h⟩=>⟨l,e,s7 _ _ h⟩)
abbrev Za1:Stmt:=top 44
theorem Zh4 (F:Fun K "levelled" "levelled" Za1 f fd) (Cf_:a3_ P w K mg base):FnOk P w K mg base CX0 4 f fd ["parts"] (Zdc K):=by
 have sc:FnScope ["parts","many"] ["parts"] (Ze Za1):=fsc (by decide +kernel);refine F.ok sc (fun vs H Q E h=>by obtain ⟨a,k,us,qs,b,rfl,_⟩:=h;rfl) fun cdv A outer s H vs Q E hr h=>?_;obtain ⟨a,k,us,qs,b,rfl,ha,al,B,q⟩:=h;have nd:=sc.nd;refine' ⟨_,?term,?read⟩
 case term=>refine' @Zd _ _ _ _ _ ?g1 ?g2;(case g1=>refine' @Zr _ _ (1) _ _ _ _ nd rfl (Or.inr rfl) ?g3 (by rfl) (by first | exact Or.inl rfl | exact Or.inr rfl | assumption);case g3=>refine' @Zl _ _ _ _ _ _ _ _ _ _ _ Cf_ hr (by decide) rfl ?g4 (by decide) (by rfl) (by rfl);case g4=>refine' @Za _ _ _ _ _ ?g5 Zb rfl;case g5=>refine' @Y5 _ _ _ _ _ _ _ (["top","bottom"]) ([none,none]) _ _ ((gTup K 2 (Z8 (Z5 0) (Z8 (Z5 1) gNil)))) _ _ rfl (Z3 (by decide) rfl (by decide) rfl rfl) (Zaw K rfl (pv 0)) (fun _ _ _ _=>Yb (n:=2) rfl (Zj (pgB 0) (Zj (pgB 1) Zy))) (fun _ _ _ _=>Zp) (fun _ _ _ _=>pv 1) (by intro _ ; rfl));case g2=>refine' @Zi _ _ _ ?g6;case g6=>refine' @Zm _ _ _ _ ?g7;case g7=>refine' @Zn _ _ _ _ _ ?g8;case g8=>refine' @Za _ _ _ _ _ ?g9 (Za (pv 1) Zb rfl) rfl;case g9=>refine' @Y5 _ _ _ _ _ _ _ (["top","bottom","many"]) ([none,none,some 1]) _ _ ((gTup K 2 (Z8 (Z5 0) (Z8 (Z5 1) gNil)))) _ _ rfl (Yc (XN:=["parts","many"]) (Scope.names (Ze Za1)) rfl rfl rfl (fun _ h=>Z1 h) (by decide +kernel) rfl) (Zaw K rfl (pv 0)) (fun _ _ _ _=>Yb (n:=2) rfl (Zj (pgB 0) (Zj (pgB 1) Zy))) (fun _ _ _ _=>Zp) (fun _ _ _ _=>Zq Yq (pv 0) (Zq Yo (pv 2) (pv 1))) (by intro _ ; rfl)
 refine ⟨_,rfl,a,k,rfl,⟨_,ha.sq⟩,fun D nD=>?_⟩;refine lc_Q (k:=k) (us:=us) RI hRI (bots qs) (by simp [al.1]) (by rw [al.1]; exact B.len) nD ha al (fun i x' H2 C ex s2 c=>?_) (fun H2 us' s2 e2 a2=>?_)
 · exact ⟨_,rfl,c _ _ _ (Same.refl _) (by rw [n3_,ex]; rfl) rfl⟩
 rw [a2.ints] at e2;refine ⟨D,_,b,rfl,e2,B.bots,by have:=B.b4; omega,by rw [n4_]; have:=B.sz; omega,?_⟩;have al2:Al (IsQ K H2) us qs:=al.imp fun v x r=>hRQ _ _ _ _ s2.tk r;refine ⟨_,rfl,a,k,rfl,⟨_,(ha.same s2).sq⟩,fun E nE=>?_⟩;refine lc_Q (k:=k) (us:=us) RI hRI (lvd qs) (by simp [lvd,al.1]) (by rw [al.1]; exact B.len) nE (ha.same s2) al2 (fun i x' H4 C ex s4 c=>?_) (fun H4 us'' s4 e4 a4=>?_)
 · have hx:=B.bd x' (n6_ ex);exact ⟨_,rfl,_,rfl,_,rfl,_,_,rfl,rfl,⟨FM.den_ne x',up 8999 (show (x'.den:Int).natAbs < 2 ^ b from hx.2) (by have:=B.b4; omega)⟩,_,_,rfl,rfl,⟨up 1000000 hx.1 (by have:=B.b4; omega),up 1000000 (Xa (FM.den_pos x') B.lcm)⟩,c _ _ _ (Same.refl _) (by unfold lvd; rw [n3_,ex]; rfl) rfl⟩
 rw [a4.ints] at e4;refine ⟨_,rfl,z2_,fun p np=>?_⟩;exact q _ p E (s2.trans (s4.trans (Same.new np))) (Zhl s2 nE) Zc (Same.new np _ _ e4)
abbrev Zcj:Stmt:=top 45
theorem Zm6 (F:FunD K "mixed" "mixed" Zcj f fd) (Cl_:a7_ P w K mg base) (Cn_:a8_ P w K mg base):FnOk P w K mg base CX0 5 f fd ["weights","parts","bottom"] (Zih K):=by
 have sc:FnScope ["weights","parts","bottom","tops","many"] ["weights","parts","bottom"] (Ze Zcj):=fsc (by decide +kernel);refine F.ok sc (fun vs H Q E h=>by obtain ⟨w,kw,ws,a,k,us,qs,b,c,rfl,_⟩:=h;rfl) fun cdv A outer s H vs Q E hr h=>?_;obtain ⟨w,kw,ws,a,k,us,qs,b,c,rfl,hw,hws,ha,al,B,hc0,hc4,q⟩:=h;have nd:=sc.nd;have hu:=Zlm hr;refine' ⟨_,?term,?read⟩
 case term=>refine' @Zd _ _ _ _ _ ?g1 ?g2;(case g1=>refine' @Zam _ _ _ _ _ _ (Zl Cl_ hr (by decide) rfl (Za (pv 1) Zb rfl)) ?g3 (by rfl) (by rfl) (by rfl);case g3=>refine' @Yb _ _ _ _ _ (2) rfl (Zj (Zs (i:=3) nd rfl (Or.inl rfl)) (Zj (Zs (i:=4) nd rfl (Or.inl rfl)) Zy)) (by rfl) (by rfl));case g2=>refine' @Zi _ _ _ ?g4;case g4=>refine' @Zm _ _ _ _ ?g5;case g5=>refine' @Zl _ _ _ _ _ _ _ _ _ _ _ Cn_ hr (by decide) rfl ?g6 (by decide) (by rfl) (by rfl);case g6=>refine' @Za _ _ _ _ _ ?g7 (Za (Zq Yq (pv 4) (pv 2)) Zb rfl) rfl;case g7=>refine' @Zh _ _ _ _ _ _ _ _ _ (Zdo rfl) rfl T.b_sum Zl1 ?g8 (by decide) (by decide) (by rfl) (by rfl);case g8=>refine' @Za _ _ _ _ _ ?g9 Zb rfl;case g9=>refine' @Y5 _ _ _ _ _ _ _ (["weight","top"]) ([none,none]) _ _ ((gTup K 2 (Z8 (Z5 0) (Z8 (Z5 1) gNil)))) _ _ rfl (Z3 (by decide) rfl (by decide) rfl rfl) (Zmf rfl T.b_zip (Za (pv 0) (Za (pv 3) Zb rfl) rfl)) (fun _ _ _ _=>Yb (n:=2) rfl (Zj (pgB 0) (Zj (pgB 1) Zy))) (fun _ _ _ _=>Zp) (fun _ _ _ _=>Zq Yq (pv 0) (pv 1)) (by intro _ ; rfl)
 refine ⟨_,rfl,a,k,us,qs,b,rfl,ha,al,B,fun H1 p l s1 nl hp hl=>?_⟩;refine ⟨p,_,rfl,SqT.of hp,rfl,_,_,rfl,_,_,rfl,rfl,?_⟩;refine ⟨_,rfl,_,rfl,w,l,kw,.l,rfl,⟨_,(hw.same s1).sq⟩,⟨_,SqL.of hl⟩,fun D nD=>?_⟩;have lq:(lvd qs).length=qs.length:=by simp [lvd]
 refine lc_Z (k:=kw) (l:=.l) (vs:=ws.map V.int) (ws:=(lvd qs).map V.int) RI hRI (List.zipWith (fun w t=>w * t) ws (lvd qs)) (by simp) (by simp [lq]; have:=B.len; omega) nD (hw.same s1) hl (fun i v u H2 C hv hu s2 c=>?_) (fun H2 us' s2 e2 a2=>?_)
 · rw [n3_] at hv hu;obtain ⟨x,ex,rfl⟩:=n31_.mp hv;obtain ⟨y,ey,rfl⟩:=n31_.mp hu;exact ⟨_,rfl,_,rfl,x,y,rfl,rfl,⟨up 1000000 (hws x (n6_ ex)),up 1000000 (Zqw B y (n6_ ey))⟩,c _ _ _ (Same.refl _) (by rw [n52_,ex,ey]) rfl⟩
 · rw [a2.ints] at e2;have m0:=(Xj _ (Xy qs)).1;have cB:c.natAbs < 2 ^ 4000:=n20_ (by rw [n50_]; exact Nat.le_mul_of_pos_left _ (by omega)) hc4;refine ⟨D,_,rfl,SqL.of e2,_,rfl,_,rfl,_,_,rfl,rfl,⟨up 1000000 B.lcm,up 1000000 cB⟩,_,_,rfl,Int.mul_ne_zero (by omega) hc0,hc4,fun p2 H3 s3 h3=>?_⟩;rw [Zqp hc0] at h3;exact q H3 _ (s1.trans (s2.trans s3)) ⟨p2,rfl,.inl h3⟩
abbrev Zcz:Stmt:=top 59
theorem Zkz (F:Fun K "put_at" "put_at" Zcz f fd) (Cf_:a3_ P w K mg base) (Cn_:a8_ P w K mg base):FnOk P w K mg base CX0 4 f fd ["place","line","found"] (Zi1 K):=by
 have sc:FnScope ["place","line","found","terms","bottom","others"] ["place","line","found"] (Ze Zcz):=fsc (by decide +kernel);refine F.ok sc (fun vs H Q E h=>by obtain ⟨pl,l,a,line,us,xs,rfl,_⟩:=h;rfl) fun cdv A outer s H vs Q E hr h=>?_;obtain ⟨pl,l,a,line,us,xs,rfl,hl,ha,al,PO,q⟩:=h;have nd:=sc.nd;refine' ⟨_,?term,?read⟩
 case term=>refine' @Zd _ _ _ _ _ ?g1 ?g2;(case g1=>refine' @X8 _ _ _ _ _ _ _ _ _ _ (["many","part"]) ([none,none]) _ _ ((gTup K 2 (Z8 (Z5 0) (Z8 (Z5 1) gNil)))) _ _ _ rfl rfl (Zs (i:=3) nd rfl (Or.inl rfl)) (Z3 (by decide) rfl (by decide) rfl rfl) ?g3 (fun _ _ _ _=>Yb (n:=2) rfl (Zj (pgB 0) (Zj (pgB 1) Zy))) (fun _ _ _ _=>Zfm (PW.pt (Zes (Z0 Ze1 (pv 0) Zg (Z4 _)) (Zdj (Z0 Ze1 (Yj (Zax K rfl) (pv 1) Zg (fun _ _=>rfl)) Zg (Z4 _)))))) (fun _ _ _ _=>Zn (Za (pv 0) (Za (pv 1) Zb rfl) rfl)) (by intro _ ; rfl);case g3=>refine' @Zim _ _ _ _ .l .l _ _ _ _ _ rfl T.b_zip ?g4 (by rfl) (by rfl);case g4=>refine' @Za _ _ _ _ _ ?g5 ?g6 rfl;(case g5=>refine' @Xd _ _ _ _ _ _ _ _ _ _ Zh0 (pv 1) (X5 (Zq Xu (pv 0) Zg)) X6);case g6=>refine' @Za _ _ _ _ _ ?g7 Zb rfl;case g7=>refine' @Xd _ _ _ _ _ _ _ _ _ _ Zh0 (pv 2) (X5 (Zq Xu (pv 0) Zg)) X6);case g2=>refine' @Zd _ _ _ _ _ ?g8 ?g9;(case g8=>refine' @Zr _ _ (4) _ _ _ _ nd rfl (Or.inr rfl) ?ga (by rfl) (by first | exact Or.inl rfl | exact Or.inr rfl | assumption);case ga=>refine' @Zl _ _ _ _ _ _ _ _ _ _ _ Cf_ hr (by decide) rfl ?gb (by decide) (by rfl) (by rfl);case gb=>refine' @Za _ _ _ _ _ ?gc Zb rfl;case gc=>refine' @Y5 _ _ _ _ _ _ _ (["many","part"]) ([none,none]) _ _ ((gTup K 2 (Z8 (Z5 0) (Z8 (Z5 1) gNil)))) _ _ rfl (Z3 (by decide) rfl (by decide) rfl rfl) (Yi (pv 3)) (fun _ _ _ _=>Yb (n:=2) rfl (Zj (pgB 0) (Zj (pgB 1) Zy))) (fun _ _ _ _=>Zp) (fun _ _ _ _=>Yj (Zax K rfl) (pv 1) Zg (fun _ _=>rfl)) (by intro _ ; rfl));case g9=>refine' @Zd _ _ _ _ _ ?gd ?ge;(case gd=>refine' @Zr _ _ (5) _ _ _ _ nd rfl (Or.inl rfl) ?gf (by rfl) (by first | exact Or.inl rfl | exact Or.inr rfl | assumption);case gf=>refine' @Zh _ _ _ _ _ _ _ _ _ (Zdo rfl) rfl T.b_sum Zl1 ?gg (by decide) (by decide) (by rfl) (by rfl);case gg=>refine' @Za _ _ _ _ _ ?gh Zb rfl;case gh=>refine' @Y5 _ _ _ _ _ _ _ (["many","part","bottom"]) ([none,none,some 4]) _ _ ((gTup K 2 (Z8 (Z5 0) (Z8 (Z5 1) gNil)))) _ _ rfl (Yc (XN:=["place","line","found","terms","bottom","others"]) (Scope.names (Ze Zcz)) rfl rfl rfl (fun _ h=>Z1 h) (by decide +kernel) rfl) (Yi (pv 3)) (fun _ _ _ _=>Yb (n:=2) rfl (Zj (pgB 0) (Zj (pgB 1) Zy))) (fun _ _ _ _=>Zp) (fun _ _ _ _=>Zq Yq (Zq Yq (pv 0) (Yj (Zax K rfl) (pv 1) Zg (fun _ _=>rfl))) (Zq Yo (pv 2) (Yj (Zax K rfl) (pv 1) Zg (fun _ _=>rfl)))) (by intro _ ; rfl));case ge=>refine' @Zi _ _ _ ?gi;case gi=>refine' @Zm _ _ _ _ ?gj;case gj=>refine' @Zl _ _ _ _ _ _ _ _ _ _ _ Cn_ hr (by decide) rfl ?gk (by decide) (by rfl) (by rfl);case gk=>refine' @Za _ _ _ _ _ ?gl ?gm rfl;(case gl=>refine' @Zq _ _ _ _ _ _ _ _ Zgm ?gn (pv 5);case gn=>refine' @Zq _ _ _ _ _ _ _ _ Yq (pv 4) ?go;case go=>refine' @Yj _ _ _ _ _ _ _ Z9 (pv 1) (Zgw Zct Zg) (fun _ _=>rfl));case gm=>refine' @Za _ _ _ _ _ ?gp Zb rfl;case gp=>refine' @Zq _ _ _ _ _ _ _ _ Yq (pv 4) ?gq;case gq=>refine' @Yj _ _ _ _ _ _ _ Z9 (pv 1) (pv 0) (fun _ _=>rfl)
 have lu:=al.1;have ll:=PO.len;have hpl:=PO.lt;have n2:=PO.n;refine ⟨_,rfl,_,rfl,_,_,rfl,rfl,_,rfl,l,_,rfl,SqL.of hl,fun l2 nl2=>?_⟩;rw [show ((pl:Int)+1)=((pl+1:Nat):Int) from rfl,Zb0];generalize gG:upd H l2 (.lst ((line.map V.int).drop (pl+1)))=H1;obtain ⟨s1,h2⟩:=gen_upd gG nl2;refine ⟨_,rfl,_,rfl,_,_,rfl,rfl,_,rfl,a,_,rfl,SqL.of (s1 _ _ ha),fun a2 na2=>?_⟩;rw [show ((pl:Int)+1)=((pl+1:Nat):Int) from rfl,Zb0];generalize gG:upd H1 a2 (.lst (us.drop (pl+1)))=H2;obtain ⟨s2,h3⟩:=gen_upd gG na2;have S2:=s1.trans s2;rw [← List.map_drop] at h2;have h2':=s2 _ _ h2;refine ⟨l2,a2,rfl,⟨_,SqL.of h2'⟩,⟨_,SqL.of h3⟩,fun D nD=>?_⟩;have aq:Al (IsQ K H2) us xs:=al.imp fun v x r=>hRQ _ _ _ _ S2.tk r;refine Zce (n:=((line.drop (pl+1)).zip (xs.drop (pl+1))).length) (IsTm K D) (fun H1 H2 v x k _ h=>h.keep H1 H2 v x k) (fun i=>(((line.drop (pl+1)).zip (xs.drop (pl+1)))[i]?).filter fun p=>p.1 != 0 && p.2.num != 0) (by simp; omega) (fun σ=>∃ a b,σ=[a,b]) ⟨_,_,rfl⟩ nD (fun i H3 s hi=>?_) (fun H3 s=>?_) (fun i x σ2 H3 H4 C N hi s3 eD y ok c n=>?_) (fun H3 ts s3 e3 a3=>?_)
 · rw [List.length_zip,n44_,n44_] at hi;exact ⟨_,_,_,_,SqL.of (s _ _ h2'),SqL.of (s _ _ h3),n0_ (by simp; omega),n0_ (by simp; omega)⟩
 · refine ⟨_,_,SqL.of (s _ _ h2'),SqL.of (s _ _ h3),?_⟩
   simp; omega
 · obtain ⟨a1,a2',rfl⟩:=ok;obtain ⟨wsD,eD⟩:=eD;obtain ⟨p,v,u,rfl,np,rfl,y1,y2⟩:=y;have ev:=y1 _ (SqL.of (s3 _ _ h2'));have eu:=y2 _ (SqL.of (s3 _ _ h3));rw [n3_] at ev;obtain ⟨m,em,rfl⟩:=n31_.mp ev;rw [List.getElem?_drop] at eu;obtain ⟨x,ex,f',rfl,hf⟩:=aq.get eu;have ex':(xs.drop (pl+1))[i]? = some x:=by rw [List.getElem?_drop]; exact ex
   have ez:((line.drop (pl+1)).zip (xs.drop (pl+1)))[i]? = some (m,x):=List.getElem?_zip_eq_some.mpr ⟨em,ex'⟩;rw [ez] at c n;have s4:Same H3 (upd H3 p (.tup [.int m,.ref f'])):=Same.new np;have hf4:=hf.same (s3.trans s4);refine ⟨p,_,rfl,SqT.of Zc,rfl,_,_,rfl,_,_,rfl,rfl,?_⟩;refine ⟨_,rfl,rfl,_,rfl,?_⟩
   by_cases m0:m=0
   · rw [n26_ (show V.int m=.int 0 by rw [m0])];refine iteF (iteF ?_);exact n _ _ ⟨_,_,rfl⟩ s4 (by simp [m0])
   · rw [n14_ (show ¬ V.int m=.int 0 from fun z=>m0 (V.int.inj z))];refine iteT ⟨_,rfl,f',_,0,_,rfl,rfl,hf4.sq,rfl,rfl,_,rfl,?_⟩
     by_cases x0:x.num=0
     · rw [n26_ (show V.int x.num=.int 0 by rw [x0])];refine iteF ?_;exact n _ _ ⟨_,_,rfl⟩ s4 (by simp [Rat.num_eq_zero.mp x0])
     · rw [n14_ (show ¬ V.int x.num=.int 0 from fun z=>x0 (V.int.inj z))];refine iteT ⟨_,rfl,_,rfl,z2_,fun p5 np5=>?_⟩;refine c _ _ _ (m,x) ⟨_,_,rfl⟩ (s4.trans (Same.new np5)) (by simp [m0,x0]) ⟨p5,f',rfl,?_,Zc,?_⟩
       · rintro rfl; rw [s4 _ _ eD] at np5; cases np5
       · exact hf.imp (fun z=>⟨fun z'=>(by rw [← z',s3 _ _ z] at eD; cases eD),Same.new np5 _ _ (s4 _ _ (s3 _ _ z))⟩) id
 · rw [Zl5 _ _ _ rfl] at a3;have tl:(trm pl line xs).length≤200:=n24_ (List.length_filter_le _ _) (by simp; omega);change Al (IsTm K D H3) ts (trm pl line xs) at a3;have lt3:=a3.1
   have mem:∀ p∈trm pl line xs,p.1∈line∧p.2∈xs:=fun p hp=>by
    have h:=List.mem_filter.mp hp;exact ⟨n48_ (List.of_mem_zip h.1).1,n48_ (List.of_mem_zip h.1).2⟩
   have prs:∀ (i:Nat) (w:V),ts[i]? = some w→∃ p x y,w=.ref p∧H3 p=some (.tup [x,y]):=fun i w e=>by
    obtain ⟨x,_,p,f',rfl,_,h,_⟩:=a3.get e;exact ⟨p,_,_,rfl,h⟩
   have pr:∀ {i:Nat} {p:Addr} {x y:V},ts[i]? = some (.ref p)→H3 p=some (.tup [x,y])→∃ t f',(trm pl line xs)[i]? = some t∧x=.int t.1∧y=.ref f'∧QT K H3 f' t.2:=fun e hp=>by
    obtain ⟨t,et,p',f',e1,_,h,hf⟩:=a3.get e;cases e1
    rw [hp] at h;cases h
    exact ⟨t,f',et,rfl,rfl,hf.imp (fun z=>z.2) id⟩
   refine ⟨_,rfl,D,rfl,⟨_,SqL.of e3⟩,fun E nE=>?_⟩;refine Zp8 (k:=.l) (vs:=ts) RI hRI (bots ((trm pl line xs).map Prod.snd)) (by simp [lt3]) (by omega) nE e3 prs (fun i p x y H4 C hw hp s4 c=>?_) (fun H4 us4 s4 e4 a4=>?_)
   · obtain ⟨t,f',et,rfl,rfl,hf⟩:=pr hw hp;exact ⟨_,rfl,f',_,1,_,rfl,rfl,(hf.same s4).sq,rfl,c _ _ _ (Same.refl _) (by rw [n3_,n3_,et]; rfl) rfl⟩
   · rw [a4.ints] at e4
     have bb:∀ x∈bots ((trm pl line xs).map Prod.snd),0 < x∧x.natAbs < 2 ^ 4000:=fun x hx=>by
      obtain ⟨q',hq,rfl⟩:=n29_.mp hx;obtain ⟨t,ht,rfl⟩:=n29_.mp hq;exact ⟨FM.den_pos _,PO.den _ (mem t ht).2⟩
     refine ⟨E,_,4000,rfl,e4,bb,n5_ _,by simp; omega,?_⟩;have szB:=PO.sz;have B0:=(Xj _ (Xy ((trm pl line xs).map Prod.snd))).1;have key:=Zot (pl:=pl) (line:=line) (xs:=xs) rfl PO.nz;generalize lcmL (bots ((trm pl line xs).map Prod.snd))=B at szB B0 key ⊢;have c4:(line.getD pl 0).natAbs < 2 ^ 4000:=n20_ (by rw [n50_]; exact Nat.le_mul_of_pos_left _ (by omega)) szB;have B4:B.natAbs < 2 ^ 4000:=n20_ (by rw [n50_]; exact Nat.le_mul_of_pos_right _ (Int.natAbs_pos.mpr PO.nz)) szB;refine ⟨_,rfl,D,rfl,⟨_,SqL.of (s4 _ _ e3)⟩,fun E2 nE2=>?_⟩;refine Zp8 (k:=.l) (vs:=ts) RI hRI ((trm pl line xs).map fun p=>p.1 * p.2.num * B.fdiv p.2.den) (by simp [lt3]) (by omega) nE2 (s4 _ _ e3) (fun i w e=>let ⟨p,x,y,e1,h1⟩:=prs i w e; ⟨p,x,y,e1,s4 _ _ h1⟩) (fun i p x y H5 C hw hp s5 c=>?_) (fun H5 us5 s5 e5 a5=>?_)
     · obtain ⟨p',x',y',e1,h1⟩:=prs _ _ hw;cases e1
       have h1':=s4 _ _ h1;rw [hp] at h1';cases h1'
       obtain ⟨t,f',et,rfl,rfl,hf⟩:=pr hw h1;have hf5:=hf.same (s4.trans s5);have ht:=mem t (n6_ et);have m1:=PO.bd _ ht.1;have m2:=PO.num _ ht.2;refine ⟨_,rfl,_,rfl,f',_,0,_,rfl,rfl,hf5.sq,rfl,_,_,rfl,rfl,⟨up 1000000 m1,up 1000000 m2⟩,_,rfl,_,rfl,f',_,1,_,rfl,rfl,hf5.sq,rfl,_,_,rfl,rfl,⟨FM.den_ne _,up 8999 (show (t.2.den:Int).natAbs < 2 ^ 4000 from PO.den _ ht.2)⟩,_,_,rfl,rfl,⟨up 1000000 (FM.natAbs_mul_lt m1 m2),up 1000000 (Xa (FM.den_pos _) B4)⟩,c _ _ _ (Same.refl _) (by rw [n3_,et]; rfl) rfl⟩
     · rw [a5.ints] at e5;refine ⟨E2,_,rfl,SqL.of e5,?_⟩;have hl5:=s5 _ _ (s4 _ _ (s3 _ _ (S2 _ _ hl)))
       have lastB:(line.getLastD 0).natAbs < 2 ^ 400000:=by
        have hne:line≠[]:=by intro z; rw [z] at ll; simp at ll
        rw [List.getLastD_eq_getLast?,List.getLast?_eq_some_getLast hne];exact PO.bd _ (List.getLast_mem hne)
       refine ⟨_,rfl,_,rfl,_,rfl,l,_,-1,_,rfl,rfl,SqL.of hl5,Zju (by intro z; rw [z] at ll; simp at ll),_,_,rfl,rfl,⟨up 1000000 B4,up 1000000 lastB⟩,_,rfl,_,_,rfl,rfl,_,rfl,_,rfl,_,rfl,l,_,pl,_,rfl,rfl,SqL.of hl5,getI (by omega),_,_,rfl,rfl,⟨up 1000000 B4,up 1000000 c4⟩,_,_,rfl,Int.mul_ne_zero (by omega) PO.nz,szB,fun p6 H6 s6 h6=>?_⟩;rw [key] at h6;exact q H6 _ (S2.trans (s3.trans (s4.trans (s5.trans s6)))) ⟨p6,rfl,.inl h6⟩
abbrev Zau:Stmt:=top 62
theorem Zff (F:Fun K "factors_of" "factors_of" Zau f fd) (Cc_:a1_ P w K mg base):FnOk P w K mg base CX0 3 f fd ["bottoms"] Ze0:=by
 have sc:FnScope ["bottoms","many","found","bottom","factor"] ["bottoms"] (Ze Zau):=fsc (by decide +kernel);refine F.ok sc (fun vs H Q E h=>by obtain ⟨l,ds,rfl,_⟩:=h;rfl) fun cdv A outer s H vs Q E hr h=>?_;obtain ⟨l,ds,rfl,hl,hd,h2,q⟩:=h;have nd:=sc.nd;refine' ⟨_,?term,?read⟩
 case term=>refine' @Zd _ _ _ _ _ ?g1 ?g2;(case g1=>refine' @Zr _ _ (1) _ _ _ _ nd rfl (Or.inl rfl) Zg (by rfl) (by first | exact Or.inl rfl | exact Or.inr rfl | assumption));case g2=>refine' @Zd _ _ _ _ _ ?g3 ?g4;(case g3=>refine' @Zr _ _ (2) _ _ _ _ nd rfl (Or.inl rfl) ?g5 (by rfl) (by first | exact Or.inl rfl | exact Or.inr rfl | assumption);case g5=>refine' @Yd _ _ _ _ Zb);case g4=>refine' @Zd _ _ _ _ _ ?g6 (Zi (Zm (pv 2)));case g6=>refine' @Zai _ _ _ _ _ _ _ _ PassesOwn.never rfl (Yi (pv 0)) (Zs (i:=3) nd rfl (Or.inl rfl)) ?g7 (by intro _ ; rfl);case g7=>refine' @Zd _ _ _ _ _ ?g8 ?g9;(case g8=>refine' @Zr _ _ (4) _ _ _ _ nd rfl (Or.inl rfl) (Zq Yo (pv 3) (Zl Cc_ hr (by decide) rfl (Za (pv 1) (Za (pv 3) Zb rfl) rfl))) (by rfl) (by first | exact Or.inl rfl | exact Or.inr rfl | assumption));case g9=>refine' @Zi _ _ _ ?ga;case ga=>refine' @Y3 _ _ _ _ _ _ _ _ (Z0 Zeb (pv 4) Zg (Z4 _)) ?gb Z2;case gb=>refine' @Zd _ _ _ _ _ ?gc ?gd;(case gc=>refine' @Zmh _ _ (1) _ _ _ _ _ _ nd rfl (Or.inl rfl) (pv 4) Zi3 (by first | exact Or.inl rfl | exact Or.inr rfl | assumption));case gd=>refine' @Zi _ _ _ ?ge;case ge=>refine' @Yx _ _ _ _ ?gf (by rfl);case gf=>refine' @Zbb _ _ _ _ _ _ _ _ _ _ _ _ PySem.F.plainAttrs_list PySem.F.slot_list_append PySem.F.type_list_append Ym (pv 2) (Za (pv 4) Zb rfl) (by rfl) (by rfl) (by rfl) (by rfl) (by rfl)
 refine ⟨z0_,fun fa nfa=>?_⟩;generalize gG:upd H fa (.lst [])=H0;obtain ⟨s0,hfa⟩:=gen_upd gG nfa;refine ⟨_,rfl,l,rfl,⟨_,SqL.of (s0 _ _ hl)⟩,?_⟩;have nl:l≠fa:=Zk hl nfa;refine Zab (n:=ds.length) (fun i σ H2=>Keep fa H0 H2∧H2 fa=some (.lst ((fct (ds.take i)).2.map V.int))∧(fct (ds.take i)).2.length≤i∧∃ (x y:Option V),σ=[some (.ref l),some (.int (fct (ds.take i)).1),some (.ref fa),x,y]) ⟨Keep.refl _ _,hfa,n5_ _,none,none,rfl⟩ (fun i σ H2 hi p=>⟨_,V.int ds[i],SqL.of (p.1 _ _ nl (s0 _ _ hl)),by simp [hi]⟩) (fun σ H2 p=>⟨_,SqL.of (p.1 _ _ nl (s0 _ _ hl)),by simp⟩) (fun i x σ H2 H3 hi y p=>?_) (fun σ H2 p=>?_)
 · obtain ⟨kf,hf,lf,x',y',rfl⟩:=p;obtain ⟨rfl,y2⟩:=y;have ex:=y2 _ (SqL.of (kf _ _ nl (s0 _ _ hl)));rw [n3_,n0_ hi] at ex;cases ex
   obtain ⟨b0,b4⟩:=hd ds[i] (n41_ hi);have fo:=Znu (ds.take i) fun x hx=>(hd x (n46_ hx)).1;have m0:=(Xj (ds.take i) fun x hx=>(hd x (n46_ hx)).1).1;have mB:=Zdn (k:=4000) (ds.take i) fun x hx=>hd x (n46_ hx);have li:(ds.take i).length≤200:=by rw [n68_]; omega
   have st:fct (ds.take (i+1))=if 1 < ds[i].fdiv (Int.gcd (fct (ds.take i)).1 ds[i]:Int) then ((fct (ds.take i)).1 * ds[i].fdiv (Int.gcd (fct (ds.take i)).1 ds[i]:Int),(fct (ds.take i)).2++[ds[i].fdiv (Int.gcd (fct (ds.take i)).1 ds[i]:Int)]) else fct (ds.take i):=by
    rw [n32_ hi]; unfold fct; rw [n63_]; rfl
   rw [fo.1] at st;rw [fo.1];generalize lcmL (ds.take i)=m at *;have hg:=FM.gcd_ne (t:=m) (b:=ds[i]) (by omega);have gz:(Int.gcd m ds[i]) < 2 ^ 4000:=n20_ (Nat.gcd_le_right _ (by omega)) b4;refine ⟨_,rfl,_,rfl,_,rfl,m,ds[i],rfl,b4,_,_,rfl,rfl,⟨hg,up 8999 gz⟩,?_⟩;have jB:(ds[i].fdiv (Int.gcd m ds[i]:Int)).natAbs < 2 ^ 4000:=Xa (by omega) b4;refine ⟨_,rfl,_,_,rfl,rfl,_,rfl,?_⟩;refine ite2 (fun h1=>?_) (fun h1=>?_)
   · rw [if_pos (n27_ h1)] at st;refine ⟨_,rfl,_,rfl,_,_,rfl,rfl,⟨up 1000000 mB (by omega),up 1000000 jB⟩,?_⟩;refine ⟨_,rfl,.inl ⟨rfl,_,SqL.of hf⟩,_,rfl,fa,_,_,rfl,rfl,hf,by rw [n4_,sizeLine_eq]; omega,?_⟩;refine ⟨fun b o n e=>by rw [Zo n]; exact kf b o n e,?_,?_,some (.int ds[i]),some (.int (ds[i].fdiv (Int.gcd m ds[i]:Int))),?_⟩
     · rw [st,List.map_append]; exact Zc
     · rw [st,n17_]; exact Nat.succ_le_succ lf
     · rw [st]; rfl
   · have st':fct (ds.take (i+1))=fct (ds.take i):=by rw [st,if_neg fun z=>h1 (n26_ z)]
     refine ⟨kf,by rw [st']; exact hf,by rw [st']; omega,some (.int ds[i]),some (.int (ds[i].fdiv (Int.gcd m ds[i]:Int))),?_⟩;rw [st',fo.1]; rfl
 · obtain ⟨kf,hf,lf,x',y',rfl⟩:=p;rw [n59_] at hf;exact ⟨_,rfl,q H2 fa (fun b o e=>kf _ _ (Zk e nfa) (s0 _ _ e)) hf⟩
abbrev Zdk:Stmt:=top 63
theorem Zjr (F:Fun K "lowered" "lowered" Zdk f fd) (Cc_:a1_ P w K mg base):FnOk P w K mg base CX0 3 f fd ["part","factors"] (Zet K):=by
 have sc:FnScope ["part","factors","top","bottom","factor","common"] ["part","factors"] (Ze Zdk):=fsc (by decide +kernel);refine F.ok sc (fun vs H Q E h=>by obtain ⟨v,q,l,fs,rfl,_⟩:=h;rfl) fun cdv A outer s H vs Q E hr h=>?_;obtain ⟨v,x,l,fs,rfl,hv,hl,hf,h2,hn,hdn,q⟩:=h;have nd:=sc.nd;refine' ⟨_,?term,?read⟩
 case term=>refine' @Zd _ _ _ _ _ ?g1 ?g2;(case g1=>refine' @Zam _ _ _ _ _ _ (pv 0) ?g3 (by rfl) (by rfl) (by rfl);case g3=>refine' @Yb _ _ _ _ _ (2) rfl (Zj (Zs (i:=2) nd rfl (Or.inl rfl)) (Zj (Zs (i:=3) nd rfl (Or.inl rfl)) Zy)) (by rfl) (by rfl));case g2=>refine' @Zd _ _ _ _ _ ?g4 (Zi (Zm (Zn (Za (pv 2) (Za (pv 3) Zb rfl) rfl))));case g4=>refine' @Zai _ _ _ _ _ _ _ _ PassesOwn.never rfl (Yi (pv 1)) (Zs (i:=4) nd rfl (Or.inl rfl)) ?g5 (by intro _ ; rfl);case g5=>refine' @Zd _ _ _ _ _ ?g6 ?g7;(case g6=>refine' @Zr _ _ (5) _ _ _ _ nd rfl (Or.inl rfl) (Zl Cc_ hr (by decide) rfl (Za (pv 2) (Za (pv 4) Zb rfl) rfl)) (by rfl) (by first | exact Or.inl rfl | exact Or.inr rfl | assumption));case g7=>refine' @Zd _ _ _ _ _ ?g8 ?g9;(case g8=>refine' @Zmh _ _ (2) _ _ _ _ _ _ nd rfl (Or.inl rfl) (pv 5) Zly (by first | exact Or.inl rfl | exact Or.inr rfl | assumption));case g9=>refine' @Zi _ _ _ ?ga;case ga=>refine' @Zmh _ _ (3) _ _ _ _ _ _ nd rfl (Or.inl rfl) (Zq Yo (pv 4) (pv 5)) Zi3 (by first | exact Or.inl rfl | exact Or.inr rfl | assumption)
 obtain ⟨p,rfl,hp⟩:=hv;refine ⟨_,rfl,p,_,rfl,hp.sq,rfl,_,_,rfl,_,_,rfl,rfl,?_⟩;refine ⟨_,rfl,l,rfl,⟨_,SqL.of hl⟩,?_⟩;refine Zab (n:=fs.length) (fun i σ H2=>H2=H∧∃ (z:Rat) (a b:Option V),z=x / (Zcl (fs.take i):Rat)∧z.num.natAbs < 2 ^ 200000∧z.den < 2 ^ (4000 * (i+1))∧σ=[some (.ref p),some (.ref l),some (.int z.num),some (.int z.den),a,b]) ⟨rfl,x,none,none,?_,hn,by simpa using hdn,rfl⟩ (fun i σ H2 hi p=>⟨_,V.int fs[i],SqL.of (p.1 ▸ hl),by simp [hi]⟩) (fun σ H2 p=>⟨_,SqL.of (p.1 ▸ hl),by simp⟩) (fun i y σ H2 H3 hi yl p=>?_) (fun σ H2 p=>?_)
 · rw [List.take_zero];show x=x / ((1:Int):Rat)
   have:((1:Int):Rat)=1:=rfl
   rw [this]; grind
 · obtain ⟨rfl,z,a',b',ez,zn,zd,rfl⟩:=p;obtain ⟨rfl,y2⟩:=yl;have ex:=y2 _ (SqL.of hl);rw [n3_,n0_ hi] at ex;cases ex
   obtain ⟨f0,f4⟩:=hf fs[i] (n41_ hi);have ls:=Zm5 (q:=z) f0;have hg:=FM.gcd_ne (t:=z.num) (b:=fs[i]) (by omega);have gz:(Int.gcd z.num fs[i]) < 2 ^ 4000:=n20_ (Nat.gcd_le_right _ (by omega)) f4;have gp:(0:Int) < (Int.gcd z.num fs[i]:Int):=by omega
   have jB:(fs[i].fdiv (Int.gcd z.num fs[i]:Int)).natAbs < 2 ^ 4000:=Xa gp f4;have hi2:4000 * (i+1)≤800000:=by omega
   refine ⟨_,rfl,_,rfl,z.num,fs[i],rfl,f4,?_⟩;refine ⟨_,rfl,_,rfl,_,_,rfl,rfl,⟨hg,up 8999 gz⟩,?_⟩;refine ⟨_,rfl,_,rfl,_,rfl,_,_,rfl,rfl,⟨hg,up 8999 gz⟩,_,_,rfl,rfl,⟨up 1000000 (show (z.den:Int).natAbs < 2 ^ (4000 * (i+1)) from zd) (by omega),up 1000000 jB⟩,?_⟩;refine ⟨rfl,z / (fs[i]:Rat),some (.int fs[i]),some (.int (Int.gcd z.num fs[i])),?_,?_,?_,by rw [ls.1,ls.2]; rfl⟩
   · rw [n32_ hi,Zm4 (fun y hy=>?_),ez]
     rcases n34_.mp hy with h | h
     · exact (hf y (n46_ h)).1
     · rw [n8_.mp h]; exact f0
   · rw [ls.1]; exact Xa gp zn
   · have:=FM.natAbs_mul_lt (show (z.den:Int).natAbs < 2 ^ (4000 * (i+1)) from zd) jB
     rw [← ls.2] at this;exact n9_ (show _ < _ from this) (n39_ (by decide) (by omega))
 · obtain ⟨rfl,z,a',b',ez,zn,zd,rfl⟩:=p;rw [n59_] at ez;refine ⟨_,rfl,_,rfl,z2_,fun p2 np2=>?_⟩;exact q _ _ (Same.new np2) ⟨p2,rfl,.inl (by rw [← ez]; exact Zc)⟩
abbrev Zf6:Stmt:=top 60
theorem Zl4 (F:Fun K "filled" "filled" Zf6 f fd) (Cao_:a9_ P w K mg base):FnOk P w K mg base CX0 5 f fd ["steps","found"] (Zgs K):=by
 have sc:FnScope ["steps","found","told","place","line"] ["steps","found"] (Ze Zf6):=fsc (by decide +kernel);refine F.ok sc (fun vs H Q E h=>by obtain ⟨s,a,ss,us,steps,xs,rfl,_⟩:=h;rfl) fun cdv A outer s H vs Q E hr h=>?_;obtain ⟨s',a,ss,us,steps,xs,rfl,hs,als,ha,al,FO,q⟩:=h;have nd:=sc.nd;refine' ⟨_,?term,?read⟩
 case term=>refine' @Zd _ _ _ _ _ ?g1 ?g2;(case g1=>refine' @Zr _ _ (2) _ _ _ _ nd rfl (Or.inl rfl) (Yz Za4 rfl T.b_list Zdy (Za (pv 1) Zb rfl)) (by rfl) (by first | exact Or.inl rfl | exact Or.inr rfl | assumption));case g2=>refine' @Zd _ _ _ _ _ ?g3 (Zi (Zm (pv 2)));case g3=>refine' @Zai _ _ _ _ _ _ _ _ PassesOwn.never rfl (Zqe rfl T.b_reversed Zia (Za (pv 0) Zb rfl)) ?g4 ?g5 (by intro _ ; rfl);(case g4=>refine' @Yb _ _ _ _ _ (2) rfl (Zj (Zs (i:=3) nd rfl (Or.inl rfl)) (Zj (Zs (i:=4) nd rfl (Or.inl rfl)) Zy)) (by rfl) (by rfl));case g5=>refine' @Zi _ _ _ ?g6;case g6=>refine' @Zam _ _ _ _ _ _ (Zl Cao_ hr (by decide) rfl (Za (pv 3) (Za (pv 4) (Za (pv 2) Zb rfl) rfl) rfl)) ?g7 (by rfl) (by rfl) (by rfl);case g7=>refine' @Zin _ _ _ _ _ _ _ (pv 2) (pv 3) Zc0 (by intro _ ; rfl)
 refine ⟨_,rfl,a,us,rfl,.inl (SqL.of ha),fun t nt _=>?_⟩;generalize gG:upd H t (.lst us)=H0;obtain ⟨s0,ht⟩:=gen_upd gG nt;have lss:=als.1;have nst:s'≠t:=Zk hs nt;refine ⟨_,rfl,s',ss,rfl,SqL.of (s0 _ _ hs),?_⟩;refine Zab (n:=ss.length) (fun i σ H2=>Keep t H0 H2∧∃ (ts:List V) (x y:Option V),H2 t=some (.lst ts)∧Al (IsQ K H2) ts (fil (steps.drop (ss.length - i)) xs)∧σ=[some (.ref s'),some (.ref a),some (.ref t),x,y]) ⟨Keep.refl _ _,us,none,none,ht,?_,rfl⟩ (fun i σ H2 hi p=>⟨ss,ss[ss.length - 1 - i],SqL.of (p.1 _ _ nst (s0 _ _ hs)),hi,n0_ (by omega)⟩) (fun σ H2 p=>rfl) (fun i y σ H2 H3 hi yl p=>?_) (fun σ H2 p=>?_)
 · rw [Nat.sub_zero,List.drop_of_length_le (by omega)];exact al.imp fun v x r=>hRQ _ _ _ _ s0.tk r
 · obtain ⟨kt,ts,x,y',ht2,alt,rfl⟩:=p;obtain ⟨rfl,y2⟩:=yl;have ey:=y2 _ (SqL.of (kt _ _ nst (s0 _ _ hs)));have hk:ss.length - 1 - i < steps.length:=by omega
   obtain ⟨stp,es,pp,l,rfl,hpp,hl⟩:=als.get ey;have npt:pp≠t:=Zk hpp nt;have nlt:l≠t:=Zk hl nt;have eg:steps.getD (ss.length - 1 - i) (0,[])=stp:=Zic es;have PO:=FO.ok _ hk;rw [eg,show ss.length - 1 - i+1=ss.length - i by omega] at PO;refine ⟨pp,_,rfl,SqT.of (kt _ _ npt (s0 _ _ hpp)),rfl,_,_,rfl,_,_,rfl,rfl,?_⟩;refine ⟨_,rfl,_,rfl,_,rfl,stp.1,l,t,stp.2,ts,_,rfl,kt _ _ nlt (s0 _ _ hl),ht2,alt,PO,fun H4 v s4 hv=>?_⟩;have lt':=alt.1;have PL:=PO.lt;refine ⟨_,rfl,_,rfl,t,ts,(stp.1:Int),stp.1,rfl,rfl,s4 _ _ ht2,by unfold ixN; rw [if_pos (by omega),if_pos (by omega),n60_],?_⟩;refine ⟨fun b o n e=>by rw [Zo n]; exact s4 _ _ (kt b o n e),ts.set stp.1 v,_,_,Zc,?_,rfl⟩
   have dr:steps.drop (ss.length - (i+1))=stp :: steps.drop (ss.length - i):=by
    have h1:=List.drop_eq_getElem_cons hk;rw [show ss.length - 1 - i+1=ss.length - i by omega] at h1;rw [show ss.length - (i+1)=ss.length - 1 - i by omega,h1]
    congr 1
    exact Option.some.inj ((n0_ hk).symm.trans es)
   rw [dr];show Al _ _ ((fil (steps.drop (ss.length - i)) xs).set stp.1 (putQ stp.1 stp.2 (fil (steps.drop (ss.length - i)) xs)))
   have tk5:Tk H4 (upd H4 t (.lst (ts.set stp.1 v))):=Tk.upd_lst (s4 _ _ ht2);refine ⟨by rw [List.length_set,List.length_set]; exact lt',fun j w' x' e1 e2=>?_⟩;rw [List.getElem?_set] at e1 e2
   by_cases hj:stp.1=j
   · rw [if_pos hj] at e1 e2;rw [if_pos (by omega)] at e1 e2;cases e1; cases e2
     exact hRQ _ _ _ _ tk5 hv
   · rw [if_neg hj] at e1 e2;exact hRQ _ _ _ _ tk5 (hRQ _ _ _ _ s4.tk (alt.2 j w' x' e1 e2))
 · obtain ⟨kt,ts,x,y',ht2,alt,rfl⟩:=p;rw [Nat.sub_self,List.drop_zero] at alt;exact ⟨_,rfl,q H2 t ts (fun b o e=>kt _ _ (Zk e nt) (s0 _ _ e)) ht2 alt⟩
abbrev Zbm:Stmt:=top 49
theorem Zgg (F:Fun K "places_of" "places_of" Zbm f fd):FnOk P w K mg base CX0 1 f fd ["rows"] (Zgu K):=by
 have sc:FnScope ["rows"] ["rows"] (Ze Zbm):=fsc (by decide +kernel);refine F.ok sc (fun vs H Q E h=>by obtain ⟨a,k,us,rows,rfl,_⟩:=h;rfl) fun cdv A outer s H vs Q E hr h=>?_;obtain ⟨a,k,us,rows,rfl,ha,al,q⟩:=h;refine' ⟨_,?term,?read⟩
 case term=>refine' @Zi _ _ _ ?g1;case g1=>refine' @Zm _ _ _ _ ?g2;case g2=>refine' @Zbq _ _ _ _ _ _ _ _ ?g3 ?g4 Zg;(case g3=>refine' @Zx _ _ _ (pv 0) (fun _=>rfl));case g4=>refine' @Zh _ _ _ _ _ _ _ _ _ Zv rfl T.b_len Xh ?g5 (by decide) (by decide) (by rfl) (by rfl);case g5=>refine' @Za _ _ _ _ _ ?g6 Zb rfl;case g6=>refine' @Yj _ _ _ _ _ _ _ (Zl7 K rfl) (pv 0) Zg (fun _ _=>rfl)
 have lu:=al.1
 have tr:TruV K (.ref a) H (!us.isEmpty):=by
  cases k with
  | l=>exact .inl ⟨us,SqL.of ha,rfl⟩
  | t=>exact .inr (.inl ⟨us,SqT.of ha,rfl⟩)
 refine ⟨_,rfl,_,tr,?_⟩;cases us with
 | nil =>
   obtain rfl:rows=[]:=List.length_eq_zero_iff.mp lu.symm;exact iteF q
 | cons u us =>
   cases rows with
   | nil=>simp at lu
   | cons r rows =>
     obtain ⟨p,ps,rfl,hp,alp⟩:=al.2 0 u r rfl rfl;refine iteT ⟨_,rfl,a,_,0,_,k,rfl,rfl,ha.sq,Xz (show (V.ref p :: us)[0]? = some (.ref p) from rfl),p,_,rfl,.inr (SqT.of hp),?_⟩;rw [alp.1];exact q
abbrev Zbo:Stmt:=top 61
theorem Zg5 (F:Fun K "rights_to" "rights_to" Zbo f fd) (Car_:a10_ P w K mg base) (Ck_:a4_ P w K mg base):FnOk P w K mg base CX0 6 f fd ["rows","rights"] (Zdi K):=by
 have sc:FnScope ["rows","rights","scales"] ["rows","rights"] (Ze Zbo):=fsc (by decide +kernel);refine F.ok sc (fun vs H Q E h=>by obtain ⟨a,g,k,kg,us,gs,rows,rights,b,rfl,_⟩:=h;rfl) fun cdv A outer s H vs Q E hr h=>?_;obtain ⟨a,g,k,kg,us,gs,rows,rights,b,rfl,ha,al,hg,alg,RB,q⟩:=h;have nd:=sc.nd;refine' ⟨_,?term,?read⟩
 case term=>refine' @Zd _ _ _ _ _ ?g1 ?g2;(case g1=>refine' @X8 _ _ _ _ _ _ _ _ _ _ (["row"]) ([none]) _ _ _ _ _ _ rfl rfl (Zs (i:=2) nd rfl (Or.inl rfl)) (Z3 (by decide) rfl (by decide) rfl rfl) (Zaw K rfl (pv 0)) (fun _ _ _ _=>pgB 0) (fun _ _ _ _=>Zp) (fun _ _ _ _=>Zl Ck_ hr (by decide) rfl (Za (pv 0) Zb rfl)) (by intro _ ; rfl));case g2=>refine' @Zi _ _ _ ?g3;case g3=>refine' @Zm _ _ _ _ ?g4;case g4=>refine' @Y5 _ _ _ _ _ _ _ (["right","many","common"]) ([none,none,none]) _ _ ((gTup K 2 (Z8 (gTup K 2 (Z8 (Z5 1) (Z8 (Z5 2) gNil))) (Z8 (Z5 0) gNil)))) _ _ rfl (Z3 (by decide) rfl (by decide) rfl rfl) (Zmf rfl T.b_zip (Za (pv 2) (Za (pv 1) Zb rfl) rfl)) (fun _ _ _ _=>Yb (n:=2) rfl (Zj (Yb (n:=2) rfl (Zj (pgB 1) (Zj (pgB 2) Zy))) (Zj (pgB 0) Zy))) (fun _ _ _ _=>Zp) (fun _ _ _ _=>Zl Car_ hr (by decide) rfl (Za (Zn (Za (pv 1) Zb rfl)) (Za (Zn (Za (pv 0) Zb rfl)) (Za (pv 2) Zb rfl) rfl) rfl)) (by intro _ ; rfl)
 have lu:=al.1;have lg:=alg.1;have rl:=RB.rl;have n2:=RB.n;refine ⟨_,rfl,a,k,rfl,⟨_,ha.sq⟩,fun D nD=>?_⟩;refine lc_T (k:=k) (vs:=us) (IsSc K) IsSc.tk (rows.map scl) (by simp [lu]) (by omega) nD ha (fun i w H2 C hw s2 c=>?_) (fun H2 ss s2 e2 a2=>?_)
 · obtain ⟨row,er,p,ps,rfl,hp,alp⟩:=al.get hw;exact ⟨_,rfl,p,.t,ps,row,b,rfl,s2 _ _ hp,alp.imp fun v x r=>hRQ _ _ _ _ s2.tk r,RB.rb row (n6_ er),fun H5 v s5 h5=>c _ _ _ s5 (by rw [n3_,er]; rfl) h5⟩
 have lss:=a2.1;rw [n4_] at lss;refine ⟨_,rfl,_,rfl,D,g,.l,kg,rfl,⟨_,SqL.of e2⟩,⟨_,(hg.same s2).sq⟩,fun E nE=>?_⟩;refine Zce (n:=rows.length) (IsQ K) (fun H1 H2 v x k e r=>hRQ _ _ _ _ (Zfo k e) r) (fun i=>(rtv rows rights)[i]?) (by omega) (fun σ=>∃ a b c,σ=[a,b,c]) ⟨_,_,_,rfl⟩ nE (fun i H3 s hi=>⟨ss,gs,ss[i],gs[i],SqL.of (s _ _ e2),((hg.same s2).same s).sq,n0_ (by omega),n0_ (by omega)⟩) (fun H3 s=>⟨ss,gs,SqL.of (s _ _ e2),((hg.same s2).same s).sq,by omega⟩) (fun i x σ2 H3 H4 C N hi s3 eD y ok c n=>?_) (fun H3 es s3 e3 a3=>?_)
 · obtain ⟨a1,a2',a3,rfl⟩:=ok;obtain ⟨p,v,u,rfl,np,rfl,y1,y2⟩:=y;have ev:=y1 ss (SqL.of (s3 _ _ e2));have eu:=y2 gs ((hg.same s2).same s3).sq;obtain ⟨sc,es,p1,rfl,h1⟩:=a2.get ev;rw [n3_] at es;obtain ⟨row,er,rfl⟩:=n31_.mp es;obtain ⟨r,eg,f',rfl,hf⟩:=alg.get eu;have s4:Same H3 (upd H3 p (.tup [.ref p1,.ref f'])):=Same.new np;have S4:=s2.trans (s3.trans s4);have h1':SqT K (upd H3 p (.tup [.ref p1,.ref f'])) p1 [.int (scl row).1,.int (scl row).2]:=h1.elim (fun z=>SqT.of (s4 _ _ (s3 _ _ z))) KTu.sq;obtain ⟨m1,m2,m3⟩:=RB.mx (n6_ er) (n6_ eg);refine ⟨p,_,rfl,SqT.of Zc,rfl,_,_,rfl,p1,_,rfl,h1',rfl,_,_,rfl,_,_,rfl,rfl,_,_,rfl,rfl,?_⟩;refine Za0 ?_;refine ⟨_,rfl,z1_,fun p5 np5=>?_⟩;have s5:Same _ (upd (upd H3 p (.tup [.ref p1,.ref f'])) p5 (.tup [.int (scl row).1])):=Same.new np5;have h5:upd (upd H3 p (.tup [.ref p1,.ref f'])) p5 (.tup [.int (scl row).1]) p5=some (.tup [.int (scl row).1]):=Zc;generalize upd (upd H3 p (.tup [.ref p1,.ref f'])) p5 (.tup [.int (scl row).1])=H5 at s5 h5 ⊢;refine ⟨_,rfl,z1_,fun p6 np6=>?_⟩;generalize gG:upd H5 p6 (.tup [.ref f'])=H6;obtain ⟨s6,h6⟩:=gen_upd gG np6;have S6:=S4.trans (s5.trans s6);refine ⟨_,rfl,p5,.t,[(scl row).1],p6,.t,[.ref f'],[r],b,(scl row).2,rfl,s6 _ _ h5,fun z hz=>?_,h6,?_,m1,m2,m3,fun H7 v s7 h7=>?_⟩
   · rw [n8_.mp hz];exact up _ (Zem (RB.rb row (n6_ er))).2.1
   · refine ⟨rfl,fun j v' x' e1 e2=>?_⟩;cases j with
     | zero=>cases e1; cases e2; exact ⟨f',rfl,hf.imp (fun z=>S6 _ _ z) id⟩
     | succ j=>simp at e1
   · exact c _ _ _ _ ⟨_,_,_,rfl⟩ (s4.trans (s5.trans (s6.trans s7))) (by unfold rtv; rw [n52_,er,eg]) h7
 · rw [Yl _ _ (by unfold rtv; rw [n62_]; omega)] at a3;exact q H3 E es (s2.trans s3) (Zhl s2 nE) e3 a3
abbrev Xx:Stmt:=top 64
theorem Zfu (F:Fun K "settled_by" "settled_by" Xx f fd) (N0:Zhf K mg "NOUGHT" 0 1) (Cap_:a11_ P w K mg base):FnOk P w K mg base CX0 6 f fd ["steps","places","at"] (Zcp K):=by
 have sc:FnScope ["steps","places","at","lines"] ["steps","places","at"] (Ze Xx):=fsc (by decide +kernel);refine F.ok sc (fun vs H Q E h=>by obtain ⟨s,ss,steps,n,rfl,_⟩:=h;rfl) fun cdv A outer s H vs Q E hr h=>?_;obtain ⟨s',ss,steps,n,rfl,hs,als,h1k,n1k,hlen,FO,q⟩:=h;have nd:=sc.nd;obtain ⟨n_,hng,hnk⟩:=N0;refine' ⟨_,?term,?read⟩
 case term=>refine' @Zd _ _ _ _ _ ?g1 ?g2;(case g1=>refine' @X8 _ _ _ _ _ _ _ _ _ _ (["place","line","places","at"]) ([none,none,some 1,some 2]) _ _ ((gTup K 2 (Z8 (Z5 0) (Z8 (Z5 1) gNil)))) _ _ _ rfl rfl (Zs (i:=3) nd rfl (Or.inl rfl)) (Yc (XN:=["steps","places","at","lines"]) (Scope.names (Ze Xx)) rfl rfl rfl (fun _ h=>Z1 h) (by decide +kernel) rfl) (Yi (pv 0)) (fun _ _ _ _=>Yb (n:=2) rfl (Zj (pgB 0) (Zj (pgB 1) Zy))) (fun _ _ _ _=>Zp) (fun _ _ _ _=>Zn (Za (pv 0) (Za (Zq Xi (Xd (Zm2 K rfl) (pv 1) X6 (X5 (pv 2))) (Yd (Za (Yj (Zc4 K rfl) (pv 1) (Zq Xu (pv 2) (pv 3)) (fun _ _=>rfl)) Zb rfl))) Zb rfl) rfl)) (by intro _ ; rfl));case g2=>refine' @Zi _ _ _ ?g3;case g3=>refine' @Zm _ _ _ _ ?g4;case g4=>refine' @Zl _ _ _ _ _ _ _ _ _ _ _ Cap_ hr (by decide) rfl ?g5 (by decide) (by rfl) (by rfl);case g5=>refine' @Za _ _ _ _ _ (pv 3) ?g6 rfl;case g6=>refine' @Za _ _ _ _ _ ?g7 Zb rfl;case g7=>refine' @Zq _ _ _ _ _ _ _ _ Znx ?g8 (pv 1);case g8=>refine' @Yd _ _ _ _ ?g9;case g9=>refine' @Za _ _ _ _ _ ?ga Zb rfl;case ga=>refine' @Zz _ _ _ _ _ rfl hng (show RelV (.ref n_) (Value.ref n_) from rfl) (by decide)
 have lss:=als.1;refine ⟨_,rfl,s',rfl,⟨_,SqL.of hs⟩,fun D nD=>?_⟩;refine Zce (n:=ss.length) (IsLnN fun b=>b=D) (fun H1 H2 v x k _ h=>h.keep fun b o n e=>k b o n e) (fun i=>(steps.map stI)[i]?) (by omega) (fun σ=>∃ a b,σ=[a,b,some (.int n),some (.int 0)]) ⟨_,_,rfl⟩ nD (fun j H2 s hj=>Zbd (k:=.l) (show SK.l.At H2 s' _ from s _ _ hs) hj) (fun H2 s=>Xe (k:=.l) (show SK.l.At H2 s' _ from s _ _ hs) (n5_ _)) (fun j x σ2 H2 H3 C N hj s2 eD y ok c n'=>?_) (fun H2 ts s2 e2 a2=>?_)
 · obtain ⟨a1,a2,rfl⟩:=ok;obtain ⟨wsD,eD⟩:=eD;obtain ⟨rfl,ex⟩:=X0 (k:=.l) (show SK.l.At H2 s' _ from s2 _ _ hs) y;obtain ⟨st,est,p,l,rfl,hp,hl⟩:=als.get ex;have ll:=hlen st (n6_ est);change H l=some (.lst (st.2.map V.int)) at hl;have hl2:=s2 _ _ hl;refine ⟨p,_,rfl,SqT.of (s2 _ _ hp),rfl,_,_,rfl,_,_,rfl,rfl,?_⟩;refine Za0 ?_;refine ⟨_,rfl,_,rfl,_,rfl,_,rfl,l,_,rfl,SqL.of hl2,fun l4 nl4=>?_⟩;rw [Zjl];generalize gG:upd H3 l4 (.lst ((st.2.map V.int).take n))=H4;obtain ⟨s4,h4⟩:=gen_upd gG nl4;refine ⟨_,rfl,_,rfl,_,rfl,_,_,rfl,rfl,l,_,(n:Int),_,rfl,rfl,SqL.of (s4 _ _ hl2),getI (by omega),z1_,fun l5 nl5=>?_⟩;generalize gG:upd H4 l5 (.lst [.int (st.2.getD n 0)])=H5;obtain ⟨s5,h5⟩:=gen_upd gG nl5;refine ⟨l4,l5,_,_,rfl,rfl,s5 _ _ h4,h5,by simp only [n68_,n4_,n16_,n37_,sizeLine_eq]; omega,fun l6 nl6=>?_⟩
   have ecat:(st.2.map V.int).take n++[.int (st.2.getD n 0)]=st.2.map V.int:=by
    rw [n19_,n0_ (show n < st.2.length by omega),← List.map_take];show (st.2.take n).map V.int++[st.2[n]].map V.int=_
    rw [← List.map_append,← n32_ (show n < st.2.length by omega),List.take_of_length_le (by omega)]
   rw [ecat];generalize gG:upd H5 l6 (.lst (st.2.map V.int))=H6;obtain ⟨s6,h6⟩:=gen_upd gG nl6;refine ⟨z2_,fun p7 np7=>?_⟩;refine c _ _ _ (stI st) ⟨_,_,rfl⟩ (s4.trans (s5.trans (s6.trans (Same.new np7)))) (by rw [n3_,est]; rfl) ⟨p7,l6,rfl,?_,?_,Zc,Same.new np7 _ _ h6⟩
   · intro z; rw [z,s6 _ _ (s5 _ _ (s4 _ _ eD))] at np7; cases np7
   · intro z; rw [z,s5 _ _ (s4 _ _ eD)] at nl6; cases nl6
 · rw [Yl _ _ (by rw [n4_]; exact lss)] at a2;refine ⟨_,rfl,z1_,fun l3 nl3=>?_⟩;generalize gG:upd H2 l3 (.lst [.ref n_])=H3;obtain ⟨s3,h3⟩:=gen_upd gG nl3;refine ⟨_,rfl,l3,(n:Int),_,rfl,rfl,h3,by omega,by omega,by simp only [n16_,n37_,n60_,sizeLine_eq]; omega,fun l4 nl4=>?_⟩
   have er:(List.replicate (n:Int).toNat [V.ref n_]).flatten=List.replicate n (V.ref n_):=by
    rw [n60_]; exact Zae _ n
   rw [er];generalize gG:upd H3 l4 (.lst (List.replicate n (.ref n_)))=H4;obtain ⟨s4,h4⟩:=gen_upd gG nl4;have S24:=s3.trans s4;refine ⟨D,l4,ts,_,steps,List.replicate n 0,rfl,S24 _ _ e2,⟨by rw [a2.1,n4_],fun i v x e1 e2'=>?_⟩,h4,⟨by rw [n40_,n40_],fun i v x e1 e2'=>?_⟩,FO,fun H5 l us' s5 h5 a5=>q H5 l us' (s2.trans (S24.trans s5)) h5 a5⟩
   · have:=a2.2 i v (stI x) e1 (by rw [n3_,e2']; rfl)
     exact (this.ln).same S24
   · rw [List.getElem?_replicate] at e1 e2';split at e1
     · rename_i hi
       rw [if_pos hi] at e2';cases e1; cases e2'
       exact ⟨n_,rfl,.inr hnk⟩
     · cases e1
abbrev Yg:Stmt:=top 65
theorem Zc6 (F:Fun K "settled_each" "settled_each" Yg f fd) {Ph:Addr} (Caa_:a12_ P w K mg base) (Cl_:a7_ P w K mg base) (Cam_:a13_ P w K mg base) (Cd_:a14_ P w K mg base) (Cah_:a15_ P w K mg base) (Cab_:a16_ P w K mg base) (Can_:Cal P w K mg base "stepped" 6 ["lines","places"] (Zca Ph)) (Ch_:a5_ P w K mg base):FnOk P w K mg base CX0 7 f fd ["rows","columns"] (Zbj K Ph):=by
 have sc:FnScope ["rows","columns","places","ends","tops","lines","steps","left","found","at","parts","factors"] ["rows","columns"] (Ze Yg):=fsc (by decide +kernel);refine F.ok sc (fun vs H Q E h=>by obtain ⟨a,ca,g,k,kg,us,gs,rows,rights,b,c,rfl,_⟩:=h;rfl) fun cdv A outer s H vs Q E hr h=>?_;obtain ⟨a,ca,g,k,kg,us,gs,rows,rights,b,c,rfl,ha,al,hca,hg,alg,SO,tb,q⟩:=h;have nd:=sc.nd;refine' ⟨_,?term,?read⟩
 case term=>refine' @Zd _ _ _ _ _ ?g1 ?g2;(case g1=>refine' @Zr _ _ (2) _ _ _ _ nd rfl (Or.inr rfl) (Zl Cd_ hr (by decide) rfl (Za (pv 0) Zb rfl)) (by rfl) (by first | exact Or.inl rfl | exact Or.inr rfl | assumption));case g2=>refine' @Zd _ _ _ _ _ ?g3 ?g4;(case g3=>refine' @X8 _ _ _ _ _ _ _ _ _ _ (["rights","rows"]) ([none,some 0]) _ _ _ _ _ _ rfl rfl (Zs (i:=3) nd rfl (Or.inl rfl)) (Yc (XN:=["rows","columns","places","ends","tops","lines","steps","left","found","at","parts","factors"]) (Scope.names (Ze Yg)) rfl rfl rfl (fun _ h=>Z1 h) (by decide +kernel) rfl) (Yi (pv 1)) (fun _ _ _ _=>pgB 0) (fun _ _ _ _=>Zp) (fun _ _ _ _=>Zl Cah_ hr (by decide) rfl (Za (pv 1) (Za (pv 0) Zb rfl) rfl)) (by intro _ ; rfl));case g4=>refine' @Zd _ _ _ _ _ ?g5 ?g6;(case g5=>refine' @Zr _ _ (4) _ _ _ _ nd rfl (Or.inr rfl) ?g7 (by rfl) (by first | exact Or.inl rfl | exact Or.inr rfl | assumption);case g7=>refine' @Y5 _ _ _ _ _ _ _ (["parts"]) ([none]) _ _ _ _ _ rfl (Z3 (by decide) rfl (by decide) rfl rfl) (Yi (pv 3)) (fun _ _ _ _=>pgB 0) (fun _ _ _ _=>Zp) (fun _ _ _ _=>Yj (Zax K rfl) (Zl Cl_ hr (by decide) rfl (Za (pv 0) Zb rfl)) Zg (fun _ _=>rfl)) (by intro _ ; rfl));case g6=>refine' @Zd _ _ _ _ _ ?g8 ?g9;(case g8=>refine' @X8 _ _ _ _ _ _ _ _ _ _ (["at","row","tops"]) ([none,none,some 4]) _ _ ((gTup K 2 (Z8 (Z5 0) (Z8 (Z5 1) gNil)))) _ _ _ rfl rfl (Zs (i:=5) nd rfl (Or.inl rfl)) (Yc (XN:=["rows","columns","places","ends","tops","lines","steps","left","found","at","parts","factors"]) (Scope.names (Ze Yg)) rfl rfl rfl (fun _ h=>Z1 h) (by decide +kernel) rfl) (Zjg rfl T.b_enumerate (Za (pv 0) Zb rfl)) (fun _ _ _ _=>Yb (n:=2) rfl (Zj (Zs (i:=0) (show List.Nodup (["at","row","tops"]:List Str) by decide) rfl (Or.inr rfl) (Or.inl rfl)) (Zj (pgB 1) Zy))) (fun _ _ _ _=>Zp) (fun _ _ _ _=>Zq Xi (Zl Ch_ hr (by decide) rfl (Za (pv 1) Zb rfl)) (Y5 (N:=["column","at"]) (fr:=[none,some 0]) rfl (Yc (XN:=["at","row","tops"]) (relN _ (Scope.names (Ze Yg))) rfl rfl rfl (fun _ h=>Zdv (by decide +kernel) h) (by decide +kernel) rfl) (Zmy K rfl (pv 2)) (fun _ _ _ _=>pgB 0) (fun _ _ _ _=>Zp) (fun _ _ _ _=>Yj (Zc4 K rfl) (pv 0) (pv 1) (fun _ _=>rfl)))) (by intro _ ; rfl));case g9=>refine' @Zd _ _ _ _ _ ?ga ?gb;(case ga=>refine' @Zam _ _ _ _ _ _ (Zl Can_ hr (by decide) rfl (Za (pv 5) (Za (pv 2) Zb rfl) rfl)) ?gc (by rfl) (by rfl) (by rfl);case gc=>refine' @Yb _ _ _ _ _ (2) rfl (Zj (Zs (i:=6) nd rfl (Or.inl rfl)) (Zj (Zs (i:=7) nd rfl (Or.inl rfl)) Zy)) (by rfl) (by rfl));case gb=>refine' @Zd _ _ _ _ _ ?gd ?ge;(case gd=>refine' @Zr _ _ (8) _ _ _ _ nd rfl (Or.inl rfl) ?gf (by rfl) (by first | exact Or.inl rfl | exact Or.inr rfl | assumption);case gf=>refine' @Yd _ _ _ _ Zb);case ge=>refine' @Zd _ _ _ _ _ ?gg ?gh;(case gg=>refine' @Zai _ _ _ _ _ _ _ _ PassesOwn.never rfl (Zjg rfl T.b_enumerate (Za (pv 3) Zb rfl)) ?gi ?gj (by intro _ ; rfl);(case gi=>refine' @Yb _ _ _ _ _ (2) rfl (Zj (Zs (i:=9) nd rfl (Or.inr rfl)) (Zj (Zs (i:=10) nd rfl (Or.inl rfl)) Zy)) (by rfl) (by rfl));case gj=>refine' @Zi _ _ _ ?gk;case gk=>refine' @Y3 _ _ _ _ _ _ _ _ ?gl ?gm ?gn;(case gl=>refine' @Zx _ _ _ ?go (fun _=>rfl);case go=>refine' @Zh _ _ _ _ _ _ _ _ _ (Zmu rfl) rfl T.b_any Zqu ?gp (by decide) (by decide) (by rfl) (by rfl);case gp=>refine' @Za _ _ _ _ _ ?gq Zb rfl;case gq=>refine' @Y5 _ _ _ _ _ _ _ (["line","places","at"]) ([none,some 2,some 9]) _ _ _ _ _ rfl (Yc (XN:=["rows","columns","places","ends","tops","lines","steps","left","found","at","parts","factors"]) (Scope.names (Ze Yg)) rfl rfl rfl (fun _ h=>Z1 h) (by decide +kernel) rfl) (Yi (pv 7)) (fun _ _ _ _=>pgB 0) (fun _ _ _ _=>Zp) (fun _ _ _ _=>Zas Ze1 (Yj (Zc4 K rfl) (pv 0) (Zq Xu (pv 1) (pv 2)) (fun _ _=>rfl)) Zg (Z4 _)) (by intro _ ; rfl));(case gm=>refine' @Zi _ _ _ ?gr;case gr=>refine' @Yx _ _ _ _ ?gs (by rfl);case gs=>refine' @Zbb _ _ _ _ _ _ _ _ _ _ _ _ PySem.F.plainAttrs_list PySem.F.slot_list_append PySem.F.type_list_append Ym (pv 8) (Za Zer Zb rfl) (by rfl) (by rfl) (by rfl) (by rfl) (by rfl));case gn=>refine' @Zd _ _ _ _ _ ?gt ?gu;(case gt=>refine' @Zr _ _ (11) _ _ _ _ nd rfl (Or.inr rfl) ?gv (by rfl) (by first | exact Or.inl rfl | exact Or.inr rfl | assumption);case gv=>refine' @Zl _ _ _ _ _ _ _ _ _ _ _ Caa_ hr (by decide) rfl ?gw (by decide) (by rfl) (by rfl);case gw=>refine' @Za _ _ _ _ _ ?gx Zb rfl;case gx=>refine' @Y5 _ _ _ _ _ _ _ (["top","bottom"]) ([none,none]) _ _ ((gTup K 2 (Z8 (Z5 0) (Z8 (Z5 1) gNil)))) _ _ rfl (Z3 (by decide) rfl (by decide) rfl rfl) (Yi (pv 10)) (fun _ _ _ _=>Yb (n:=2) rfl (Zj (pgB 0) (Zj (pgB 1) Zy))) (fun _ _ _ _=>Zp) (fun _ _ _ _=>pv 1) (by intro _ ; rfl));case gu=>refine' @Zi _ _ _ ?gy;case gy=>refine' @Yx _ _ _ _ ?gz (by rfl);case gz=>refine' @Zbb _ _ _ _ _ _ _ _ _ _ _ _ PySem.F.plainAttrs_list PySem.F.slot_list_append PySem.F.type_list_append Ym (pv 8) ?g10 (by rfl) (by rfl) (by rfl) (by rfl) (by rfl);case g10=>refine' @Za _ _ _ _ _ ?g11 Zb rfl;case g11=>refine' @Yz _ _ _ _ _ _ _ _ _ Y7 rfl T.b_tuple Yp ?g12 (by decide) (by decide) (by rfl) (by rfl);case g12=>refine' @Za _ _ _ _ _ ?g13 Zb rfl;case g13=>refine' @Y5 _ _ _ _ _ _ _ (["part","factors"]) ([none,some 11]) _ _ _ _ _ rfl (Yc (XN:=["rows","columns","places","ends","tops","lines","steps","left","found","at","parts","factors"]) (Scope.names (Ze Yg)) rfl rfl rfl (fun _ h=>Z1 h) (by decide +kernel) rfl) (Yi (Zl Cab_ hr (by decide) rfl (Za (pv 6) (Za (pv 2) (Za (pv 9) Zb rfl) rfl) rfl))) (fun _ _ _ _=>pgB 0) (fun _ _ _ _=>Zp) (fun _ _ _ _=>Zl Cam_ hr (by decide) rfl (Za (pv 0) (Za (pv 1) Zb rfl) rfl)) (by intro _ ; rfl));case gh=>refine' @Zi _ _ _ ?g14;case g14=>refine' @Zm _ _ _ _ ?g15;case g15=>refine' @Zn _ _ _ _ _ ?g16;case g16=>refine' @Za _ _ _ _ _ ?g17 (Za (pv 8) Zb rfl) rfl;case g17=>refine' @Y5 _ _ _ _ _ _ _ (["place","line"]) ([none,none]) _ _ ((gTup K 2 (Z8 (Z5 0) (Z8 (Z5 1) gNil)))) _ _ rfl (Z3 (by decide) rfl (by decide) rfl rfl) (Yi (pv 6)) (fun _ _ _ _=>Yb (n:=2) rfl (Zj (pgB 0) (Zj (pgB 1) Zy))) (fun _ _ _ _=>Zp) (fun _ _ _ _=>pv 0) (by intro _ ; rfl)
 have lu:=al.1;have lg:=alg.1;have rl:=SO.rl;have n2:=SO.n;refine ⟨_,rfl,a,k,us,rows,rfl,ha,al,?_⟩;refine ⟨_,rfl,ca,rfl,⟨_,SqL.of hca⟩,fun D nD=>?_⟩;refine Zce (n:=1) (fun H v (x:List Rat)=>∃ l es,v=V.ref l∧l≠D∧H l=some (.lst es)∧Al (IsQ K H) es x) (fun H1 H2 v x k e ⟨l,es,e1,n,h,r⟩=>⟨l,es,e1,n,k _ _ n h,r.imp fun v x r=>hRQ _ _ _ _ (Zfo k e) r⟩) (fun i=>some (rtv rows rights)) (by decide) (fun σ=>∃ x,σ=[x,some (.ref a)]) ⟨_,rfl⟩ nD (fun i H2 s hi=>Zbd (k:=.l) (show SK.l.At H2 ca [.ref g] from s _ _ hca) hi) (fun H2 s=>Xe (k:=.l) (show SK.l.At H2 ca [.ref g] from s _ _ hca) (n5_ _)) (fun i x σ2 H2 H3 C N hi s2 eD y ok c' n=>?_) (fun H2 us2 s2 e2 a2=>?_)
 · obtain ⟨a1,rfl⟩:=ok;obtain ⟨wsD,eD⟩:=eD;obtain ⟨rfl,ex⟩:=X0 (k:=.l) (show SK.l.At H2 ca [.ref g] from s2 _ _ hca) y;obtain rfl:i=0:=by omega
   cases ex
   refine Zat ?_;refine ⟨_,rfl,_,rfl,a,g,k,kg,us,gs,rows,rights,b,rfl,ha.same s2,al.imp fun v x r=>IsQs.tk s2.tk r,hg.same s2,alg.imp fun v x r=>hRQ _ _ _ _ s2.tk r,SO.toRtB,fun H5 l es s5 nl hl ae=>?_⟩;exact c' _ _ _ _ ⟨_,rfl⟩ s5 rfl ⟨l,es,rfl,fun z=>(by rw [z,eD] at nl; cases nl),hl,ae⟩
 obtain ⟨le,es,rfl,nle,hle,ale⟩:∃ l es,us2=[V.ref l]∧l≠D∧H2 l=some (.lst es)∧Al (IsQ K H2) es (rtv rows rights):=by
  have h1:=a2.1
  match us2,h1 with
  | [u],_ =>
    obtain ⟨l,es,e1,r⟩:=a2.2 0 u _ rfl rfl;exact ⟨l,es,by rw [e1],r⟩
 clear a2;have lrt:(rtv rows rights).length=rows.length:=by unfold rtv; rw [n62_]; omega
 have ha2:=ha.same s2;have al2:=al.imp fun v x (r:IsQs K H v x)=>IsQs.tk s2.tk r;have tb2:=tb.same s2;clear ha al hca hg alg nD;refine ⟨_,rfl,D,rfl,⟨_,SqL.of e2⟩,fun E nE=>?_⟩;refine Zce (n:=1) (fun H v (x:List Int)=>∃ l,v=V.ref l∧l≠E∧H l=some (.lst (x.map V.int))) (fun H1 H2 v x k e ⟨l,e1,n,h⟩=>⟨l,e1,n,k _ _ n h⟩) (fun i=>some (lvd (rtv rows rights))) (by decide) (fun σ=>∃ x,σ=[x]) ⟨_,rfl⟩ nE (fun i H3 s hi=>Zbd (k:=.l) (show SK.l.At H3 D [.ref le] from s _ _ e2) hi) (fun H3 s=>Xe (k:=.l) (show SK.l.At H3 D [.ref le] from s _ _ e2) (n5_ _)) (fun i x σ2 H3 H4 C N hi s3 eE y ok c' n=>?_) (fun H3 us3 s3 e3 a3=>?_)
 · obtain ⟨a1,rfl⟩:=ok;obtain ⟨wsE,eE⟩:=eE;obtain ⟨rfl,ex⟩:=X0 (k:=.l) (show SK.l.At H3 D [.ref le] from s3 _ _ e2) y;obtain rfl:i=0:=by omega
   cases ex
   refine Zat ?_;refine ⟨_,rfl,le,.l,es,rtv rows rights,c,rfl,s3 _ _ hle,ale.imp fun v x r=>hRQ _ _ _ _ s3.tk r,SO.eb,fun H5 p l s5 nl hp hl=>?_⟩;exact ⟨p,_,0,_,rfl,rfl,SqT.of hp,rfl,c' _ _ _ _ ⟨_,rfl⟩ s5 rfl ⟨l,rfl,fun z=>(by rw [z,eE] at nl; cases nl),hl⟩⟩
 obtain ⟨lt,rfl,hlt⟩:∃ l,us3=[V.ref l]∧H3 l=some (.lst ((lvd (rtv rows rights)).map V.int)):=by
  have h1:=a3.1
  match us3,h1 with
  | [u],_ =>
    obtain ⟨l,e1,_,r⟩:=a3.2 0 u _ rfl rfl;exact ⟨l,by rw [e1],r⟩
 clear a3;have llv:(lvd (rtv rows rights)).length=rows.length:=by unfold lvd; rw [n4_,lrt]
 have S13:=s2.trans s3;have ha3:=ha2.same s3;have al3:=al2.imp fun v x (r:IsQs K H2 v x)=>IsQs.tk s3.tk r;have tb3:=tb2.same s3;have hD3:=s3 _ _ e2;have hle3:=s3 _ _ hle;have ale3:=ale.imp fun v x (r:IsQ K H2 v x)=>hRQ _ _ _ _ s3.tk r;clear ha2 al2 tb2 e2 hle ale nE;refine ⟨_,rfl,a,k,rfl,⟨_,ha3.sq⟩,fun F nF=>?_⟩;refine Zce (n:=rows.length) (fun H v (x:List Int)=>∃ l,v=V.ref l∧l≠F∧H l=some (.lst (x.map V.int))) (fun H1 H2 v x k e ⟨l,e1,n,h⟩=>⟨l,e1,n,k _ _ n h⟩) (fun i=>(lns rows rights)[i]?) (by omega) (fun σ=>∃ x y,σ=[x,y,some (.ref E)]) ⟨_,_,rfl⟩ nF (fun i H4 s hi=>⟨us,us[i],(ha3.same s).sq,n0_ (by omega)⟩) (fun H4 s=>⟨us,(ha3.same s).sq,lu⟩) (fun i x σ2 H4 H5 C N hi s4 eF y ok c' n=>?_) (fun H4 us4 s4 e4 a4=>?_)
 · obtain ⟨a1,a2,rfl⟩:=ok;obtain ⟨wsF,eF⟩:=eF;obtain ⟨p,w',rfl,np,rfl,y1⟩:=y;have ew:=y1 us ((ha3.same s4).sq);obtain ⟨row,er,pr,ps,rfl,hpr,alp⟩:=al3.get ew;generalize gG:upd H4 p (.tup [.int i,.ref pr])=H5;obtain ⟨s5,hp5⟩:=gen_upd gG np;have S5:=s4.trans s5;refine ⟨p,_,rfl,SqT.of hp5,rfl,_,_,rfl,_,_,rfl,rfl,?_⟩;refine Za0 ?_;refine ⟨_,rfl,pr,.t,ps,row,b,rfl,S5 _ _ hpr,alp.imp fun v x r=>hRQ _ _ _ _ S5.tk r,SO.rb row (n6_ er),fun H6 l6 s6 nl6 h6=>?_⟩;have S6:=S5.trans s6;refine ⟨_,rfl,E,rfl,⟨_,SqL.of (S6 _ _ e3)⟩,fun G nG=>?_⟩;refine lc_T (k:=.l) (vs:=[.ref lt]) RI hRI [(lvd (rtv rows rights)).getD i 0] rfl (by show 1≤1000; decide) nG (show SK.l.At H6 E _ from S6 _ _ e3) (fun j w'' H7 C' hw s7 cc=>?_) (fun H7 us7 s7 e7 a7=>?_)
   · cases j with
     | zero =>
       cases hw
       exact ⟨_,rfl,_,rfl,lt,_,(i:Int),_,rfl,rfl,SqL.of (s7 _ _ (S6 _ _ hlt)),getI (by omega),cc _ _ _ (Same.refl _) rfl rfl⟩
     | succ j=>simp at hw
   · rw [a7.ints] at e7;refine ⟨l6,G,_,_,rfl,rfl,s7 _ _ h6,e7,?_,fun l8 nl8=>?_⟩
     · have:=Zlc row; have:=SO.wd row (n6_ er); have:=SO.w; simp only [n4_,n16_,n37_,sizeLine_eq]; omega
     have s8:=Same.new (o:=.lst ((wh row).map V.int++[(lvd (rtv rows rights)).getD i 0].map V.int)) nl8;refine c' _ _ _ (wh row++[(lvd (rtv rows rights)).getD i 0]) ⟨_,_,rfl⟩ (s5.trans (s6.trans (s7.trans s8))) ?_ ⟨l8,rfl,fun z=>?_,?_⟩
     · unfold lns;rw [n52_,er,n0_ (show i < (lvd (rtv rows rights)).length by omega),n19_,n0_ (show i < (lvd (rtv rows rights)).length by omega)]; rfl
     · rw [z,s7 _ _ (s6 _ _ (s5 _ _ eF))] at nl8; cases nl8
     · rw [List.map_append]; exact Zc
 have lln:(lns rows rights).length=rows.length:=by unfold lns; rw [n62_,llv]; exact Nat.min_self _
 rw [Yl _ _ (by rw [lln])] at a4;refine ⟨_,rfl,_,rfl,F,us4,lns rows rights,wid rows,wid rows+1,rfl,e4,a4.imp fun v x ⟨l,e,_,h⟩=>⟨l,e,h⟩,SO.so,tb3.same s4,fun H5 p sa la ss ls kp5 tb5 hp5 hs5 as5 hl5 al5=>?_⟩;refine ⟨p,_,rfl,SqT.of hp5,rfl,_,_,rfl,_,_,rfl,rfl,?_⟩;refine ⟨z0_,fun fa nfa=>?_⟩
 have nPh:∀ {G:Hp} {b:Addr} {o:HO},TabF G Ph "head_of.<locals>.<lambda>" → (∀ ps,o≠HO.tbl ps)→G b=some o→b≠Ph:=fun t n e z=>by
  obtain ⟨ps,h,_⟩:=t;rw [z,h] at e; exact n _ (Option.some.inj e).symm
 have tb4:=tb3.same s4;have kq:∀ b o,(∀ ps,o≠HO.tbl ps)→H3 b=some o→H5 b=some o:=fun b o n e=>kp5 _ _ (nPh tb4 n (s4 _ _ e)) (s4 _ _ e);have tk35:Tk H3 H5:=fun b xs e=>kq _ _ (by intro ps z; cases z) e;have hD5:=kq _ _ (by intro ps z; cases z) hD3;have hle5:=kq _ _ (by intro ps z; cases z) hle3;have ale5:=ale3.imp fun v x (r:IsQ K H3 v x)=>hRQ _ _ _ _ tk35 r;have kH5:Xk Ph H H5:=fun b o n e=>kp5 b o n (s4 _ _ (s3 _ _ (s2 _ _ e)));clear ha3 al3 tb3 hD3 hle3 ale3 tb4 kq tk35 kp5 s4 a4 e4 nF e3 hlt;generalize gG:upd H5 fa (.lst [])=H6;obtain ⟨s6,hfa⟩:=gen_upd gG nfa;have nf:∀ {b:Addr} {o:HO},H5 b=some o→b≠fa:=fun e=>Zk e nfa;have lss:=as5.1;have lls:=al5.1;have lst:=(Zfc (lines:=lns rows rights) (wid rows));have wW:=SO.w;refine ⟨_,rfl,D,.l,rfl,⟨_,SqL.of (s6 _ _ hD5)⟩,?_⟩;refine Zab (n:=1) (fun i σ H2=>∃ x1 x2 x3,σ=[some (.ref a),some (.ref ca),some (.int (wid rows)),some (.ref D),some (.ref E),some (.ref F),some (.ref sa),some (.ref la),some (.ref fa),x1,x2,x3]∧Keep fa H6 H2∧∃ fs,H2 fa=some (.lst fs)∧(i=0→fs=[])∧(i≠0→∃ v,fs=[v]∧SolV K H2 v (slv rows rights))) ⟨_,_,_,rfl,Keep.refl _ _,[],hfa,fun _=>rfl,fun z=>absurd rfl z⟩ (fun i σ H2 hi p=>?_) (fun σ H2 p=>?_) (fun i x σ H2 H3' hi y p=>?_) (fun σ H2 p=>?_)
 · obtain ⟨_,_,_,_,k2,_⟩:=p;obtain rfl:i=0:=by omega
   exact ⟨[.ref le],.ref le,SqL.of (k2 _ _ (nf hD5) (s6 _ _ hD5)),rfl⟩
 · obtain ⟨_,_,_,_,k2,_⟩:=p;exact ⟨[.ref le],SqL.of (k2 _ _ (nf hD5) (s6 _ _ hD5)),rfl⟩
 · obtain rfl:i=0:=by omega
   obtain ⟨x1,x2,x3,rfl,k2,fs,hf,f0,_⟩:=p;obtain rfl:=f0 rfl;obtain ⟨p,w',rfl,np,rfl,y1⟩:=y;have ew:=y1 _ (SqL.of (k2 _ _ (nf hD5) (s6 _ _ hD5)));cases ew
   have s7:Same H2 (upd H2 p (.tup [.int 0,.ref le])):=Same.new np;have hp7:upd H2 p (.tup [.int 0,.ref le]) p=some (.tup [.int 0,.ref le]):=Zc;have hf7:=s7 _ _ hf;generalize upd H2 p (.tup [.int 0,.ref le])=H7 at s7 hp7 hf7 ⊢;have k57:∀ {b:Addr} {o:HO},H5 b=some o→H7 b=some o:=fun e=>s7 _ _ (k2 _ _ (nf e) (s6 _ _ e));have tk57:Tk H5 H7:=fun b xs e=>k57 e;refine ⟨p,_,rfl,SqT.of hp7,rfl,_,_,rfl,_,_,rfl,rfl,?_⟩;refine ⟨_,rfl,la,rfl,⟨_,SqL.of (k57 hl5)⟩,fun G nG=>?_⟩;have llm:ls.length=(stF rows rights).2.length:=by rw [lls,n4_]; rfl
   refine lc_T (k:=.l) (vs:=ls) RB hRB ((stF rows rights).2.map fun x=>x.2.getD (wid rows) 0 != 0) (by rw [n4_]; exact llm.symm) (by have:=lst.1; have:(lns rows rights).length=rows.length:=lln; rw [llm]; show (stp (lns rows rights) (wid rows)).2.length≤_; omega) nG (show SK.l.At H7 la ls from k57 hl5) (fun j w'' H8 C' hw s8 cc=>?_) (fun H8 us8 s8 e8 a8=>?_)
   · obtain ⟨x,ex,l,rfl,hl⟩:=al5.get hw;rw [n3_] at ex;obtain ⟨ln,eln,rfl⟩:=n31_.mp ex;have LO:=SO.so.ok (wid rows) (n5_ _) ln (n6_ eln);have ll:=LO.len;refine ⟨_,rfl,_,rfl,_,rfl,_,_,rfl,rfl,l,_,(wid rows:Int),_,rfl,rfl,SqL.of (s8 _ _ (k57 hl)),getI (by omega),rfl,?_⟩;refine cc _ _ _ (Same.refl _) (by rw [n3_,show (stF rows rights).2=(stp (lns rows rights) (wid rows)).2 from rfl,eln]; rfl) ?_;show V.bl (!decide (V.int (ln.2.getD (wid rows) 0)=V.int 0))=V.bl (ln.2.getD (wid rows) 0 != 0)
     congr 1
     by_cases hz:ln.2.getD (wid rows) 0=0
     · rw [hz]; rfl
     · rw [n14_ fun z=>hz (V.int.inj z)]; simpa using hz
   have e8':us8=((stF rows rights).2.map fun x=>x.2.getD (wid rows) 0 != 0).map V.bl:=a8.bls;rw [e8'] at e8;refine ⟨G,_,rfl,SqL.of e8,_,rfl,?_⟩;have eany:((stF rows rights).2.map fun x=>x.2.getD (wid rows) 0 != 0).any id=(stF rows rights).2.any fun x=>x.2.getD (wid rows) 0 != 0:=by rw [List.any_map]; rfl
   rw [eany];refine ite2 (fun hy=>?_) (fun hy=>?_)
   · have esl:slv rows rights=none:=by unfold slv; rw [if_pos hy]
     refine ⟨_,rfl,.inl ⟨rfl,_,SqL.of (s8 _ _ hf7)⟩,fa,_,_,rfl,rfl,s8 _ _ hf7,by show 0 < sizeLine; decide,?_⟩;refine ⟨_,_,_,rfl,fun b o n e=>?_,[.non],Zc,fun z=>(nomatch z),fun _=>⟨_,rfl,by rw [esl]; rfl⟩⟩;rw [Zo n];exact s8 _ _ (s7 _ _ (k2 _ _ n e))
   · have esl:slv rows rights=some ((fil (stF rows rights).1 (List.replicate (wid rows) 0)).map fun x=>x / (Zcl (fct (bots (rtv rows rights))).2:Rat)):=by unfold slv; rw [if_neg hy]
     have k58:∀ {b:Addr} {o:HO},H5 b=some o→H8 b=some o:=fun e=>s8 _ _ (k57 e);have tk58:Tk H5 H8:=fun b xs e=>k58 e;have ale8:=ale5.imp fun v x (r:IsQ K H5 v x)=>hRQ _ _ _ _ tk58 r;have lse:=ale5.1;refine ⟨_,rfl,le,rfl,⟨_,SqL.of (k58 hle5)⟩,fun G2 nG2=>?_⟩;refine lc_Q (k:=.l) (us:=es) RI hRI (bots (rtv rows rights)) (by rw [n4_]; exact lse.symm) (by omega) nG2 (show SK.l.At H8 le es from k58 hle5) ale8 (fun i x' H9 C ex s9 cc=>?_) (fun H9 us9 s9 e9 a9=>?_)
     · exact ⟨_,rfl,cc _ _ _ (Same.refl _) (by rw [n3_,ex]; rfl) rfl⟩
     rw [a9.ints] at e9;refine ⟨G2,_,rfl,e9,fun x hx=>⟨(SO.eb.bots x hx).1,up _ (SO.eb.bots x hx).2 (by have:=SO.eb.b4; omega)⟩,by rw [n4_]; omega,fun H10 m s10 hm=>?_⟩;have s810:=s9.trans s10;have k510:∀ {b:Addr} {o:HO},H5 b=some o→H10 b=some o:=fun e=>s810 _ _ (k58 e);have hf10:=s810 _ _ (s8 _ _ hf7);refine ⟨_,rfl,.inl ⟨rfl,_,SqL.of hf10⟩,?_⟩;refine ⟨_,rfl,_,rfl,_,rfl,sa,ss,(stF rows rights).1,wid rows,rfl,k510 hs5,as5.imp fun v x r=>(let ⟨p',l',e',h1,h2⟩:=r; ⟨p',l',e',k510 h1,k510 h2⟩),?_,by omega,fun x hx=>Zjk SO.so _ (n5_ _) x hx,SO.fo,fun H11 l11 us11 s11 h11 a11=>?_⟩
     · show (stp (lns rows rights) (wid rows)).1.length≤1000; omega
     have flen:(fil (stF rows rights).1 (List.replicate (wid rows) 0)).length=wid rows:=by
      have:∀ (L:List (Nat×List Int)) (xs:List Rat),(fil L xs).length=xs.length:=fun L xs=>by
       induction L with
       | nil=>rfl
       | cons x L ih=>show ((fil L xs).set _ _).length=_; rw [List.length_set,ih]
      rw [this,n40_]
     have lu11:=a11.1;refine ⟨l11,rfl,⟨_,SqL.of h11⟩,fun G3 nG3=>?_⟩;refine lc_T (k:=.l) (vs:=us11) (IsQ K) hRQ ((fil (stF rows rights).1 (List.replicate (wid rows) 0)).map fun x=>x / (Zcl (fct (bots (rtv rows rights))).2:Rat)) (by rw [n4_]; exact lu11.symm) (by omega) nG3 (show SK.l.At H11 l11 us11 from h11) (fun j w'' H12 C' hw s12 cc=>?_) (fun H12 us12 s12 e12 a12=>?_)
     · obtain ⟨x,ex,rx⟩:=a11.get hw;obtain ⟨b1,b2⟩:=SO.fb x (n6_ ex);have fl:=Zor (bots (rtv rows rights));rw [n4_] at fl;exact ⟨_,rfl,_,rfl,w'',x,m,_,rfl,hRQ _ _ _ _ s12.tk rx,s12 _ _ (s11 _ _ hm),Zq6 SO.eb,by omega,b1,b2,fun H13 v13 s13 r13=>cc _ _ _ s13 (by rw [n3_,ex]; rfl) r13⟩
     have s812:=s810.trans (s11.trans s12);have hf12:=s812 _ _ (s8 _ _ hf7);refine ⟨G3,_,rfl,.inl ⟨SqL.of e12,fun t nt=>?_⟩⟩;have st:=Same.new (o:=.tup us12) nt;refine ⟨fa,_,_,rfl,rfl,st _ _ hf12,by show 0 < sizeLine; decide,?_⟩;have ntf:t≠fa:=fun z=>by rw [z,hf12] at nt; cases nt
     refine ⟨_,_,_,rfl,fun b o n e=>?_,[.ref t],Zc,fun z=>(nomatch z),fun _=>⟨_,rfl,?_⟩⟩
     · rw [Zo n];exact st _ _ (s812 _ _ (s8 _ _ (s7 _ _ (k2 _ _ n e))))
     · rw [esl];refine ⟨t,us12,rfl,by rw [Zo ntf]; exact Zc,a12.imp fun v x r=>?_⟩;refine hRQ _ _ _ _ (Tk.upd_lst (st _ _ hf12)) (hRQ _ _ _ _ st.tk r)
 · obtain ⟨x1,x2,x3,rfl,k2,fs,hf,_,f1⟩:=p;obtain ⟨v,rfl,hv⟩:=f1 (by decide);have k52:∀ {b:Addr} {o:HO},H5 b=some o→H2 b=some o:=fun e=>k2 _ _ (nf e) (s6 _ _ e);refine ⟨_,rfl,sa,rfl,⟨_,SqL.of (k52 hs5)⟩,fun G nG=>?_⟩;refine Zce (n:=ss.length) RI (fun _ _ _ _ _ _ e=>e) (fun i=>((tkn rows rights).map fun n:Nat=>(n:Int))[i]?) (by show _≤1000; rw [lss]; show (stp (lns rows rights) (wid rows)).1.length≤1000; omega) (fun σ=>∃ x y,σ=[x,y]) ⟨_,_,rfl⟩ nG (fun i H3 s hi=>Zbd (k:=.l) (show SK.l.At H3 sa ss from s _ _ (k52 hs5)) hi) (fun H3 s=>Xe (k:=.l) (show SK.l.At H3 sa ss from s _ _ (k52 hs5)) (n5_ _)) (fun i x σ2 H3 H4 C N hi s3 eD y ok c' n=>?_) (fun H3 us3 s3 e3 a3=>?_)
   · obtain ⟨y1,y2,rfl⟩:=ok;obtain ⟨rfl,ex⟩:=X0 (k:=.l) (show SK.l.At H3 sa ss from s3 _ _ (k52 hs5)) y;obtain ⟨st,est,p',l',rfl,hp',hl'⟩:=as5.get ex;refine ⟨p',_,rfl,SqT.of (s3 _ _ (k52 hp')),rfl,_,_,rfl,_,_,rfl,rfl,?_⟩;refine Za0 ?_;refine ⟨_,rfl,c' _ _ _ (st.1:Int) ⟨_,_,rfl⟩ (Same.refl _) ?_ rfl⟩;unfold tkn;rw [n3_,n3_,show (stF rows rights).1=(stp (lns rows rights) (wid rows)).1 from rfl,est]; rfl
   · rw [Yl _ _ (by unfold tkn; rw [n4_,n4_]; exact lss)] at a3;rw [a3.ints,List.map_map] at e3;refine ⟨_,rfl,z2_,fun pp npp=>?_⟩;have s4:=Same.new (o:=.tup [.ref G,.ref fa]) npp;have s24:=s3.trans s4;have fin:=SolV.tk s24.tk hv;exact q _ pp G fa v (fun b o n e=>s24 _ _ (k52 (kH5 b o n e))) ((((tb5.same s6).keepL hfa k2).same s24)) Zc (s4 _ _ e3) (s24 _ _ hf) fin
abbrev Zdt:Stmt:=top 66
theorem Zjp (F:Fun K "settled" "settled" Zdt f fd) {Ph:Addr} (Cw_:Cal P w K mg base "settled_each" 7 ["rows","columns"] (Zbj K Ph)):FnOk P w K mg base CX0 8 f fd ["rows","rights"] (Za3 K Ph):=by
 have sc:FnScope ["rows","rights","taken","found"] ["rows","rights"] (Ze Zdt):=fsc (by decide +kernel);refine F.ok sc (fun vs H Q E h=>by obtain ⟨a,g,k,kg,us,gs,rows,rights,b,c,rfl,_⟩:=h;rfl) fun cdv A outer s H vs Q E hr h=>?_;obtain ⟨a,g,k,kg,us,gs,rows,rights,b,c,rfl,ha,al,hg,alg,SO,tb,q⟩:=h;have nd:=sc.nd;refine' ⟨_,?term,?read⟩
 case term=>refine' @Zd _ _ _ _ _ ?g1 ?g2;(case g1=>refine' @Zam _ _ _ _ _ _ ?g3 ?g4 (by rfl) (by rfl) (by rfl);(case g3=>refine' @Zl _ _ _ _ _ _ _ _ _ _ _ Cw_ hr (by decide) rfl ?g5 (by decide) (by rfl) (by rfl);case g5=>refine' @Za _ _ _ _ _ (pv 0) ?g6 rfl;case g6=>refine' @Za _ _ _ _ _ ?g7 Zb rfl;case g7=>refine' @Yd _ _ _ _ (Za (pv 1) Zb rfl));case g4=>refine' @Yb _ _ _ _ _ (2) rfl (Zj (Zs (i:=2) nd rfl (Or.inl rfl)) (Zj (Zs (i:=3) nd rfl (Or.inl rfl)) Zy)) (by rfl) (by rfl));case g2=>refine' @Zi _ _ _ ?g8;case g8=>refine' @Zm _ _ _ _ ?g9;case g9=>refine' @Zn _ _ _ _ _ ?ga;case ga=>refine' @Za _ _ _ _ _ (pv 2) ?gb rfl;case gb=>refine' @Za _ _ _ _ _ ?gc Zb rfl;case gc=>refine' @Yj _ _ _ _ _ _ _ Z9 (pv 3) Zg (fun _ _=>rfl)
 refine ⟨_,rfl,_,rfl,z1_,fun ca nca=>?_⟩;generalize gG:upd H ca (.lst [.ref g])=H1;obtain ⟨s1,hca⟩:=gen_upd gG nca;refine ⟨a,ca,g,k,kg,us,gs,rows,rights,b,c,rfl,ha.same s1,al.imp fun v x r=>IsQs.tk s1.tk r,hca,hg.same s1,alg.imp fun v x r=>hRQ _ _ _ _ s1.tk r,SO,tb.same s1,fun H2 p t f v kp tb2 hp ht hf sv=>?_⟩;refine ⟨p,_,rfl,SqT.of hp,rfl,_,_,rfl,_,_,rfl,rfl,?_⟩;refine ⟨_,rfl,_,rfl,f,_,0,_,rfl,rfl,SqL.of hf,rfl,z2_,fun p3 np3=>?_⟩;have s3:=Same.new (o:=.tup [.ref t,v]) np3;exact q _ p3 t v (fun b o n e=>s3 _ _ (kp b o n (s1 _ _ e))) (tb2.same s3) Zc (s3 _ _ ht) (SolV.tk s3.tk sv)
abbrev Zby:Stmt:=top 67
theorem Zli (F:Fun K "mix_of" "mix_of" Zby f fd) (N0:Zhf K mg "NOUGHT" 0 1) (O1:Zhf K mg "ONE" 1 1) {Ph:Addr} (Co_:Cal P w K mg base "settled" 8 ["rows","rights"] (Za3 K Ph)):FnOk P w K mg base CX0 9 f fd ["rows","rights","taken"] (Zfp K Ph):=by
 have sc:FnScope ["rows","rights","taken","columns","goals"] ["rows","rights","taken"] (Ze Zby):=fsc (by decide +kernel);refine F.ok sc (fun vs H Q E h=>by obtain ⟨a,g,t,k,us,gs,rows,rights,taken,b,c,rfl,_⟩:=h;rfl) fun cdv A outer s H vs Q E hr h=>?_;obtain ⟨a,g,t,k,us,gs,rows,rights,taken,b,c,rfl,ha,al,hg,alg,ht,r1k,t1k,hpl,SO,tb,q⟩:=h;have nd:=sc.nd;obtain ⟨n_,hng,hnk⟩:=N0;obtain ⟨o_,hog,hok⟩:=O1;refine' ⟨_,?term,?read⟩
 case term=>refine' @Zd _ _ _ _ _ ?g1 ?g2;(case g1=>refine' @X8 _ _ _ _ _ _ _ _ _ _ (["place","rows"]) ([none,some 0]) _ _ _ _ _ _ rfl rfl (Zs (i:=3) nd rfl (Or.inl rfl)) (Yc (XN:=["rows","rights","taken","columns","goals"]) (Scope.names (Ze Zby)) rfl rfl rfl (fun _ h=>Z1 h) (by decide +kernel) rfl) (Yi (pv 2)) (fun _ _ _ _=>Zs (i:=0) (show List.Nodup (["place","rows"]:List Str) by decide) rfl (Or.inr rfl) (Or.inl rfl)) (fun _ _ _ _=>Zp) (fun _ _ _ _=>Yz (Zd5 K rfl) rfl T.b_tuple Yp (Za (Y5 (N:=["row","place"]) (fr:=[none,some 0]) rfl (Yc (XN:=["place","rows"]) (relN _ (Scope.names (Ze Zby))) rfl rfl rfl (fun _ h=>Zdv (by decide +kernel) h) (by decide +kernel) rfl) (Zaw K rfl (pv 1)) (fun _ _ _ _=>pgB 0) (fun _ _ _ _=>Zp) (fun _ _ _ _=>Yj (Zax K rfl) (pv 0) (pv 1) (fun _ _=>rfl))) Zb rfl)) (by intro _ ; rfl));case g2=>refine' @Zd _ _ _ _ _ ?g3 ?g4;(case g3=>refine' @Zr _ _ (4) _ _ _ _ nd rfl (Or.inl rfl) ?g5 (by rfl) (by first | exact Or.inl rfl | exact Or.inr rfl | assumption);case g5=>refine' @Zq _ _ _ _ _ _ _ _ Xi ?g6 ?g7;(case g6=>refine' @Zq _ _ _ _ _ _ _ _ Znx ?g8 (Zh Zv rfl T.b_len Xh (Za (pv 3) Zb rfl));case g8=>refine' @Yd _ _ _ _ ?g9;case g9=>refine' @Za _ _ _ _ _ ?ga Zb rfl;case ga=>refine' @Zz _ _ _ _ _ rfl hng (show RelV (.ref n_) (Value.ref n_) from rfl) (by decide));case g7=>refine' @Yd _ _ _ _ ?gb;case gb=>refine' @Za _ _ _ _ _ ?gc Zb rfl;case gc=>refine' @Zz _ _ _ _ _ rfl hog (show RelV (.ref o_) (Value.ref o_) from rfl) (by decide));case g4=>refine' @Zi _ _ _ ?gd;case gd=>refine' @Zm _ _ _ _ ?ge;case ge=>refine' @Yj _ _ _ _ _ _ _ Zbv ?gf Zg (fun _ _=>rfl);case gf=>refine' @Zl _ _ _ _ _ _ _ _ _ _ _ Co_ hr (by decide) rfl ?gg (by decide) (by rfl) (by rfl);case gg=>refine' @Za _ _ _ _ _ ?gh (Za (pv 4) Zb rfl) rfl;case gh=>refine' @Zq _ _ _ _ _ _ _ _ Xi (pv 3) ?gi;case gi=>refine' @Yd _ _ _ _ (Za (pv 1) Zb rfl)
 have lu:=al.1;refine ⟨_,rfl,t,rfl,⟨_,SqL.of ht⟩,fun D nD=>?_⟩;refine lc_T (k:=.l) (vs:=taken.map fun n:Nat=>V.int n) (IsQs K) (fun _ _ _ _ t r=>IsQs.tk t r) (cols rows taken) (by unfold cols; rw [n4_,n4_]) (by rw [n4_]; exact t1k) nD (show SK.l.At H t _ from ht) (fun i w' H2 C hw s2 cc=>?_) (fun H2 us2 s2 e2 a2=>?_)
 · rw [n3_] at hw;obtain ⟨pl,epl,rfl⟩:=n31_.mp hw;refine ⟨_,rfl,a,k,rfl,⟨_,(ha.same s2).sq⟩,fun E nE=>?_⟩;refine lc_T (k:=k) (vs:=us) (IsQ K) hRQ (rows.map fun r=>r.getD pl 0) (by rw [n4_]; exact lu.symm) (by omega) nE (ha.same s2) (fun j w'' H3 C' hw s3 c3=>?_) (fun H3 us3 s3 e3 a3=>?_)
   · obtain ⟨row,er,pr,ps,rfl,hpr,alp⟩:=al.get hw;have lp:=alp.1;have lt:=hpl pl (n6_ epl) row (n6_ er);obtain ⟨u,eu,ru⟩:=alp.got (n0_ lt);have S3:=s2.trans s3;refine ⟨_,rfl,_,rfl,pr,ps,(pl:Int),u,rfl,rfl,SqT.of (S3 _ _ hpr),Xz eu,c3 _ _ (row.getD pl 0) (Same.refl _) (by rw [n3_,er]; rfl) ?_⟩;rw [n19_,n0_ lt];exact hRQ _ _ _ _ S3.tk ru
   · refine ⟨E,us3,rfl,.inl ⟨SqL.of e3,fun p np=>?_⟩⟩;have s4:=Same.new (o:=.tup us3) np;refine cc _ _ (rows.map fun r=>r.getD pl 0) (s3.trans s4) (by unfold cols; rw [n3_,epl]; rfl) ⟨p,us3,rfl,Zc,a3.imp fun v x r=>hRQ _ _ _ _ s4.tk r⟩
 have l2:=a2.1;have lc:(cols rows taken).length=taken.length:=by unfold cols; rw [n4_]
 refine ⟨z1_,fun l3 nl3=>?_⟩;generalize gG:upd H2 l3 (.lst [.ref n_])=H3;obtain ⟨s3,h3⟩:=gen_upd gG nl3;refine ⟨_,rfl,D,us2,rfl,.inl (SqL.of (s3 _ _ e2)),l3,(us2.length:Int),_,rfl,rfl,h3,by omega,by omega,by simp only [n16_,n37_,n60_,sizeLine_eq]; omega,fun l4 nl4=>?_⟩
 have er:(List.replicate (us2.length:Int).toNat [V.ref n_]).flatten=List.replicate us2.length (V.ref n_):=by
  rw [n60_]; exact Zae _ us2.length
 rw [er];generalize gG:upd H3 l4 (.lst (List.replicate us2.length (.ref n_)))=H4;obtain ⟨s4,h4⟩:=gen_upd gG nl4;refine ⟨z1_,fun l5 nl5=>?_⟩;generalize gG:upd H4 l5 (.lst [.ref o_])=H5;obtain ⟨s5,h5⟩:=gen_upd gG nl5;refine ⟨l4,l5,_,_,rfl,rfl,s5 _ _ h4,h5,by simp only [n40_,n16_,n37_,sizeLine_eq]; omega,fun l6 nl6=>?_⟩;generalize gG:upd H5 l6 (.lst (List.replicate us2.length (.ref n_)++[.ref o_]))=H6;obtain ⟨s6,h6⟩:=gen_upd gG nl6;have S26:=s3.trans (s4.trans (s5.trans s6));refine ⟨_,rfl,_,rfl,z1_,fun l7 nl7=>?_⟩;generalize gG:upd H6 l7 (.lst [.ref g])=H7;obtain ⟨s7,h7⟩:=gen_upd gG nl7;refine ⟨D,l7,_,_,rfl,rfl,s7 _ _ (S26 _ _ e2),h7,by simp only [n16_,n37_,sizeLine_eq]; omega,fun l8 nl8=>?_⟩;generalize gG:upd H7 l8 (.lst (us2++[.ref g]))=H8;obtain ⟨s8,h8⟩:=gen_upd gG nl8;have S28:=S26.trans (s7.trans s8);have S18:=s2.trans S28;have aR:Al (IsQs K H8) (us2++[.ref g]) (cols rows taken++[rights]):=(a2.imp fun v x r=>IsQs.tk S28.tk r).snoc ⟨g,gs,rfl,S18 _ _ hg,alg.imp fun v x r=>hRQ _ _ _ _ S18.tk r⟩
 have aG:Al (IsQ K H8) (List.replicate us2.length (.ref n_)++[.ref o_]) (List.replicate taken.length 0++[1]):=by
  refine Al.snoc ⟨by rw [n40_,n40_]; omega,fun i v x e1 e2'=>?_⟩ ⟨o_,rfl,.inr hok⟩;rw [List.getElem?_replicate] at e1 e2';split at e1
  · rename_i hi
    rw [if_pos (by omega)] at e2';cases e1; cases e2'
    exact ⟨n_,rfl,.inr hnk⟩
  · cases e1
 refine ⟨_,rfl,l8,l6,.l,.l,_,_,_,_,b,c,rfl,h8,aR,s8 _ _ (s7 _ _ h6),aG,SO,tb.same S18,fun H9 p t' v kp tb9 hp ht' sv=>?_⟩;exact ⟨p,_,1,_,rfl,rfl,SqT.of hp,rfl,q H9 v (fun b o n e=>kp b o n (S18 _ _ e)) tb9 sv⟩
abbrev Zb9:Stmt:=top 39
theorem Zhn (F:Fun K "is_whole" "is_whole" Zb9 f fd):FnOk P w K mg base CX0 1 f fd ["thing"] Zb1:=by
 have sc:FnScope ["thing"] ["thing"] (Ze Zb9):=fsc (by decide +kernel);refine F.ok sc (fun vs H Q E h=>by obtain ⟨N,k,v,d,rfl,_⟩:=h;rfl) fun cdv A outer s H vs Q E hr h=>?_;obtain ⟨N,k,v,d,rfl,h,q⟩:=h;refine' ⟨_,?term,?read⟩
 case term=>refine' @Zi _ _ _ ?g1;case g1=>refine' @Zm _ _ _ _ ?g2;case g2=>refine' @Zeq _ _ _ _ _ _ _ (Zh Ys rfl T.b_isinstance Zf (Za (pv 0) (Za (Yy (v:=.ty "int") rfl T.b_int Zl2 rfl) Zb rfl) rfl)) ?g3;case g3=>refine' @Zgr _ _ _ _ _ ?g4;case g4=>refine' @Zn0 _ _ _ _ (Zh Ys rfl T.b_isinstance Zf (Za (pv 0) (Za (Yy (v:=.ty "bool") rfl T.b_bool Zlt rfl) Zb rfl) rfl))
 cases h with
 | non=>exact ⟨_,rfl,_,_,_,_,rfl,TyOf.non,rfl,false,rfl,iteF q⟩
 | bl b=>exact ⟨_,rfl,_,_,_,_,rfl,TyOf.bl b,rfl,true,rfl,iteT ⟨_,rfl,_,_,_,_,rfl,TyOf.bl b,rfl,true,rfl,q⟩⟩
 | int hi=>exact ⟨_,rfl,_,_,_,_,rfl,TyOf.int _,rfl,true,rfl,iteT ⟨_,rfl,_,_,_,_,rfl,TyOf.int _,rfl,false,rfl,q⟩⟩
 | str x=>exact ⟨_,rfl,_,_,_,_,rfl,TyOf.str x,rfl,false,rfl,iteF q⟩
 | tup h r=>exact ⟨_,rfl,_,_,_,_,rfl,TyOf.tup h,rfl,false,rfl,iteF q⟩
 | lst h n m r=>exact ⟨_,rfl,_,_,_,_,rfl,TyOf.lst h,rfl,false,rfl,iteF q⟩
 | dic h=>exact ⟨_,rfl,_,_,_,_,rfl,TyOf.dK h,rfl,false,rfl,iteF q⟩
abbrev Zah:Stmt:=top 42
theorem Zd9 (F:Fun K "is_fraction" "is_fraction" Zah f fd) (Cc_:a1_ P w K mg base) (Cs_:a17_ P w K mg base):FnOk P w K mg base CX0 3 f fd ["thing"] Zob:=by
 have sc:FnScope ["thing","top","bottom"] ["thing"] (Ze Zah):=fsc (by decide +kernel);refine F.ok sc (fun vs H Q E h=>by obtain ⟨N,k,v,d,rfl,_⟩:=h;rfl) fun cdv A outer s H vs Q E hr h=>?_;obtain ⟨N,k,v,d,rfl,h,hk,q⟩:=h;have nd:=sc.nd;refine' ⟨_,?term,?read⟩
 case term=>refine' @Zd _ _ _ _ _ ?g1 ?g2;(case g1=>refine' @Y3 _ _ _ _ _ _ _ _ ?g3 (Zi (Zm Zad)) Z2;case g3=>refine' @PW.pt _ _ _ ?g4;case g4=>refine' @Zdw _ _ _ _ _ _ _ ?g5 ?g6;(case g5=>refine' @Xb _ _ _ _ ?g7;case g7=>refine' @Zx _ _ _ (Zh Ys rfl T.b_isinstance Zf (Za (pv 0) (Za (Yy (v:=.ty "tuple") rfl T.b_tuple Yp rfl) Zb rfl) rfl)) (fun _=>rfl));case g6=>refine' @Zcr _ _ _ _ (Z0 Ze1 (Zh Zv rfl T.b_len Xh (Za (pv 0) Zb rfl)) Zg (Z4 _)));case g2=>refine' @Zd _ _ _ _ _ ?g8 ?g9;(case g8=>refine' @Zam _ _ _ _ _ _ (pv 0) ?ga (by rfl) (by rfl) (by rfl);case ga=>refine' @Yb _ _ _ _ _ (2) rfl (Zj (Zs (i:=1) nd rfl (Or.inl rfl)) (Zj (Zs (i:=2) nd rfl (Or.inl rfl)) Zy)) (by rfl) (by rfl));case g9=>refine' @Zd _ _ _ _ _ ?gb (Zi (Zm (Zas Zfj (Zl Cc_ hr (by decide) rfl (Za (pv 1) (Za (pv 2) Zb rfl) rfl)) Zg (Z4 _))));case gb=>refine' @Y3 _ _ _ _ _ _ _ _ ?gc (Zi (Zm Zad)) Z2;case gc=>refine' @PW.pt _ _ _ ?gd;case gd=>refine' @Zdw _ _ _ _ _ _ _ ?ge ?gf;(case ge=>refine' @Xb _ _ _ _ ?gg;case gg=>refine' @Zx _ _ _ (Zl Cs_ hr (by decide) rfl (Za (pv 1) Zb rfl)) (fun _=>rfl));case gf=>refine' @Zdw _ _ _ _ _ _ _ ?gh ?gi;(case gh=>refine' @Xb _ _ _ _ ?gj;case gj=>refine' @Zx _ _ _ (Zl Cs_ hr (by decide) rfl (Za (pv 2) Zb rfl)) (fun _=>rfl));case gi=>refine' @Zcr _ _ _ _ (Z0 Zkd (pv 2) Zg (Z4 _))
 rcases h.isT with ⟨p,xs,ds,rfl,rfl,hp,hs⟩ | e
 case inr =>
  obtain ⟨t,ty,ki⟩:=h.ty (K:=K);refine ⟨_,rfl,_,_,t,_,rfl,ty,ki,_,rfl,?_⟩;rw [e];have z:isFr d=false:=by cases d <;> first | rfl | (cases e)
  rw [z] at q;exact iteT (iteT (q))
 refine ⟨_,rfl,_,_,_,_,rfl,TyOf.tup hp,rfl,true,rfl,iteF ?_⟩
 by_cases h2:xs.length=2
 case neg =>
  rw [hs.len0 h2] at q;refine ⟨_,rfl,p,_,rfl,.inr (SqT.of hp),rfl,_,rfl,?_⟩;rw [show decide (V.int (xs.length:Int)=V.int 2)=false from n14_ (fun z=>h2 (by have:=V.int.inj z; omega))];exact iteT q
 obtain ⟨x,y,d1,d2,rfl,rfl,k1,k2⟩:∃ x y d1 d2,xs=[x,y]∧ds=[d1,d2]∧Dt N H k x d1∧Dt N H k y d2:=by
  match xs,ds,hs,h2 with
  | [x,y],[d1,d2],.cons a (.cons b .nil),_=>exact ⟨x,y,d1,d2,rfl,rfl,a,b⟩
 refine ⟨_,rfl,p,_,rfl,.inr (SqT.of hp),rfl,false,rfl,iteF ?_⟩;refine ⟨_,rfl,p,_,rfl,SqT.of hp,rfl,_,_,rfl,_,_,rfl,rfl,?_⟩;refine ⟨_,rfl,N,k,x,d1,rfl,k1,_,rfl,?_⟩
 rcases k1.isI with ⟨i,rfl,rfl,hi⟩ | e1
 case inr =>
  rw [e1]; rw [fr_1 e1] at q;exact iteT (iteT q)
 refine iteF ?_;refine ⟨_,rfl,N,k,y,d2,rfl,k2,_,rfl,?_⟩
 rcases k2.isI with ⟨j,rfl,rfl,hj⟩ | e2
 case inr =>
  rw [e2]; rw [fr_2 e2] at q;exact iteT (iteT q)
 refine iteF ?_;refine ⟨_,rfl,_,_,rfl,rfl,_,rfl,?_⟩;have q':Q (.bl (decide (1≤j) && decide (Int.gcd i j=1))) H:=q;refine ite2 (fun hlt=>?_) (fun hlt=>?_)
 · have z:¬ 1≤j:=by have:=n27_ hlt; omega
   rw [n14_ z] at q';exact q'
 · have z:1≤j:=by have:¬ j < 1:=fun z=>hlt (n26_ z); omega
   rw [n26_ z,Bool.true_and] at q';refine ⟨_,rfl,_,rfl,_,_,rfl,Zkr hj hk,rfl,?_⟩;rw [show decide (V.int (Int.gcd i j:Int)=V.int 1)=decide (Int.gcd i j=1) from decide_eq_decide.mpr ⟨fun z=>by have:=V.int.inj z; omega,fun z=>by rw [z]; rfl⟩];exact q'
abbrev Xl:Stmt:=top 43
theorem Zcg (F:Fun K "are_fractions" "are_fractions" Xl f fd) (Cz_:a18_ P w K mg base):FnOk P w K mg base CX0 4 f fd ["thing","many"] Zga:=by
 have sc:FnScope ["thing","many"] ["thing","many"] (Ze Xl):=fsc (by decide +kernel);refine F.ok sc (fun vs H Q E h=>by obtain ⟨N,k,v,d,n,rfl,_⟩:=h;rfl) fun cdv A outer s H vs Q E hr h=>?_;obtain ⟨N,k,v,d,n,rfl,h,hk,hz,q⟩:=h;refine' ⟨_,?term,?read⟩
 case term=>refine' @Zd _ _ _ _ _ ?g1 ?g2;(case g1=>refine' @Y3 _ _ _ _ _ _ _ _ ?g3 (Zi (Zm Zad)) Z2;case g3=>refine' @PW.pt _ _ _ ?g4;case g4=>refine' @Zdw _ _ _ _ _ _ _ ?g5 ?g6;(case g5=>refine' @Xb _ _ _ _ ?g7;case g7=>refine' @Zx _ _ _ (Zh Ys rfl T.b_isinstance Zf (Za (pv 0) (Za (Yy (v:=.ty "tuple") rfl T.b_tuple Yp rfl) Zb rfl) rfl)) (fun _=>rfl));case g6=>refine' @Zcr _ _ _ _ (Z0 Ze1 (Zh Zv rfl T.b_len Xh (Za (pv 0) Zb rfl)) (pv 1) (Z4 _)));case g2=>refine' @Zi _ _ _ ?g8;case g8=>refine' @Zm _ _ _ _ ?g9;case g9=>refine' @Zh _ _ _ _ _ _ _ _ _ (Y9 rfl) rfl T.b_all Zbu ?ga (by decide) (by decide) (by rfl) (by rfl);case ga=>refine' @Za _ _ _ _ _ ?gb Zb rfl;case gb=>refine' @Y5 _ _ _ _ _ _ _ (["part"]) ([none]) _ _ _ _ _ rfl (Z3 (by decide) rfl (by decide) rfl rfl) (Zdb (pv 0)) (fun _ _ _ _=>pgB 0) (fun _ _ _ _=>Zp) (fun _ _ _ _=>Zl Cz_ hr (by decide) rfl (Za (pv 0) Zb rfl)) (by intro _ ; rfl)
 rcases h.isT with ⟨a,us,ds,rfl,rfl,ha,hs⟩ | e
 case inr =>
  obtain ⟨t,ty,ki⟩:=h.ty (K:=K);refine ⟨_,rfl,_,_,t,_,rfl,ty,ki,_,rfl,?_⟩;rw [e]; rw [Zfg e] at q;exact iteT (iteT (q _ (Same.refl H)))
 refine ⟨_,rfl,_,_,_,_,rfl,TyOf.tup ha,rfl,true,rfl,iteF ?_⟩;have hl:=hs.len;have hz1:1+Zt ds≤1000:=hz;have h1000:us.length≤1000:=by have:=Zdp ds; omega
 refine ⟨_,rfl,a,us,rfl,.inr (SqT.of ha),_,rfl,rfl,_,rfl,?_⟩
 by_cases hn:us.length=n
 case neg =>
  rw [show decide (V.int (us.length:Int)=V.int (n:Nat))=false from n14_ (fun z=>hn (by have:=V.int.inj z; omega))];rw [Zjc (by omega)] at q;exact iteT (q _ (Same.refl H))
 rw [n26_ (show V.int (us.length:Int)=V.int (n:Nat) by rw [hn])];refine iteF ?_;refine ⟨_,rfl,a,rfl,⟨_,SqT.of ha⟩,fun D nD=>?_⟩;refine lc_T (k:=.t) (vs:=us) RB hRB (ds.map isFr) (by simp [hl]) h1000 nD ha (fun i w H2 C hw s2 c=>?_) (fun H2 us' s2 e2 a2=>?_)
 · obtain ⟨dx,ed,hdx⟩:=hs.get hw;have zx:=Zkw ed;exact ⟨_,rfl,N,k,w,dx,rfl,hdx.same s2,hk,c _ _ (isFr dx) (Same.refl _) (by rw [n3_,ed]; rfl) rfl⟩
 · rw [a2.bls] at e2;refine ⟨D,ds.map isFr,rfl,SqL.of e2,?_⟩;have z:(ds.map isFr).all id=ds.all isFr:=by rw [List.all_map]; rfl
   rw [z];rw [Zij (by omega)] at q;exact q _ s2
abbrev X4:Stmt:=top 72
theorem Zdl (F:Fun K "_law_cell_at" "_law_cell_at" X4 f fd):FnOk P w K mg base CX0 1 f fd ["_law_script","_law_k"] (Zma K):=by
 have sc:FnScope ["_law_script","_law_k"] ["_law_script","_law_k"] (Ze X4):=fsc (by decide +kernel);refine F.ok sc (fun vs H Q E h=>by obtain ⟨a,ns,k,rfl,_⟩:=h;rfl) fun cdv A outer s H vs Q E hr h=>?_;obtain ⟨a,ns,k,rfl,hS,q⟩:=h;refine' ⟨_,?term,?read⟩
 case term=>refine' @Zd _ _ _ _ _ ?g1 (Zi (Zm Zg));case g1=>refine' @Y3 _ _ _ _ _ _ _ _ (Z0 Zkd (pv 1) (Zh Zv rfl T.b_len Xh (Za (pv 0) Zb rfl)) (Z4 _)) ?g2 Z2;case g2=>refine' @Zi _ _ _ ?g3;case g3=>refine' @Zm _ _ _ _ ?g4;case g4=>refine' @Yj _ _ _ _ _ _ _ Z9 (pv 0) (pv 1) (fun _ _=>rfl)
 refine ⟨_,rfl,_,rfl,a,_,rfl,.inl hS,_,_,rfl,rfl,_,rfl,?_⟩;refine ite2 (fun hlt=>?_) (fun _=>q 0)
 have hk:k < ns.length:=by
  have z:=n27_ hlt;rw [n4_] at z;omega
 exact ⟨_,rfl,_,rfl,a,_,_,_,rfl,rfl,hS,Xz (by rw [n3_,n0_ hk]; rfl),q _⟩
abbrev Zar:Stmt:=top 73
theorem Zfz (F:Fun K "_law_state" "_law_state" Zar f fd) (Cx_:a19_ P w K mg base):FnOk P w K mg base CX0 2 f fd ["_law_script","_law_k"] (Ziw K):=by
 have sc:FnScope ["_law_script","_law_k","_law_cell"] ["_law_script","_law_k"] (Ze Zar):=fsc (by decide +kernel);refine F.ok sc (fun vs H Q E h=>by obtain ⟨a,ns,k,rfl,_⟩:=h;rfl) fun cdv A outer s H vs Q E hr h=>?_;obtain ⟨a,ns,k,rfl,hS,q⟩:=h;have nd:=sc.nd;refine' ⟨_,?term,?read⟩
 case term=>refine' @Zd _ _ _ _ _ ?g1 ?g2;(case g1=>refine' @Zr _ _ (2) _ _ _ _ nd rfl (Or.inl rfl) (Zl Cx_ hr (by decide) rfl (Za (pv 0) (Za (pv 1) Zb rfl) rfl)) (by rfl) (by first | exact Or.inl rfl | exact Or.inr rfl | assumption));case g2=>refine' @Zi _ _ _ ?g3;case g3=>refine' @Zm _ _ _ _ ?g4;case g4=>refine' @Yd _ _ _ _ (Za (Zh (Zha rfl) rfl T.b_max Znt (Za Zg (Za (Zq Zgm (pv 2) (Zq Zmo Zg Zg)) Zb rfl) rfl)) (Za (Zq Xu (Zq Zav (pv 2) Zg) Zg) (Za Zg Zb rfl) rfl) rfl)
 refine ⟨_,rfl,_,rfl,a,ns,k,rfl,hS,fun c=>?_⟩;refine ⟨_,rfl,_,_,rfl,rfl,⟨by decide,by decide,by decide⟩,_,_,rfl,rfl,_,_,rfl,?_⟩;refine ⟨_,rfl,_,_,rfl,rfl,(by show (2147483629:Int)≠0; decide),_,_,rfl,rfl,(z3_),fun p hp=>q p _ hp (Same.new hp) ⟨_,_,_,Zc,?_,?_⟩⟩
 · have:=n57_ c (b:=2147483629) (by decide)
   omega
 · have:=n71_ c (b:=2147483629) (by decide)
   omega
abbrev Zac:Stmt:=top 74
theorem Zed (F:Fun K "_law_choice" "_law_choice" Zac f fd):FnOk P w K mg base CX0 1 f fd ["_law_state_here","_law_many"] Zg4:=by
 have sc:FnScope ["_law_state_here","_law_many","_law_found","_law_mixed"] ["_law_state_here","_law_many"] (Ze Zac):=fsc (by decide +kernel);refine F.ok sc (fun vs H Q E h=>by obtain ⟨l,m,rfl,_⟩:=h;rfl) fun cdv A outer s H vs Q E hr h=>?_;obtain ⟨l,m,rfl,⟨s0,s1,s2,hl,h0,h1⟩,hm,hz,q⟩:=h;have nd:=sc.nd;refine' ⟨_,?term,?read⟩
 case term=>refine' @Zd _ _ _ _ _ ?g1 ?g2;(case g1=>refine' @Y3 _ _ _ _ _ _ _ _ ?g3 ?g4 Z2;(case g3=>refine' @Z0 _ _ _ _ _ _ _ _ Zeb ?g5 Zg (Z4 _);case g5=>refine' @Yj _ _ _ _ _ _ _ Z9 (pv 0) Zg (fun _ _=>rfl));case g4=>refine' @Zd _ _ _ _ _ ?g6 ?g7;(case g6=>refine' @Zr _ _ (2) _ _ _ _ nd rfl (Or.inl rfl) ?g8 (by rfl) (by first | exact Or.inl rfl | exact Or.inr rfl | assumption);case g8=>refine' @Zq _ _ _ _ _ _ _ _ Zav ?g9 (pv 1);case g9=>refine' @Yj _ _ _ _ _ _ _ Z9 (pv 0) Zg (fun _ _=>rfl));case g7=>refine' @Zd _ _ _ _ _ ?ga (Zi (Zm (pv 2)));case ga=>refine' @Zam _ _ _ _ _ _ ?gb ?gc (by rfl) (by rfl) (by rfl);(case gb=>refine' @Zq _ _ _ _ _ _ _ _ Yo ?gd (pv 1);case gd=>refine' @Yj _ _ _ _ _ _ _ Z9 (pv 0) Zg (fun _ _=>rfl));case gc=>refine' @Zin _ _ _ _ _ _ _ (pv 0) Zg Zc0 (by intro _ ; rfl));case g2=>refine' @Zd _ _ _ _ _ ?ge ?gf;(case ge=>refine' @Zam _ _ _ _ _ _ ?gg ?gh (by rfl) (by rfl) (by rfl);(case gg=>refine' @Zq _ _ _ _ _ _ _ _ Xu ?gi Zg;case gi=>refine' @Yj _ _ _ _ _ _ _ Z9 (pv 0) Zg (fun _ _=>rfl));case gh=>refine' @Zin _ _ _ _ _ _ _ (pv 0) Zg Zc0 (by intro _ ; rfl));case gf=>refine' @Zd _ _ _ _ _ ?gj ?gk;(case gj=>refine' @Zam _ _ _ _ _ _ ?gl ?gm (by rfl) (by rfl) (by rfl);(case gl=>refine' @Zq _ _ _ _ _ _ _ _ Zav ?gn Zg;case gn=>refine' @Zq _ _ _ _ _ _ _ _ Xu ?go ?gp;(case go=>refine' @Zq _ _ _ _ _ _ _ _ Xu ?gq Zg;case gq=>refine' @Zq _ _ _ _ _ _ _ _ Yq ?gr Zg;case gr=>refine' @Yj _ _ _ _ _ _ _ Z9 (pv 0) Zg (fun _ _=>rfl));case gp=>refine' @Yj _ _ _ _ _ _ _ Z9 (pv 0) Zg (fun _ _=>rfl));case gm=>refine' @Zin _ _ _ _ _ _ _ (pv 0) Zg Zc0 (by intro _ ; rfl));case gk=>refine' @Zd _ _ _ _ _ ?gs ?gt;(case gs=>refine' @Zr _ _ (3) _ _ _ _ nd rfl (Or.inl rfl) ?gu (by rfl) (by first | exact Or.inl rfl | exact Or.inr rfl | assumption);case gu=>refine' @Zq _ _ _ _ _ _ _ _ Zav ?gv Zg;case gv=>refine' @Zq _ _ _ _ _ _ _ _ Xu ?gw Zg;case gw=>refine' @Zq _ _ _ _ _ _ _ _ Xu ?gx ?gy;(case gx=>refine' @Zq _ _ _ _ _ _ _ _ Yq ?gz ?g10;(case gz=>refine' @Yj _ _ _ _ _ _ _ Z9 (pv 0) Zg (fun _ _=>rfl));case g10=>refine' @Yj _ _ _ _ _ _ _ Z9 (pv 0) Zg (fun _ _=>rfl));case gy=>refine' @Zq _ _ _ _ _ _ _ _ Yq Zg ?g11;case g11=>refine' @Yj _ _ _ _ _ _ _ Z9 (pv 0) Zg (fun _ _=>rfl));case gt=>refine' @Zd _ _ _ _ _ ?g12 (Zi (Zm (Zq Zav (Zq Yo (pv 3) Zg) (pv 1))));case g12=>refine' @Zr _ _ (3) _ _ _ _ nd rfl (Or.inl rfl) (Zq Zav (Zq Xu (Zq Yq (pv 3) (pv 3)) (Zq Yq Zg (pv 3))) Zg) (by rfl) (by first | exact Or.inl rfl | exact Or.inr rfl | assumption)
 have hm0:m≠0:=by omega
 refine ⟨_,rfl,l,_,0,_,rfl,rfl,SqL.of hl,rfl,_,_,rfl,rfl,_,rfl,?_⟩;refine ite2 (fun _=>?_) (fun _=>?_)
 · refine ⟨_,rfl,l,_,0,_,rfl,rfl,SqL.of hl,rfl,_,rfl,_,_,rfl,rfl,hm0,?_⟩;refine ⟨_,rfl,l,_,0,_,rfl,rfl,SqL.of hl,rfl,_,rfl,_,_,rfl,rfl,⟨hm0,hz⟩,?_⟩;refine ⟨_,rfl,l,_,0,0,rfl,rfl,hl,rfl,?_⟩;exact ⟨_,rfl,q _ _ (n57_ _ hm) (n71_ _ hm) Keep.upd ⟨_,_,_,Zc,h0,h1⟩⟩
 ·
  refine ⟨_,rfl,l,_,2,_,rfl,rfl,SqL.of hl,rfl,_,_,rfl,rfl,?_⟩;refine ⟨_,rfl,l,_,2,2,rfl,rfl,hl,rfl,?_⟩;refine ⟨_,rfl,l,_,1,_,rfl,rfl,SqL.of Zc,rfl,_,_,rfl,rfl,mulS (by rw [p64]; omega) (by decide),_,_,rfl,rfl,?_⟩;refine ⟨_,rfl,l,_,2,_,rfl,rfl,SqL.of Zc,rfl,_,_,rfl,rfl,_,_,rfl,rfl,(by show (2147483647:Int)≠0; decide),?_⟩;refine ⟨_,rfl,l,_,1,1,rfl,rfl,Zc,rfl,?_⟩;generalize hs:Int.fmod (s1 * 48271+29+(s2+1)) 2147483647=u;have u0:0≤u:=by rw [← hs]; exact n57_ _ (by decide)
  have u1:u < 2147483647:=by rw [← hs]; exact n71_ _ (by decide)
  refine ⟨_,rfl,l,_,1,_,rfl,rfl,SqL.of Zc,rfl,_,rfl,l,_,1,_,rfl,rfl,SqL.of Zc,rfl,u,u,by rw [← hs],by rw [← hs],mulS (by rw [p64]; omega) (by rw [p64]; omega),?_⟩;refine ⟨_,rfl,l,_,1,_,rfl,rfl,SqL.of Zc,rfl,39373,u,rfl,by rw [← hs],mulS (by decide) (by rw [p64]; omega),_,_,rfl,rfl,_,_,rfl,rfl,_,_,rfl,rfl,(by show (2147483629:Int)≠0; decide),?_⟩;generalize hv:Int.fmod (u * u+39373 * u+7) 2147483629=v;have v0:0≤v:=by rw [← hv]; exact n57_ _ (by decide)
  have v1:v < 2147483629:=by rw [← hv]; exact n71_ _ (by decide)
  refine ⟨_,rfl,_,rfl,v,v,by rw [← hv],by rw [← hv],mulS (by rw [p64]; omega) (by rw [p64]; omega),_,rfl,50021,v,rfl,by rw [← hv],mulS (by decide) (by rw [p64]; omega),_,_,rfl,rfl,_,_,rfl,rfl,(by show (2147483587:Int)≠0; decide),?_⟩;refine ⟨_,rfl,_,_,rfl,rfl,⟨by decide,Xm (by decide)⟩,_,rfl,_,_,rfl,rfl,hm0,?_⟩;exact q _ _ (n57_ _ hm) (n71_ _ hm) (Keep.upd.trans Keep.upd) ⟨_,u,_,by rw [← hs]; exact Zc,u0,by omega⟩
abbrev Zb8:Stmt:=top 75
theorem Zhq (F:Fun K "_law_low" "_law_low" Zb8 f fd):FnOk P w K mg base CX0 1 f fd ["_law_top","_law_bottom"] Znw:=by
 have sc:FnScope ["_law_top","_law_bottom","_law_one","_law_other"] ["_law_top","_law_bottom"] (Ze Zb8):=fsc (by decide +kernel);refine F.ok sc (fun vs H Q E h=>by obtain ⟨t,b,rfl,_⟩:=h;rfl) fun cdv A outer s H vs Q E hr h=>?_;obtain ⟨t,b,rfl,hb,hz,q⟩:=h;have nd:=sc.nd;refine' ⟨_,?term,?read⟩
 case term=>refine' @Zd _ _ _ _ _ ?g1 ?g2;(case g1=>refine' @Zix _ _ (2) (3) _ _ _ _ _ _ _ _ _ _ _ rfl nd rfl rfl (by decide) rfl rfl (Za (Zh Zaz rfl T.b_abs Zep (Za (pv 0) Zb rfl)) (Za (Zh Zaz rfl T.b_abs Zep (Za (pv 1) Zb rfl)) Zb rfl) rfl) rfl (by rfl));case g2=>refine' @Zd _ _ _ _ _ ?g3 ?g4;(case g3=>refine' @Zfl _ _ _ _ _ _ PassesOwn.never (Z0 Zeb (pv 3) Zg (Z4 _)) ?g5;case g5=>refine' @Zi _ _ _ ?g6;case g6=>refine' @Zix _ _ (2) (3) _ _ _ _ _ _ _ _ _ _ _ rfl nd rfl rfl (by decide) rfl rfl (Za (pv 3) (Za (Zq Zav (pv 2) (pv 3)) Zb rfl) rfl) rfl (by rfl));case g4=>refine' @Zi _ _ _ ?g7;case g7=>refine' @Zm _ _ _ _ ?g8;case g8=>refine' @Zn _ _ _ _ _ ?g9;case g9=>refine' @Za _ _ _ _ _ ?ga (Za (Zq Yo (Zh Zaz rfl T.b_abs Zep (Za (pv 1) Zb rfl)) (pv 2)) Zb rfl) rfl;case ga=>refine' @Zbq _ _ _ _ _ _ _ _ (Z0 Zeb (pv 1) Zg (Z4 _)) (Zq Yo (pv 0) (pv 2)) (Zq Zgm Zg (Zq Yo (pv 0) (pv 2)))
 have hg:=FM.gcd_ne (t:=t) hb;have hgz:(Int.gcd t b) < 2 ^ 8999:=n20_ (Nat.gcd_le_right _ (Int.natAbs_pos.mpr hb)) (Zn5 hz);have ab:∀ x:Int,(if x < 0 then -x else x)=(x.natAbs:Int):=fun x=>by split <;> omega
 refine ⟨_,rfl,t,rfl,_,rfl,b,rfl,_,_,rfl,?_⟩
 refine Zfb (fun σ H'=>∃ x y:Int,σ=[some (.int t),some (.int b),some (.int x),some (.int y)]∧H'=H∧0≤x∧0≤y∧Int.gcd x y=Int.gcd t b) (fun σ _=>match σ with | [_,_,_,some (.int y)]=>y.natAbs | _=>0)
  ⟨_,_,rfl,rfl,by rw [ab]; omega,by rw [ab]; omega,by rw [ab,ab]; simp [Int.gcd]⟩ ?_ ?_
 · rintro σ H' ⟨x,y,rfl,rfl,hx,hy,e⟩
   refine ⟨_,rfl,_,_,rfl,rfl,_,rfl,?_⟩;refine ite2 (fun hlt=>?_) (fun hlt=>?_)
   · have hy':0 < y:=n27_ hlt;have hy0:y≠0:=by omega
     refine ⟨_,rfl,_,rfl,_,rfl,x,y,rfl,rfl,hy0,_,_,rfl,⟨y,x.fmod y,rfl,rfl,hy,n57_ _ hy',by rw [FM.gcd_fmod hy0]; exact e⟩,FM.fmod_abs_lt hy0⟩
   · have hy':¬ 0 < y:=fun z=>hlt (n26_ z);have y0:y=0:=by omega
     subst y0;have x0:x=(Int.gcd t b:Int):=by rw [← e,Int.gcd_zero_right]; omega
     subst x0;refine ⟨_,rfl,_,_,rfl,rfl,_,rfl,?_⟩
     have fin:∀ n:Int,n=(if 0 < b then t.fdiv (Int.gcd t b:Int) else 0 - t.fdiv (Int.gcd t b:Int))→∀ p,H' p=none→Q (.ref p) (upd H' p (.tup [.int n,.int (Int.fdiv (if b < 0 then -b else b) (Int.gcd t b:Int))])):=by
      rintro n rfl p hp
      rw [ab,FM.low_num hb,FM.low_den hb];exact q p _ (Same.new hp) Zc
     refine ite2 (fun hlt=>?_) (fun hlt=>?_)
     · have hb':0 < b:=n27_ hlt;refine ⟨_,rfl,_,rfl,_,_,rfl,rfl,⟨hg,hgz⟩,_,rfl,b,rfl,_,rfl,_,_,rfl,rfl,⟨hg,hgz⟩,z2_,?_⟩;exact fin _ (by rw [if_pos hb'])
     · have hb':¬ 0 < b:=fun z=>hlt (n26_ z);refine ⟨_,rfl,_,rfl,_,_,rfl,rfl,⟨hg,hgz⟩,_,_,rfl,rfl,_,rfl,b,rfl,_,rfl,_,_,rfl,rfl,⟨hg,hgz⟩,z2_,?_⟩;exact fin _ (by rw [if_neg hb'])
 · rintro σ H' Q1 Q2 hq ⟨v,e,i,j,e1,e2,k,e3,q'⟩
   exact ⟨v,e,i,j,e1,e2,k,e3,hq _ _ q'⟩
abbrev Zao:Stmt:=top 82
theorem Ze8 (F:Fun K "_law_whole" "_law_whole" Zao f fd):FnOk P w K mg base CX0 1 f fd ["_law_thing"] Zb1:=by
 have sc:FnScope ["_law_thing"] ["_law_thing"] (Ze Zao):=fsc (by decide +kernel);refine F.ok sc (fun vs H Q E h=>by obtain ⟨N,k,v,d,rfl,_⟩:=h;rfl) fun cdv A outer s H vs Q E hr h=>?_;obtain ⟨N,k,v,d,rfl,h,q⟩:=h;refine' ⟨_,?term,?read⟩
 case term=>refine' @Zi _ _ _ ?g1;case g1=>refine' @Zm _ _ _ _ ?g2;case g2=>refine' @Zeq _ _ _ _ _ _ _ (Zh Ys rfl T.b_isinstance Zf (Za (pv 0) (Za (Yy (v:=.ty "int") rfl T.b_int Zl2 rfl) Zb rfl) rfl)) ?g3;case g3=>refine' @Zgr _ _ _ _ _ ?g4;case g4=>refine' @Zn0 _ _ _ _ (Zh Ys rfl T.b_isinstance Zf (Za (pv 0) (Za (Yy (v:=.ty "bool") rfl T.b_bool Zlt rfl) Zb rfl) rfl))
 cases h with
 | non=>exact ⟨_,rfl,_,_,_,_,rfl,TyOf.non,rfl,false,rfl,iteF q⟩
 | bl b=>exact ⟨_,rfl,_,_,_,_,rfl,TyOf.bl b,rfl,true,rfl,iteT ⟨_,rfl,_,_,_,_,rfl,TyOf.bl b,rfl,true,rfl,q⟩⟩
 | int hi=>exact ⟨_,rfl,_,_,_,_,rfl,TyOf.int _,rfl,true,rfl,iteT ⟨_,rfl,_,_,_,_,rfl,TyOf.int _,rfl,false,rfl,q⟩⟩
 | str x=>exact ⟨_,rfl,_,_,_,_,rfl,TyOf.str x,rfl,false,rfl,iteF q⟩
 | tup h r=>exact ⟨_,rfl,_,_,_,_,rfl,TyOf.tup h,rfl,false,rfl,iteF q⟩
 | lst h n m r=>exact ⟨_,rfl,_,_,_,_,rfl,TyOf.lst h,rfl,false,rfl,iteF q⟩
 | dic h=>exact ⟨_,rfl,_,_,_,_,rfl,TyOf.dK h,rfl,false,rfl,iteF q⟩
abbrev Y6:Stmt:=top 83
theorem Zbf (F:Fun K "_law_is_fraction" "_law_is_fraction" Y6 f fd) (Cm_:a20_ P w K mg base) (Ci_:a21_ P w K mg base):FnOk P w K mg base CX0 2 f fd ["_law_thing"] Zji:=by
 have sc:FnScope ["_law_thing"] ["_law_thing"] (Ze Y6):=fsc (by decide +kernel);refine F.ok sc (fun vs H Q E h=>by obtain ⟨N,k,v,d,rfl,_⟩:=h;rfl) fun cdv A outer s H vs Q E hr h=>?_;obtain ⟨N,k,v,d,rfl,h,hk,q⟩:=h;have hu:=Zlm hr;refine' ⟨_,?term,?read⟩
 case term=>refine' @Zd _ _ _ _ _ ?g1 ?g2;(case g1=>refine' @Y3 _ _ _ _ _ _ _ _ ?g3 (Zi (Zm Zad)) Z2;case g3=>refine' @PW.pt _ _ _ ?g4;case g4=>refine' @Zdw _ _ _ _ _ _ _ ?g5 ?g6;(case g5=>refine' @Xb _ _ _ _ ?g7;case g7=>refine' @Zx _ _ _ (Zh Ys rfl T.b_isinstance Zf (Za (pv 0) (Za (Yy (v:=.ty "tuple") rfl T.b_tuple Yp rfl) Zb rfl) rfl)) (fun _=>rfl));case g6=>refine' @Zdw _ _ _ _ _ _ _ (Z0 Ze1 (Zh Zv rfl T.b_len Xh (Za (pv 0) Zb rfl)) Zg (Z4 _)) ?g8;case g8=>refine' @Zcr _ _ _ _ ?g9;case g9=>refine' @Xb _ _ _ _ ?ga;case ga=>refine' @Zx _ _ _ ?gb (fun _=>rfl);case gb=>refine' @Zh _ _ _ _ _ _ _ _ _ (Y9 rfl) rfl T.b_all Zbu ?gc (by decide) (by decide) (by rfl) (by rfl);case gc=>refine' @Za _ _ _ _ _ ?gd Zb rfl;case gd=>refine' @Y5 _ _ _ _ _ _ _ (["_law_one"]) ([none]) _ _ _ _ _ rfl (Z3 (by decide) rfl (by decide) rfl rfl) (Zdb (pv 0)) (fun _ _ _ _=>pgB 0) (fun _ _ _ _=>Zp) (fun _ _ _ _=>Zl Ci_ hr (by decide) rfl (Za (pv 0) Zb rfl)) (by intro _ ; rfl));case g2=>refine' @Zi _ _ _ ?ge;case ge=>refine' @Zm _ _ _ _ ?gf;case gf=>refine' @Zeq _ _ _ _ _ _ _ ?gg ?gh;(case gg=>refine' @Zas _ _ _ _ _ _ _ _ Zeb ?gi Zg (Z4 _);case gi=>refine' @Yj _ _ _ _ _ _ _ Zbv (pv 0) Zg (fun _ _=>rfl));case gh=>refine' @Zgr _ _ _ _ _ ?gj;case gj=>refine' @Zas _ _ _ _ _ _ _ _ (Zpv (Nat.lt_of_succ_lt hu)) ?gk (pv 0) (Z4 _);case gk=>refine' @Zl _ _ _ _ _ _ _ _ _ _ _ Cm_ hr (by decide) rfl ?gl (by decide) (by rfl) (by rfl);case gl=>refine' @Za _ _ _ _ _ ?gm ?gn rfl;(case gm=>refine' @Yj _ _ _ _ _ _ _ Zbv (pv 0) Zg (fun _ _=>rfl));case gn=>refine' @Za _ _ _ _ _ ?go Zb rfl;case go=>refine' @Yj _ _ _ _ _ _ _ Zbv (pv 0) Zg (fun _ _=>rfl)
 rcases h.isT with ⟨p,xs,ds,rfl,rfl,hp,hs⟩ | e
 case inr =>
  obtain ⟨t,ty,ki⟩:=h.ty (K:=K);refine ⟨_,rfl,_,_,t,_,rfl,ty,ki,_,rfl,?_⟩;rw [e];have z:isFr d=false:=by cases d <;> first | rfl | (cases e)
  rw [z] at q;exact iteT (iteT (q _ (Same.refl H)))
 refine ⟨_,rfl,_,_,_,_,rfl,TyOf.tup hp,rfl,true,rfl,iteF ?_⟩
 by_cases h2:xs.length=2
 case neg =>
  rw [hs.len0 h2] at q;refine ⟨_,rfl,p,_,rfl,.inr (SqT.of hp),rfl,_,rfl,?_⟩;rw [show decide (V.int (xs.length:Int)=V.int 2)=false from n14_ (fun z=>h2 (by have:=V.int.inj z; omega))];exact iteT (iteT (q _ (Same.refl H)))
 obtain ⟨x,y,d1,d2,rfl,rfl,k1,k2⟩:∃ x y d1 d2,xs=[x,y]∧ds=[d1,d2]∧Dt N H k x d1∧Dt N H k y d2:=by
  match xs,ds,hs,h2 with
  | [x,y],[d1,d2],.cons a (.cons b .nil),_=>exact ⟨x,y,d1,d2,rfl,rfl,a,b⟩
 refine ⟨_,rfl,p,_,rfl,.inr (SqT.of hp),rfl,false,rfl,iteF ?_⟩;refine ⟨_,rfl,p,rfl,⟨_,SqT.of hp⟩,fun D nD=>?_⟩;refine Zpx (xs:=[x,y]) (fun n σ2 H2=>Same H H2∧H2 D=some (.lst (([isI d1,isI d2].take n).map V.bl))∧σ2.length=1) ⟨Same.new nD,Zc,rfl⟩ ?_ ?_ ?_
 · rintro n σ2 H2 _ ⟨s2,_,_⟩
   exact SqT.of (s2 _ _ hp)
 · rintro n z σ2 H2 hn ⟨s2,a2,l2⟩
   obtain ⟨u,rfl⟩:∃ u,σ2=[u]:=by
    match σ2,l2 with
    | [u],_=>exact ⟨u,rfl⟩
   refine Zat ?_
   match n,hn with
   | 0,hn =>
     cases (show x=z by simpa using hn)
     refine ⟨_,rfl,N,k,x,d1,rfl,k1.same s2,?_⟩;refine Zjd (by show 0 < 2; decide) a2 (by show 0 < sizeLine; decide) ⟨?_,?_,rfl⟩
     · exact fun b o e=>by rw [Zo (Zk e nD)]; exact s2 b o e
     · rw [Zc]; rfl
   | 1,hn =>
     cases (show y=z by simpa using hn)
     refine ⟨_,rfl,N,k,y,d2,rfl,k2.same s2,?_⟩;refine Zjd (by show 1 < 2; decide) a2 (by show 1 < sizeLine; decide) ⟨?_,?_,rfl⟩
     · exact fun b o e=>by rw [Zo (Zk e nD)]; exact s2 b o e
     · rw [Zc]; rfl
   | n+2,hn=>simp at hn
 · rintro σ2 H2 ⟨s2,a2,_⟩
   refine ⟨D,[isI d1,isI d2],rfl,SqL.of a2,_,rfl,?_⟩
   rcases k1.isI with ⟨i,rfl,rfl,hi⟩ | e1
   case inr =>
    rw [show List.all [isI d1,isI d2] id=false by simp [e1]];have q':=q H2 s2;rw [fr_1 e1] at q';exact iteT q'
   rcases k2.isI with ⟨j,rfl,rfl,hj⟩ | e2
   case inr =>
    rw [show List.all [isI (.int i),isI d2] id=false by simp [e2]];have q':=q H2 s2;rw [fr_2 e2] at q';exact iteT q'
   refine iteF ?_;refine ⟨_,rfl,p,_,1,_,rfl,rfl,SqT.of (s2 _ _ hp),rfl,_,_,rfl,rfl,_,rfl,?_⟩;refine ite2 (fun hlt=>?_) (fun hlt=>?_)
   · have z:0 < j:=n27_ hlt;refine ⟨_,rfl,p,_,0,_,rfl,rfl,SqT.of (s2 _ _ hp),rfl,_,rfl,p,_,1,_,rfl,rfl,SqT.of (s2 _ _ hp),rfl,i,j,rfl,by omega,Zkr hj hk,fun p3 H3 s3 a3=>?_⟩;refine ⟨_,rfl,p3,p,[(Rat.divInt i j).num,((Rat.divInt i j).den:Int)],[i,j],rfl,rfl,SqT.of a3,SqT.of (s3 _ _ (s2 _ _ hp)),?_⟩;rw [if_neg (by decide),Zn4 z];exact q _ (s2.trans s3)
   · have z:¬ 0 < j:=fun z=>hlt (n26_ z);have q':=q H2 s2
     have e:isFr (.tuple [.int i,.int j])=false:=by
      show (decide (1≤j) && decide (Int.gcd i j=1))=false
      rw [n14_ (by omega)]; rfl
     rw [e] at q';exact q'
abbrev Zcb:Stmt:=top 78
theorem Zh7 (F:Fun K "_law_odd" "_law_odd" Zcb f fd) (Ca_:a22_ P w K mg base):FnOk P w K mg base CX0 2 f fd ["_law_state_here"] Zkq:=by
 have sc:FnScope ["_law_state_here","_law_some"] ["_law_state_here"] (Ze Zcb):=fsc (by decide +kernel);refine F.ok sc (fun vs H Q E h=>by obtain ⟨l,N,rfl,_⟩:=h;rfl) fun cdv A outer s H vs Q E hr h=>?_;obtain ⟨l,N,rfl,hl,hN,hD,q⟩:=h;have nd:=sc.nd;refine' ⟨_,?term,?read⟩
 case term=>refine' @Zd _ _ _ _ _ ?g1 ?g2;(case g1=>refine' @Zr _ _ (1) _ _ _ _ nd rfl (Or.inl rfl) ?g3 (by rfl) (by first | exact Or.inl rfl | exact Or.inr rfl | assumption);case g3=>refine' @Ze4 _ _ _ _ ?g4;case g4=>refine' @Za _ _ _ _ _ Zer ?g5 rfl;case g5=>refine' @Za _ _ _ _ _ Zad ?g6 rfl;case g6=>refine' @Za _ _ _ _ _ Zad ?g7 rfl;case g7=>refine' @Za _ _ _ _ _ Zg ?g8 rfl;case g8=>refine' @Za _ _ _ _ _ Zg ?g9 rfl;case g9=>refine' @Za _ _ _ _ _ (Zgw Zct Zg) ?ga rfl;case ga=>refine' @Za _ _ _ _ _ (Zq Zmo Zg Zg) ?gb rfl;case gb=>refine' @Za _ _ _ _ _ Z6 ?gc rfl;case gc=>refine' @Za _ _ _ _ _ Z6 ?gd rfl;case gd=>refine' @Za _ _ _ _ _ (Zn Zb) ?ge rfl;case ge=>refine' @Za _ _ _ _ _ ?gf ?gg rfl;(case gf=>refine' @Ze4 _ _ _ _ Zb);case gg=>refine' @Za _ _ _ _ _ Zpf ?gh rfl;case gh=>refine' @Za _ _ _ _ _ (Zn (Za Zg (Za Zg Zb rfl) rfl)) ?gi rfl;case gi=>refine' @Za _ _ _ _ _ (Zn (Za Zg (Za Zg Zb rfl) rfl)) ?gj rfl;case gj=>refine' @Za _ _ _ _ _ ?gk Zb rfl;case gk=>refine' @Ze4 _ _ _ _ (Za Zg (Za Zg Zb rfl) rfl));case g2=>refine' @Zi _ _ _ ?gl;case gl=>refine' @Zm _ _ _ _ ?gm;case gm=>refine' @Yj _ _ _ _ _ _ _ Z9 ?gn (Zl Ca_ hr (by decide) rfl (Za (pv 0) (Za Zg Zb rfl) rfl)) (fun _ _=>rfl);case gn=>refine' @Zq _ _ _ _ _ _ _ _ Xi (pv 1) ?go;case go=>refine' @Ze4 _ _ _ _ ?gp;case gp=>refine' @Za _ _ _ _ _ (Zn (Za (Zn (Za Zg (Za Zg Zb rfl) rfl)) Zb rfl)) (Za (Zn (Za Zg (Za Zg Zb rfl) rfl)) (Za (Zn (Za Zg (Za Zg Zb rfl) rfl)) (Za (Zn (Za Zg (Za Zg Zb rfl) rfl)) (Za (Zn (Za Zad (Za Zg Zb rfl) rfl)) Zb rfl) rfl) rfl) rfl) rfl
 refine ⟨_,rfl,_,_,rfl,rfl,⟨by decide,by decide,by decide⟩,z0_,?_⟩;intro p1 n1;generalize hH1:upd H p1 _=H1;have S1:Same H H1:=by (rw [← hH1]; exact Same.new n1)
 have A1:=(congrFun hH1 p1).symm;rw [Zc] at A1;clear hH1;have st1:=(hl).same S1;refine ⟨z0_,?_⟩;intro p2 n2 m2;generalize hH2:upd H1 p2 _=H2;have S2:Same H1 H2:=by (rw [← hH2]; exact Same.new n2)
 have A2:=(congrFun hH2 p2).symm;rw [Zc] at A2;clear hH2;have st2:=(st1).same S2;intro p3 n3;generalize hH3:upd H2 p3 _=H3;have S3:Same H2 H3:=by (rw [← hH3]; exact Same.new n3)
 have A3:=(congrFun hH3 p3).symm;rw [Zc] at A3;clear hH3;have st3:=(st2).same S3;refine ⟨z2_,?_⟩;intro p4 n4;generalize hH4:upd H3 p4 _=H4;have S4:Same H3 H4:=by (rw [← hH4]; exact Same.new n4)
 have A4:=(congrFun hH4 p4).symm;rw [Zc] at A4;clear hH4;have st4:=(st3).same S4;refine ⟨z2_,?_⟩;intro p5 n5;generalize hH5:upd H4 p5 _=H5;have S5:Same H4 H5:=by (rw [← hH5]; exact Same.new n5)
 have A5:=(congrFun hH5 p5).symm;rw [Zc] at A5;clear hH5;have st5:=(st4).same S5;refine ⟨z2_,?_⟩;intro p6 n6 m6;generalize hH6:upd H5 p6 _=H6;have S6:Same H5 H6:=by (rw [← hH6]; exact Same.new n6)
 have A6:=(congrFun hH6 p6).symm;rw [Zc] at A6;clear hH6;have st6:=(st5).same S6;refine ⟨by show 15≤sizeLine; decide,?_⟩;intro p7 n7 m7;generalize hH7:upd H6 p7 _=H7;have S7:Same H6 H7:=by (rw [← hH7]; exact Same.new n7)
 have A7:=(congrFun hH7 p7).symm;rw [Zc] at A7;clear hH7;have st7:=(st6).same S7;refine ⟨_,rfl,z2_,?_⟩;intro p8 n8;generalize hH8:upd H7 p8 _=H8;have S8:Same H7 H8:=by (rw [← hH8]; exact Same.new n8)
 have A8:=(congrFun hH8 p8).symm;rw [Zc] at A8;clear hH8;have st8:=(st7).same S8;refine ⟨z1_,?_⟩;intro p9 n9;generalize hH9:upd H8 p9 _=H9;have S9:Same H8 H9:=by (rw [← hH9]; exact Same.new n9)
 have A9:=(congrFun hH9 p9).symm;rw [Zc] at A9;clear hH9;have st9:=(st8).same S9;refine ⟨z2_,?_⟩;intro p10 n10;generalize hH10:upd H9 p10 _=H10;have S10:Same H9 H10:=by (rw [← hH10]; exact Same.new n10)
 have A10:=(congrFun hH10 p10).symm;rw [Zc] at A10;clear hH10;have st10:=(st9).same S10;refine ⟨z2_,?_⟩;intro p11 n11;generalize hH11:upd H10 p11 _=H11;have S11:Same H10 H11:=by (rw [← hH11]; exact Same.new n11)
 have A11:=(congrFun hH11 p11).symm;rw [Zc] at A11;clear hH11;have st11:=(st10).same S11;refine ⟨z2_,?_⟩;intro p12 n12;generalize hH12:upd H11 p12 _=H12;have S12:Same H11 H12:=by (rw [← hH12]; exact Same.new n12)
 have A12:=(congrFun hH12 p12).symm;rw [Zc] at A12;clear hH12;have st12:=(st11).same S12;refine ⟨z2_,?_⟩;intro p13 n13;generalize hH13:upd H12 p13 _=H13;have S13:Same H12 H13:=by (rw [← hH13]; exact Same.new n13)
 have A13:=(congrFun hH13 p13).symm;rw [Zc] at A13;clear hH13;have st13:=(st12).same S13;refine ⟨z5_,?_⟩;intro p14 n14 m14;generalize hH14:upd H13 p14 _=H14;have S14:Same H13 H14:=by (rw [← hH14]; exact Same.new n14)
 have A14:=(congrFun hH14 p14).symm;rw [Zc] at A14;clear hH14;have st14:=(st13).same S14;refine ⟨p7,p14,_,_,rfl,rfl,(S14 _ _ (S13 _ _ (S12 _ _ (S11 _ _ (S10 _ _ (S9 _ _ (S8 _ _ A7))))))),A14,by show 20≤sizeLine; decide,?_⟩;intro p15 n15;generalize hH15:upd H14 p15 _=H15;have S15:Same H14 H15:=by (rw [← hH15]; exact Same.new n15)
 have A15:=(congrFun hH15 p15).symm;rw [Zc] at A15;clear hH15;have st15:=(st14).same S15;have T1:TgOs N H15 100 2 20 [.non,.bl true,.bl false,.int 0,.int 1,.int (-1),.int (10 ^ Int.toNat 29),.str "",.str "a",.ref p1,.ref p2,.ref p3,.ref p4,.ref p5,.ref p6]:=(TgOs.cons (⟨_,.non,n23_ rfl,by decide +kernel,okE0 (by decide +kernel) (by decide)⟩) (TgOs.cons (⟨_,(.bl true),n23_ rfl,by decide +kernel,okE0 (by decide +kernel) (by decide)⟩) (TgOs.cons (⟨_,(.bl false),n23_ rfl,by decide +kernel,okE0 (by decide +kernel) (by decide)⟩) (TgOs.cons (⟨_,(dint 0 (by decide) (by decide)),n23_ rfl,by decide +kernel,okE0 (by decide +kernel) (by decide)⟩) (TgOs.cons (⟨_,(dint 1 (by decide) (by decide)),n23_ rfl,by decide +kernel,okE0 (by decide +kernel) (by decide)⟩) (TgOs.cons (⟨_,(dint (-1) (by decide) (by decide)),n23_ rfl,by decide +kernel,okE0 (by decide +kernel) (by decide)⟩) (TgOs.cons (⟨_,(dint (10 ^ Int.toNat 29) (by decide) (by decide)),n23_ rfl,by decide +kernel,okE0 (by decide +kernel) (by decide)⟩) (TgOs.cons (⟨_,(.str ""),n23_ rfl,by decide +kernel,okE0 (by decide +kernel) (by decide)⟩) (TgOs.cons (⟨_,(.str "a"),n23_ rfl,by decide +kernel,okE0 (by decide +kernel) (by decide)⟩) (TgOs.cons (⟨_,.tup (S15 _ _ (S14 _ _ (S13 _ _ (S12 _ _ (S11 _ _ (S10 _ _ (S9 _ _ (S8 _ _ (S7 _ _ (S6 _ _ (S5 _ _ (S4 _ _ (S3 _ _ (S2 _ _ A1)))))))))))))) .nil,n23_ rfl,by decide +kernel,okE0 (by decide +kernel) (by decide)⟩) (TgOs.cons (⟨_,.lst (S15 _ _ (S14 _ _ (S13 _ _ (S12 _ _ (S11 _ _ (S10 _ _ (S9 _ _ (S8 _ _ (S7 _ _ (S6 _ _ (S5 _ _ (S4 _ _ (S3 _ _ A2))))))))))))) ((hD.same S1).new n2) m2 .nil,n23_ rfl,by decide +kernel,okE0 (by decide +kernel) (by decide)⟩) (TgOs.cons (⟨_,.dic (S15 _ _ (S14 _ _ (S13 _ _ (S12 _ _ (S11 _ _ (S10 _ _ (S9 _ _ (S8 _ _ (S7 _ _ (S6 _ _ (S5 _ _ (S4 _ _ A3)))))))))))),n23_ rfl,by decide +kernel,okE0 (by decide +kernel) (by decide)⟩) (TgOs.cons (⟨_,.tup (S15 _ _ (S14 _ _ (S13 _ _ (S12 _ _ (S11 _ _ (S10 _ _ (S9 _ _ (S8 _ _ (S7 _ _ (S6 _ _ (S5 _ _ A4))))))))))) (.cons (dint 0 (by decide) (by decide)) (.cons (dint 1 (by decide) (by decide)) .nil)),n23_ rfl,by decide +kernel,okE0 (by decide +kernel) (by decide)⟩) (TgOs.cons (⟨_,.tup (S15 _ _ (S14 _ _ (S13 _ _ (S12 _ _ (S11 _ _ (S10 _ _ (S9 _ _ (S8 _ _ (S7 _ _ (S6 _ _ A5)))))))))) (.cons (dint 1 (by decide) (by decide)) (.cons (dint 1 (by decide) (by decide)) .nil)),n23_ rfl,by decide +kernel,okE0 (by decide +kernel) (by decide)⟩) (TgOs.cons (⟨_,.lst (S15 _ _ (S14 _ _ (S13 _ _ (S12 _ _ (S11 _ _ (S10 _ _ (S9 _ _ (S8 _ _ (S7 _ _ A6))))))))) ((hD.same (S1.trans (S2.trans (S3.trans (S4.trans S5))))).new n6) m6 (.cons (dint 0 (by decide) (by decide)) (.cons (dint 1 (by decide) (by decide)) .nil)),n23_ rfl,by decide +kernel,okE0 (by decide +kernel) (by decide)⟩) TgOs.nil)))))))))))))))
 have T2:TgOs N H15 100 2 20 [.ref p9,.ref p10,.ref p11,.ref p12,.ref p13]:=(TgOs.cons (⟨_,.tup (S15 _ _ (S14 _ _ (S13 _ _ (S12 _ _ (S11 _ _ (S10 _ _ A9)))))) (.cons (.tup (S15 _ _ (S14 _ _ (S13 _ _ (S12 _ _ (S11 _ _ (S10 _ _ (S9 _ _ A8))))))) (.cons (dint 0 (by decide) (by decide)) (.cons (dint 1 (by decide) (by decide)) .nil))) .nil),n23_ rfl,by decide +kernel,okE0 (by decide +kernel) (by decide)⟩) (TgOs.cons (⟨_,.tup (S15 _ _ (S14 _ _ (S13 _ _ (S12 _ _ (S11 _ _ A10))))) (.cons (dint 2 (by decide) (by decide)) (.cons (dint 4 (by decide) (by decide)) .nil)),n23_ rfl,by decide +kernel,okE0 (by decide +kernel) (by decide)⟩) (TgOs.cons (⟨_,.tup (S15 _ _ (S14 _ _ (S13 _ _ (S12 _ _ A11)))) (.cons (dint 1 (by decide) (by decide)) (.cons (dint 0 (by decide) (by decide)) .nil)),n23_ rfl,by decide +kernel,okE0 (by decide +kernel) (by decide)⟩) (TgOs.cons (⟨_,.tup (S15 _ _ (S14 _ _ (S13 _ _ A12))) (.cons (dint 0 (by decide) (by decide)) (.cons (dint 2 (by decide) (by decide)) .nil)),n23_ rfl,by decide +kernel,okE0 (by decide +kernel) (by decide)⟩) (TgOs.cons (⟨_,.tup (S15 _ _ (S14 _ _ A13)) (.cons (.bl true) (.cons (dint 1 (by decide) (by decide)) .nil)),n23_ rfl,by decide +kernel,okE0 (by decide +kernel) (by decide)⟩) TgOs.nil)))));refine ⟨_,rfl,l,20,rfl,st15,by decide,Xm (by decide),fun r Hz r0 r1 kz lz=>?_⟩;have TT:=T1.app T2;obtain ⟨v,hv,mv⟩:=Zf3 (xs:=[.non,.bl true,.bl false,.int 0,.int 1,.int (-1),.int (10 ^ Int.toNat 29),.str "",.str "a",.ref p1,.ref p2,.ref p3,.ref p4,.ref p5,.ref p6]++[.ref p9,.ref p10,.ref p11,.ref p12,.ref p13]) r0 (by exact r1);exact ⟨p15,_,r,v,rfl,rfl,SqL.of (kz _ _ (fun z=>st14.ne n15 z.symm) A15),hv,q _ _ (((S1.trans (S2.trans (S3.trans (S4.trans (S5.trans (S6.trans (S7.trans (S8.trans (S9.trans (S10.trans (S11.trans (S12.trans (S13.trans (S14.trans S15))))))))))))))).keep.trans kz) lz (TgO.keepS hN st15 (TT v mv) kz)⟩
abbrev Zfi:Nat→Sp|0=>fun _ _ _ _=>False|n+1=>Za8 n
abbrev Xg:Stmt:=top 84
theorem Xo {n:Nat} (F:Fun K "_law_bent" "_law_bent" Xg f fd) (Cac_:Cal P w K mg base "_law_bent" (n+2) ["_law_state_here","_law_thing"] (Zfi n)) (Ca_:a22_ P w K mg base) (Cg_:a23_ P w K mg base) (Ci_:a21_ P w K mg base):FnOk P w K mg base CX0 (n+3) f fd ["_law_state_here","_law_thing"] (Za8 n):=by
 have sc:FnScope ["_law_state_here","_law_thing","_law_at","_law_way","_law_more"] ["_law_state_here","_law_thing"] (Ze Xg):=fsc (by decide +kernel);refine F.ok sc (fun vs H Q E h=>by obtain ⟨l,N,k,v,d,rfl,_⟩:=h;rfl) fun cdv A outer s H vs Q E hr h=>?_;obtain ⟨l,N,k,v,d,rfl,hl,hN,hD,hd,hk,hn,hm,hok,q⟩:=h;have nd:=sc.nd;have hu:=Zlm hr;refine' ⟨_,?term,?read⟩
 case term=>refine' @Zd _ _ _ _ _ ?g1 ?g2;(case g1=>refine' @Y3 _ _ _ _ _ _ _ _ ?g3 ?g4 Z2;(case g3=>refine' @PW.pt _ _ _ ?g5;case g5=>refine' @Zes _ _ _ _ _ _ _ ?g6 ?g7;(case g6=>refine' @Zx _ _ _ (Zh Ys rfl T.b_isinstance Zf (Za (pv 1) (Za (Yy (v:=.ty "tuple") rfl T.b_tuple Yp rfl) Zb rfl) rfl)) (fun _=>rfl));case g7=>refine' @Zes _ _ _ _ _ _ _ (Z0 (Zqf (Nat.lt_of_succ_lt hu)) (pv 1) (Zn Zb) (Z4 _)) ?g8;case g8=>refine' @Zdj _ _ _ _ (Z0 Zeb (Zl Ca_ hr (by omega) rfl (Za (pv 0) (Za Zg Zb rfl) rfl)) Zg (Z4 _)));case g4=>refine' @Zd _ _ _ _ _ ?g9 ?ga;(case g9=>refine' @Zr _ _ (2) _ _ _ _ nd rfl (Or.inl rfl) (Zl Ca_ hr (by omega) rfl (Za (pv 0) (Za (Zh Zv rfl T.b_len Xh (Za (pv 1) Zb rfl)) Zb rfl) rfl)) (by rfl) (by first | exact Or.inl rfl | exact Or.inr rfl | assumption));case ga=>refine' @Zi _ _ _ ?gb;case gb=>refine' @Zm _ _ _ _ ?gc;case gc=>refine' @Zq _ _ _ _ _ _ _ _ Zaa ?gd ?ge;(case gd=>refine' @Zq _ _ _ _ _ _ _ _ Zaa ?gf ?gg;(case gf=>refine' @Xd _ _ _ _ _ _ _ _ _ _ Zbl (pv 1) X6 (X5 (pv 2)));case gg=>refine' @Zn _ _ _ _ _ ?gh;case gh=>refine' @Za _ _ _ _ _ ?gi Zb rfl;case gi=>refine' @Zl _ _ _ _ _ _ _ _ _ _ _ Cac_ hr (by omega) rfl ?gj (by decide) (by rfl) (by rfl);case gj=>refine' @Za _ _ _ _ _ (pv 0) ?gk rfl;case gk=>refine' @Za _ _ _ _ _ ?gl Zb rfl;case gl=>refine' @Yj _ _ _ _ _ _ _ Zbv (pv 1) (pv 2) (fun _ _=>rfl));case ge=>refine' @Xd _ _ _ _ _ _ _ _ _ _ Zbl (pv 1) (X5 (Zq Xu (pv 2) Zg)) X6);case g2=>refine' @Zd _ _ _ _ _ ?gm ?gn;(case gm=>refine' @Zr _ _ (3) _ _ _ _ nd rfl (Or.inl rfl) (Zl Ca_ hr (by omega) rfl (Za (pv 0) (Za Zg Zb rfl) rfl)) (by rfl) (by first | exact Or.inl rfl | exact Or.inr rfl | assumption));case gn=>refine' @Zd _ _ _ _ _ ?go ?gp;(case go=>refine' @Y3 _ _ _ _ _ _ _ _ ?gq ?gr Z2;(case gq=>refine' @PW.pt _ _ _ ?gs;case gs=>refine' @Zes _ _ _ _ _ _ _ ?gt ?gu;(case gt=>refine' @Zx _ _ _ (Zh Ys rfl T.b_isinstance Zf (Za (pv 1) (Za (Yy (v:=.ty "tuple") rfl T.b_tuple Yp rfl) Zb rfl) rfl)) (fun _=>rfl));case gu=>refine' @Zdj _ _ _ _ (Z0 Zkd (pv 3) Zg (Z4 _)));case gr=>refine' @Zd _ _ _ _ _ ?gv ?gw;(case gv=>refine' @Zr _ _ (4) _ _ _ _ nd rfl (Or.inl rfl) ?gx (by rfl) (by first | exact Or.inl rfl | exact Or.inr rfl | assumption);case gx=>refine' @Yd _ _ _ _ ?gy;case gy=>refine' @Za _ _ _ _ _ ?gz ?g10 rfl;(case gz=>refine' @Zq _ _ _ _ _ _ _ _ Zaa (pv 1) ?g11;case g11=>refine' @Xd _ _ _ _ _ _ _ _ _ _ Zbl (pv 1) (X5 (Zgw Zct Zg)) X6);case g10=>refine' @Za _ _ _ _ _ ?g12 ?g13 rfl;(case g12=>refine' @Xd _ _ _ _ _ _ _ _ _ _ Zbl (pv 1) X6 (X5 (Zgw Zct Zg)));case g13=>refine' @Za _ _ _ _ _ ?g14 ?g15 rfl;(case g14=>refine' @Xd _ _ _ _ _ _ _ _ _ _ Zbl (pv 1) (X5 Zg) X6);case g15=>refine' @Za _ _ _ _ _ ?g16 (Za (Yz Za4 rfl T.b_list Zdy (Za (pv 1) Zb rfl)) (Za (Zq Zaa (pv 1) (Zn (Za Zg Zb rfl))) Zb rfl) rfl) rfl;case g16=>refine' @Zls _ _ _ _ _ _ Zri (pv 1));case gw=>refine' @Zd _ _ _ _ _ ?g17 ?g18;(case g17=>refine' @Yx _ _ _ _ ?g19 (by rfl);case g19=>refine' @Zbb _ _ _ _ _ _ _ _ _ _ _ _ PySem.F.plainAttrs_list PySem.F.slot_list_append PySem.F.type_list_append Ym (pv 4) (Za (Zq Zaa (pv 1) (Zn (Za (pv 1) Zb rfl))) Zb rfl) (by rfl) (by rfl) (by rfl) (by rfl) (by rfl));case g18=>refine' @Zi _ _ _ ?g1a;case g1a=>refine' @Zm _ _ _ _ ?g1b;case g1b=>refine' @Yj _ _ _ _ _ _ _ Z9 (pv 4) (pv 3) (fun _ _=>rfl));case gp=>refine' @Zd _ _ _ _ _ ?g1c (Zi (Zm (Zl Cg_ hr (by omega) rfl (Za (pv 0) Zb rfl))));case g1c=>refine' @Y3 _ _ _ _ _ _ _ _ ?g1d ?g1e Z2;(case g1d=>refine' @PW.pt _ _ _ ?g1f;case g1f=>refine' @Zes _ _ _ _ _ _ _ ?g1g ?g1h;(case g1g=>refine' @Zx _ _ _ (Zl Ci_ hr (by omega) rfl (Za (pv 1) Zb rfl)) (fun _=>rfl));case g1h=>refine' @Zdj _ _ _ _ (Z0 Zkd (pv 3) Zg (Z4 _)));case g1e=>refine' @Zi _ _ _ ?g1i;case g1i=>refine' @Zm _ _ _ _ ?g1j;case g1j=>refine' @Zq _ _ _ _ _ _ _ _ Xu (pv 1) ?g1k;case g1k=>refine' @Yj _ _ _ _ _ _ _ Z9 ?g1l (pv 3) (fun _ _=>rfl);case g1l=>refine' @Yd _ _ _ _ (Za Zg (Za (Zgw Zct Zg) (Za Zg (Za Zg (Za (Zgw Zct Zg) (Za Zg Zb rfl) rfl) rfl) rfl) rfl) rfl)
 rcases hd.isT with ⟨a,xs,ds,rfl,rfl,ha,hs⟩ | e
 case inr =>
  obtain ⟨t,ty,ki⟩:=hd.ty (K:=K);rw [e] at ki;refine ⟨_,rfl,_,_,t,_,rfl,ty,ki,_,rfl,iteF (iteF ?_)⟩;refine ⟨_,rfl,l,9,rfl,hl,by decide,Xm (by decide),fun r H1 r0 r1 k1 l1=>?_⟩;have hd1:=Dt.keepS hN hl hd k1;obtain ⟨t',ty',ki'⟩:=hd1.ty (K:=K);rw [e] at ki';refine ⟨_,rfl,_,_,t',_,rfl,ty',ki',_,rfl,iteF (iteF ?_)⟩;refine ⟨_,rfl,N,k,v,d,rfl,hd1,_,rfl,?_⟩
  rcases hd1.isI with ⟨i,rfl,rfl,hi⟩ | e2
  · refine iteT ?_;refine ⟨_,rfl,_,_,rfl,rfl,_,rfl,?_⟩;refine ite2 (fun hlt=>?_) (fun _=>?_)
    · refine ⟨_,rfl,_,rfl,_,rfl,by show 6≤sizeLine; decide,fun p2 n2=>?_⟩;obtain ⟨w,hw,hm⟩:=Zf3 (xs:=[V.int 1,V.int (-1),V.int 2,V.int 30,V.int (-101),V.int 5]) r0 (n27_ hlt)
      obtain ⟨c,ec,hc⟩:∃ c,w=.int c∧c.natAbs≤101:=by
       simp only [n18_,n25_,or_false] at hm
       rcases hm with rfl | rfl | rfl | rfl | rfl | rfl <;> exact ⟨_,rfl,by decide⟩
      refine ⟨_,rfl,p2,_,r,w,rfl,rfl,SqL.of Zc,hw,i,c,rfl,ec,?_⟩;refine q _ _ (k1.trans (Keep.new n2)) (l1.new n2) ⟨.int (i+c),.int ?_,n55_ _,by show 1≤_; omega,okE0 rfl (by omega)⟩;have h1:2 ^ (k+1)=2 * 2 ^ k:=Nat.pow_succ';have h2:2 ^ 7≤2 ^ k:=n39_ (by decide) (by omega);have h3:=Int.natAbs_add_le i c;rw [h1];have h5:(2:Nat) ^ 7=128:=by decide
      omega
    · exact ⟨_,rfl,l,N,rfl,l1,hN,Dom.keepS hD k1 l1,fun Hy vy ky ly ty=>q _ _ (k1.trans ky) ly (ty.up (by omega) (by omega) (by omega))⟩
  · rw [e2];exact iteF (iteF ⟨_,rfl,l,N,rfl,l1,hN,Dom.keepS hD k1 l1,fun Hy vy ky ly ty=>q _ _ (k1.trans ky) ly (ty.up (by omega) (by omega) (by omega))⟩)
 have dep:PyData.depthAll ds+1≤n:=hn;obtain ⟨n,rfl⟩:∃ m,n=m+1:=⟨n-1,by omega⟩;have okds:=(Zaf.mp hok).2;have hz:1+Zt ds≤100000:=hm;have hlen:xs.length≤100000:=by rw [hs.len]; have:=Zdp ds; omega
 refine ⟨_,rfl,_,_,_,_,rfl,TyOf.tup ha,rfl,true,rfl,iteT ?_⟩;refine ⟨_,rfl,z0_,?_⟩;intro p1 n1;generalize hH1:upd H p1 _=H1;have S1:Same H H1:=by (rw [← hH1]; exact Same.new n1)
 have A1:=(congrFun hH1 p1).symm;rw [Zc] at A1;clear hH1;have st1:=(hl).same S1;refine ⟨a,p1,xs,rfl,rfl,SqT.of (S1 _ _ ha),SqT.of A1,_,rfl,?_⟩
 by_cases hx:xs=[]
 · rw [n26_ hx];refine iteF (iteF ?_);refine ⟨_,rfl,l,9,rfl,st1,by decide,Xm (by decide),fun r Hc r0 r1 kc lc=>?_⟩;have hc:=kc _ _ (fun z=>by subst z; exact absurd (((st1).neT (S1 _ _ ha)) rfl) id) (S1 _ _ ha);have Kc:Keep l H Hc:=(S1.keep).trans kc;have hsc:Dts N Hc k xs ds:=Dts.keepS hN hl hs Kc;refine ⟨_,rfl,_,_,_,_,rfl,TyOf.tup hc,rfl,true,rfl,iteT ?_⟩;refine ⟨_,rfl,_,_,rfl,rfl,_,rfl,?_⟩;refine ite2 (fun hlt=>?_) (fun _=>?_)
   · refine ⟨_,rfl,_,rfl,_,rfl,_,rfl,a,xs,rfl,hc,fun pc1 Hc1 Sc1 Ac1=>?_⟩;have stc1:=(lc).same Sc1;refine ⟨a,pc1,_,_,rfl,rfl,(Sc1 _ _ hc),Ac1,by have e:=sizeLine_eq; have:=Yu xs (some (-1)) none; (try simp only [n16_,n37_]); omega,fun pc2 Hc2 Sc2 Ac2=>?_⟩;have stc2:=(stc1).same Sc2;refine ⟨_,rfl,_,rfl,_,rfl,a,xs,rfl,(Sc2 _ _ (Sc1 _ _ hc)),fun pc3 Hc3 Sc3 Ac3=>?_⟩;have stc3:=(stc2).same Sc3;refine ⟨_,rfl,_,rfl,a,xs,rfl,(Sc3 _ _ (Sc2 _ _ (Sc1 _ _ hc))),fun pc4 Hc4 Sc4 Ac4=>?_⟩;have stc4:=(stc3).same Sc4;refine ⟨_,rfl,a,xs,rfl,SqT.of (Sc4 _ _ (Sc3 _ _ (Sc2 _ _ (Sc1 _ _ hc)))),?_⟩;intro pc5 nc5;generalize hHc5:upd Hc4 pc5 _=Hc5;have Sc5:Same Hc4 Hc5:=by (rw [← hHc5]; exact Same.new nc5)
     have Ac5:=(congrFun hHc5 pc5).symm;rw [Zc] at Ac5;clear hHc5;have stc5:=(stc4).same Sc5;refine ⟨_,rfl,a,xs,rfl,.inr (SqT.of (Sc5 _ _ (Sc4 _ _ (Sc3 _ _ (Sc2 _ _ (Sc1 _ _ hc)))))),?_⟩;intro pc6 nc6 mc6;generalize hHc6:upd Hc5 pc6 _=Hc6;have Sc6:Same Hc5 Hc6:=by (rw [← hHc6]; exact Same.new nc6)
     have Ac6:=(congrFun hHc6 pc6).symm;rw [Zc] at Ac6;clear hHc6;have stc6:=(stc5).same Sc6;refine ⟨_,rfl,z1_,?_⟩;intro pc7 nc7;generalize hHc7:upd Hc6 pc7 _=Hc7;have Sc7:Same Hc6 Hc7:=by (rw [← hHc7]; exact Same.new nc7)
     have Ac7:=(congrFun hHc7 pc7).symm;rw [Zc] at Ac7;clear hHc7;have stc7:=(stc6).same Sc7;refine ⟨a,pc7,_,_,rfl,rfl,(Sc7 _ _ (Sc6 _ _ (Sc5 _ _ (Sc4 _ _ (Sc3 _ _ (Sc2 _ _ (Sc1 _ _ hc))))))),Ac7,by have e:=sizeLine_eq; have:=Yu xs (some (-1)) none; (try simp only [n16_,n37_]); omega,fun pc8 Hc8 Sc8 Ac8=>?_⟩;have stc8:=(stc7).same Sc8;refine ⟨by show 6≤sizeLine; decide,?_⟩;intro pc9 nc9;generalize hHc9:upd Hc8 pc9 _=Hc9;have Sc9:Same Hc8 Hc9:=by (rw [← hHc9]; exact Same.new nc9)
     have Ac9:=(congrFun hHc9 pc9).symm;rw [Zc] at Ac9;clear hHc9;have stc9:=(stc8).same Sc9;refine ⟨_,rfl,.inl ⟨rfl,_,SqL.of Ac9⟩,_,rfl,_,rfl,z1_,?_⟩;intro pc10 nc10;generalize hHc10:upd Hc9 pc10 _=Hc10;have Sc10:Same Hc9 Hc10:=by (rw [← hHc10]; exact Same.new nc10)
     have Ac10:=(congrFun hHc10 pc10).symm;rw [Zc] at Ac10;clear hHc10;have stc10:=(stc9).same Sc10;refine ⟨a,pc10,_,_,rfl,rfl,(Sc10 _ _ (Sc9 _ _ (Sc8 _ _ (Sc7 _ _ (Sc6 _ _ (Sc5 _ _ (Sc4 _ _ (Sc3 _ _ (Sc2 _ _ (Sc1 _ _ hc)))))))))),Ac10,by have e:=sizeLine_eq; have:=Yu xs (some (-1)) none; (try simp only [n16_,n37_]); omega,fun pc11 Hc11 Sc11 Ac11=>?_⟩;have stc11:=(stc10).same Sc11;have QL:Hc11 pc9=some (.lst [.ref pc2,.ref pc3,.ref pc4,.ref pc5,.ref pc6,.ref pc8]):=(Sc11 _ _ (Sc10 _ _ Ac9));refine ⟨pc9,_,_,rfl,rfl,QL,by show 6 < sizeLine; decide,?_⟩;generalize hHz:upd Hc11 pc9 _=Hz;have Kz:Keep pc9 Hc11 Hz:=by (rw [← hHz]; exact Keep.upd)
     have Az:Hz pc9=some (.lst ([.ref pc2,.ref pc3,.ref pc4,.ref pc5,.ref pc6,.ref pc8]++[.ref pc11])):=by (rw [← hHz]; exact Zc)
     clear hHz;have Sz:Same Hc8 Hz:=fun b o e=>Kz b o (Zk e nc9) ((Sc9.trans (Sc10.trans Sc11)) b o e);have stz:StAt Hz l:=(stc11).keep Kz (fun z=>stc8.ne nc9 z);have dz:Dts N Hz (k+1) xs ds:=(hsc.same ((Sc1.trans (Sc2.trans (Sc3.trans (Sc4.trans (Sc5.trans (Sc6.trans (Sc7.trans Sc8))))))).trans Sz)).up (by omega);obtain ⟨es1,f1,g1,h1,m1⟩:=Dts.cutM dz (some (-1)) none;obtain ⟨es2,f2,g2,h2,m2⟩:=Dts.cutM dz none (some (-1));obtain ⟨es3,f3,g3,h3,m3⟩:=Dts.cutM dz (some 1) none;have U1:TgO N Hz (k+1) (n+3) (2 * nz (.tuple ds)+40) (.ref pc2):=⟨_,.tup (Sz _ _ (Sc8 _ _ (Sc7 _ _ (Sc6 _ _ (Sc5 _ _ (Sc4 _ _ (Sc3 _ _ Ac2))))))) (dz.app f1),by show PyData.depthAll _+1≤_; rw [Z7]; omega,by show 1+Zt _≤2 * (1+Zt ds)+40; rw [Yv]; omega,okS (dz.app f1) fun x hx=>(n34_.mp hx).elim (okds x) fun z=>okds x (m1 x z)⟩;have U2:TgO N Hz (k+1) (n+3) (2 * nz (.tuple ds)+40) (.ref pc3):=⟨_,.tup (Sz _ _ (Sc8 _ _ (Sc7 _ _ (Sc6 _ _ (Sc5 _ _ (Sc4 _ _ Ac3)))))) f2,by show PyData.depthAll _+1≤_; omega,by show 1+Zt _≤2 * (1+Zt ds)+40; omega,okS f2 fun x hx=>okds x (m2 x hx)⟩;have U3:TgO N Hz (k+1) (n+3) (2 * nz (.tuple ds)+40) (.ref pc4):=⟨_,.tup (Sz _ _ (Sc8 _ _ (Sc7 _ _ (Sc6 _ _ (Sc5 _ _ Ac4))))) f3,by show PyData.depthAll _+1≤_; omega,by show 1+Zt _≤2 * (1+Zt ds)+40; omega,okS f3 fun x hx=>okds x (m3 x hx)⟩;have U4:TgO N Hz (k+1) (n+3) (2 * nz (.tuple ds)+40) (.ref pc5):=⟨_,.tup (Sz _ _ (Sc8 _ _ (Sc7 _ _ (Sc6 _ _ Ac5)))) dz.rev,by show PyData.depthAll _+1≤_; rw [Zcs]; omega,by show 1+Zt _≤2 * (1+Zt ds)+40; rw [Zgk]; omega,okS dz.rev fun x hx=>okds x (List.mem_reverse.mp hx)⟩;have U5:TgO N Hz (k+1) (n+3) (2 * nz (.tuple ds)+40) (.ref pc6):=⟨_,.lst (Sz _ _ (Sc8 _ _ (Sc7 _ _ Ac6))) (((Dom.keepS hD Kc lc).same (Sc1.trans (Sc2.trans (Sc3.trans (Sc4.trans Sc5))))).new nc6) mc6 dz,by show PyData.depthAll _+1≤_; omega,by show 1+Zt _≤2 * (1+Zt ds)+40; omega,okE0 rfl (by omega)⟩;have U6:TgO N Hz (k+1) (n+3) (2 * nz (.tuple ds)+40) (.ref pc8):=⟨_,.tup (Sz _ _ Ac8) (dz.app (.cons (dint 0 (by omega) (by decide)) .nil)),by show PyData.depthAll _+1≤_; rw [Z7]; simp only [PyData.depthAll,PyData.depth]; omega,by show 1+Zt _≤2 * (1+Zt ds)+40; rw [Yv]; simp only [Zt,nz]; omega,okS (dz.app (.cons (dint 0 (by omega) (by decide)) .nil)) fun x hx=>(n34_.mp hx).elim (okds x) fun z=>by (rw [n8_.mp z]; rfl)⟩;have hz':Hz a=some (.tup xs):=Sz _ _ (Sc8 _ _ (Sc7 _ _ (Sc6 _ _ (Sc5 _ _ (Sc4 _ _ (Sc3 _ _ (Sc2 _ _ (Sc1 _ _ hc))))))));have U7:TgO N Hz (k+1) (n+3) (2 * nz (.tuple ds)+40) (.ref pc11):=⟨_,.tup (Kz _ _ (Zh2 Ac11 QL (by intro z; cases z)) Ac11) (dz.app (.cons (.tup hz' dz) .nil)),by show PyData.depthAll _+1≤_; rw [Z7]; simp only [PyData.depthAll,PyData.depth]; omega,by show 1+Zt _≤2 * (1+Zt ds)+40; rw [Yv]; simp only [Zt,nz]; omega,okS (dz.app (.cons (.tup hz' dz) .nil)) fun x hx=>(n34_.mp hx).elim (okds x) fun z=>by (rw [n8_.mp z]; exact hok)⟩
     obtain ⟨w,hw,mw⟩:=Zf3 (xs:=[.ref pc2,.ref pc3,.ref pc4,.ref pc5,.ref pc6,.ref pc8]++[.ref pc11]) r0 (by exact n27_ hlt);have TU:=TgOs.app (TgOs.cons U1 (TgOs.cons U2 (TgOs.cons U3 (TgOs.cons U4 (TgOs.cons U5 (TgOs.cons U6 TgOs.nil)))))) (TgOs.cons U7 TgOs.nil);refine ⟨_,rfl,_,rfl,pc9,_,r,w,rfl,rfl,SqL.of Az,hw,q _ _ ?_ stz (TU w mw)⟩;exact fun b o nb e=>Sz b o ((Sc1.trans (Sc2.trans (Sc3.trans (Sc4.trans (Sc5.trans (Sc6.trans (Sc7.trans Sc8))))))) b o (Kc b o nb e))
   · refine ⟨_,rfl,N,k,_,_,rfl,.tup hc hsc,_,rfl,iteF (iteF ?_)⟩;exact ⟨_,rfl,l,N,rfl,lc,hN,Dom.keepS hD Kc lc,fun Hy vy ky ly ty=>q _ _ (Kc.trans ky) ly (ty.up (by omega) (by omega) (by omega))⟩
 rw [n14_ hx];refine iteT ?_;refine ⟨_,rfl,l,5,rfl,st1,by decide,Xm (by decide),fun r5 H2 r50 r51 k2 l2=>?_⟩;have K2:Keep l H H2:=S1.keep.trans k2;have h2:H2 a=some (.tup xs):=K2 _ _ (hl.neT ha) ha;refine ⟨_,_,rfl,rfl,_,rfl,?_⟩;refine ite2 (fun _=>?_) (fun _=>?_)
 case refine_2 =>
  refine ⟨_,rfl,l,9,rfl,l2,by decide,Xm (by decide),fun r Hc r0 r1 kc lc=>?_⟩;have hc:=kc _ _ (fun z=>by subst z; exact absurd (((l2).neT h2) rfl) id) h2;have Kc:Keep l H Hc:=(K2).trans kc;have hsc:Dts N Hc k xs ds:=Dts.keepS hN hl hs Kc;refine ⟨_,rfl,_,_,_,_,rfl,TyOf.tup hc,rfl,true,rfl,iteT ?_⟩;refine ⟨_,rfl,_,_,rfl,rfl,_,rfl,?_⟩;refine ite2 (fun hlt=>?_) (fun _=>?_)
  · refine ⟨_,rfl,_,rfl,_,rfl,_,rfl,a,xs,rfl,hc,fun pc1 Hc1 Sc1 Ac1=>?_⟩;have stc1:=(lc).same Sc1;refine ⟨a,pc1,_,_,rfl,rfl,(Sc1 _ _ hc),Ac1,by have e:=sizeLine_eq; have:=Yu xs (some (-1)) none; (try simp only [n16_,n37_]); omega,fun pc2 Hc2 Sc2 Ac2=>?_⟩;have stc2:=(stc1).same Sc2;refine ⟨_,rfl,_,rfl,_,rfl,a,xs,rfl,(Sc2 _ _ (Sc1 _ _ hc)),fun pc3 Hc3 Sc3 Ac3=>?_⟩;have stc3:=(stc2).same Sc3;refine ⟨_,rfl,_,rfl,a,xs,rfl,(Sc3 _ _ (Sc2 _ _ (Sc1 _ _ hc))),fun pc4 Hc4 Sc4 Ac4=>?_⟩;have stc4:=(stc3).same Sc4;refine ⟨_,rfl,a,xs,rfl,SqT.of (Sc4 _ _ (Sc3 _ _ (Sc2 _ _ (Sc1 _ _ hc)))),?_⟩;intro pc5 nc5;generalize hHc5:upd Hc4 pc5 _=Hc5;have Sc5:Same Hc4 Hc5:=by (rw [← hHc5]; exact Same.new nc5)
    have Ac5:=(congrFun hHc5 pc5).symm;rw [Zc] at Ac5;clear hHc5;have stc5:=(stc4).same Sc5;refine ⟨_,rfl,a,xs,rfl,.inr (SqT.of (Sc5 _ _ (Sc4 _ _ (Sc3 _ _ (Sc2 _ _ (Sc1 _ _ hc)))))),?_⟩;intro pc6 nc6 mc6;generalize hHc6:upd Hc5 pc6 _=Hc6;have Sc6:Same Hc5 Hc6:=by (rw [← hHc6]; exact Same.new nc6)
    have Ac6:=(congrFun hHc6 pc6).symm;rw [Zc] at Ac6;clear hHc6;have stc6:=(stc5).same Sc6;refine ⟨_,rfl,z1_,?_⟩;intro pc7 nc7;generalize hHc7:upd Hc6 pc7 _=Hc7;have Sc7:Same Hc6 Hc7:=by (rw [← hHc7]; exact Same.new nc7)
    have Ac7:=(congrFun hHc7 pc7).symm;rw [Zc] at Ac7;clear hHc7;have stc7:=(stc6).same Sc7;refine ⟨a,pc7,_,_,rfl,rfl,(Sc7 _ _ (Sc6 _ _ (Sc5 _ _ (Sc4 _ _ (Sc3 _ _ (Sc2 _ _ (Sc1 _ _ hc))))))),Ac7,by have e:=sizeLine_eq; have:=Yu xs (some (-1)) none; (try simp only [n16_,n37_]); omega,fun pc8 Hc8 Sc8 Ac8=>?_⟩;have stc8:=(stc7).same Sc8;refine ⟨by show 6≤sizeLine; decide,?_⟩;intro pc9 nc9;generalize hHc9:upd Hc8 pc9 _=Hc9;have Sc9:Same Hc8 Hc9:=by (rw [← hHc9]; exact Same.new nc9)
    have Ac9:=(congrFun hHc9 pc9).symm;rw [Zc] at Ac9;clear hHc9;have stc9:=(stc8).same Sc9;refine ⟨_,rfl,.inl ⟨rfl,_,SqL.of Ac9⟩,_,rfl,_,rfl,z1_,?_⟩;intro pc10 nc10;generalize hHc10:upd Hc9 pc10 _=Hc10;have Sc10:Same Hc9 Hc10:=by (rw [← hHc10]; exact Same.new nc10)
    have Ac10:=(congrFun hHc10 pc10).symm;rw [Zc] at Ac10;clear hHc10;have stc10:=(stc9).same Sc10;refine ⟨a,pc10,_,_,rfl,rfl,(Sc10 _ _ (Sc9 _ _ (Sc8 _ _ (Sc7 _ _ (Sc6 _ _ (Sc5 _ _ (Sc4 _ _ (Sc3 _ _ (Sc2 _ _ (Sc1 _ _ hc)))))))))),Ac10,by have e:=sizeLine_eq; have:=Yu xs (some (-1)) none; (try simp only [n16_,n37_]); omega,fun pc11 Hc11 Sc11 Ac11=>?_⟩;have stc11:=(stc10).same Sc11;have QL:Hc11 pc9=some (.lst [.ref pc2,.ref pc3,.ref pc4,.ref pc5,.ref pc6,.ref pc8]):=(Sc11 _ _ (Sc10 _ _ Ac9));refine ⟨pc9,_,_,rfl,rfl,QL,by show 6 < sizeLine; decide,?_⟩;generalize hHz:upd Hc11 pc9 _=Hz;have Kz:Keep pc9 Hc11 Hz:=by (rw [← hHz]; exact Keep.upd)
    have Az:Hz pc9=some (.lst ([.ref pc2,.ref pc3,.ref pc4,.ref pc5,.ref pc6,.ref pc8]++[.ref pc11])):=by (rw [← hHz]; exact Zc)
    clear hHz;have Sz:Same Hc8 Hz:=fun b o e=>Kz b o (Zk e nc9) ((Sc9.trans (Sc10.trans Sc11)) b o e);have stz:StAt Hz l:=(stc11).keep Kz (fun z=>stc8.ne nc9 z);have dz:Dts N Hz (k+1) xs ds:=(hsc.same ((Sc1.trans (Sc2.trans (Sc3.trans (Sc4.trans (Sc5.trans (Sc6.trans (Sc7.trans Sc8))))))).trans Sz)).up (by omega);obtain ⟨es1,f1,g1,h1,m1⟩:=Dts.cutM dz (some (-1)) none;obtain ⟨es2,f2,g2,h2,m2⟩:=Dts.cutM dz none (some (-1));obtain ⟨es3,f3,g3,h3,m3⟩:=Dts.cutM dz (some 1) none;have U1:TgO N Hz (k+1) (n+3) (2 * nz (.tuple ds)+40) (.ref pc2):=⟨_,.tup (Sz _ _ (Sc8 _ _ (Sc7 _ _ (Sc6 _ _ (Sc5 _ _ (Sc4 _ _ (Sc3 _ _ Ac2))))))) (dz.app f1),by show PyData.depthAll _+1≤_; rw [Z7]; omega,by show 1+Zt _≤2 * (1+Zt ds)+40; rw [Yv]; omega,okS (dz.app f1) fun x hx=>(n34_.mp hx).elim (okds x) fun z=>okds x (m1 x z)⟩;have U2:TgO N Hz (k+1) (n+3) (2 * nz (.tuple ds)+40) (.ref pc3):=⟨_,.tup (Sz _ _ (Sc8 _ _ (Sc7 _ _ (Sc6 _ _ (Sc5 _ _ (Sc4 _ _ Ac3)))))) f2,by show PyData.depthAll _+1≤_; omega,by show 1+Zt _≤2 * (1+Zt ds)+40; omega,okS f2 fun x hx=>okds x (m2 x hx)⟩;have U3:TgO N Hz (k+1) (n+3) (2 * nz (.tuple ds)+40) (.ref pc4):=⟨_,.tup (Sz _ _ (Sc8 _ _ (Sc7 _ _ (Sc6 _ _ (Sc5 _ _ Ac4))))) f3,by show PyData.depthAll _+1≤_; omega,by show 1+Zt _≤2 * (1+Zt ds)+40; omega,okS f3 fun x hx=>okds x (m3 x hx)⟩;have U4:TgO N Hz (k+1) (n+3) (2 * nz (.tuple ds)+40) (.ref pc5):=⟨_,.tup (Sz _ _ (Sc8 _ _ (Sc7 _ _ (Sc6 _ _ Ac5)))) dz.rev,by show PyData.depthAll _+1≤_; rw [Zcs]; omega,by show 1+Zt _≤2 * (1+Zt ds)+40; rw [Zgk]; omega,okS dz.rev fun x hx=>okds x (List.mem_reverse.mp hx)⟩;have U5:TgO N Hz (k+1) (n+3) (2 * nz (.tuple ds)+40) (.ref pc6):=⟨_,.lst (Sz _ _ (Sc8 _ _ (Sc7 _ _ Ac6))) (((Dom.keepS hD Kc lc).same (Sc1.trans (Sc2.trans (Sc3.trans (Sc4.trans Sc5))))).new nc6) mc6 dz,by show PyData.depthAll _+1≤_; omega,by show 1+Zt _≤2 * (1+Zt ds)+40; omega,okE0 rfl (by omega)⟩;have U6:TgO N Hz (k+1) (n+3) (2 * nz (.tuple ds)+40) (.ref pc8):=⟨_,.tup (Sz _ _ Ac8) (dz.app (.cons (dint 0 (by omega) (by decide)) .nil)),by show PyData.depthAll _+1≤_; rw [Z7]; simp only [PyData.depthAll,PyData.depth]; omega,by show 1+Zt _≤2 * (1+Zt ds)+40; rw [Yv]; simp only [Zt,nz]; omega,okS (dz.app (.cons (dint 0 (by omega) (by decide)) .nil)) fun x hx=>(n34_.mp hx).elim (okds x) fun z=>by (rw [n8_.mp z]; rfl)⟩;have hz':Hz a=some (.tup xs):=Sz _ _ (Sc8 _ _ (Sc7 _ _ (Sc6 _ _ (Sc5 _ _ (Sc4 _ _ (Sc3 _ _ (Sc2 _ _ (Sc1 _ _ hc))))))));have U7:TgO N Hz (k+1) (n+3) (2 * nz (.tuple ds)+40) (.ref pc11):=⟨_,.tup (Kz _ _ (Zh2 Ac11 QL (by intro z; cases z)) Ac11) (dz.app (.cons (.tup hz' dz) .nil)),by show PyData.depthAll _+1≤_; rw [Z7]; simp only [PyData.depthAll,PyData.depth]; omega,by show 1+Zt _≤2 * (1+Zt ds)+40; rw [Yv]; simp only [Zt,nz]; omega,okS (dz.app (.cons (.tup hz' dz) .nil)) fun x hx=>(n34_.mp hx).elim (okds x) fun z=>by (rw [n8_.mp z]; exact hok)⟩
    obtain ⟨w,hw,mw⟩:=Zf3 (xs:=[.ref pc2,.ref pc3,.ref pc4,.ref pc5,.ref pc6,.ref pc8]++[.ref pc11]) r0 (by exact n27_ hlt);have TU:=TgOs.app (TgOs.cons U1 (TgOs.cons U2 (TgOs.cons U3 (TgOs.cons U4 (TgOs.cons U5 (TgOs.cons U6 TgOs.nil)))))) (TgOs.cons U7 TgOs.nil);refine ⟨_,rfl,_,rfl,pc9,_,r,w,rfl,rfl,SqL.of Az,hw,q _ _ ?_ stz (TU w mw)⟩;exact fun b o nb e=>Sz b o ((Sc1.trans (Sc2.trans (Sc3.trans (Sc4.trans (Sc5.trans (Sc6.trans (Sc7.trans Sc8))))))) b o (Kc b o nb e))
  · refine ⟨_,rfl,N,k,_,_,rfl,.tup hc hsc,_,rfl,iteF (iteF ?_)⟩;exact ⟨_,rfl,l,N,rfl,lc,hN,Dom.keepS hD Kc lc,fun Hy vy ky ly ty=>q _ _ (Kc.trans ky) ly (ty.up (by omega) (by omega) (by omega))⟩
 have hpos:0 < xs.length:=by rcases xs with _ | ⟨x,xs⟩; exact absurd rfl hx; simp
 refine ⟨_,rfl,_,rfl,a,xs,rfl,.inr (SqT.of h2),l,xs.length,rfl,l2,by omega,Xm (by rw [p64]; omega),fun r H3 r0 r1 k3 l3=>?_⟩;obtain ⟨rn,rfl⟩:=Int.eq_ofNat_of_zero_le r0;have hrn:rn < xs.length:=by omega
 have K3:Keep l H H3:=K2.trans k3;have h3:H3 a=some (.tup xs):=K3 _ _ (hl.neT ha) ha;refine ⟨_,rfl,_,rfl,_,rfl,a,xs,rfl,h3,fun p4 H4 S4 A4=>?_⟩;rw [Zjl] at A4;have K4:Keep l H H4:=K3.trans S4.keep;obtain ⟨dx,edx,hdx⟩:=hs.get (n0_ hrn);obtain ⟨gn,gd⟩:=Zd4 edx;refine ⟨_,rfl,_,rfl,_,rfl,a,xs,rn,xs[rn],rfl,rfl,SqT.of (S4 _ _ h3),Xz (n0_ hrn),l,N,k,xs[rn],dx,rfl,l3.same S4,hN,Dom.keepS hD K4 (l3.same S4),Dt.keepS hN hl hdx K4,hk,by omega,by omega,okds dx (n6_ edx),fun H5 v5 k5 l5 t5=>?_⟩;obtain ⟨d5,b5,c5,e5,x5,x51,x52,x5k⟩:=t5;have st4:StAt H4 l:=l3.same S4;have a4:=k5 _ _ (st4.neT A4) A4;have K5:Keep l H H5:=K4.trans k5;refine ⟨z1_,?_⟩;intro p6 n6;generalize hH6:upd H5 p6 _=H6;have S6:Same H5 H6:=by (rw [← hH6]; exact Same.new n6)
 have A6:=(congrFun hH6 p6).symm;rw [Zc] at A6;clear hH6;refine ⟨p4,p6,_,_,rfl,rfl,S6 _ _ a4,A6,by have e:=sizeLine_eq; simp only [n17_,n68_,n44_,n16_,n37_]; omega,fun p7 H7 S7 A7=>?_⟩;have K7:Keep l H H7:=K5.trans (S6.trans S7).keep;have h7:H7 a=some (.tup xs):=K7 _ _ (hl.neT ha) ha;refine ⟨_,rfl,_,rfl,_,_,rfl,rfl,_,rfl,a,xs,rfl,h7,fun p8 H8 S8 A8=>?_⟩;rw [show ((rn:Int)+1)=((rn+1:Nat):Int) from rfl,Zb0] at A8;refine ⟨p7,p8,_,_,rfl,rfl,S8 _ _ A7,A8,by have e:=sizeLine_eq; simp only [n17_,n68_,n44_,n16_,n37_]; omega,fun p9 H9 S9 A9=>?_⟩;have K9:Keep l H H9:=K7.trans (S8.trans S9).keep;have s9:Same H5 H9:=S6.trans (S7.trans (S8.trans S9));have d9:Dts N H9 (k+1) xs ds:=(Dts.keepS hN hl hs K9).up (by omega);refine q _ _ K9 (l5.same s9) ⟨.tuple ((ds.take rn++[d5])++ds.drop (rn+1)),.tup A9 (((d9.take rn).app (.cons (b5.same s9) .nil)).app (d9.drop (rn+1))),?_,?_,?_⟩
 · show PyData.depthAll _+1≤_
   rw [Z7,Z7];have z1:=Zb2 rn ds;have z2:=Zb4 (rn+1) ds;simp only [PyData.depthAll];omega
 · show 1+Zt _≤2 * (1+Zt ds)+40
   rw [Yv,Yv];simp only [Zt];omega
 · refine okT (((d9.take rn).app (.cons (b5.same s9) .nil)).app (d9.drop (rn+1))) x51 x52 fun x hx=>?_;have m60:∀ x∈ds,okB (60 * x5) x=true:=fun x hx=>Za5 ⟨x5,rfl⟩ (okds x hx)
   rcases n34_.mp hx with hx | hx
   · rcases n34_.mp hx with hx | hx
     · exact m60 x (n46_ hx)
     · rw [n8_.mp hx]; exact x5k
   · exact m60 x (n48_ hx)
theorem Ze2 (F:Fun K "_law_bent" "_law_bent" Xg f fd):FnOk P w K mg base CX0 2 f fd ["_law_state_here","_law_thing"] (Zfi 0):=by
 have sc:FnScope ["_law_state_here","_law_thing","_law_at","_law_way","_law_more"] ["_law_state_here","_law_thing"] (Ze Xg):=fsc (by decide +kernel);exact F.ok sc (fun _ _ _ _ h=>h.elim) fun _ _ _ _ _ _ _ _ _ h=>h.elim
abbrev Zcm:Stmt:=top 49
theorem Zf0 (F:Fun K "places_of" "places_of" Zcm f fd):FnOk P w K mg base CX0 1 f fd ["rows"] Zef:=by
 have sc:FnScope ["rows"] ["rows"] (Ze Zcm):=fsc (by decide +kernel);refine F.ok sc (fun vs H Q E h=>by obtain ⟨N,k,a,us,ds,rfl,_⟩:=h;rfl) fun cdv A outer s H vs Q E hr h=>?_;obtain ⟨N,k,a,us,ds,rfl,ha,hs,ht,q⟩:=h;refine' ⟨_,?term,?read⟩
 case term=>refine' @Zi _ _ _ ?g1;case g1=>refine' @Zm _ _ _ _ ?g2;case g2=>refine' @Zbq _ _ _ _ _ _ _ _ ?g3 ?g4 Zg;(case g3=>refine' @Zx _ _ _ (pv 0) (fun _=>rfl));case g4=>refine' @Zh _ _ _ _ _ _ _ _ _ Zv rfl T.b_len Xh ?g5 (by decide) (by decide) (by rfl) (by rfl);case g5=>refine' @Za _ _ _ _ _ ?g6 Zb rfl;case g6=>refine' @Yj _ _ _ _ _ _ _ (Zl7 K rfl) (pv 0) Zg (fun _ _=>rfl)
 refine ⟨_,rfl,_,.inr (.inl ⟨us,SqT.of ha,rfl⟩),?_⟩;cases hs with
 | nil=>exact iteF q
 | cons h hs =>
   rename_i r us' ds' dx
   rcases h.isT with ⟨p,xs,es,rfl,rfl,hp,he⟩ | e
   · refine iteT ⟨_,rfl,a,_,0,_,.t,rfl,rfl,SqT.of ha,Xz rfl,p,_,rfl,.inr (SqT.of hp),?_⟩;rw [he.len];exact q
   · have:=n42_.mp ht _ n15_
     rw [e] at this; cases this
abbrev Zba:Stmt:=top 50
theorem Zhr (F:Fun K "are_rows" "are_rows" Zba f fd) (Cb_:a24_ P w K mg base) (Cad_:a25_ P w K mg base):FnOk P w K mg base CX0 5 f fd ["thing"] Zgz:=by
 have sc:FnScope ["thing","places"] ["thing"] (Ze Zba):=fsc (by decide +kernel);refine F.ok sc (fun vs H Q E h=>by obtain ⟨N,k,v,d,rfl,_⟩:=h;rfl) fun cdv A outer s H vs Q E hr h=>?_;obtain ⟨N,k,v,d,rfl,h,hk,hz,q⟩:=h;have nd:=sc.nd;refine' ⟨_,?term,?read⟩
 case term=>refine' @Zd _ _ _ _ _ ?g1 ?g2;(case g1=>refine' @Y3 _ _ _ _ _ _ _ _ ?g3 (Zi (Zm Zad)) Z2;case g3=>refine' @PW.pt _ _ _ ?g4;case g4=>refine' @Zdw _ _ _ _ _ _ _ ?g5 ?g6;(case g5=>refine' @Xb _ _ _ _ ?g7;case g7=>refine' @Zx _ _ _ (Zh Ys rfl T.b_isinstance Zf (Za (pv 0) (Za (Yy (v:=.ty "tuple") rfl T.b_tuple Yp rfl) Zb rfl) rfl)) (fun _=>rfl));case g6=>refine' @Zcr _ _ _ _ (Z0 Zeb (Zh Zv rfl T.b_len Xh (Za (pv 0) Zb rfl)) (Zk2 T.n_MOST_ROWS rfl) (Z4 _)));case g2=>refine' @Zd _ _ _ _ _ ?g8 ?g9;(case g8=>refine' @Y3 _ _ _ _ _ _ _ _ ?ga (Zi (Zm Zad)) Z2;case ga=>refine' @Xb _ _ _ _ ?gb;case gb=>refine' @Zx _ _ _ ?gc (fun _=>rfl);case gc=>refine' @Zh _ _ _ _ _ _ _ _ _ (Y9 rfl) rfl T.b_all Zbu ?gd (by decide) (by decide) (by rfl) (by rfl);case gd=>refine' @Za _ _ _ _ _ ?ge Zb rfl;case ge=>refine' @Y5 _ _ _ _ _ _ _ (["row"]) ([none]) _ _ _ _ _ rfl (Z3 (by decide) rfl (by decide) rfl rfl) (Zdb (pv 0)) (fun _ _ _ _=>pgB 0) (fun _ _ _ _=>Zp) (fun _ _ _ _=>Zh (Zf7 K rfl) rfl T.b_isinstance Zf (Za (pv 0) (Za (Yy (v:=.ty "tuple") rfl T.b_tuple Yp rfl) Zb rfl) rfl)) (by intro _ ; rfl));case g9=>refine' @Zd _ _ _ _ _ ?gf ?gg;(case gf=>refine' @Zr _ _ (1) _ _ _ _ nd rfl (Or.inr rfl) (Zl Cad_ hr (by decide) rfl (Za (pv 0) Zb rfl)) (by rfl) (by first | exact Or.inl rfl | exact Or.inr rfl | assumption));case gg=>refine' @Zi _ _ _ ?gh;case gh=>refine' @Zm _ _ _ _ ?gi;case gi=>refine' @Zh _ _ _ _ _ _ _ _ _ (Y9 rfl) rfl T.b_all Zbu ?gj (by decide) (by decide) (by rfl) (by rfl);case gj=>refine' @Za _ _ _ _ _ ?gk Zb rfl;case gk=>refine' @Y5 _ _ _ _ _ _ _ (["row","places"]) ([none,some 1]) _ _ _ _ _ rfl (Yc (XN:=["thing","places"]) (Scope.names (Ze Zba)) rfl rfl rfl (fun _ h=>Z1 h) (by decide +kernel) rfl) (Zdb (pv 0)) (fun _ _ _ _=>pgB 0) (fun _ _ _ _=>Zp) (fun _ _ _ _=>Zl Cb_ hr (by decide) rfl (Za (pv 0) (Za (pv 1) Zb rfl) rfl)) (by intro _ ; rfl)
 rcases h.isT with ⟨a,us,ds,rfl,rfl,ha,hs⟩ | e
 case inr =>
  obtain ⟨t,ty,ki⟩:=h.ty (K:=K);refine ⟨_,rfl,_,_,t,_,rfl,ty,ki,_,rfl,?_⟩;rw [e]; rw [Zjm e] at q;exact iteT (iteT (q _ (Same.refl H)))
 refine ⟨_,rfl,_,_,_,_,rfl,TyOf.tup ha,rfl,true,rfl,iteF ?_⟩;have hl:=hs.len;have hz1:1+Zt ds≤1000:=hz;have h1000:us.length≤1000:=by have:=Zdp ds; omega
 refine ⟨_,rfl,a,us,rfl,.inr (SqT.of ha),_,_,rfl,rfl,_,rfl,?_⟩;have qe:∀ H',Same H H'→Q (.bl (decide (ds.length≤60) && ds.all isT && ds.all (Y1 (wd1 ds)))) H':=q;refine ite2 (fun h60=>?_) (fun h60=>?_)
 · have z:¬ ds.length≤60:=by have:(60:Int) < us.length:=n27_ h60; omega
   rw [n14_ z] at qe;exact qe _ (Same.refl H)
 have z:ds.length≤60:=by have:¬ (60:Int) < us.length:=fun z=>h60 (n26_ z); omega
 rw [n26_ z,Bool.true_and] at qe;refine ⟨_,rfl,a,rfl,⟨_,SqT.of ha⟩,fun D nD=>?_⟩;refine lc_T (k:=.t) (vs:=us) RB hRB (ds.map isT) (by simp [hl]) h1000 nD ha (fun i w H2 C hw s2 c=>?_) (fun H2 us' s2 e2 a2=>?_)
 · obtain ⟨dx,ed,hdx⟩:=hs.get hw;obtain ⟨t,ty,ki⟩:=(hdx.same s2).ty (K:=K);exact ⟨_,rfl,_,_,t,_,rfl,ty,ki,c _ _ (isT dx) (Same.refl _) (by rw [n3_,ed]; rfl) rfl⟩
 rw [a2.bls] at e2;refine ⟨D,ds.map isT,rfl,SqL.of e2,_,rfl,?_⟩;have z2:(ds.map isT).all id=ds.all isT:=by rw [List.all_map]; rfl
 rw [z2];cases hT:ds.all isT with
 | false =>
   rw [hT,Bool.false_and] at qe;exact iteT (qe _ s2)
 | true =>
   rw [hT,Bool.true_and] at qe;refine iteF ?_;refine ⟨_,rfl,N,k,a,us,ds,rfl,s2 _ _ ha,hs.same s2,hT,?_⟩;refine ⟨_,rfl,a,rfl,⟨_,SqT.of (s2 _ _ ha)⟩,fun E nE=>?_⟩;refine lc_T (k:=.t) (vs:=us) RB hRB (ds.map (Y1 (wd1 ds))) (by simp [hl]) h1000 nE (show SK.t.At H2 a us from s2 _ _ ha) (fun i w H3 C hw s3 c=>?_) (fun H3 us3 s3 e3 a3=>?_)
   · obtain ⟨dx,ed,hdx⟩:=hs.get hw;have zx:=Zkw ed;exact ⟨_,rfl,_,rfl,N,k,w,dx,wd1 ds,rfl,hdx.same (s2.trans s3),hk,n24_ zx hz,fun H5 s5=>c _ _ (Y1 (wd1 ds) dx) s5 (by rw [n3_,ed]; rfl) rfl⟩
   · rw [a3.bls] at e3;refine ⟨E,_,rfl,SqL.of e3,?_⟩;have z3:(ds.map (Y1 (wd1 ds))).all id=ds.all (Y1 (wd1 ds)):=by rw [List.all_map]; rfl
     rw [z3];exact qe _ (s2.trans s3)
abbrev X7:Stmt:=top 51
theorem Zda (F:Fun K "look_at_rows" "look_at_rows" X7 f fd) {cl:Str→Addr} (Z:Ek K mg cl) (Cb_:a24_ P w K mg base) (Caj_:a26_ P w K mg base):FnOk P w K mg base (CX1 P w) 6 f fd ["rows","rights"] (Zan (cl "NoRows")):=by
 have sc:FnScope ["rows","rights"] ["rows","rights"] (Ze X7):=fsc (by decide +kernel);refine F.okX sc (fun vs H Q E h=>?_) (fun cdv A outer s H vs Q E hr h=>?_)
 · obtain ⟨N,k,v,u,d1,d2,rfl,_⟩:=h;rfl
 · obtain ⟨N,k,v,u,d1,d2,rfl,h1,h2,hk,hz1,hz2,q⟩:=h;refine' ⟨_,?term,?read⟩
   case term=>refine' @Zd _ _ _ _ _ ?g1 ?g2;(case g1=>refine' @Y3 _ _ _ _ _ _ _ _ ?g3 (Zi (Zi0 Zl0 rfl rfl Z.m_NoRows Z.e_NoRows)) Z2;case g3=>refine' @Xb _ _ _ _ ?g4;case g4=>refine' @Zx _ _ _ (Zl Caj_ hr (by decide) rfl (Za (pv 0) Zb rfl)) (fun _=>rfl));case g2=>refine' @Zi _ _ _ ?g5;case g5=>refine' @Y3 _ _ _ _ _ _ _ _ ?g6 (Zi (Zi0 Zl0 rfl rfl Z.m_NoRows Z.e_NoRows)) Z2;case g6=>refine' @Xb _ _ _ _ ?g7;case g7=>refine' @Zx _ _ _ (Zl Cb_ hr (by decide) rfl (Za (pv 1) (Za (Zh Zv rfl T.b_len Xh (Za (pv 0) Zb rfl)) Zb rfl) rfl)) (fun _=>rfl)
   case read =>
    have qe:∀ H',Same H H'→(if (Zcv d1 && Y1 (Y8 d1) d2)=true then Q .non H' else E (.ref (cl "NoRows")) none H'):=q;refine ⟨_,rfl,N,k,v,d1,rfl,h1,hk,hz1,fun H1 s1=>⟨_,rfl,?_⟩⟩;cases e:Zcv d1 with
    | false=>rw [e] at qe; exact iteT (qe H1 s1)
    | true =>
      rw [e,Bool.true_and] at qe;refine iteF ?_;obtain ⟨p,us,rfl,hp,al,l1,_⟩:=Zgo (K:=K) h1 e;have lu:=al.1;refine ⟨_,rfl,_,rfl,p,us,rfl,.inr (SqT.of (s1 _ _ hp)),N,k,u,d2,Y8 d1,by rw [show us.length=Y8 d1 by omega],h2.same s1,hk,hz2,fun H2 s2=>⟨_,rfl,?_⟩⟩;have q2:=qe H2 (s1.trans s2);cases e2:Y1 (Y8 d1) d2 with
      | false=>rw [e2] at q2; exact iteT q2
      | true=>rw [e2] at q2; exact iteF q2
abbrev Zc3:Stmt:=top 68
theorem Zk3 (F:Fun K "solved" "solved" Zc3 f fd) {Ph:Addr} {cl:Str→Addr} (Z:Ek K mg cl) (Caq_:Cal P w K mg base "mix_of" 9 ["rows","rights","taken"] (Zfp K Ph)) (Cd_:a14_ P w K mg base) (Co_:Cal P w K mg base "settled" 8 ["rows","rights"] (Za3 K Ph)) (X_look_at_rows:CalX P w K mg base "look_at_rows" 6 ["rows","rights"] (Zan (cl "NoRows"))):FnOk P w K mg base (CX1 P w) 10 f fd ["rows","rights"] (Zb7 Ph (cl "NoRows")):=by
 have sc:FnScope ["rows","rights","taken","solution","frees"] ["rows","rights"] (Ze Zc3):=fsc (by decide +kernel);refine F.okX sc (fun vs H Q E h=>?_) (fun cdv A outer s H vs Q E hr h=>?_)
 · obtain ⟨N,k,v,u,d1,d2,rfl,_⟩:=h;rfl
 · obtain ⟨N,k,v,u,d1,d2,rfl,h1,h2,hk,hz1,hz2,PO,tb,q⟩:=h;have nd:=sc.nd;refine' ⟨_,?term,?read⟩
   case term=>refine' @Zd _ _ _ _ _ ?g1 ?g2;(case g1=>refine' @Yx _ _ _ _ (Zde X_look_at_rows Zl0.passes hr (by decide) rfl (Za (pv 0) (Za (pv 1) Zb rfl) rfl)) (by rfl));case g2=>refine' @Zd _ _ _ _ _ ?g3 ?g4;(case g3=>refine' @Zam _ _ _ _ _ _ (Zl Co_ hr (by decide) rfl (Za (pv 0) (Za (pv 1) Zb rfl) rfl)) ?g5 (by rfl) (by rfl) (by rfl);case g5=>refine' @Yb _ _ _ _ _ (2) rfl (Zj (Zs (i:=2) nd rfl (Or.inr rfl)) (Zj (Zs (i:=3) nd rfl (Or.inl rfl)) Zy)) (by rfl) (by rfl));case g4=>refine' @Zd _ _ _ _ _ ?g6 ?g7;(case g6=>refine' @Y3 _ _ _ _ _ _ _ _ (Z0 Zpu (pv 3) Zer (Z4 _)) (Zi (Zm (Zn (Za Z6 (Za (Zl Caq_ hr (by decide) rfl (Za (pv 0) (Za (pv 1) (Za (pv 2) Zb rfl) rfl) rfl)) Zb rfl) rfl)))) Z2);case g7=>refine' @Zd _ _ _ _ _ ?g8 (Zi (Zm (Zn (Za Z6 (Za (pv 3) (Za (Yz Y7 rfl T.b_tuple Yp (Za (pv 4) Zb rfl)) Zb rfl) rfl) rfl))));case g8=>refine' @X8 _ _ _ _ _ _ _ _ _ _ (["place","taken"]) ([none,some 2]) _ _ _ _ _ _ rfl rfl (Zs (i:=4) nd rfl (Or.inl rfl)) (Yc (XN:=["rows","rights","taken","solution","frees"]) (Scope.names (Ze Zc3)) rfl rfl rfl (fun _ h=>Z1 h) (by decide +kernel) rfl) ?g9 (fun _ _ _ _=>pgB 0) (fun _ _ _ _=>Zfm (Z0 (Zfa K rfl) (pv 0) (pv 1) rfl)) (fun _ _ _ _=>pv 0) (by intro _ ; rfl);case g9=>refine' @Xp _ _ _ _ _ _ rfl T.b_range (Za (Zl Cd_ hr (by decide) rfl (Za (pv 0) Zb rfl)) Zb rfl) (by rfl)
   case read =>
    refine ⟨_,rfl,_,rfl,N,k,v,u,d1,d2,rfl,h1,h2,by omega,hz1,hz2,fun H1 s1=>?_⟩;cases e:Zbc d1 d2 with
    | false=>rw [e,if_neg (by decide)] at q; rw [if_neg (by decide)]; exact q H1 s1
    | true =>
      rw [e,if_pos rfl] at q;rw [if_pos rfl];have g':(Zcv d1 && Y1 (Y8 d1) d2)=true:=e;rw [n22_] at g';obtain ⟨p,us,rfl,hp,al,l1,l60,_⟩:=Zgo (K:=K) h1 g'.1;obtain ⟨r,gs,rfl,hr',alg,l2,l3,_⟩:=Zc8 (K:=K) h2 g'.2;obtain ⟨S1,S2⟩:=Zn1 h1 h2 hk e PO;obtain ⟨tl,tlt⟩:=Zq7 h1 h2 hk e PO;have al1:=al.imp fun v x (r:IsQs K H v x)=>IsQs.tk s1.tk r;have alg1:=alg.imp fun v x (r:IsQ K H v x)=>hRQ _ _ _ _ s1.tk r;refine ⟨_,rfl,_,rfl,p,r,.t,.t,us,gs,Zw d1,rowQ d2,101,250,rfl,s1 _ _ hp,al1,s1 _ _ hr',alg1,S1.se,tb.same s1,fun H2 pp t w' kp tb2 hpp ht sv=>?_⟩
      have np:∀ {G:Hp} {b:Addr} {o:HO},TabF G Ph "head_of.<locals>.<lambda>" → (∀ ps,o≠HO.tbl ps)→G b=some o→b≠Ph:=fun t n e z=>by
       obtain ⟨ps,h,_⟩:=t;rw [z,h] at e; exact n _ (Option.some.inj e).symm
      have k12:∀ b o,(∀ ps,o≠HO.tbl ps)→H1 b=some o→H2 b=some o:=fun b o n e=>kp b o (np (tb.same s1) n e) e;have tk12:Tk H1 H2:=fun b xs e=>k12 b _ (by intro ps z; cases z) e;have al2:=al1.imp fun v x (r:IsQs K H1 v x)=>IsQs.tk tk12 r;have alg2:=alg1.imp fun v x (r:IsQ K H1 v x)=>hRQ _ _ _ _ tk12 r;have hp2:=k12 _ _ (by intro ps z; cases z) (s1 _ _ hp);have hr2:=k12 _ _ (by intro ps z; cases z) (s1 _ _ hr');have kp2:Xk Ph H H2:=fun b o n e=>kp b o n (s1 _ _ e);refine ⟨pp,_,rfl,SqT.of hpp,rfl,_,_,rfl,_,_,rfl,rfl,?_⟩;refine ⟨_,rfl,rfl,_,rfl,?_⟩;cases es:slv (Zw d1) (rowQ d2) with
      | none =>
        rw [es] at sv;obtain rfl:w'=.non:=sv;rw [n26_ rfl];refine iteT ?_;refine ⟨_,rfl,_,rfl,_,rfl,p,r,t,.t,us,gs,Zw d1,rowQ d2,tkn (Zw d1) (rowQ d2),101,250,rfl,hp2,al2,hr2,alg2,ht,by omega,by omega,tlt,S2.se,tb2,fun H3 v3 kp3 tb3 _=>?_⟩;refine ⟨z2_,fun p4 np4=>?_⟩;have s4:=Same.new (o:=.tup [.str "none",v3]) np4;exact q _ _ (fun b o n e=>s4 _ _ (kp3 b o n (kp2 b o n e))) (tb3.same s4)
      | some xs =>
        rw [es] at sv;obtain ⟨ps,xs',rfl,hps,_⟩:=sv;rw [n14_ (by intro z; cases z)];refine iteF ?_;refine ⟨_,rfl,p,.t,us,Zw d1,rfl,hp2,al2,?_⟩;have wW:=S1.w;refine ⟨_,rfl,by omega,by omega,fun D nD=>?_⟩
        have hfl:((tkn (Zw d1) (rowQ d2)).map fun n:Nat=>V.int n).all Zd6=true:=n42_.mpr fun x hx=>by
         obtain ⟨n,_,rfl⟩:=n29_.mp hx;rfl
        refine Zce (n:=wid (Zw d1)) (fun _ _ (_:Unit)=>True) (fun _ _ _ _ _ _ _=>trivial) (fun i=>if (!inV (.int (0+(i:Int))) ((tkn (Zw d1) (rowQ d2)).map fun n:Nat=>V.int n))=true then some () else none) (by omega) (fun σ=>∃ x,σ=[x,some (.ref t)]) ⟨_,rfl⟩ nD (fun i H3 s hi=>hi) (fun H3 s=>n5_ _) (fun i x σ2 H3 H4 C N' hi s3 eD y ok c' n'=>?_) (fun H3 us3 s3 e3 a3=>?_)
        · obtain ⟨a1,rfl⟩:=ok;obtain ⟨rfl,rfl⟩:=y;unfold Z5;refine ⟨_,rfl,_,rfl,t,_,rfl,.inl (SqL.of (s3 _ _ ht)),rfl,hfl,_,rfl,?_⟩;show if (!inV (.int (0+(i:Int))) ((tkn (Zw d1) (rowQ d2)).map fun n:Nat=>V.int n))=true then _ else _
          by_cases hz:(!inV (.int (0+(i:Int))) ((tkn (Zw d1) (rowQ d2)).map fun n:Nat=>V.int n))=true
          · rw [if_pos hz];exact ⟨_,rfl,c' _ _ _ () ⟨_,rfl⟩ (Same.refl _) (if_pos hz) trivial⟩
          · rw [if_neg hz];exact n' _ _ ⟨_,rfl⟩ (Same.refl _) (if_neg hz)
        · refine ⟨_,rfl,_,rfl,D,us3,rfl,.inl ⟨SqL.of e3,fun p4 np4=>?_⟩⟩;have s4:=Same.new (o:=.tup us3) np4;refine ⟨z3_,fun p5 np5=>?_⟩;have s5:=Same.new (o:=.tup [.str "solved",.ref ps,.ref p4]) np5;have s35:=s3.trans (s4.trans s5);exact q _ _ (fun b o n e=>s35 _ _ (kp2 b o n e)) (tb2.same s35)
abbrev Xn:Stmt:=top 69
theorem Zea (F:Fun K "is_solution" "is_solution" Xn f fd) (L1:Zhf K mg "LESS_ONE" (-1) 1) {cl:Str→Addr} (Z:Ek K mg cl) (Cb_:a24_ P w K mg base) (Ce_:a27_ P w K mg base) (Cd_:a14_ P w K mg base) (Ch_:a5_ P w K mg base) (X_look_at_rows:CalX P w K mg base "look_at_rows" 6 ["rows","rights"] (Zan (cl "NoRows"))):FnOk P w K mg base (CX1 P w) 7 f fd ["rows","rights","thing"] (Y0 (cl "NoRows")):=by
 have sc:FnScope ["rows","rights","thing","weights"] ["rows","rights","thing"] (Ze Xn):=fsc (by decide +kernel);refine F.okX sc (fun vs H Q E h=>?_) (fun cdv A outer s H vs Q E hr h=>?_)
 · obtain ⟨N,k,v,u,x,d1,d2,d3,rfl,_⟩:=h;rfl
 · obtain ⟨N,k,v,u,x,d1,d2,d3,rfl,h1,h2,h3,hk,hz1,hz2,hz3,q⟩:=h;have nd:=sc.nd;obtain ⟨m_,hlg,hlk⟩:=L1;refine' ⟨_,?term,?read⟩
   case term=>refine' @Zd _ _ _ _ _ ?g1 ?g2;(case g1=>refine' @Yx _ _ _ _ (Zde X_look_at_rows Zl0.passes hr (by decide) rfl (Za (pv 0) (Za (pv 1) Zb rfl) rfl)) (by rfl));case g2=>refine' @Zd _ _ _ _ _ ?g3 ?g4;(case g3=>refine' @Y3 _ _ _ _ _ _ _ _ ?g5 (Zi (Zm Zad)) Z2;case g5=>refine' @Xb _ _ _ _ ?g6;case g6=>refine' @Zx _ _ _ (Zl Cb_ hr (by decide) rfl (Za (pv 2) (Za (Zl Cd_ hr (by decide) rfl (Za (pv 0) Zb rfl)) Zb rfl) rfl)) (fun _=>rfl));case g4=>refine' @Zd _ _ _ _ _ ?g7 ?g8;(case g7=>refine' @Zr _ _ (3) _ _ _ _ nd rfl (Or.inr rfl) ?g9 (by rfl) (by first | exact Or.inl rfl | exact Or.inr rfl | assumption);case g9=>refine' @Zl _ _ _ _ _ _ _ _ _ _ _ Ch_ hr (by decide) rfl ?ga (by decide) (by rfl) (by rfl);case ga=>refine' @Za _ _ _ _ _ ?gb Zb rfl;case gb=>refine' @Zq _ _ _ _ _ _ _ _ Zaa (pv 2) ?gc;case gc=>refine' @Zn _ _ _ _ _ ?gd;case gd=>refine' @Za _ _ _ _ _ ?ge Zb rfl;case ge=>refine' @Zz _ _ _ _ _ rfl hlg (show RelV (.ref m_) (Value.ref m_) from rfl) (by decide));case g8=>refine' @Zi _ _ _ ?gf;case gf=>refine' @Zm _ _ _ _ ?gg;case gg=>refine' @Zh _ _ _ _ _ _ _ _ _ (Y9 rfl) rfl T.b_all Zbu ?gh (by decide) (by decide) (by rfl) (by rfl);case gh=>refine' @Za _ _ _ _ _ ?gi Zb rfl;case gi=>refine' @Y5 _ _ _ _ _ _ _ (["row","right","weights"]) ([none,none,some 3]) _ _ ((gTup K 2 (Z8 (Z5 0) (Z8 (Z5 1) gNil)))) _ _ rfl (Yc (XN:=["rows","rights","thing","weights"]) (Scope.names (Ze Xn)) rfl rfl rfl (fun _ h=>Z1 h) (by decide +kernel) rfl) ?gj (fun _ _ _ _=>Yb (n:=2) rfl (Zj (pgB 0) (Zj (pgB 1) Zy))) (fun _ _ _ _=>Zp) (fun _ _ _ _=>Zl Ce_ hr (by decide) rfl (Za (pv 2) (Za (Zq Zaa (pv 0) (Zn (Za (pv 1) Zb rfl))) Zb rfl) rfl)) (by intro _ ; rfl);case gj=>refine' @Zim _ _ _ _ .t .t _ _ _ _ _ rfl T.b_zip (Za (pv 0) (Za (pv 1) Zb rfl) rfl) (by rfl) (by rfl)
   case read =>
    refine ⟨_,rfl,_,rfl,N,k,v,u,d1,d2,rfl,h1,h2,by omega,by omega,by omega,fun H1 s1=>?_⟩;cases e:Zbc d1 d2 with
    | false=>rw [e,if_neg (by decide)] at q; rw [if_neg (by decide)]; exact q H1 s1
    | true =>
      rw [e,if_pos rfl] at q;rw [if_pos rfl];have g':(Zcv d1 && Y1 (Y8 d1) d2)=true:=e;rw [n22_] at g';obtain ⟨p,us,rfl,hp,al,l1,l60,wd,rb,_,wz⟩:=Zgo (K:=K) h1 g'.1;obtain ⟨r,gs,rfl,hr',alg,l2,l3,gb,_⟩:=Zc8 (K:=K) h2 g'.2;have lu:=al.1;have lg:=alg.1;have al1:=al.imp fun v x (r:IsQs K H v x)=>IsQs.tk s1.tk r;have alg1:=alg.imp fun v x (r:IsQ K H v x)=>hRQ _ _ _ _ s1.tk r;refine ⟨_,rfl,_,rfl,p,.t,us,Zw d1,rfl,s1 _ _ hp,al1,N,k,x,d3,wid (Zw d1),rfl,h3.same s1,by omega,by omega,fun H2 s2=>⟨_,rfl,?_⟩⟩;have S2:=s1.trans s2;cases e3:Y1 (wid (Zw d1)) d3 with
      | false=>exact iteT (q _ _ S2)
      | true =>
      refine iteF ?_;have n3:=Zok e3;obtain ⟨px,xs,rfl,hx,alx,lx,_,xb,_⟩:=Zc8 (K:=K) h3 e3;have lxs:=alx.1;refine ⟨_,rfl,z1_,fun p3 np3=>?_⟩;generalize gG:upd H2 p3 (.tup [.ref m_])=H3;obtain ⟨s3,a3⟩:=gen_upd gG np3;refine ⟨px,p3,_,_,rfl,rfl,s3 _ _ (S2 _ _ hx),a3,by simp only [n16_,n37_,sizeLine_eq]; omega,fun p4 H4 s4 a4=>?_⟩;have S4:=S2.trans (s3.trans s4);have alw:Al (IsQ K H4) (xs++[.ref m_]) (rowQ d3++[-1]):=(alx.imp fun v x r=>hRQ _ _ _ _ S4.tk r).snoc ⟨m_,rfl,.inr hlk⟩;have Bw:LnB (k+1) (rowQ d3++[-1]):=Zf9 (Zi7 (fun q hq=>(xb q hq).mono (by omega)) ⟨n43_ (by omega),n43_ (by omega)⟩) (by omega) (by rw [n17_]; show _+1≤1000; omega);refine ⟨p4,.t,_,_,k+1,rfl,a4,alw,Bw,fun H5 l5 s5 nl5 h5=>?_⟩;have S5:=S4.trans s5;refine ⟨_,rfl,_,rfl,p,r,rfl,⟨_,SqT.of (S5 _ _ hp)⟩,⟨_,SqT.of (S5 _ _ hr')⟩,fun D nD=>?_⟩;refine lc_Z (k:=.t) (l:=.t) (vs:=us) (ws:=gs) RB hRB (List.zipWith (fun row g=>decide ((List.zipWith (· * ·) (wh (rowQ d3++[-1])) (wh (row++[g]))).sum=0)) (Zw d1) (rowQ d2)) (by rw [n62_]; omega) (by omega) nD (S5 _ _ hp) (S5 _ _ hr') (fun i v w H6 C hv hw s6 c=>?_) (fun H6 us6 s6 e6 a6=>?_)
      · obtain ⟨row,er,pr,ps,rfl,hpr,alp⟩:=al.get hv;obtain ⟨g,eg,rg⟩:=alg.get hw;have S6:=S5.trans s6;have mr:=n6_ er;have lr:=wd row mr;have lp:=alp.1;refine ⟨_,rfl,_,rfl,_,rfl,z1_,fun p7 np7=>?_⟩;generalize gG:upd H6 p7 (.tup [w])=H7;obtain ⟨s7,a7⟩:=gen_upd gG np7;refine ⟨pr,p7,_,_,rfl,rfl,s7 _ _ (S6 _ _ hpr),a7,by simp only [n16_,n37_,sizeLine_eq]; omega,fun p8 H8 s8 a8=>?_⟩;have S8:=S6.trans (s7.trans s8);exact ⟨l5,_,p8,.t,_,row++[g],k,rfl,s8 _ _ (s7 _ _ (s6 _ _ h5)),fun x hx=>Zmz Bw x hx,a8,(alp.imp fun v x r=>hRQ _ _ _ _ S8.tk r).snoc (hRQ _ _ _ _ S8.tk rg),Zf9 (Zi7 (rb row mr) (gb g (n6_ eg))) (by omega) (by rw [n17_]; show _+1≤1000; omega),fun H9 s9=>c _ _ _ (s7.trans (s8.trans s9)) (by rw [n52_,er,eg]) rfl⟩
      · rw [a6.bls] at e6;exact ⟨D,_,rfl,SqL.of e6,q _ _ (S5.trans s6)⟩
abbrev Za6:Stmt:=top 70
theorem Zlz (F:Fun K "is_mix" "is_mix" Za6 f fd) {cl:Str→Addr} (Z:Ek K mg cl) (Cb_:a24_ P w K mg base) (Ce_:a27_ P w K mg base) (Cd_:a14_ P w K mg base) (Ch_:a5_ P w K mg base) (X_look_at_rows:CalX P w K mg base "look_at_rows" 6 ["rows","rights"] (Zan (cl "NoRows"))):FnOk P w K mg base (CX1 P w) 7 f fd ["rows","rights","thing"] (Y0 (cl "NoRows")):=by
 have sc:FnScope ["rows","rights","thing","weights","columns"] ["rows","rights","thing"] (Ze Za6):=fsc (by decide +kernel);refine F.okX sc (fun vs H Q E h=>?_) (fun cdv A outer s H vs Q E hr h=>?_)
 · obtain ⟨N,k,v,u,x,d1,d2,d3,rfl,_⟩:=h;rfl
 · obtain ⟨N,k,v,u,x,d1,d2,d3,rfl,h1,h2,h3,hk,hz1,hz2,hz3,q⟩:=h;have nd:=sc.nd;refine' ⟨_,?term,?read⟩
   case term=>refine' @Zd _ _ _ _ _ ?g1 ?g2;(case g1=>refine' @Yx _ _ _ _ (Zde X_look_at_rows Zl0.passes hr (by decide) rfl (Za (pv 0) (Za (pv 1) Zb rfl) rfl)) (by rfl));case g2=>refine' @Zd _ _ _ _ _ ?g3 ?g4;(case g3=>refine' @Y3 _ _ _ _ _ _ _ _ ?g5 (Zi (Zm Zad)) Z2;case g5=>refine' @Xb _ _ _ _ ?g6;case g6=>refine' @Zx _ _ _ (Zl Cb_ hr (by decide) rfl (Za (pv 2) (Za (Zh Zv rfl T.b_len Xh (Za (pv 0) Zb rfl)) Zb rfl) rfl)) (fun _=>rfl));case g4=>refine' @Zd _ _ _ _ _ ?g7 ?g8;(case g7=>refine' @Zr _ _ (3) _ _ _ _ nd rfl (Or.inr rfl) (Zl Ch_ hr (by decide) rfl (Za (pv 2) Zb rfl)) (by rfl) (by first | exact Or.inl rfl | exact Or.inr rfl | assumption));case g8=>refine' @Zd _ _ _ _ _ ?g9 ?ga;(case g9=>refine' @Y3 _ _ _ _ _ _ _ _ ?gb (Zi (Zm Zad)) Z2;case gb=>refine' @Zx _ _ _ (Zl Ce_ hr (by decide) rfl (Za (pv 3) (Za (pv 1) Zb rfl) rfl)) (fun _=>rfl));case ga=>refine' @Zd _ _ _ _ _ ?gc ?gd;(case gc=>refine' @X8 _ _ _ _ _ _ _ _ _ _ (["place","rows"]) ([none,some 0]) _ _ _ _ _ _ rfl rfl (Zs (i:=4) nd rfl (Or.inl rfl)) (Yc (XN:=["rows","rights","thing","weights","columns"]) (Scope.names (Ze Za6)) rfl rfl rfl (fun _ h=>Z1 h) (by decide +kernel) rfl) ?ge (fun _ _ _ _=>Zs (i:=0) (show List.Nodup (["place","rows"]:List Str) by decide) rfl (Or.inr rfl) (Or.inl rfl)) (fun _ _ _ _=>Zp) (fun _ _ _ _=>Y5 (N:=["row","place"]) (fr:=[none,some 0]) rfl (Yc (XN:=["place","rows"]) (relN _ (Scope.names (Ze Za6))) rfl rfl rfl (fun _ h=>Zdv (by decide +kernel) h) (by decide +kernel) rfl) (Zaw K rfl (pv 1)) (fun _ _ _ _=>pgB 0) (fun _ _ _ _=>Zp) (fun _ _ _ _=>Yj (Zax K rfl) (pv 0) (pv 1) (fun _ _=>rfl))) (by intro _ ; rfl);case ge=>refine' @Xp _ _ _ _ _ _ rfl T.b_range (Za (Zl Cd_ hr (by decide) rfl (Za (pv 0) Zb rfl)) Zb rfl) (by rfl));case gd=>refine' @Zi _ _ _ ?gf;case gf=>refine' @Zm _ _ _ _ ?gg;case gg=>refine' @Zh _ _ _ _ _ _ _ _ _ (Y9 rfl) rfl T.b_all Zbu ?gh (by decide) (by decide) (by rfl) (by rfl);case gh=>refine' @Za _ _ _ _ _ ?gi Zb rfl;case gi=>refine' @Y5 _ _ _ _ _ _ _ (["column","weights"]) ([none,some 3]) _ _ _ _ _ rfl (Yc (XN:=["rows","rights","thing","weights","columns"]) (Scope.names (Ze Za6)) rfl rfl rfl (fun _ h=>Z1 h) (by decide +kernel) rfl) (Yi (pv 4)) (fun _ _ _ _=>pgB 0) (fun _ _ _ _=>Zp) (fun _ _ _ _=>Zl Ce_ hr (by decide) rfl (Za (pv 1) (Za (pv 0) Zb rfl) rfl)) (by intro _ ; rfl)
   case read =>
    refine ⟨_,rfl,_,rfl,N,k,v,u,d1,d2,rfl,h1,h2,by omega,by omega,by omega,fun H1 s1=>?_⟩;cases e:Zbc d1 d2 with
    | false=>rw [e,if_neg (by decide)] at q; rw [if_neg (by decide)]; exact q H1 s1
    | true =>
      rw [e,if_pos rfl] at q;rw [if_pos rfl];have g':(Zcv d1 && Y1 (Y8 d1) d2)=true:=e;rw [n22_] at g';obtain ⟨p,us,rfl,hp,al,l1,l60,wd,rb,_,wz⟩:=Zgo (K:=K) h1 g'.1;obtain ⟨r,gs,rfl,hr',alg,l2,l3,gb,_⟩:=Zc8 (K:=K) h2 g'.2;have lu:=al.1;have lg:=alg.1;have al1:=al.imp fun v x (r:IsQs K H v x)=>IsQs.tk s1.tk r;have alg1:=alg.imp fun v x (r:IsQ K H v x)=>hRQ _ _ _ _ s1.tk r;refine ⟨_,rfl,_,rfl,p,us,rfl,.inr (SqT.of (s1 _ _ hp)),N,k,x,d3,(Zw d1).length,by rw [lu],h3.same s1,by omega,by omega,fun H2 s2=>⟨_,rfl,?_⟩⟩;have S2:=s1.trans s2;cases e3:Y1 (Zw d1).length d3 with
      | false=>exact iteT (q _ _ S2)
      | true =>
      refine iteF ?_;have n3:=Zok e3;obtain ⟨px,xs,rfl,hx,alx,lx,_,xb,_⟩:=Zc8 (K:=K) h3 e3;have lxs:=alx.1;have Bw:LnB k (rowQ d3):=Zf9 xb (by omega) (by omega);refine ⟨_,rfl,px,.t,xs,_,k,rfl,S2 _ _ hx,alx.imp fun v x r=>hRQ _ _ _ _ S2.tk r,Bw,fun H5 l5 s5 nl5 h5=>?_⟩;have S5:=S2.trans s5;refine ⟨_,rfl,_,rfl,l5,_,r,.t,gs,rowQ d2,k,rfl,h5,fun x hx=>Zmz Bw x hx,S5 _ _ hr',alg.imp fun v x r=>hRQ _ _ _ _ S5.tk r,Zf9 gb (by omega) (by omega),fun H6 s6=>⟨_,rfl,?_⟩⟩;have S6:=S5.trans s6;refine ite2 (fun _=>q _ _ S6) (fun _=>?_);refine ⟨_,rfl,p,.t,us,Zw d1,rfl,S6 _ _ hp,al.imp fun v x r=>IsQs.tk S6.tk r,?_⟩;refine ⟨_,rfl,by omega,by omega,fun D nD=>?_⟩;refine Zce (n:=wid (Zw d1)) (fun H v (x:List Rat)=>∃ l es,v=V.ref l∧l≠D∧H l=some (.lst es)∧Al (IsQ K H) es x) (fun H1 H2 v x k e ⟨l,es,e1,n,h,r⟩=>⟨l,es,e1,n,k _ _ n h,r.imp fun v x r=>hRQ _ _ _ _ (Zfo k e) r⟩) (fun i=>some ((Zw d1).map fun r=>r.getD i 0)) (by omega) (fun σ=>∃ x,σ=[x,some (.ref p)]) ⟨_,rfl⟩ nD (fun i H3 s hi=>hi) (fun H3 s=>n5_ _) (fun i x σ2 H7 H8 C N' hi s7 eD y ok c' n'=>?_) (fun H7 us7 s7 e7 a7=>?_)
      · obtain ⟨a1,rfl⟩:=ok;obtain ⟨rfl,rfl⟩:=y;obtain ⟨wsD,eD⟩:=eD;refine Zat ?_;have S7:=S6.trans s7;refine ⟨_,rfl,p,.t,rfl,⟨_,SqT.of (S7 _ _ hp)⟩,fun E nE=>?_⟩;refine lc_T (k:=.t) (vs:=us) (IsQ K) hRQ ((Zw d1).map fun r=>r.getD i 0) (by rw [n4_]; omega) (by omega) nE (S7 _ _ hp) (fun j w'' H8 C' hw s8 c8=>?_) (fun H8 us8 s8 e8 a8=>?_)
        · obtain ⟨row,er,pr,ps,rfl,hpr,alp⟩:=al.get hw;have mr:=n6_ er;have lt:i < row.length:=by rw [wd row mr]; exact hi
          obtain ⟨u,eu,ru⟩:=alp.got (n0_ lt);have S8:=S7.trans s8;refine ⟨_,rfl,_,rfl,pr,ps,0+(i:Int),u,rfl,rfl,SqT.of (S8 _ _ hpr),by rw [Int.zero_add]; exact Xz eu,c8 _ _ (row.getD i 0) (Same.refl _) (by rw [n3_,er]; rfl) ?_⟩;rw [n19_,n0_ lt];exact hRQ _ _ _ _ S8.tk ru
        · exact c' _ _ _ _ ⟨_,rfl⟩ s8 rfl ⟨E,us8,rfl,fun z=>(by rw [z,eD] at nE; cases nE),e8,a8⟩
      have e0:∀ n:Nat,(List.range n).filterMap (fun i=>some ((Zw d1).map fun r=>r.getD i 0))=(List.range n).map fun i=>(Zw d1).map fun r=>r.getD i 0:=fun n=>by
       rw [List.filterMap_eq_map']
      rw [e0] at a7;have l7:=a7.1;rw [n4_,List.length_range] at l7;refine ⟨_,rfl,D,rfl,⟨_,SqL.of e7⟩,fun E nE=>?_⟩;refine lc_T (k:=.l) (vs:=us7) RB hRB (((List.range (wid (Zw d1))).map fun i=>(Zw d1).map fun r=>r.getD i 0).map fun col=>decide ((List.zipWith (· * ·) (wh (rowQ d3)) (wh col)).sum=0)) (by rw [n4_,n4_,List.length_range]; exact l7.symm) (by omega) nE (show SK.l.At H7 D us7 from e7) (fun j w'' H8 C' hw s8 c8=>?_) (fun H8 us8 s8 e8 a8=>?_)
      · obtain ⟨col,ec,l,es,rfl,_,hl,ales⟩:=a7.get hw;have ec0:=ec;rw [n3_] at ec;obtain ⟨i,ei,rfl⟩:=n31_.mp ec;have hi:i < wid (Zw d1):=List.mem_range.mp (n6_ ei);refine ⟨_,rfl,_,rfl,l5,_,l,.l,es,_,k,rfl,s8 _ _ (s7 _ _ (s6 _ _ h5)),fun x hx=>Zmz Bw x hx,s8 _ _ hl,ales.imp fun v x r=>hRQ _ _ _ _ s8.tk r,Zf9 (fun q hq=>?_) (by omega) (by rw [n4_]; omega),fun H9 s9=>c8 _ _ _ s9 (by rw [n3_,ec0]; rfl) rfl⟩;obtain ⟨row,hrow,rfl⟩:=n29_.mp hq;have lt:i < row.length:=by rw [wd row hrow]; exact hi
        have m:row.getD i 0∈row:=by rw [n19_,n0_ lt]; exact n41_ lt
        exact rb row hrow _ m
      · rw [a8.bls] at e8;exact ⟨E,_,rfl,SqL.of e8,q _ _ (S6.trans (s7.trans s8))⟩
abbrev Xr:Stmt:=top 76
theorem Zcy (F:Fun K "_law_fraction" "_law_fraction" Xr f fd) (Ca_:a22_ P w K mg base) (Cm_:a20_ P w K mg base):FnOk P w K mg base CX0 2 f fd ["_law_state_here"] (Zg9 60):=by
 have sc:FnScope ["_law_state_here","_law_top","_law_way"] ["_law_state_here"] (Ze Xr):=fsc (by decide +kernel);refine F.ok sc (fun vs H Q E h=>by obtain ⟨l,rfl,_⟩:=h;rfl) fun cdv A outer s H vs Q E hr h=>?_;obtain ⟨l,rfl,hl,q⟩:=h;have nd:=sc.nd;refine' ⟨_,?term,?read⟩
 case term=>refine' @Zd _ _ _ _ _ ?g1 ?g2;(case g1=>refine' @Zr _ _ (1) _ _ _ _ nd rfl (Or.inl rfl) (Zq Zgm (Zl Ca_ hr (by decide) rfl (Za (pv 0) (Za Zg Zb rfl) rfl)) Zg) (by rfl) (by first | exact Or.inl rfl | exact Or.inr rfl | assumption));case g2=>refine' @Zd _ _ _ _ _ ?g3 ?g4;(case g3=>refine' @Zr _ _ (2) _ _ _ _ nd rfl (Or.inl rfl) (Zl Ca_ hr (by decide) rfl (Za (pv 0) (Za Zg Zb rfl) rfl)) (by rfl) (by first | exact Or.inl rfl | exact Or.inr rfl | assumption));case g4=>refine' @Zd _ _ _ _ _ ?g5 ?g6;(case g5=>refine' @Y3 _ _ _ _ _ _ _ _ (Z0 Zkd (pv 2) Zg (Z4 _)) ?g7 Z2;case g7=>refine' @Zi _ _ _ ?g8;case g8=>refine' @Zm _ _ _ _ ?g9;case g9=>refine' @Yj _ _ _ _ _ _ _ Z9 ?ga (pv 2) (fun _ _=>rfl);case ga=>refine' @Yd _ _ _ _ (Za (Zn (Za Zg (Za Zg Zb rfl) rfl)) (Za (Zn (Za Zg (Za Zg Zb rfl) rfl)) (Za (Zn (Za (pv 1) (Za Zg Zb rfl) rfl)) Zb rfl) rfl) rfl));case g6=>refine' @Zi _ _ _ ?gb;case gb=>refine' @Zm _ _ _ _ ?gc;case gc=>refine' @Zl _ _ _ _ _ _ _ _ _ _ _ Cm_ hr (by decide) rfl ?gd (by decide) (by rfl) (by rfl);case gd=>refine' @Za _ _ _ _ _ ?ge (Za (Zq Xu Zg (Zl Ca_ hr (by decide) rfl (Za (pv 0) (Za Zg Zb rfl) rfl))) Zb rfl) rfl;case ge=>refine' @Zq _ _ _ _ _ _ _ _ Yq (pv 1) ?gf;case gf=>refine' @Yj _ _ _ _ _ _ _ Z9 ?gg (Yz Zlu rfl T.b_int Zl2 (Za (Zas Zfj (Zl Ca_ hr (by decide) rfl (Za (pv 0) (Za Zg Zb rfl) rfl)) Zg (Z4 _)) Zb rfl)) (fun _ _=>rfl);case gg=>refine' @Yd _ _ _ _ (Za Zg (Za (Zq Xu (Zq Zmo Zg Zg) Zg) Zb rfl) rfl)
 refine ⟨_,rfl,l,19,rfl,hl,by decide,Xm (by decide),fun r1 H1 a1 b1 k1 l1=>?_⟩;refine ⟨_,_,rfl,rfl,?_⟩;refine ⟨_,rfl,l,5,rfl,l1,by decide,Xm (by decide),fun r2 H2 a2 b2 k2 l2=>?_⟩;refine ⟨_,rfl,_,_,rfl,rfl,_,rfl,?_⟩;have k12:=k1.trans k2;refine ite2 (fun hlt=>?_) (fun hlt=>?_)
 · have hlt':r2 < 3:=n27_ hlt;refine ⟨z2_,?_⟩;intro p3 n3;generalize hH3:upd H2 p3 _=H3;have S3:Same H2 H3:=by (rw [← hH3]; exact Same.new n3)
   have A3:=(congrFun hH3 p3).symm;rw [Zc] at A3;refine ⟨z2_,?_⟩;intro p4 n4;generalize hH4:upd H3 p4 _=H4;have S4:Same H3 H4:=by (rw [← hH4]; exact Same.new n4)
   have A4:=(congrFun hH4 p4).symm;rw [Zc] at A4;refine ⟨_,rfl,z2_,?_⟩;intro p5 n5;generalize hH5:upd H4 p5 _=H5;have S5:Same H4 H5:=by (rw [← hH5]; exact Same.new n5)
   have A5:=(congrFun hH5 p5).symm;rw [Zc] at A5;refine ⟨z3_,?_⟩;intro p6 n6;generalize hH6:upd H5 p6 _=H6;have S6:Same H5 H6:=by (rw [← hH6]; exact Same.new n6)
   have A6:=(congrFun hH6 p6).symm;rw [Zc] at A6;refine ⟨_,rfl,?_⟩;have hk:Keep l H H6:=k12.trans (((S3.trans S4).trans (S5.trans S6)).keep);have l6:StAt H6 l:=l2.same ((S3.trans S4).trans (S5.trans S6));have B3:=S6 _ _ (S5 _ _ (S4 _ _ A3));have B4:=S6 _ _ (S5 _ _ A4);have B5:=S6 _ _ A5;have hr2:r2=0∨r2=1∨r2=2:=by omega
   have w1:=FM.whole (r1 - 9)
   rcases hr2 with rfl | rfl | rfl
   · exact ⟨p6,_,0,_,rfl,rfl,SqL.of A6,rfl,q _ p3 0 hk l6 B3 ⟨⟨by decide,by decide⟩,by decide⟩⟩
   · exact ⟨p6,_,1,_,rfl,rfl,SqL.of A6,rfl,q _ p4 1 hk l6 B4 ⟨⟨by decide,by decide⟩,by decide⟩⟩
   · refine ⟨p6,_,2,_,rfl,rfl,SqL.of A6,rfl,q _ p5 (Rat.divInt (r1 - 9) 1) hk l6 (by rw [rt,w1.1,w1.2]; exact B5) ⟨⟨?_,?_⟩,Zo9 _ (by decide) (by decide)⟩⟩
     · rw [w1.1]; show _ < 1152921504606846976; omega
     · have:=w1.2; show _ < 1152921504606846976; omega
 · refine ⟨_,rfl,?_⟩;refine ⟨_,_,rfl,rfl,⟨by decide,by decide,by decide⟩,_,_,rfl,rfl,z2_,?_⟩;intro p3 n3;generalize hH3:upd H2 p3 _=H3;have S3:Same H2 H3:=by (rw [← hH3]; exact Same.new n3)
   have A3:=(congrFun hH3 p3).symm;rw [Zc] at A3;refine ⟨_,rfl,l,9,rfl,l2.same S3,by decide,Xm (by decide),fun r4 H4 a4 b4 k4 l4=>?_⟩;refine ⟨rfl,.inr ⟨_,rfl,?_⟩⟩;have B3:=k4 _ _ (fun z=>l2.ne n3 z.symm) A3;have hk4:Keep l H H4:=k12.trans (S3.keep.trans k4)
   by_cases h0:V.int r4=V.int 0
   · rw [n26_ h0];refine ⟨p3,_,_,_,rfl,rfl,SqL.of B3,rfl,?_⟩;have hz:(10 ^ Int.toNat 12+7:Int).natAbs≤1000000000007:=by decide
     refine ⟨_,_,rfl,rfl,mulS (by rw [p64]; omega) (by decide),?_⟩;refine ⟨_,rfl,l,6,rfl,l4,by decide,Xm (by decide),fun r5 H5 a5 b5 k5 l5=>⟨_,_,rfl,rfl,_,_,rfl,by omega,Xm (by rw [p64]; omega),fun p H6 s6 at6=>?_⟩⟩;refine q _ p _ (hk4.trans (k5.trans s6.keep)) (l5.same s6) at6 ⟨FM.B_divInt (by omega) ?_ ?_,Zo9 _ (by omega) (by omega)⟩
     · rw [n50_];have h9:(r1 - 9).natAbs≤9:=by omega
       have:=Nat.mul_le_mul h9 hz
       show _ < 1152921504606846976
       omega
     · show _ < 1152921504606846976
       omega
   · rw [n14_ h0];refine ⟨p3,_,_,_,rfl,rfl,SqL.of B3,rfl,?_⟩;have hz:(1:Int).natAbs≤1000000000007:=by decide
     refine ⟨_,_,rfl,rfl,mulS (by rw [p64]; omega) (by decide),?_⟩;refine ⟨_,rfl,l,6,rfl,l4,by decide,Xm (by decide),fun r5 H5 a5 b5 k5 l5=>⟨_,_,rfl,rfl,_,_,rfl,by omega,Xm (by rw [p64]; omega),fun p H6 s6 at6=>?_⟩⟩;refine q _ p _ (hk4.trans (k5.trans s6.keep)) (l5.same s6) at6 ⟨FM.B_divInt (by omega) ?_ ?_,Zo9 _ (by omega) (by omega)⟩
     · rw [n50_];have h9:(r1 - 9).natAbs≤9:=by omega
       have:=Nat.mul_le_mul h9 hz
       show _ < 1152921504606846976
       omega
     · show _ < 1152921504606846976
       omega
abbrev Za7:Stmt:=top 77
theorem Zhx (F:Fun K "_law_row" "_law_row" Za7 f fd) (Ct_:a28_ P w K mg base):FnOk P w K mg base CX0 3 f fd ["_law_state_here","_law_many"] Zkv:=by
 have sc:FnScope ["_law_state_here","_law_many"] ["_law_state_here","_law_many"] (Ze Za7):=fsc (by decide +kernel);refine F.ok sc (fun vs H Q E h=>by obtain ⟨l,n,rfl,_⟩:=h;rfl) fun cdv A outer s H vs Q E hr h=>?_;obtain ⟨l,n,rfl,hl,h1000,q⟩:=h;refine' ⟨_,?term,?read⟩
 case term=>refine' @Zi _ _ _ ?g1;case g1=>refine' @Zm _ _ _ _ ?g2;case g2=>refine' @Yz _ _ _ _ _ _ _ _ _ Y7 rfl T.b_tuple Yp ?g3 (by decide) (by decide) (by rfl) (by rfl);case g3=>refine' @Za _ _ _ _ _ ?g4 Zb rfl;case g4=>refine' @Y5 _ _ _ _ _ _ _ (["_law_turn","_law_state_here"]) ([none,some 0]) _ _ _ _ _ rfl (Yc (XN:=["_law_state_here","_law_many"]) (Scope.names (Ze Za7)) rfl rfl rfl (fun _ h=>Z1 h) (by decide +kernel) rfl) ?g5 (fun _ _ _ _=>pgB 0) (fun _ _ _ _=>Zp) (fun _ _ _ _=>Zl Ct_ hr (by decide) rfl (Za (pv 1) Zb rfl)) (by intro _ ; rfl);case g5=>refine' @Xp _ _ _ _ _ _ rfl T.b_range (Za (pv 1) Zb rfl) (by rfl)
 refine ⟨_,rfl,n,rfl,by omega,by omega,fun D nD=>?_⟩;refine Zk1 (n:=n) (l:=l) (fun H v (x:Rat)=>IsQt H v x∧Dr x) (fun H1 H2 v x t r=>⟨r.1.tk t,r.2⟩) h1000 (fun σ=>∃ u,σ=[u,some (.ref l)]) ⟨_,rfl⟩ nD hl (fun i H2 k hi=>hi) (fun H2 k=>n5_ _) (fun i x σ2 H2 H3 C hi k2 l2 y o c=>?_) (fun H2 vs ys k2 l2 e2 hy a2=>?_)
 · obtain ⟨u,rfl⟩:=o;obtain ⟨rfl,rfl⟩:=y;exact ⟨_,rfl,l,rfl,l2,fun H5 p x k5 l5 hp hB=>c _ _ _ x ⟨_,rfl⟩ k5 l5 ⟨⟨p,rfl,hp⟩,⟨hB.1,hB.2⟩⟩⟩
 · refine ⟨D,vs,rfl,.inl ⟨SqL.of e2,fun t nt=>?_⟩⟩;have s3:Same H2 (upd H2 t (.tup vs)):=Same.new nt;refine q _ _ ys (k2.trans s3.keep) (l2.same s3) ⟨t,vs,rfl,Zc,a2.imp fun v x r=>r.1.tk s3.tk⟩ hy (fun x hx=>?_);obtain ⟨i,hi,e⟩:=n45_ hx;obtain ⟨v,_,r⟩:=a2.got (show ys[i]? = some x by rw [n0_ hi,e]);exact r.2
abbrev Zb6:Stmt:=top 85
theorem Zh6 (F:Fun K "_law_are" "_law_are" Zb6 f fd) (Cp_:a29_ P w K mg base):FnOk P w K mg base CX0 4 f fd ["_law_many","_law_thing"] Zgh:=by
 have sc:FnScope ["_law_many","_law_thing"] ["_law_many","_law_thing"] (Ze Zb6):=fsc (by decide +kernel);refine F.ok sc (fun vs H Q E h=>by obtain ⟨N,k,v,d,n,rfl,_⟩:=h;rfl) fun cdv A outer s H vs Q E hr h=>?_;obtain ⟨N,k,v,d,n,rfl,h,hk,hz,q⟩:=h;refine' ⟨_,?term,?read⟩
 case term=>refine' @Zi _ _ _ ?g1;case g1=>refine' @Zm _ _ _ _ ?g2;case g2=>refine' @Zeq _ _ _ _ _ _ _ (Zh Ys rfl T.b_isinstance Zf (Za (pv 1) (Za (Yy (v:=.ty "tuple") rfl T.b_tuple Yp rfl) Zb rfl) rfl)) ?g3;case g3=>refine' @Zeq _ _ _ _ _ _ _ (Zas Zfj (Zh Zv rfl T.b_len Xh (Za (pv 1) Zb rfl)) (pv 0) (Z4 _)) ?g4;case g4=>refine' @Zgr _ _ _ _ _ ?g5;case g5=>refine' @Zh _ _ _ _ _ _ _ _ _ (Y9 rfl) rfl T.b_all Zbu ?g6 (by decide) (by decide) (by rfl) (by rfl);case g6=>refine' @Za _ _ _ _ _ ?g7 Zb rfl;case g7=>refine' @Y5 _ _ _ _ _ _ _ (["_law_one"]) ([none]) _ _ _ _ _ rfl (Z3 (by decide) rfl (by decide) rfl rfl) (Zdb (pv 1)) (fun _ _ _ _=>pgB 0) (fun _ _ _ _=>Zp) (fun _ _ _ _=>Zl Cp_ hr (by decide) rfl (Za (pv 0) Zb rfl)) (by intro _ ; rfl)
 rcases h.isT with ⟨a,us,ds,rfl,rfl,ha,hs⟩ | e
 case inr =>
  obtain ⟨t,ty,ki⟩:=h.ty (K:=K);refine ⟨_,rfl,_,_,t,_,rfl,ty,ki,_,rfl,?_⟩;rw [e]; rw [Zfg e] at q;exact iteF (q _ (Same.refl H))
 refine ⟨_,rfl,_,_,_,_,rfl,TyOf.tup ha,rfl,true,rfl,iteT ?_⟩;have hl:=hs.len;have hz1:1+Zt ds≤1000:=hz;have h1000:us.length≤1000:=by have:=Zdp ds; omega
 refine ⟨_,rfl,a,us,rfl,.inr (SqT.of ha),_,rfl,rfl,_,rfl,?_⟩
 by_cases hn:us.length=n
 case neg =>
  rw [show decide (V.int (us.length:Int)=V.int (n:Nat))=false from n14_ (fun z=>hn (by have:=V.int.inj z; omega))];rw [Zjc (by omega)] at q;exact iteF (q _ (Same.refl H))
 rw [n26_ (show V.int (us.length:Int)=V.int (n:Nat) by rw [hn])];refine iteT ?_;refine ⟨_,rfl,a,rfl,⟨_,SqT.of ha⟩,fun D nD=>?_⟩;refine lc_T (k:=.t) (vs:=us) RB hRB (ds.map isFr) (by simp [hl]) h1000 nD ha (fun i w H2 C hw s2 c=>?_) (fun H2 us' s2 e2 a2=>?_)
 · obtain ⟨dx,ed,hdx⟩:=hs.get hw;exact ⟨_,rfl,N,k,w,dx,rfl,hdx.same s2,hk,fun H3 s3=>c _ _ (isFr dx) s3 (by rw [n3_,ed]; rfl) rfl⟩
 · rw [a2.bls] at e2;refine ⟨D,ds.map isFr,rfl,SqL.of e2,?_⟩;have z:(ds.map isFr).all id=ds.all isFr:=by rw [List.all_map]; rfl
   rw [z];rw [Zij (by omega)] at q;exact q _ s2
abbrev Xf:Stmt:=top 86
theorem Zdg (F:Fun K "_law_is_good" "_law_is_good" Xf f fd) (Cu_:a30_ P w K mg base):FnOk P w K mg base CX0 5 f fd ["_law_rows","_law_rights"] Zey:=by
 have sc:FnScope ["_law_rows","_law_rights"] ["_law_rows","_law_rights"] (Ze Xf):=fsc (by decide +kernel);refine F.ok sc (fun vs H Q E h=>by obtain ⟨N,k,v,u,d1,d2,rfl,_⟩:=h;rfl) fun cdv A outer s H vs Q E hr h=>?_;obtain ⟨N,k,v,u,d1,d2,rfl,h,h2,hk,hz,hz2,q⟩:=h;refine' ⟨_,?term,?read⟩
 case term=>refine' @Zd _ _ _ _ _ ?g1 ?g2;(case g1=>refine' @Y3 _ _ _ _ _ _ _ _ ?g3 (Zi (Zm Zad)) Z2;case g3=>refine' @PW.pt _ _ _ ?g4;case g4=>refine' @Zdw _ _ _ _ _ _ _ ?g5 ?g6;(case g5=>refine' @Xb _ _ _ _ ?g7;case g7=>refine' @Zx _ _ _ (Zh Ys rfl T.b_isinstance Zf (Za (pv 0) (Za (Yy (v:=.ty "tuple") rfl T.b_tuple Yp rfl) Zb rfl) rfl)) (fun _=>rfl));case g6=>refine' @Zdw _ _ _ _ _ _ _ (Z0 Zeb (Zh Zv rfl T.b_len Xh (Za (pv 0) Zb rfl)) Zg (Z4 _)) ?g8;case g8=>refine' @Zcr _ _ _ _ ?g9;case g9=>refine' @Xb _ _ _ _ ?ga;case ga=>refine' @Zx _ _ _ ?gb (fun _=>rfl);case gb=>refine' @Zh _ _ _ _ _ _ _ _ _ (Y9 rfl) rfl T.b_all Zbu ?gc (by decide) (by decide) (by rfl) (by rfl);case gc=>refine' @Za _ _ _ _ _ ?gd Zb rfl;case gd=>refine' @Y5 _ _ _ _ _ _ _ (["_law_row_here"]) ([none]) _ _ _ _ _ rfl (Z3 (by decide) rfl (by decide) rfl rfl) (Zdb (pv 0)) (fun _ _ _ _=>pgB 0) (fun _ _ _ _=>Zp) (fun _ _ _ _=>Zh (Zf7 K rfl) rfl T.b_isinstance Zf (Za (pv 0) (Za (Yy (v:=.ty "tuple") rfl T.b_tuple Yp rfl) Zb rfl) rfl)) (by intro _ ; rfl));case g2=>refine' @Zi _ _ _ ?ge;case ge=>refine' @Zm _ _ _ _ ?gf;case gf=>refine' @Zeq _ _ _ _ _ _ _ ?gg (Zgr (Zl Cu_ hr (by decide) rfl (Za (Zh Zv rfl T.b_len Xh (Za (pv 0) Zb rfl)) (Za (pv 1) Zb rfl) rfl)));case gg=>refine' @Zh _ _ _ _ _ _ _ _ _ (Y9 rfl) rfl T.b_all Zbu ?gh (by decide) (by decide) (by rfl) (by rfl);case gh=>refine' @Za _ _ _ _ _ ?gi Zb rfl;case gi=>refine' @Y5 _ _ _ _ _ _ _ (["_law_row_here","_law_rows"]) ([none,some 0]) _ _ _ _ _ rfl (Yc (XN:=["_law_rows","_law_rights"]) (Scope.names (Ze Xf)) rfl rfl rfl (fun _ h=>Z1 h) (by decide +kernel) rfl) (Zdb (pv 0)) (fun _ _ _ _=>pgB 0) (fun _ _ _ _=>Zp) (fun _ _ _ _=>Zl Cu_ hr (by decide) rfl (Za (Zh (Ze9 K rfl) rfl T.b_len Xh (Za (Yj (Zax K rfl) (pv 1) Zg (fun _ _=>rfl)) Zb rfl)) (Za (pv 0) Zb rfl) rfl)) (by intro _ ; rfl)
 rcases h.isT with ⟨a,us,ds,rfl,rfl,ha,hs⟩ | e
 case inr =>
  obtain ⟨t,ty,ki⟩:=h.ty (K:=K);refine ⟨_,rfl,_,_,t,_,rfl,ty,ki,_,rfl,?_⟩;have z:Zbc d1 d2=false:=by show (Zcv d1 && _)=false; rw [Zjm e]; rfl
  rw [e]; rw [z] at q;exact iteT (iteT (q _ (Same.refl H)))
 refine ⟨_,rfl,_,_,_,_,rfl,TyOf.tup ha,rfl,true,rfl,iteF ?_⟩;have hl:=hs.len;have hz1:1+Zt ds≤1000:=hz;have h1000:us.length≤1000:=by have:=Zdp ds; omega
 refine ⟨_,rfl,a,us,rfl,.inr (SqT.of ha),_,_,rfl,rfl,_,rfl,?_⟩;have qe:∀ H',Same H H'→Q (.bl (decide (ds.length≤60) && ds.all isT && ds.all (Y1 (wd1 ds)) && Y1 ds.length d2)) H':=q
 by_cases z:ds.length≤60
 case neg =>
  rw [show decide ((60:Int) < us.length)=true from n26_ (by omega)];rw [n14_ z] at qe;exact iteT (iteT (qe _ (Same.refl H)))
 rw [show decide ((60:Int) < us.length)=false from n14_ (by omega)];rw [n26_ z,Bool.true_and] at qe;refine iteF ?_;refine ⟨_,rfl,a,rfl,⟨_,SqT.of ha⟩,fun D nD=>?_⟩;refine lc_T (k:=.t) (vs:=us) RB hRB (ds.map isT) (by simp [hl]) h1000 nD ha (fun i w H2 C hw s2 c=>?_) (fun H2 us' s2 e2 a2=>?_)
 · obtain ⟨dx,ed,hdx⟩:=hs.get hw;obtain ⟨t,ty,ki⟩:=(hdx.same s2).ty (K:=K);exact ⟨_,rfl,_,_,t,_,rfl,ty,ki,c _ _ (isT dx) (Same.refl _) (by rw [n3_,ed]; rfl) rfl⟩
 rw [a2.bls] at e2;refine ⟨D,ds.map isT,rfl,SqL.of e2,_,rfl,?_⟩;have z2:(ds.map isT).all id=ds.all isT:=by rw [List.all_map]; rfl
 rw [z2];cases hT:ds.all isT with
 | false =>
   rw [hT,Bool.false_and,Bool.false_and] at qe;exact iteT (qe _ s2)
 | true =>
   rw [hT,Bool.true_and] at qe;refine iteF ?_;refine ⟨_,rfl,a,rfl,⟨_,SqT.of (s2 _ _ ha)⟩,fun E nE=>?_⟩;refine lc_T (k:=.t) (vs:=us) RB hRB (ds.map (Y1 (wd1 ds))) (by simp [hl]) h1000 nE (show SK.t.At H2 a us from s2 _ _ ha) (fun i w H3 C hw s3 c=>?_) (fun H3 us3 s3 e3 a3=>?_)
   · obtain ⟨dx,ed,hdx⟩:=hs.get hw;have zx:=Zkw ed;have S3:=s2.trans s3
     obtain ⟨u0,d0,eu0,ed0,hd0⟩:∃ u0 d0,us[0]? = some u0∧ds[0]? = some d0∧Dt N H k u0 d0:=by
      have hpos:0 < us.length:=by have:=Zml hw; omega
      obtain ⟨d0,e0,h0⟩:=hs.get (n0_ hpos);exact ⟨_,d0,n0_ hpos,e0,h0⟩
     have wd0:wd1 ds=Y8 d0:=by
      match ds,ed0 with
      | d0 :: ds,ed0=>cases ed0; rfl
     rcases hd0.isT with ⟨p0,xs0,es0,rfl,rfl,hp0,hs0⟩ | e0
     case inr =>
      have:=n42_.mp hT _ (n6_ ed0)
      rw [e0] at this; cases this
     refine ⟨_,rfl,a,us,0,_,rfl,rfl,SqT.of (S3 _ _ ha),Xz eu0,p0,xs0,rfl,.inr (SqT.of (S3 _ _ hp0)),?_⟩;refine ⟨_,rfl,N,k,w,dx,wd1 ds,?_,hdx.same S3,hk,n24_ zx hz,fun H5 s5=>c _ _ (Y1 (wd1 ds) dx) s5 (by rw [n3_,ed]; rfl) rfl⟩;rw [wd0,hs0.len]; rfl
   · rw [a3.bls] at e3;refine ⟨E,_,rfl,SqL.of e3,_,rfl,?_⟩;have z3:(ds.map (Y1 (wd1 ds))).all id=ds.all (Y1 (wd1 ds)):=by rw [List.all_map]; rfl
     rw [z3];have S3:=s2.trans s3;cases hA:ds.all (Y1 (wd1 ds)) with
     | false =>
       rw [hA,Bool.false_and] at qe;exact iteF (qe _ S3)
     | true =>
       rw [hA,Bool.true_and] at qe;refine iteT ?_;exact ⟨_,rfl,a,us,rfl,.inr (SqT.of (S3 _ _ ha)),_,rfl,N,k,u,d2,ds.length,by rw [hl],h2.same S3,hk,hz2,fun H5 s5=>qe _ (S3.trans s5)⟩
abbrev Zaq:Stmt:=top 79
theorem Zfw (F:Fun K "_law_marks" "_law_marks" Zaq f fd) {cl:Str→Addr} (Z:Ek K mg cl):FnOkH P w K mg base 1 f fd ["_law_e"] (Ze5 K cl):=by
 have sc:FnScope ["_law_e","_law_marks_here"] ["_law_e"] (Ze Zaq):=fsc (by decide +kernel);refine F.okH sc (fun vs H Q E h=>?_) (fun cdv A outer s H vs Q hr h=>?_)
 · obtain ⟨ea,C,ix,rfl,_⟩:=h;rfl
 · obtain ⟨ea,C,ix,rfl,hE,kk,q⟩:=h;have nd:=sc.nd;have hu:=Zog hr;refine' ⟨_,?term,?read⟩
   case term=>refine' @Zd _ _ _ _ _ ?g1 ?g2;(case g1=>refine' @Zr _ _ (1) _ _ _ _ nd rfl (Or.inl rfl) ?g3 (by rfl) (by first | exact Or.inl rfl | exact Or.inr rfl | assumption);case g3=>refine' @Yd _ _ _ _ ?g4;case g4=>refine' @Za _ _ _ _ _ ?g5 ?g6 rfl;(case g5=>refine' @Zh _ _ _ _ _ _ _ _ _ Zu rfl T.b_isinstance Zf ?g7 (by decide) (by decide) (by rfl) (by rfl);case g7=>refine' @Za _ _ _ _ _ (pv 0) ?g8 rfl;case g8=>refine' @Za _ _ _ _ _ ?g9 Zb rfl;case g9=>refine' @Zz _ _ (.ref (cl "NoBalance")) _ _ rfl (Z.nm "NoBalance" (by decide)) rfl (by decide));case g6=>refine' @Za _ _ _ _ _ ?ga ?gb rfl;(case ga=>refine' @Zh _ _ _ _ _ _ _ _ _ Zu rfl T.b_isinstance Zf ?gc (by decide) (by decide) (by rfl) (by rfl);case gc=>refine' @Za _ _ _ _ _ (pv 0) ?gd rfl;case gd=>refine' @Za _ _ _ _ _ ?ge Zb rfl;case ge=>refine' @Zz _ _ (.ref (cl "NoDeed")) _ _ rfl (Z.nm "NoDeed" (by decide)) rfl (by decide));case gb=>refine' @Za _ _ _ _ _ ?gf ?gg rfl;(case gf=>refine' @Zh _ _ _ _ _ _ _ _ _ Zu rfl T.b_isinstance Zf ?gh (by decide) (by decide) (by rfl) (by rfl);case gh=>refine' @Za _ _ _ _ _ (pv 0) ?gi rfl;case gi=>refine' @Za _ _ _ _ _ ?gj Zb rfl;case gj=>refine' @Zz _ _ (.ref (cl "NoDeeds")) _ _ rfl (Z.nm "NoDeeds" (by decide)) rfl (by decide));case gg=>refine' @Za _ _ _ _ _ ?gk Zb rfl;case gk=>refine' @Zh _ _ _ _ _ _ _ _ _ Zu rfl T.b_isinstance Zf ?gl (by decide) (by decide) (by rfl) (by rfl);case gl=>refine' @Za _ _ _ _ _ (pv 0) ?gm rfl;case gm=>refine' @Za _ _ _ _ _ ?gn Zb rfl;case gn=>refine' @Zz _ _ (.ref (cl "NoFirm")) _ _ rfl (Z.nm "NoFirm" (by decide)) rfl (by decide));case g2=>refine' @Zd _ _ _ _ _ ?go ?gp;(case go=>refine' @Zr _ _ (1) _ _ _ _ nd rfl (Or.inl rfl) ?gq (by rfl) (by first | exact Or.inl rfl | exact Or.inr rfl | assumption);case gq=>refine' @Zq _ _ _ _ _ _ _ _ Xi (pv 1) ?gr;case gr=>refine' @Yd _ _ _ _ ?gs;case gs=>refine' @Za _ _ _ _ _ ?gt ?gu rfl;(case gt=>refine' @Zh _ _ _ _ _ _ _ _ _ Zu rfl T.b_isinstance Zf ?gv (by decide) (by decide) (by rfl) (by rfl);case gv=>refine' @Za _ _ _ _ _ (pv 0) ?gw rfl;case gw=>refine' @Za _ _ _ _ _ ?gx Zb rfl;case gx=>refine' @Zz _ _ (.ref (cl "NoFraction")) _ _ rfl (Z.nm "NoFraction" (by decide)) rfl (by decide));case gu=>refine' @Za _ _ _ _ _ ?gy ?gz rfl;(case gy=>refine' @Zh _ _ _ _ _ _ _ _ _ Zu rfl T.b_isinstance Zf ?g10 (by decide) (by decide) (by rfl) (by rfl);case g10=>refine' @Za _ _ _ _ _ (pv 0) ?g11 rfl;case g11=>refine' @Za _ _ _ _ _ ?g12 Zb rfl;case g12=>refine' @Zz _ _ (.ref (cl "NoFrame")) _ _ rfl (Z.nm "NoFrame" (by decide)) rfl (by decide));case gz=>refine' @Za _ _ _ _ _ ?g13 Zb rfl;case g13=>refine' @Zh _ _ _ _ _ _ _ _ _ Zu rfl T.b_isinstance Zf ?g14 (by decide) (by decide) (by rfl) (by rfl);case g14=>refine' @Za _ _ _ _ _ (pv 0) ?g15 rfl;case g15=>refine' @Za _ _ _ _ _ ?g16 Zb rfl;case g16=>refine' @Zz _ _ (.ref (cl "NoHolding")) _ _ rfl (Z.nm "NoHolding" (by decide)) rfl (by decide));case gp=>refine' @Zd _ _ _ _ _ ?g17 ?g18;(case g17=>refine' @Zr _ _ (1) _ _ _ _ nd rfl (Or.inl rfl) ?g19 (by rfl) (by first | exact Or.inl rfl | exact Or.inr rfl | assumption);case g19=>refine' @Zq _ _ _ _ _ _ _ _ Xi (pv 1) ?g1a;case g1a=>refine' @Yd _ _ _ _ ?g1b;case g1b=>refine' @Za _ _ _ _ _ ?g1c ?g1d rfl;(case g1c=>refine' @Zh _ _ _ _ _ _ _ _ _ Zu rfl T.b_isinstance Zf ?g1e (by decide) (by decide) (by rfl) (by rfl);case g1e=>refine' @Za _ _ _ _ _ (pv 0) ?g1f rfl;case g1f=>refine' @Za _ _ _ _ _ ?g1g Zb rfl;case g1g=>refine' @Zz _ _ (.ref (cl "NoInner")) _ _ rfl (Z.nm "NoInner" (by decide)) rfl (by decide));case g1d=>refine' @Za _ _ _ _ _ ?g1h ?g1i rfl;(case g1h=>refine' @Zh _ _ _ _ _ _ _ _ _ Zu rfl T.b_isinstance Zf ?g1j (by decide) (by decide) (by rfl) (by rfl);case g1j=>refine' @Za _ _ _ _ _ (pv 0) ?g1k rfl;case g1k=>refine' @Za _ _ _ _ _ ?g1l Zb rfl;case g1l=>refine' @Zz _ _ (.ref (cl "NoLine")) _ _ rfl (Z.nm "NoLine" (by decide)) rfl (by decide));case g1i=>refine' @Za _ _ _ _ _ ?g1m Zb rfl;case g1m=>refine' @Zh _ _ _ _ _ _ _ _ _ Zu rfl T.b_isinstance Zf ?g1n (by decide) (by decide) (by rfl) (by rfl);case g1n=>refine' @Za _ _ _ _ _ (pv 0) ?g1o rfl;case g1o=>refine' @Za _ _ _ _ _ ?g1p Zb rfl;case g1p=>refine' @Zz _ _ (.ref (cl "NoLoads")) _ _ rfl (Z.nm "NoLoads" (by decide)) rfl (by decide));case g18=>refine' @Zd _ _ _ _ _ ?g1q ?g1r;(case g1q=>refine' @Yx _ _ _ _ ?g1s (by rfl);case g1s=>refine' @Zbb _ _ _ _ _ _ _ _ _ _ _ _ PySem.F.plainAttrs_list PySem.F.slot_list_append PySem.F.type_list_append Ym (pv 1) ?g1t (by rfl) (by rfl) (by rfl) (by rfl) (by rfl);case g1t=>refine' @Za _ _ _ _ _ ?g1u Zb rfl;case g1u=>refine' @Zh _ _ _ _ _ _ _ _ _ Zu rfl T.b_isinstance Zf ?g1v (by decide) (by decide) (by rfl) (by rfl);case g1v=>refine' @Za _ _ _ _ _ (pv 0) ?g1w rfl;case g1w=>refine' @Za _ _ _ _ _ ?g1x Zb rfl;case g1x=>refine' @Zz _ _ (.ref (cl "NoLot")) _ _ rfl (Z.nm "NoLot" (by decide)) rfl (by decide));case g1r=>refine' @Zd _ _ _ _ _ ?g1y ?g1z;(case g1y=>refine' @Zr _ _ (1) _ _ _ _ nd rfl (Or.inl rfl) ?g20 (by rfl) (by first | exact Or.inl rfl | exact Or.inr rfl | assumption);case g20=>refine' @Zq _ _ _ _ _ _ _ _ Xi (pv 1) ?g21;case g21=>refine' @Yd _ _ _ _ ?g22;case g22=>refine' @Za _ _ _ _ _ ?g23 ?g24 rfl;(case g23=>refine' @Zh _ _ _ _ _ _ _ _ _ Zu rfl T.b_isinstance Zf ?g25 (by decide) (by decide) (by rfl) (by rfl);case g25=>refine' @Za _ _ _ _ _ (pv 0) ?g26 rfl;case g26=>refine' @Za _ _ _ _ _ ?g27 Zb rfl;case g27=>refine' @Zz _ _ (.ref (cl "NoMotions")) _ _ rfl (Z.nm "NoMotions" (by decide)) rfl (by decide));case g24=>refine' @Za _ _ _ _ _ ?g28 ?g29 rfl;(case g28=>refine' @Zh _ _ _ _ _ _ _ _ _ Zu rfl T.b_isinstance Zf ?g2a (by decide) (by decide) (by rfl) (by rfl);case g2a=>refine' @Za _ _ _ _ _ (pv 0) ?g2b rfl;case g2b=>refine' @Za _ _ _ _ _ ?g2c Zb rfl;case g2c=>refine' @Zz _ _ (.ref (cl "NoPiece")) _ _ rfl (Z.nm "NoPiece" (by decide)) rfl (by decide));case g29=>refine' @Za _ _ _ _ _ ?g2d Zb rfl;case g2d=>refine' @Zh _ _ _ _ _ _ _ _ _ Zu rfl T.b_isinstance Zf ?g2e (by decide) (by decide) (by rfl) (by rfl);case g2e=>refine' @Za _ _ _ _ _ (pv 0) ?g2f rfl;case g2f=>refine' @Za _ _ _ _ _ ?g2g Zb rfl;case g2g=>refine' @Zz _ _ (.ref (cl "NoPlate")) _ _ rfl (Z.nm "NoPlate" (by decide)) rfl (by decide));case g1z=>refine' @Zd _ _ _ _ _ ?g2h ?g2i;(case g2h=>refine' @Yx _ _ _ _ ?g2j (by rfl);case g2j=>refine' @Zbb _ _ _ _ _ _ _ _ _ _ _ _ PySem.F.plainAttrs_list PySem.F.slot_list_append PySem.F.type_list_append Ym (pv 1) ?g2k (by rfl) (by rfl) (by rfl) (by rfl) (by rfl);case g2k=>refine' @Za _ _ _ _ _ ?g2l Zb rfl;case g2l=>refine' @Zh _ _ _ _ _ _ _ _ _ Zu rfl T.b_isinstance Zf ?g2m (by decide) (by decide) (by rfl) (by rfl);case g2m=>refine' @Za _ _ _ _ _ (pv 0) ?g2n rfl;case g2n=>refine' @Za _ _ _ _ _ ?g2o Zb rfl;case g2o=>refine' @Zz _ _ (.ref (cl "NoRest")) _ _ rfl (Z.nm "NoRest" (by decide)) rfl (by decide));case g2i=>refine' @Zd _ _ _ _ _ ?g2p ?g2q;(case g2p=>refine' @Zr _ _ (1) _ _ _ _ nd rfl (Or.inl rfl) ?g2r (by rfl) (by first | exact Or.inl rfl | exact Or.inr rfl | assumption);case g2r=>refine' @Zq _ _ _ _ _ _ _ _ Xi (pv 1) ?g2s;case g2s=>refine' @Yd _ _ _ _ ?g2t;case g2t=>refine' @Za _ _ _ _ _ ?g2u ?g2v rfl;(case g2u=>refine' @Zh _ _ _ _ _ _ _ _ _ Zu rfl T.b_isinstance Zf ?g2w (by decide) (by decide) (by rfl) (by rfl);case g2w=>refine' @Za _ _ _ _ _ (pv 0) ?g2x rfl;case g2x=>refine' @Za _ _ _ _ _ ?g2y Zb rfl;case g2y=>refine' @Zz _ _ (.ref (cl "NoRounds")) _ _ rfl (Z.nm "NoRounds" (by decide)) rfl (by decide));case g2v=>refine' @Za _ _ _ _ _ ?g2z ?g30 rfl;(case g2z=>refine' @Zh _ _ _ _ _ _ _ _ _ Zu rfl T.b_isinstance Zf ?g31 (by decide) (by decide) (by rfl) (by rfl);case g31=>refine' @Za _ _ _ _ _ (pv 0) ?g32 rfl;case g32=>refine' @Za _ _ _ _ _ ?g33 Zb rfl;case g33=>refine' @Zz _ _ (.ref (cl "NoRows")) _ _ rfl (Z.nm "NoRows" (by decide)) rfl (by decide));case g30=>refine' @Za _ _ _ _ _ ?g34 Zb rfl;case g34=>refine' @Zh _ _ _ _ _ _ _ _ _ Zu rfl T.b_isinstance Zf ?g35 (by decide) (by decide) (by rfl) (by rfl);case g35=>refine' @Za _ _ _ _ _ (pv 0) ?g36 rfl;case g36=>refine' @Za _ _ _ _ _ ?g37 Zb rfl;case g37=>refine' @Zz _ _ (.ref (cl "NoStresses")) _ _ rfl (Z.nm "NoStresses" (by decide)) rfl (by decide));case g2q=>refine' @Zd _ _ _ _ _ ?g38 ?g39;(case g38=>refine' @Yx _ _ _ _ ?g3a (by rfl);case g3a=>refine' @Zbb _ _ _ _ _ _ _ _ _ _ _ _ PySem.F.plainAttrs_list PySem.F.slot_list_append PySem.F.type_list_append Ym (pv 1) ?g3b (by rfl) (by rfl) (by rfl) (by rfl) (by rfl);case g3b=>refine' @Za _ _ _ _ _ ?g3c Zb rfl;case g3c=>refine' @Zh _ _ _ _ _ _ _ _ _ Zu rfl T.b_isinstance Zf ?g3d (by decide) (by decide) (by rfl) (by rfl);case g3d=>refine' @Za _ _ _ _ _ (pv 0) ?g3e rfl;case g3e=>refine' @Za _ _ _ _ _ ?g3f Zb rfl;case g3f=>refine' @Zz _ _ (.ref (cl "NoThick")) _ _ rfl (Z.nm "NoThick" (by decide)) rfl (by decide));case g39=>refine' @Zd _ _ _ _ _ ?g3g ?g3h;(case g3g=>refine' @Zr _ _ (1) _ _ _ _ nd rfl (Or.inl rfl) ?g3i (by rfl) (by first | exact Or.inl rfl | exact Or.inr rfl | assumption);case g3i=>refine' @Zq _ _ _ _ _ _ _ _ Xi (pv 1) ?g3j;case g3j=>refine' @Yd _ _ _ _ ?g3k;case g3k=>refine' @Za _ _ _ _ _ ?g3l ?g3m rfl;(case g3l=>refine' @Zh _ _ _ _ _ _ _ _ _ Zu rfl T.b_isinstance Zf ?g3n (by decide) (by decide) (by rfl) (by rfl);case g3n=>refine' @Za _ _ _ _ _ (pv 0) ?g3o rfl;case g3o=>refine' @Za _ _ _ _ _ ?g3p Zb rfl;case g3p=>refine' @Zz _ _ (.ref (cl "NoTurning")) _ _ rfl (Z.nm "NoTurning" (by decide)) rfl (by decide));case g3m=>refine' @Za _ _ _ _ _ ?g3q ?g3r rfl;(case g3q=>refine' @Zh _ _ _ _ _ _ _ _ _ Zu rfl T.b_isinstance Zf ?g3s (by decide) (by decide) (by rfl) (by rfl);case g3s=>refine' @Za _ _ _ _ _ (pv 0) ?g3t rfl;case g3t=>refine' @Za _ _ _ _ _ ?g3u Zb rfl;case g3u=>refine' @Zz _ _ (.ref (cl "NoWay")) _ _ rfl (Z.nm "NoWay" (by decide)) rfl (by decide));case g3r=>refine' @Za _ _ _ _ _ ?g3v Zb rfl;case g3v=>refine' @Zh _ _ _ _ _ _ _ _ _ Zu rfl T.b_isinstance Zf ?g3w (by decide) (by decide) (by rfl) (by rfl);case g3w=>refine' @Za _ _ _ _ _ (pv 0) ?g3x rfl;case g3x=>refine' @Za _ _ _ _ _ ?g3y Zb rfl;case g3y=>refine' @Zz _ _ (.ref (cl "NoWays")) _ _ rfl (Z.nm "NoWays" (by decide)) rfl (by decide));case g3h=>refine' @Zd _ _ _ _ _ ?g3z ?g40;(case g3z=>refine' @Yx _ _ _ _ ?g41 (by rfl);case g41=>refine' @Zbb _ _ _ _ _ _ _ _ _ _ _ _ PySem.F.plainAttrs_list PySem.F.slot_list_append PySem.F.type_list_append Ym (pv 1) ?g42 (by rfl) (by rfl) (by rfl) (by rfl) (by rfl);case g42=>refine' @Za _ _ _ _ _ ?g43 Zb rfl;case g43=>refine' @Zh _ _ _ _ _ _ _ _ _ Zu rfl T.b_isinstance Zf ?g44 (by decide) (by decide) (by rfl) (by rfl);case g44=>refine' @Za _ _ _ _ _ (pv 0) ?g45 rfl;case g45=>refine' @Za _ _ _ _ _ ?g46 Zb rfl;case g46=>refine' @Zz _ _ (.ref (cl "NoWhole")) _ _ rfl (Z.nm "NoWhole" (by decide)) rfl (by decide));case g40=>refine' @Zi _ _ _ ?g47;case g47=>refine' @Zm _ _ _ _ ?g48;case g48=>refine' @Zq _ _ _ _ _ _ _ _ Xi (pv 1) ?g49;case g49=>refine' @Yd _ _ _ _ ?g4a;case g4a=>refine' @Za _ _ _ _ _ ?g4b ?g4c rfl;(case g4b=>refine' @Zh _ _ _ _ _ _ _ _ _ Zu rfl T.b_isinstance Zf ?g4d (by decide) (by decide) (by rfl) (by rfl);case g4d=>refine' @Za _ _ _ _ _ (pv 0) ?g4e rfl;case g4e=>refine' @Za _ _ _ _ _ ?g4f Zb rfl;case g4f=>refine' @Zz _ _ (.ref (cl "NotHeld")) _ _ rfl (Z.nm "NotHeld" (by decide)) rfl (by decide));case g4c=>refine' @Za _ _ _ _ _ ?g4g ?g4h rfl;(case g4g=>refine' @Zh _ _ _ _ _ _ _ _ _ Zu rfl T.b_isinstance Zf ?g4i (by decide) (by decide) (by rfl) (by rfl);case g4i=>refine' @Za _ _ _ _ _ (pv 0) ?g4j rfl;case g4j=>refine' @Za _ _ _ _ _ ?g4k Zb rfl;case g4k=>refine' @Zz _ _ (.ref (cl "TooMany")) _ _ rfl (Z.nm "TooMany" (by decide)) rfl (by decide));case g4h=>refine' @Za _ _ _ _ _ ?g4l Zb rfl;case g4l=>refine' @Zh _ _ _ _ _ _ _ _ _ Zu rfl T.b_isinstance Zf ?g4m (by decide) (by decide) (by rfl) (by rfl);case g4m=>refine' @Za _ _ _ _ _ (pv 0) ?g4n rfl;case g4n=>refine' @Za _ _ _ _ _ ?g4o Zb rfl;case g4o=>refine' @Zz _ _ (.ref (cl "NoText")) _ _ rfl (Z.nm "NoText" (by decide)) rfl (by decide)
   case read =>
    refine ⟨_,rfl,ea,C,_,_,rfl,((Same.refl H) _ _ hE),kk.lk,.inl ⟨_,rfl,kk.is 0 _ rfl⟩,_,rfl,ea,C,_,_,rfl,((Same.refl H) _ _ hE),kk.lk,.inl ⟨_,rfl,kk.is 1 _ rfl⟩,_,rfl,ea,C,_,_,rfl,((Same.refl H) _ _ hE),kk.lk,.inl ⟨_,rfl,kk.is 2 _ rfl⟩,_,rfl,ea,C,_,_,rfl,((Same.refl H) _ _ hE),kk.lk,.inl ⟨_,rfl,kk.is 3 _ rfl⟩,z4_,?_⟩;intro p1 n1;generalize hH1:upd H p1 _=H1;have S1:Same H H1:=by (rw [← hH1]; exact Same.new n1)
    have A1:=(congrFun hH1 p1).symm;rw [Zc] at A1;clear hH1;have T1:Same H H1:=(Same.refl H).trans S1;refine ⟨_,rfl,_,rfl,ea,C,_,_,rfl,(T1 _ _ hE),kk.lk,.inl ⟨_,rfl,kk.is 4 _ rfl⟩,_,rfl,ea,C,_,_,rfl,(T1 _ _ hE),kk.lk,.inl ⟨_,rfl,kk.is 5 _ rfl⟩,_,rfl,ea,C,_,_,rfl,(T1 _ _ hE),kk.lk,.inl ⟨_,rfl,kk.is 6 _ rfl⟩,z3_,?_⟩;intro p2 n2;generalize hH2:upd H1 p2 _=H2;have S2:Same H1 H2:=by (rw [← hH2]; exact Same.new n2)
    have A2:=(congrFun hH2 p2).symm;rw [Zc] at A2;clear hH2;have T2:Same H H2:=T1.trans S2;refine ⟨p1,p2,_,_,rfl,rfl,(S2 _ _ A1),A2,by show 7≤sizeLine; decide,?_⟩;intro p3 n3;generalize hH3:upd H2 p3 _=H3;have S3:Same H2 H3:=by (rw [← hH3]; exact Same.new n3)
    have A3:=(congrFun hH3 p3).symm;rw [Zc] at A3;clear hH3;have T3:Same H H3:=T2.trans S3;refine ⟨_,rfl,_,rfl,ea,C,_,_,rfl,(T3 _ _ hE),kk.lk,.inl ⟨_,rfl,kk.is 7 _ rfl⟩,_,rfl,ea,C,_,_,rfl,(T3 _ _ hE),kk.lk,.inl ⟨_,rfl,kk.is 8 _ rfl⟩,_,rfl,ea,C,_,_,rfl,(T3 _ _ hE),kk.lk,.inl ⟨_,rfl,kk.is 9 _ rfl⟩,z3_,?_⟩;intro p4 n4;generalize hH4:upd H3 p4 _=H4;have S4:Same H3 H4:=by (rw [← hH4]; exact Same.new n4)
    have A4:=(congrFun hH4 p4).symm;rw [Zc] at A4;clear hH4;have T4:Same H H4:=T3.trans S4;refine ⟨p3,p4,_,_,rfl,rfl,(S4 _ _ A3),A4,by show 10≤sizeLine; decide,?_⟩;intro p5 n5;generalize hH5:upd H4 p5 _=H5;have S5:Same H4 H5:=by (rw [← hH5]; exact Same.new n5)
    have A5:=(congrFun hH5 p5).symm;rw [Zc] at A5;clear hH5;have T5:Same H H5:=T4.trans S5;refine ⟨_,rfl,.inl ⟨rfl,_,SqL.of A5⟩,_,rfl,ea,C,_,_,rfl,(T5 _ _ hE),kk.lk,.inl ⟨_,rfl,kk.is 10 _ rfl⟩,p5,_,_,rfl,rfl,A5,by show 10 < sizeLine; decide,?_⟩;generalize hH6:upd H5 p5 _=H6;have K6:Keep p5 H5 H6:=by (rw [← hH6]; exact Keep.upd)
    have A6:=(congrFun hH6 p5).symm;rw [Zc] at A6;clear hH6;have T6:Same H H6:=fun b o e=>K6 b o (Zk (T4 b o e) n5) (T5 b o e);refine ⟨_,rfl,_,rfl,ea,C,_,_,rfl,(T6 _ _ hE),kk.lk,.inl ⟨_,rfl,kk.is 11 _ rfl⟩,_,rfl,ea,C,_,_,rfl,(T6 _ _ hE),kk.lk,.inl ⟨_,rfl,kk.is 12 _ rfl⟩,_,rfl,ea,C,_,_,rfl,(T6 _ _ hE),kk.lk,.inl ⟨_,rfl,kk.is 13 _ rfl⟩,z3_,?_⟩;intro p7 n7;generalize hH7:upd H6 p7 _=H7;have S7:Same H6 H7:=by (rw [← hH7]; exact Same.new n7)
    have A7:=(congrFun hH7 p7).symm;rw [Zc] at A7;clear hH7;have T7:Same H H7:=T6.trans S7;refine ⟨p5,p7,_,_,rfl,rfl,(S7 _ _ A6),A7,by show 14≤sizeLine; decide,?_⟩;intro p8 n8;generalize hH8:upd H7 p8 _=H8;have S8:Same H7 H8:=by (rw [← hH8]; exact Same.new n8)
    have A8:=(congrFun hH8 p8).symm;rw [Zc] at A8;clear hH8;have T8:Same H H8:=T7.trans S8;refine ⟨_,rfl,.inl ⟨rfl,_,SqL.of A8⟩,_,rfl,ea,C,_,_,rfl,(T8 _ _ hE),kk.lk,.inl ⟨_,rfl,kk.is 14 _ rfl⟩,p8,_,_,rfl,rfl,A8,by show 14 < sizeLine; decide,?_⟩;generalize hH9:upd H8 p8 _=H9;have K9:Keep p8 H8 H9:=by (rw [← hH9]; exact Keep.upd)
    have A9:=(congrFun hH9 p8).symm;rw [Zc] at A9;clear hH9;have T9:Same H H9:=fun b o e=>K9 b o (Zk (T7 b o e) n8) (T8 b o e);refine ⟨_,rfl,_,rfl,ea,C,_,_,rfl,(T9 _ _ hE),kk.lk,.inl ⟨_,rfl,kk.is 15 _ rfl⟩,_,rfl,ea,C,_,_,rfl,(T9 _ _ hE),kk.lk,.inl ⟨_,rfl,kk.is 16 _ rfl⟩,_,rfl,ea,C,_,_,rfl,(T9 _ _ hE),kk.lk,.inl ⟨_,rfl,kk.is 17 _ rfl⟩,z3_,?_⟩;intro p10 n10;generalize hH10:upd H9 p10 _=H10;have S10:Same H9 H10:=by (rw [← hH10]; exact Same.new n10)
    have A10:=(congrFun hH10 p10).symm;rw [Zc] at A10;clear hH10;have T10:Same H H10:=T9.trans S10;refine ⟨p8,p10,_,_,rfl,rfl,(S10 _ _ A9),A10,by show 18≤sizeLine; decide,?_⟩;intro p11 n11;generalize hH11:upd H10 p11 _=H11;have S11:Same H10 H11:=by (rw [← hH11]; exact Same.new n11)
    have A11:=(congrFun hH11 p11).symm;rw [Zc] at A11;clear hH11;have T11:Same H H11:=T10.trans S11;refine ⟨_,rfl,.inl ⟨rfl,_,SqL.of A11⟩,_,rfl,ea,C,_,_,rfl,(T11 _ _ hE),kk.lk,.inl ⟨_,rfl,kk.is 18 _ rfl⟩,p11,_,_,rfl,rfl,A11,by show 18 < sizeLine; decide,?_⟩;generalize hH12:upd H11 p11 _=H12;have K12:Keep p11 H11 H12:=by (rw [← hH12]; exact Keep.upd)
    have A12:=(congrFun hH12 p11).symm;rw [Zc] at A12;clear hH12;have T12:Same H H12:=fun b o e=>K12 b o (Zk (T10 b o e) n11) (T11 b o e);refine ⟨_,rfl,_,rfl,ea,C,_,_,rfl,(T12 _ _ hE),kk.lk,.inl ⟨_,rfl,kk.is 19 _ rfl⟩,_,rfl,ea,C,_,_,rfl,(T12 _ _ hE),kk.lk,.inl ⟨_,rfl,kk.is 20 _ rfl⟩,_,rfl,ea,C,_,_,rfl,(T12 _ _ hE),kk.lk,.inl ⟨_,rfl,kk.is 21 _ rfl⟩,z3_,?_⟩;intro p13 n13;generalize hH13:upd H12 p13 _=H13;have S13:Same H12 H13:=by (rw [← hH13]; exact Same.new n13)
    have A13:=(congrFun hH13 p13).symm;rw [Zc] at A13;clear hH13;have T13:Same H H13:=T12.trans S13;refine ⟨p11,p13,_,_,rfl,rfl,(S13 _ _ A12),A13,by show 22≤sizeLine; decide,?_⟩;intro p14 n14;generalize hH14:upd H13 p14 _=H14;have S14:Same H13 H14:=by (rw [← hH14]; exact Same.new n14)
    have A14:=(congrFun hH14 p14).symm;rw [Zc] at A14;clear hH14;have T14:Same H H14:=T13.trans S14;refine ⟨_,rfl,.inl ⟨rfl,_,SqL.of A14⟩,_,rfl,ea,C,_,_,rfl,(T14 _ _ hE),kk.lk,.inl ⟨_,rfl,kk.is 22 _ rfl⟩,p14,_,_,rfl,rfl,A14,by show 22 < sizeLine; decide,?_⟩;generalize hH15:upd H14 p14 _=H15;have K15:Keep p14 H14 H15:=by (rw [← hH15]; exact Keep.upd)
    have A15:=(congrFun hH15 p14).symm;rw [Zc] at A15;clear hH15;have T15:Same H H15:=fun b o e=>K15 b o (Zk (T13 b o e) n14) (T14 b o e);refine ⟨_,rfl,_,rfl,ea,C,_,_,rfl,(T15 _ _ hE),kk.lk,.inl ⟨_,rfl,kk.is 23 _ rfl⟩,_,rfl,ea,C,_,_,rfl,(T15 _ _ hE),kk.lk,.inl ⟨_,rfl,kk.is 24 _ rfl⟩,_,rfl,ea,C,_,_,rfl,(T15 _ _ hE),kk.lk,.inl ⟨_,rfl,kk.is 25 _ rfl⟩,z3_,?_⟩;intro p16 n16;generalize hH16:upd H15 p16 _=H16;have S16:Same H15 H16:=by (rw [← hH16]; exact Same.new n16)
    have A16:=(congrFun hH16 p16).symm;rw [Zc] at A16;clear hH16;have T16:Same H H16:=T15.trans S16;refine ⟨p14,p16,_,_,rfl,rfl,(S16 _ _ A15),A16,by show 26≤sizeLine; decide,?_⟩;intro p17 n17;generalize hH17:upd H16 p17 _=H17;have S17:Same H16 H17:=by (rw [← hH17]; exact Same.new n17)
    have A17:=(congrFun hH17 p17).symm;rw [Zc] at A17;clear hH17;have T17:Same H H17:=T16.trans S17;exact q _ _ T17 A17
abbrev Zbi:Stmt:=top 80
theorem Zhb (F:Fun K "_law_word" "_law_word" Zbi f fd) {cl:Str→Addr} (Z:Ek K mg cl) (H__law_marks:CalH P w K mg base "_law_marks" 1 ["_law_e"] (Ze5 K cl)):FnOkH P w K mg base 2 f fd ["_law_e"] (Zie K cl):=by
 have sc:FnScope ["_law_e","_law_words","_law_marks_here","_law_word_here"] ["_law_e"] (Ze Zbi):=fsc (by decide +kernel);refine F.okH sc (fun vs H Q E h=>?_) (fun cdv A outer s H vs Q hr h=>?_)
 · obtain ⟨ea,C,ix,rfl,_⟩:=h;rfl
 · obtain ⟨ea,C,ix,rfl,hE,kk,hix,q⟩:=h;have nd:=sc.nd;have hu:=Zog hr;refine' ⟨_,?term,?read⟩
   case term=>refine' @Zd _ _ _ _ _ ?g1 ?g2;(case g1=>refine' @Zr _ _ (1) _ _ _ _ nd rfl (Or.inl rfl) ?g3 (by rfl) (by first | exact Or.inl rfl | exact Or.inr rfl | assumption);case g3=>refine' @Yd _ _ _ _ (Za Z6 (Za Z6 (Za Z6 (Za Z6 (Za Z6 (Za Z6 (Za Z6 (Za Z6 (Za Z6 Zb rfl) rfl) rfl) rfl) rfl) rfl) rfl) rfl) rfl));case g2=>refine' @Zd _ _ _ _ _ ?g4 ?g5;(case g4=>refine' @Zr _ _ (1) _ _ _ _ nd rfl (Or.inl rfl) ?g6 (by rfl) (by first | exact Or.inl rfl | exact Or.inr rfl | assumption);case g6=>refine' @Zq _ _ _ _ _ _ _ _ Xi (pv 1) ?g7;case g7=>refine' @Yd _ _ _ _ (Za Z6 (Za Z6 Zb rfl) rfl));case g5=>refine' @Zd _ _ _ _ _ ?g8 ?g9;(case g8=>refine' @Zr _ _ (1) _ _ _ _ nd rfl (Or.inl rfl) ?ga (by rfl) (by first | exact Or.inl rfl | exact Or.inr rfl | assumption);case ga=>refine' @Zq _ _ _ _ _ _ _ _ Xi (pv 1) ?gb;case gb=>refine' @Yd _ _ _ _ (Za Z6 (Za Z6 (Za Z6 (Za Z6 (Za Z6 (Za Z6 (Za Z6 (Za Z6 Zb rfl) rfl) rfl) rfl) rfl) rfl) rfl) rfl));case g9=>refine' @Zd _ _ _ _ _ ?gc ?gd;(case gc=>refine' @Zr _ _ (1) _ _ _ _ nd rfl (Or.inl rfl) ?ge (by rfl) (by first | exact Or.inl rfl | exact Or.inr rfl | assumption);case ge=>refine' @Zq _ _ _ _ _ _ _ _ Xi (pv 1) ?gf;case gf=>refine' @Yd _ _ _ _ (Za Z6 (Za Z6 Zb rfl) rfl));case gd=>refine' @Zd _ _ _ _ _ ?gg ?gh;(case gg=>refine' @Zr _ _ (1) _ _ _ _ nd rfl (Or.inl rfl) ?gi (by rfl) (by first | exact Or.inl rfl | exact Or.inr rfl | assumption);case gi=>refine' @Zq _ _ _ _ _ _ _ _ Xi (pv 1) ?gj;case gj=>refine' @Yd _ _ _ _ (Za Z6 (Za Z6 (Za Z6 (Za Z6 (Za Z6 Zb rfl) rfl) rfl) rfl) rfl));case gh=>refine' @Zd _ _ _ _ _ ?gk ?gl;(case gk=>refine' @Zr _ _ (2) _ _ _ _ nd rfl (Or.inl rfl) (Zlx H__law_marks hr (by decide) rfl (Za (pv 0) Zb rfl)) (by rfl) (by first | exact Or.inl rfl | exact Or.inr rfl | assumption));case gl=>refine' @Zd _ _ _ _ _ ?gm ?gn;(case gm=>refine' @Y3 _ _ _ _ _ _ _ _ ?go (Zi (Zm (Zn (Za Z6 Zb rfl)))) Z2;case go=>refine' @PW.pt _ _ _ ?gp;case gp=>refine' @Zdw _ _ _ _ _ _ _ ?gq ?gr;(case gq=>refine' @Z0 _ _ _ _ _ _ _ _ Ze1 ?gs Zg (Z4 _);case gs=>refine' @Zbb _ _ _ _ _ _ _ _ _ _ _ _ PySem.F.plainAttrs_list PySem.F.slot_list_count PySem.F.type_list_count Zmq (pv 2) (Za Zad Zb rfl) (by rfl) (by rfl) (by rfl) (by rfl) (by rfl));case gr=>refine' @Zcr _ _ _ _ ?gt;case gt=>refine' @Xb _ _ _ _ ?gu;case gu=>refine' @Zx _ _ _ (Zh Zu rfl T.b_isinstance Zf (Za (pv 0) (Za (Yy (v:=.ty "ValueError") rfl Z.vb Zre rfl) Zb rfl) rfl)) (fun _=>rfl));case gn=>refine' @Zd _ _ _ _ _ ?gv ?gw;(case gv=>refine' @Zr _ _ (3) _ _ _ _ nd rfl (Or.inl rfl) ?gx (by rfl) (by first | exact Or.inl rfl | exact Or.inr rfl | assumption);case gx=>refine' @Yj _ _ _ _ _ _ _ Z9 (pv 1) ?gy (fun _ _=>rfl);case gy=>refine' @Zbb _ _ _ _ _ _ _ _ _ _ _ _ PySem.F.plainAttrs_list PySem.F.slot_list_index PySem.F.type_list_index (Zky hu) (pv 2) (Za Zad Zb rfl) (by rfl) (by rfl) (by rfl) (by rfl) (by rfl));case gw=>refine' @Zd _ _ _ _ _ ?gz ?g10;(case gz=>refine' @Y3 _ _ _ _ _ _ _ _ (Z0 Zfj (pv 3) Z6 (Z4 _)) (Zi (Zm Zja)) Z2);case g10=>refine' @Zi _ _ _ ?g11;case g11=>refine' @Zm _ _ _ _ ?g12;case g12=>refine' @Zbq _ _ _ _ _ _ _ _ (Z0 Zfj (pv 3) Z6 (Z4 _)) Zja (Zn (Za (pv 3) Zb rfl))
   case read =>
    refine ⟨by show 9≤sizeLine; decide,?_⟩;intro p1 n1;generalize hH1:upd H p1 _=H1;have S1:Same H H1:=by (rw [← hH1]; exact Same.new n1)
    have A1:=(congrFun hH1 p1).symm;rw [Zc] at A1;clear hH1;have T1:Same H H1:=(Same.refl H).trans S1;refine ⟨_,rfl,z2_,?_⟩;intro p2 n2;generalize hH2:upd H1 p2 _=H2;have S2:Same H1 H2:=by (rw [← hH2]; exact Same.new n2)
    have A2:=(congrFun hH2 p2).symm;rw [Zc] at A2;clear hH2;have T2:Same H H2:=T1.trans S2;refine ⟨p1,p2,_,_,rfl,rfl,(S2 _ _ A1),A2,by show 11≤sizeLine; decide,?_⟩;intro p3 n3;generalize hH3:upd H2 p3 _=H3;have S3:Same H2 H3:=by (rw [← hH3]; exact Same.new n3)
    have A3:=(congrFun hH3 p3).symm;rw [Zc] at A3;clear hH3;have T3:Same H H3:=T2.trans S3;refine ⟨_,rfl,by show 8≤sizeLine; decide,?_⟩;intro p4 n4;generalize hH4:upd H3 p4 _=H4;have S4:Same H3 H4:=by (rw [← hH4]; exact Same.new n4)
    have A4:=(congrFun hH4 p4).symm;rw [Zc] at A4;clear hH4;have T4:Same H H4:=T3.trans S4;refine ⟨p3,p4,_,_,rfl,rfl,(S4 _ _ A3),A4,by show 19≤sizeLine; decide,?_⟩;intro p5 n5;generalize hH5:upd H4 p5 _=H5;have S5:Same H4 H5:=by (rw [← hH5]; exact Same.new n5)
    have A5:=(congrFun hH5 p5).symm;rw [Zc] at A5;clear hH5;have T5:Same H H5:=T4.trans S5;refine ⟨_,rfl,z2_,?_⟩;intro p6 n6;generalize hH6:upd H5 p6 _=H6;have S6:Same H5 H6:=by (rw [← hH6]; exact Same.new n6)
    have A6:=(congrFun hH6 p6).symm;rw [Zc] at A6;clear hH6;have T6:Same H H6:=T5.trans S6;refine ⟨p5,p6,_,_,rfl,rfl,(S6 _ _ A5),A6,by show 21≤sizeLine; decide,?_⟩;intro p7 n7;generalize hH7:upd H6 p7 _=H7;have S7:Same H6 H7:=by (rw [← hH7]; exact Same.new n7)
    have A7:=(congrFun hH7 p7).symm;rw [Zc] at A7;clear hH7;have T7:Same H H7:=T6.trans S7;refine ⟨_,rfl,z5_,?_⟩;intro p8 n8;generalize hH8:upd H7 p8 _=H8;have S8:Same H7 H8:=by (rw [← hH8]; exact Same.new n8)
    have A8:=(congrFun hH8 p8).symm;rw [Zc] at A8;clear hH8;have T8:Same H H8:=T7.trans S8;refine ⟨p7,p8,_,_,rfl,rfl,(S8 _ _ A7),A8,by show 26≤sizeLine; decide,?_⟩;intro p9 n9;generalize hH9:upd H8 p9 _=H9;have S9:Same H8 H9:=by (rw [← hH9]; exact Same.new n9)
    have A9:=(congrFun hH9 p9).symm;rw [Zc] at A9;clear hH9;have T9:Same H H9:=T8.trans S9;refine ⟨_,rfl,ea,C,ix,rfl,(T9 _ _ hE),kk,fun M HM sM aM=>?_⟩;have cnt:(mk26 ix).countP (· == true)=1:=by (obtain rfl:ix=16:=hix; rfl)
    refine ⟨_,rfl,.inl ⟨rfl,_,SqL.of aM⟩,M,mk26 ix,true,rfl,rfl,aM,rfl,_,rfl,?_⟩;rw [cnt];refine iteF ?_;have eM:=sM _ _ (T9 _ _ hE);refine ⟨_,rfl,ea,C,_,true,rfl,eM,kk.lk,.inr ⟨_,rfl,kk.ve⟩,true,rfl,iteF ?_⟩;have wL:=sM _ _ A9
    obtain ⟨h1,h2,h3⟩:(mk26 ix)[ix]? = some true∧(∀ m,m < ix→(mk26 ix)[m]?≠some true)∧ix < 26:=by
     obtain rfl:ix=16:=hix
     · exact ⟨rfl,by decide,by decide⟩
    refine ⟨_,rfl,_,rfl,.inl ⟨rfl,_,SqL.of aM⟩,M,mk26 ix,ix,rfl,rfl,aM,h1,h2,by show 26≤1000; decide,?_⟩
    obtain ⟨w,hw,hm,ht,wq⟩:∃ w:Str,atI [V.str "balance",V.str "deed",V.str "deeds",V.str "firm",V.str "fraction",V.str "frame",V.str "holding",V.str "inner",V.str "line",V.str "loads",V.str "lot",V.str "motions",V.str "piece",V.str "plate",V.str "rest",V.str "rounds",V.str "rows",V.str "stresses",V.str "thick",V.str "turning",V.str "way",V.str "ways",V.str "whole",V.str "held",V.str "many",V.str "text"] ix=some (.str w)∧decide (V.str w=V.str "many")=false∧decide (V.str w=V.str "text")=false∧WRD.getD ix "" = w:=by
     obtain rfl:ix=16:=hix
     · exact ⟨_,rfl,by decide +kernel,by decide +kernel,rfl⟩
    refine ⟨p9,_,ix,_,rfl,rfl,SqL.of wL,hw,?_⟩;refine ⟨_,rfl,rfl,_,rfl,?_⟩;rw [hm];refine iteF ?_;refine ⟨_,rfl,rfl,_,rfl,?_⟩;rw [ht];refine iteF ?_;refine ⟨_,rfl,z1_,fun T nT=>?_⟩;rw [wq] at q;exact q T _ (T9.trans (sM.trans (Same.new nT))) Zc
abbrev Zbn:Stmt:=top 81
theorem Zhg (F:Fun K "_law_said" "_law_said" Zbn f fd) {cl:Str→Addr} (Z:Ek K mg cl) (H__law_word:CalH P w K mg base "_law_word" 2 ["_law_e"] (Zie K cl)):FnOk P w K mg base CX0 13 f fd ["_law_call"] (Zdh P w K mg base cl):=by
 have sc:FnScope ["_law_call","_law_e"] ["_law_call"] (Ze Zbn):=fsc (by decide +kernel);refine F.ok sc (fun vs H Q E h=>by obtain ⟨a,sp,o,fd',rfl,_⟩:=h;rfl) fun cdv A outer s H vs Q E hr h=>?_;obtain ⟨a,sp,o,fd',rfl,ho,hf,L,mo,q⟩:=h;have nd:=sc.nd;refine' ⟨_,?term,?read⟩
 case term =>
  refine' @Zi _ _ _ ?g1
  case g1 =>
   refine' @Zqt _ _ _ _ _ _ 1 _ _ _ _ _ _ rfl rfl ?b ?h rfl Z.mpe nd rfl rfl (by decide)
   case b =>
    intro pins E;refine' @Zi _ _ _ (Zm (Yd (Za ?c Zb rfl)))
    case c =>
     refine' @Znr _ 0 12 12 _ E _ _ P w K mg base ?n0 ?n1 ?n2 ?n3 ?n4 (n5_ _) ?n5 ?n6
     case n0=>exact ⟨rfl,rfl,rfl,rfl,rfl⟩
     case n1=>rfl
     case n2=>exact Or.inl rfl
     case n3=>exact Zpe rfl
     case n4=>exact hr
     case n5=>decide
     case n6=>decide
   case h =>
    intro ea;refine' @Zi _ _ _ (Zm ?d)
    case d=>exact Zlx H__law_word (hr.marked _) (by decide) rfl (Za (pv 1) Zb rfl)
 refine ⟨a,sp,o,fd',rfl,ho,hf,L,mo _ _ _ _ _ (fun v H1 hq=>⟨z1_,hq⟩) (fun c a' H1 hq=>?_) q⟩;obtain ⟨C,ix,rfl,kk,hix,hq⟩:=hq;refine ⟨C,rfl,kk.pe,fun σ ea hl ne=>?_⟩
 obtain ⟨u1,u2,rfl⟩:∃ u1 u2,σ=[u1,u2]:=by
  match σ,hl with
  | [u1,u2],_=>exact ⟨u1,u2,rfl⟩
 exact ⟨_,rfl,ea,C,ix,rfl,Zc,kk,hix,fun T H2 s2 hT=>hq T H2 ((Same.new ne).trans s2) hT⟩
abbrev Y4:Stmt:=top 87
theorem Zfq (F:Fun K "_law_right" "_law_right" Y4 f fd) {cl:Str→Addr} (Z:Ek K mg cl) {cc Pw Ph:Addr} (hcd:fd.code=.ref cc) (CK:∀ h,K.In h→PySem.W.CodeHd h cc Pw) (BK:BltK K mg) (X_solved:CalX P w K mg base "solved" 10 ["rows","rights"] (Zb7 Ph (cl "NoRows"))) (X_is_solution:CalX P w K mg base "is_solution" 7 ["rows","rights","thing"] (Y0 (cl "NoRows"))) (X_is_mix:CalX P w K mg base "is_mix" 7 ["rows","rights","thing"] (Y0 (cl "NoRows"))) (Cy_:a31_ P w K mg base) (Cai_:Cal P w K mg base "_law_said" 13 ["_law_call"] (Zdh P w K mg base cl)):FnOk P w K mg base CX0 14 f fd ["_law_rows","_law_rights","_law_thing"] (Zfh Ph Pw):=by
 have sc:FnScope ["_law_rows","_law_rights","_law_thing","_law_kept","_law_good","_law_calls","_law_call","_law_said_here"] ["_law_rows","_law_rights","_law_thing"] (Ze Y4):=fsc (by decide +kernel);refine F.okC sc (fun vs H Q E h=>?_) (fun cdv ecd A outer s H vs Q E hr h=>?_)
 · obtain ⟨N,v,u,x,d1,d2,d3,rfl,_⟩:=h;rfl
 · obtain ⟨N,v,u,x,d1,d2,d3,rfl,h1,h2,h3,e1,e2,e3,z1,z2,z3,PO,nP,th,tw,q⟩:=h;have nd:=sc.nd;refine' ⟨_,?term,?read⟩
   case term=>refine' @Zd _ _ _ _ _ ?g1 ?g2;(case g1=>refine' @Zix _ _ (3) (4) _ _ _ _ _ _ _ _ _ _ _ rfl nd rfl rfl (by decide) rfl rfl (Za (Zh (Zev hr) rfl T.b_repr Zk5 (Za (Zn (Za (pv 0) (Za (pv 1) (Za (pv 2) Zb rfl) rfl) rfl)) Zb rfl)) (Za (Zl Cy_ hr (by decide) rfl (Za (pv 0) (Za (pv 1) Zb rfl) rfl)) Zb rfl) rfl) rfl (by rfl));case g2=>refine' @Zd _ _ _ _ _ ?g3 ?g4;(case g3=>refine' @Zr _ _ (5) _ _ _ _ nd rfl (Or.inl rfl) ?g5 (by rfl) (by first | exact Or.inl rfl | exact Or.inr rfl | assumption);case g5=>refine' @Yd _ _ _ _ (Za (Zjj (cc:=cc) (P:=Pw) (q := "_law_right.<locals>.<lambda>") rfl rfl (ecd.symm.trans hcd) rfl CK BK) Zb rfl));case g4=>refine' @Zd _ _ _ _ _ ?g6 ?g7;(case g6=>refine' @Yx _ _ _ _ ?g8 (by rfl);case g8=>refine' @Zbb _ _ _ _ _ _ _ _ _ _ _ _ PySem.F.plainAttrs_list PySem.F.slot_list_append PySem.F.type_list_append Ym (pv 5) (Za (Zjj (cc:=cc) (P:=Pw) (q := "_law_right.<locals>.<lambda>") rfl rfl (ecd.symm.trans hcd) rfl CK BK) Zb rfl) (by rfl) (by rfl) (by rfl) (by rfl) (by rfl));case g7=>refine' @Zd _ _ _ _ _ ?g9 ?ga;(case g9=>refine' @Yx _ _ _ _ ?gb (by rfl);case gb=>refine' @Zbb _ _ _ _ _ _ _ _ _ _ _ _ PySem.F.plainAttrs_list PySem.F.slot_list_append PySem.F.type_list_append Ym (pv 5) (Za (Zjj (cc:=cc) (P:=Pw) (q := "_law_right.<locals>.<lambda>") rfl rfl (ecd.symm.trans hcd) rfl CK BK) Zb rfl) (by rfl) (by rfl) (by rfl) (by rfl) (by rfl));case ga=>refine' @Zd _ _ _ _ _ ?gc (Zi (Zm (Zas Zfj (Zh (Zev hr) rfl T.b_repr Zk5 (Za (Zn (Za (pv 0) (Za (pv 1) (Za (pv 2) Zb rfl) rfl) rfl)) Zb rfl)) (pv 3) (Z4 _))));case gc=>refine' @Zai _ _ _ _ _ _ _ _ PassesOwn.never rfl (Yi (pv 5)) (Zs (i:=6) nd rfl (Or.inl rfl)) ?gd (by intro _ ; rfl);case gd=>refine' @Zd _ _ _ _ _ ?ge ?gf;(case ge=>refine' @Zr _ _ (7) _ _ _ _ nd rfl (Or.inl rfl) (Zg0 (i:=0) rfl rfl rfl rfl (Zg0 (i:=1) rfl rfl rfl rfl (Zg0 (i:=2) rfl rfl rfl rfl (Zl Cai_ hr (by decide) rfl (Za (pv 6) Zb rfl))))) (by rfl) (by first | exact Or.inl rfl | exact Or.inr rfl | assumption));case gf=>refine' @Zi _ _ _ ?gg;case gg=>refine' @Y3 _ _ _ _ _ _ _ _ ?gh (Zi (Zm Zad)) Z2;case gh=>refine' @PW.pt _ _ _ ?gi;case gi=>refine' @Zdw _ _ _ _ _ _ _ (Z0 Ze1 (Zh Ys rfl T.b_isinstance Zf (Za (pv 7) (Za (Yy (v:=.ty "list") rfl T.b_list Zdy rfl) Zb rfl) rfl)) (pv 4) (Z4 _)) ?gj;case gj=>refine' @Zcr _ _ _ _ ?gk;case gk=>refine' @PW.pt _ _ _ ?gl;case gl=>refine' @Zes _ _ _ _ _ _ _ ?gm ?gn;(case gm=>refine' @Xb _ _ _ _ ?go;case go=>refine' @Zx _ _ _ (pv 4) (fun _=>rfl));case gn=>refine' @Zdj _ _ _ _ (Z0 (Zqx Zo4 (Zq5 hr)) (pv 7) (Zn (Za Z6 Zb rfl)) (Z4 _))
   case read =>
    refine ⟨_,rfl,_,rfl,_,rfl,z3_,fun p0 np0=>?_⟩;generalize gG:upd H p0 (.tup [v,u,x])=H0;obtain ⟨s0,a0⟩:=gen_upd gG np0;have hdp:(PyData.tuple [d1,d2,d3]).depth≤20:=by show max _ (max _ (max _ 0))+1≤20; omega
    have hnz:nz (PyData.tuple [d1,d2,d3])≤8000:=by show 1+(nz d1+1+(nz d2+1+(nz d3+1+0)))≤8000; omega
    refine ⟨N,101,_,.tuple [d1,d2,d3],rfl,.tup a0 (.cons (h1.same s0) (.cons (h2.same s0) (.cons (h3.same s0) .nil))),by decide,hdp,hnz,?_⟩;refine ⟨_,rfl,_,rfl,N,101,v,u,d1,d2,rfl,h1.same s0,h2.same s0,by decide,by omega,by omega,fun H1 s1=>?_⟩;have s01:=s0.trans s1;have tw1:=tw.same s01;have th1:=th.same s01;refine ⟨_,_,rfl,?_⟩;refine ⟨tw1,fun a1 F1 kp1 tq1 na1 nP1 l1=>?_⟩;refine ⟨z1_,fun L nL=>?_⟩;generalize hG:upd F1 L (.lst [.ref a1])=G1;have e1:G1 L=some (.lst [.ref a1]):=by (rw [← hG]; exact Zc)
    have sG1:Same F1 G1:=by (rw [← hG]; exact Same.new nL)
    clear hG;replace l1:=l1.same sG1;have tb1:=tq1.same sG1;have K1:Xk Pw H1 G1:=fun b o n e=>sG1 _ _ (kp1 b o n e);have nLH:∀ b o,b≠Pw→H1 b=some o→b≠L:=fun b o n e=>Zk (kp1 b o n e) nL;refine ⟨_,rfl,.inl ⟨rfl,_,SqL.of e1⟩,tb1,fun a2 F2 kp2 tq2 na2 nP2 l2=>?_⟩;have nLP2:L≠Pw:=fun z=>by (obtain ⟨ps,h,_⟩:=tb1; rw [z,h] at e1; cases e1)
    have f2:=kp2 _ _ nLP2 e1;replace l1:=l1.keepP tb1 kp2;refine ⟨L,_,_,rfl,rfl,f2,by show 1 < sizeLine; decide,?_⟩;generalize hG:upd F2 L (.lst ([.ref a1]++[.ref a2]))=G2;have e2:G2 L=some (.lst [.ref a1,.ref a2]):=by (rw [← hG]; exact Zc)
    have kL2:Keep L F2 G2:=by (rw [← hG]; exact Keep.upd)
    clear hG;replace l1:=l1.keepL f2 kL2;replace l2:=l2.keepL f2 kL2;have tb2:=tq2.keepL f2 kL2;have K2:Xk Pw H1 G2:=fun b o n e=>kL2 _ _ (nLH b o n e) (kp2 _ _ n (K1 b o n e));refine ⟨_,rfl,.inl ⟨rfl,_,SqL.of e2⟩,tb2,fun a3 F3 kp3 tq3 na3 nP3 l3=>?_⟩;have nLP3:L≠Pw:=fun z=>by (obtain ⟨ps,h,_⟩:=tb2; rw [z,h] at e2; cases e2)
    have f3:=kp3 _ _ nLP3 e2;replace l1:=l1.keepP tb2 kp3;replace l2:=l2.keepP tb2 kp3;refine ⟨L,_,_,rfl,rfl,f3,by show 2 < sizeLine; decide,?_⟩;generalize hG:upd F3 L (.lst ([.ref a1,.ref a2]++[.ref a3]))=G3;have e3:G3 L=some (.lst [.ref a1,.ref a2,.ref a3]):=by (rw [← hG]; exact Zc)
    have kL3:Keep L F3 G3:=by (rw [← hG]; exact Keep.upd)
    clear hG;replace l1:=l1.keepL f3 kL3;replace l2:=l2.keepL f3 kL3;replace l3:=l3.keepL f3 kL3;have tb3:=tq3.keepL f3 kL3;have K3:Xk Pw H1 G3:=fun b o n e=>kL3 _ _ (nLH b o n e) (kp3 _ _ n (K2 b o n e));have KH:Xk Pw H G3:=fun b o n e=>K3 b o n (s01 _ _ e);have thG:=th.gvP tw nP KH;have hv:=h1.keepT tw KH;have hu':=h2.keepT tw KH;have hx:=h3.keepT tw KH;clear f2 f3 kL2 kL3 tq1 tq2 tq3 kp1 kp2 kp3 sG1 nLH K1 K2 tb1 tb2 e1 e2;have nLPh:L≠Ph:=fun z=>by (obtain ⟨ps,h,_⟩:=thG; rw [z,h] at e3; cases e3)
    refine ⟨_,rfl,L,rfl,⟨_,SqL.of e3⟩,?_⟩;refine Zab (n:=3) (fun i σ H2=>∃ y1 y2,σ=[some v,some u,some x,some (.str (PyData.shown (.tuple [d1,d2,d3]))),some (.bl (Zbc d1 d2)),some (.ref L),y1,y2]∧Xk Ph G3 H2∧TabF H2 Ph "head_of.<locals>.<lambda>") ⟨_,_,rfl,fun _ _ _ e=>e,thG⟩ (fun i σ H2 hi p=>?_) (fun σ H2 p=>?_) (fun i y σ H2 H3 hi yl p=>?_) (fun σ H2 p=>?_)
    · obtain ⟨y1,y2,rfl,k2,t2⟩:=p;exact ⟨[.ref a1,.ref a2,.ref a3],_,SqL.of (k2 _ _ nLPh e3),n0_ hi⟩
    · obtain ⟨y1,y2,rfl,k2,t2⟩:=p;exact ⟨_,SqL.of (k2 _ _ nLPh e3),n5_ _⟩
    · obtain ⟨y1,y2,rfl,k2,t2⟩:=p;obtain ⟨rfl,ye⟩:=yl;have ey:=ye _ (SqL.of (k2 _ _ nLPh e3));refine ⟨_,rfl,fun o1 u1 hd1 r1 nc1=>⟨_,rfl,fun o2 u2 hd2 r2 nc2=>⟨_,rfl,fun o3 u3 hd3 r3 nc3=>?_⟩⟩⟩;have c12:s.heap.objs.size+1≠s.heap.objs.size+1+1:=by omega
      have c13:s.heap.objs.size+1≠s.heap.objs.size+1+1+1:=by omega
      have c23:s.heap.objs.size+1+1≠s.heap.objs.size+1+1+1:=by omega
      generalize hc1:s.heap.objs.size+1=c1 at *;generalize hc2:c1+1=c2 at *;generalize hc3:c2+1=c3 at *;have nc2':H3 c2=none:=by rw [Zo (Ne.symm c12)] at nc2; exact nc2
      have nc3':H3 c3=none:=by rw [Zo (Ne.symm c23),Zo (Ne.symm c13)] at nc3; exact nc3
      have sF:Same H3 (upd (upd (upd H3 c1 (fzO o1)) c2 (fzO o2)) c3 (fzO o3)):=((Same.new nc1).trans (Same.new nc2)).trans (Same.new nc3);have w1:upd (upd (upd H3 c1 (fzO o1)) c2 (fzO o2)) c3 (fzO o3) c1=some (fzO o1):=by rw [Zo c13,Zo c12]; exact Zc
      have w2:upd (upd (upd H3 c1 (fzO o1)) c2 (fzO o2)) c3 (fzO o3) c2=some (fzO o2):=by rw [Zo c23]; exact Zc
      have w3:upd (upd (upd H3 c1 (fzO o1)) c2 (fzO o2)) c3 (fzO o3) c3=some (fzO o3):=Zc;generalize upd (upd (upd H3 c1 (fzO o1)) c2 (fzO o2)) c3 (fzO o3)=GF at sF w1 w2 w3 ⊢;have kF:∀ b o,G3 b=some (fzO o)→GF b=some (fzO o):=fun b o e=>sF _ _ (k2 _ _ (fun z=>by (obtain ⟨ps,h,_⟩:=thG; rw [z,h] at e; cases e)) e)
      obtain ⟨aL,rfl,lm⟩:∃ aL,y=.ref aL∧Zn7 GF aL c1 c2 c3:=by
       match i,ey with
       | 0,ey=>cases ey; exact ⟨_,rfl,.inl ⟨_,_,_,_,_,_,l1.mv kF⟩⟩
       | 1,ey=>cases ey; exact ⟨_,rfl,.inr ⟨_,.inl rfl,_,_,_,_,_,_,_,l2.mv kF⟩⟩
       | 2,ey=>cases ey; exact ⟨_,rfl,.inr ⟨_,.inr rfl,_,_,_,_,_,_,_,l3.mv kF⟩⟩
       | n+3,ey=>simp at ey
      have tF:=t2.same sF;refine ⟨_,rfl,?_⟩;unfold tNil;show Zdh _ _ _ _ _ _ _ _ _ _
      refine Zna (c1:=c1) (c2:=c2) (c3:=c3) (v:=v) (u:=u) (x:=x) (d1:=d1) (d2:=d2) (d3:=d3) (N:=N) Z X_solved X_is_solution X_is_mix lm ⟨o1,u1,w1,hd1,r1⟩ ⟨o2,u2,w2,hd2,r2⟩ ⟨o3,u3,w3,hd3,r3⟩ c12 c13 c23 ((hv.keepT thG k2).same sF) ((hu'.keepT thG k2).same sF) ((hx.keepT thG k2).same sF) z1 z2 z3 PO tF (fun w' H5 kp5 tb5 sv=>?_)
      have nPf:∀ {b:Addr} {o:Obj},GF b=some (fzO o)→b≠Ph:=fun e z=>by
       obtain ⟨ps,h,_⟩:=tF;rw [z,h] at e; cases e
      have v1:=kp5 _ _ (nPf w1) w1;have v2:=kp5 _ _ (nPf w2) w2;have v3:=kp5 _ _ (nPf w3) w3;have t6:TabF (del H5 c3) Ph "head_of.<locals>.<lambda>" := tb5.del v3 hd3;have t7:TabF (del (del H5 c3) c2) Ph "head_of.<locals>.<lambda>" := t6.del (by rw [Yt c23]; exact v2) hd2;have t8:TabF (del (del (del H5 c3) c2) c1) Ph "head_of.<locals>.<lambda>" := t7.del (by rw [Yt c12,Yt c13]; exact v1) hd1
      have k8:Xk Ph G3 (del (del (del H5 c3) c2) c1):=fun b o n e=>by
       have e3:=k2 b o n e;rw [Yt (Zk e3 nc1),Yt (Zk e3 nc2'),Yt (Zk e3 nc3')];exact kp5 b o n (sF _ _ e3)
      have sv8:Zg8 (Zbc d1 d2) (del (del (del H5 c3) c2) c1) w':=by
       have dk:∀ b o,(∀ o',o≠fzO o')→H5 b=some o→del (del (del H5 c3) c2) c1 b=some o:=fun b o n e=>by
        rw [Yt fun z=>by rw [z,v1] at e; exact n _ (Option.some.inj e).symm,Yt fun z=>by rw [z,v2] at e; exact n _ (Option.some.inj e).symm,Yt fun z=>by rw [z,v3] at e; exact n _ (Option.some.inj e).symm];exact e
       unfold Zg8 at sv ⊢;split
       · rename_i h; rw [if_pos h] at sv
         obtain ⟨M,r,e,hM⟩:=sv;exact ⟨M,r,e,dk _ _ (by intro o' z; cases z) hM⟩
       · rename_i h; rw [if_neg h] at sv
         obtain ⟨T,e,hT⟩:=sv;exact ⟨T,e,dk _ _ (by intro o' z; cases z) hT⟩
      unfold Zg8 at sv8;cases eg:Zbc d1 d2 with
      | true =>
        rw [eg,if_pos rfl] at sv8;obtain ⟨M,r,rfl,hM⟩:=sv8;refine ⟨_,rfl,_,_,_,_,rfl,TyOf.lst hM,rfl,_,rfl,rfl,_,rfl,iteF ?_⟩;refine ⟨_,rfl,_,rfl,iteF (iteF ?_)⟩;exact ⟨_,_,rfl,k8,t8⟩
      | false =>
        rw [eg,if_neg (by decide)] at sv8;obtain ⟨T,rfl,hT⟩:=sv8;refine ⟨_,rfl,_,_,_,_,rfl,TyOf.tup hT,rfl,_,rfl,rfl,_,rfl,iteF ?_⟩;refine ⟨_,rfl,_,rfl,iteT ?_⟩;refine ⟨_,rfl,z1_,fun p9 n9=>?_⟩;have s9:=Same.new (o:=.tup [.str "rows"]) n9;refine ⟨["rows"],["rows"],⟨T,_,rfl,s9 _ _ hT,al1s _⟩,⟨p9,_,rfl,Zc,al1s _⟩,_,rfl,iteF ?_⟩;exact ⟨_,_,rfl,fun b o n e=>s9 _ _ (k8 b o n e),t8.same s9⟩
    · obtain ⟨y1,y2,rfl,k2,t2⟩:=p;refine ⟨_,rfl,_,rfl,_,rfl,z3_,fun p9 n9=>?_⟩;have s9:Same H2 (upd H2 p9 (.tup [v,u,x])):=Same.new n9;refine ⟨N,101,_,.tuple [d1,d2,d3],rfl,.tup Zc (.cons ((hv.keepT thG k2).same s9) (.cons ((hu'.keepT thG k2).same s9) (.cons ((hx.keepT thG k2).same s9) .nil))),by decide,hdp,hnz,_,rfl,rfl,?_⟩;rw [n26_ rfl];exact q _ (fun b o n1 n2 e=>s9 _ _ (k2 b o n1 (KH b o n2 e))) (t2.same s9) ((tb3.gvP thG (Ne.symm nP) k2).same s9)
abbrev Zec:Stmt:=top 88
theorem Zqy (F:Fun K "law" "law" Zec f fd) {Ph Pw:Addr} (Cae_:a32_ P w K mg base) (Caf_:a33_ P w K mg base) (Ca_:a22_ P w K mg base) (Cg_:a23_ P w K mg base) (Cq_:Cal P w K mg base "_law_right" 14 ["_law_rows","_law_rights","_law_thing"] (Zfh Ph Pw)) (Cv_:a34_ P w K mg base) (Cag_:a35_ P w K mg base):FnOk P w K mg base CX0 15 f fd ["_law_script"] (Zi8 K Ph Pw):=by
 have sc:FnScope ["_law_script","_law_one","_law_some","_law_rows","_law_rights","_law_k","_law_state_here","_law_wide","_law_things","_law_turn","_law_mine","_law_its"] ["_law_script"] (Ze Zec):=fsc (by decide +kernel);refine F.ok sc (fun vs H Q E h=>by obtain ⟨a,ns,rfl,_⟩:=h;rfl) fun cdv A outer s H vs Q E hr h=>?_;obtain ⟨a,ns,rfl,hS,hlen,nP,th,tw,q⟩:=h;have nd:=sc.nd;refine' ⟨_,?term,?read⟩
 case term=>refine' @Zd _ _ _ _ _ ?g1 ?g2;(case g1=>refine' @Zr _ _ (1) _ _ _ _ nd rfl (Or.inl rfl) (Zn (Za (Zn (Za Zg (Za Zg Zb rfl) rfl)) Zb rfl)) (by rfl) (by first | exact Or.inl rfl | exact Or.inr rfl | assumption));case g2=>refine' @Zd _ _ _ _ _ ?g3 ?g4;(case g3=>refine' @Zr _ _ (2) _ _ _ _ nd rfl (Or.inl rfl) ?g5 (by rfl) (by first | exact Or.inl rfl | exact Or.inr rfl | assumption);case g5=>refine' @Yd _ _ _ _ ?g6;case g6=>refine' @Za _ _ _ _ _ (Zn (Za (Zq Ze3 (Zn (Za (pv 1) Zb rfl)) Zg) (Za (Zq Ze3 (pv 1) Zg) Zb rfl) rfl)) ?g7 rfl;case g7=>refine' @Za _ _ _ _ _ (Zn (Za (Zq Ze3 (Zn (Za (pv 1) Zb rfl)) Zg) (Za (Zq Ze3 (pv 1) Zg) Zb rfl) rfl)) ?g8 rfl;case g8=>refine' @Za _ _ _ _ _ (Zn (Za (Zn Zb) (Za (Zn Zb) Zb rfl) rfl)) ?g9 rfl;case g9=>refine' @Za _ _ _ _ _ (Zn (Za (Zn Zb) (Za (pv 1) Zb rfl) rfl)) (Za (Zn (Za (Zn (Za (Zn Zb) Zb rfl)) (Za (pv 1) Zb rfl) rfl)) (Za (Zn (Za (Zn (Za (pv 1) Zb rfl)) (Za (Zn Zb) Zb rfl) rfl)) Zb rfl) rfl) rfl);case g4=>refine' @Zd _ _ _ _ _ ?ga ?gb;(case ga=>refine' @Zai _ _ _ _ _ _ _ _ PassesOwn.never rfl (Yi (pv 2)) ?gc ?gd (by intro _ ; rfl);(case gc=>refine' @Yb _ _ _ _ _ (2) rfl (Zj (Zs (i:=3) nd rfl (Or.inl rfl)) (Zj (Zs (i:=4) nd rfl (Or.inl rfl)) Zy)) (by rfl) (by rfl));case gd=>refine' @Zi _ _ _ ?ge;case ge=>refine' @Y3 _ _ _ _ _ _ _ _ ?gf (Zi (Zm Zad)) Z2;case gf=>refine' @Xb _ _ _ _ ?gg;case gg=>refine' @Zx _ _ _ (Zl Cq_ hr (by decide) rfl (Za (pv 3) (Za (pv 4) (Za Zer Zb rfl) rfl) rfl)) (fun _=>rfl));case gb=>refine' @Zd _ _ _ _ _ ?gh (Zi (Zm Zad));case gh=>refine' @Zai _ _ _ _ _ _ _ _ PassesOwn.never rfl ?gi (Zs (i:=5) nd rfl (Or.inl rfl)) ?gj (by intro _ ; rfl);(case gi=>refine' @Xp _ _ _ _ _ _ rfl T.b_range (Za (Zh (Zha rfl) rfl T.b_max Znt (Za Zg (Za (Zh (Zgq rfl) rfl T.b_min Zll (Za (Zh Zv rfl T.b_len Xh (Za (pv 0) Zb rfl)) (Za Zg Zb rfl) rfl)) Zb rfl) rfl)) Zb rfl) (by rfl));case gj=>refine' @Zd _ _ _ _ _ ?gk ?gl;(case gk=>refine' @Zr _ _ (6) _ _ _ _ nd rfl (Or.inr rfl) (Zl Cag_ hr (by decide) rfl (Za (pv 0) (Za (pv 5) Zb rfl) rfl)) (by rfl) (by first | exact Or.inl rfl | exact Or.inr rfl | assumption));case gl=>refine' @Zd _ _ _ _ _ ?gm ?gn;(case gm=>refine' @Zr _ _ (7) _ _ _ _ nd rfl (Or.inr rfl) (Zl Ca_ hr (by decide) rfl (Za (pv 6) (Za Zg Zb rfl) rfl)) (by rfl) (by first | exact Or.inl rfl | exact Or.inr rfl | assumption));case gn=>refine' @Zd _ _ _ _ _ ?go ?gp;(case go=>refine' @Zr _ _ (3) _ _ _ _ nd rfl (Or.inl rfl) ?gq (by rfl) (by first | exact Or.inl rfl | exact Or.inr rfl | assumption);case gq=>refine' @Yz _ _ _ _ _ _ _ _ _ Y7 rfl T.b_tuple Yp ?gr (by decide) (by decide) (by rfl) (by rfl);case gr=>refine' @Za _ _ _ _ _ ?gs Zb rfl;case gs=>refine' @Y5 _ _ _ _ _ _ _ (["_law_turn","_law_state_here","_law_wide"]) ([none,some 6,some 7]) _ _ _ _ _ rfl (Yc (XN:=["_law_script","_law_one","_law_some","_law_rows","_law_rights","_law_k","_law_state_here","_law_wide","_law_things","_law_turn","_law_mine","_law_its"]) (Scope.names (Ze Zec)) rfl rfl rfl (fun _ h=>Z1 h) (by decide +kernel) rfl) ?gt (fun _ _ _ _=>pgB 0) (fun _ _ _ _=>Zp) (fun _ _ _ _=>Zl Cv_ hr (by decide) rfl (Za (pv 1) (Za (pv 2) Zb rfl) rfl)) (by intro _ ; rfl);case gt=>refine' @Xp _ _ _ _ _ _ rfl T.b_range (Za (Zl Ca_ hr (by decide) rfl (Za (pv 6) (Za Zg Zb rfl) rfl)) Zb rfl) (by rfl));case gp=>refine' @Zd _ _ _ _ _ ?gu ?gv;(case gu=>refine' @Zr _ _ (4) _ _ _ _ nd rfl (Or.inl rfl) (Zl Cv_ hr (by decide) rfl (Za (pv 6) (Za (Zh Zv rfl T.b_len Xh (Za (pv 3) Zb rfl)) Zb rfl) rfl)) (by rfl) (by first | exact Or.inl rfl | exact Or.inr rfl | assumption));case gv=>refine' @Zd _ _ _ _ _ ?gw ?gx;(case gw=>refine' @Zr _ _ (8) _ _ _ _ nd rfl (Or.inl rfl) ?gy (by rfl) (by first | exact Or.inl rfl | exact Or.inr rfl | assumption);case gy=>refine' @Yd _ _ _ _ ?gz;case gz=>refine' @Za _ _ _ _ _ (Zn (Za (pv 3) (Za (pv 4) Zb rfl) rfl)) ?g10 rfl;case g10=>refine' @Za _ _ _ _ _ (Zn (Za (Yz Za4 rfl T.b_list Zdy (Za (pv 3) Zb rfl)) (Za (pv 4) Zb rfl) rfl)) (Za (Zn (Za (pv 3) (Za (Yz Za4 rfl T.b_list Zdy (Za (pv 4) Zb rfl)) Zb rfl) rfl)) (Za (Zn (Za (Zq Zaa (pv 3) (Zn (Za (Zn Zb) Zb rfl))) (Za (pv 4) Zb rfl) rfl)) Zb rfl) rfl) rfl);case gx=>refine' @Zd _ _ _ _ _ ?g11 ?g12;(case g11=>refine' @Yx _ _ _ _ ?g13 (by rfl);case g13=>refine' @Zbb _ _ _ _ _ _ _ _ _ _ _ _ PySem.F.plainAttrs_list PySem.F.slot_list_append PySem.F.type_list_append Ym (pv 8) ?g14 (by rfl) (by rfl) (by rfl) (by rfl) (by rfl);case g14=>refine' @Za _ _ _ _ _ ?g15 Zb rfl;case g15=>refine' @Zn _ _ _ _ _ ?g16;case g16=>refine' @Za _ _ _ _ _ ?g17 (Za (pv 4) Zb rfl) rfl;case g17=>refine' @Xd _ _ _ _ _ _ _ _ _ _ Zbl (pv 3) (X5 Zg) X6);case g12=>refine' @Zd _ _ _ _ _ ?g18 ?g19;(case g18=>refine' @Zr _ _ (8) _ _ _ _ nd rfl (Or.inl rfl) ?g1a (by rfl) (by first | exact Or.inl rfl | exact Or.inr rfl | assumption);case g1a=>refine' @Zq _ _ _ _ _ _ _ _ Xi (pv 8) ?g1b;case g1b=>refine' @Yd _ _ _ _ ?g1c;case g1c=>refine' @Za _ _ _ _ _ (Zn (Za (pv 3) (Za (Zq Zaa (pv 4) (pv 1)) Zb rfl) rfl)) ?g1d rfl;case g1d=>refine' @Za _ _ _ _ _ ?g1e (Za (Zn (Za (Zl Cg_ hr (by decide) rfl (Za (pv 6) Zb rfl)) (Za (pv 4) Zb rfl) rfl)) Zb rfl) rfl;case g1e=>refine' @Zn _ _ _ _ _ ?g1f;case g1f=>refine' @Za _ _ _ _ _ (pv 3) ?g1g rfl;case g1g=>refine' @Za _ _ _ _ _ ?g1h Zb rfl;case g1h=>refine' @Xd _ _ _ _ _ _ _ _ _ _ Zbl (pv 4) (X5 Zg) X6);case g19=>refine' @Zd _ _ _ _ _ ?g1i ?g1j;(case g1i=>refine' @Yx _ _ _ _ ?g1k (by rfl);case g1k=>refine' @Zbb _ _ _ _ _ _ _ _ _ _ _ _ PySem.F.plainAttrs_list PySem.F.slot_list_append PySem.F.type_list_append Ym (pv 8) (Za (Zn (Za (pv 3) (Za (Zl Cg_ hr (by decide) rfl (Za (pv 6) Zb rfl)) Zb rfl) rfl)) Zb rfl) (by rfl) (by rfl) (by rfl) (by rfl) (by rfl));case g1j=>refine' @Zd _ _ _ _ _ ?g1l ?g1m;(case g1l=>refine' @Zai _ _ _ _ _ _ _ _ PassesOwn.never rfl ?g1n (Zs (i:=9) nd rfl (Or.inl rfl)) ?g1o (by intro _ ; rfl);(case g1n=>refine' @Xp _ _ _ _ _ _ rfl T.b_range (Za Zg Zb rfl) (by rfl));case g1o=>refine' @Zi _ _ _ ?g1p;case g1p=>refine' @Zr _ _ (8) _ _ _ _ nd rfl (Or.inl rfl) ?g1q (by rfl) (by first | exact Or.inl rfl | exact Or.inr rfl | assumption);case g1q=>refine' @Zq _ _ _ _ _ _ _ _ Xi (pv 8) ?g1r;case g1r=>refine' @Yd _ _ _ _ (Za (Zn (Za (Zl Caf_ hr (by decide) rfl (Za (pv 6) (Za (pv 3) Zb rfl) rfl)) (Za (pv 4) Zb rfl) rfl)) (Za (Zn (Za (pv 3) (Za (Zl Cae_ hr (by decide) rfl (Za (pv 6) (Za (pv 4) Zb rfl) rfl)) Zb rfl) rfl)) Zb rfl) rfl));case g1m=>refine' @Zi _ _ _ ?g1s;case g1s=>refine' @Zai _ _ _ _ _ _ _ _ PassesOwn.never rfl (Yi (pv 8)) ?g1t ?g1u (by intro _ ; rfl);(case g1t=>refine' @Yb _ _ _ _ _ (2) rfl (Zj (Zs (i:=10) nd rfl (Or.inl rfl)) (Zj (Zs (i:=11) nd rfl (Or.inl rfl)) Zy)) (by rfl) (by rfl));case g1u=>refine' @Zi _ _ _ ?g1v;case g1v=>refine' @Y3 _ _ _ _ _ _ _ _ ?g1w (Zi (Zm Zad)) Z2;case g1w=>refine' @Xb _ _ _ _ ?g1x;case g1x=>refine' @Zx _ _ _ (Zl Cq_ hr (by decide) rfl (Za (pv 10) (Za (pv 11) (Za (Zl Cg_ hr (by decide) rfl (Za (pv 6) Zb rfl)) Zb rfl) rfl) rfl)) (fun _=>rfl)
 refine ⟨z2_,fun p1 n1=>?_⟩;generalize gG:upd H p1 (.tup [.int 1,.int 1])=H1;obtain ⟨s1,a1⟩:=gen_upd gG n1;refine ⟨z1_,fun p2 n2=>?_⟩;generalize gG:upd H1 p2 (.tup [.ref p1])=H2;obtain ⟨s2,a2⟩:=gen_upd gG n2;refine ⟨_,rfl,z1_,fun p3 n3=>?_⟩;generalize gG:upd H2 p3 (.tup [.ref p2])=H3;obtain ⟨s3,a3⟩:=gen_upd gG n3;refine ⟨p3,_,_,rfl,rfl,a3,by decide,by decide,by simp,by show 1≤1000; decide,fun p4 H4 s4 a4=>?_⟩;refine ⟨_,rfl,p2,_,_,rfl,rfl,((s3.trans s4) _ _ a2),by decide,by decide,by simp,by show 1≤1000; decide,fun p5 H5 s5 a5=>?_⟩;refine ⟨z2_,fun p6 n6=>?_⟩;generalize gG:upd H5 p6 (.tup [.ref p4,.ref p5])=H6;obtain ⟨s6,a6⟩:=gen_upd gG n6;refine ⟨_,rfl,z1_,fun p7 n7=>?_⟩;generalize gG:upd H6 p7 (.tup [.ref p2])=H7;obtain ⟨s7,a7⟩:=gen_upd gG n7;refine ⟨p7,_,_,rfl,rfl,a7,by decide,by decide,by simp,by show 1≤1000; decide,fun p8 H8 s8 a8=>?_⟩;refine ⟨_,rfl,p2,_,_,rfl,rfl,((s3.trans (s4.trans (s5.trans (s6.trans (s7.trans s8))))) _ _ a2),by decide,by decide,by simp,by show 1≤1000; decide,fun p9 H9 s9 a9=>?_⟩;refine ⟨z2_,fun p10 n10=>?_⟩;generalize gG:upd H9 p10 (.tup [.ref p8,.ref p9])=H10;obtain ⟨s10,a10⟩:=gen_upd gG n10;refine ⟨z0_,fun p11 n11=>?_⟩;generalize gG:upd H10 p11 (.tup [])=H11;obtain ⟨s11,a11⟩:=gen_upd gG n11;refine ⟨z0_,fun p12 n12=>?_⟩;generalize gG:upd H11 p12 (.tup [])=H12;obtain ⟨s12,a12⟩:=gen_upd gG n12;refine ⟨z2_,fun p13 n13=>?_⟩;generalize gG:upd H12 p13 (.tup [.ref p11,.ref p12])=H13;obtain ⟨s13,a13⟩:=gen_upd gG n13;refine ⟨z0_,fun p14 n14=>?_⟩;generalize gG:upd H13 p14 (.tup [])=H14;obtain ⟨s14,a14⟩:=gen_upd gG n14;refine ⟨_,rfl,z2_,fun p15 n15=>?_⟩;generalize gG:upd H14 p15 (.tup [.ref p14,.ref p2])=H15;obtain ⟨s15,a15⟩:=gen_upd gG n15;refine ⟨z0_,fun p16 n16=>?_⟩;generalize gG:upd H15 p16 (.tup [])=H16;obtain ⟨s16,a16⟩:=gen_upd gG n16;refine ⟨z1_,fun p17 n17=>?_⟩;generalize gG:upd H16 p17 (.tup [.ref p16])=H17;obtain ⟨s17,a17⟩:=gen_upd gG n17;refine ⟨_,rfl,z2_,fun p18 n18=>?_⟩;generalize gG:upd H17 p18 (.tup [.ref p17,.ref p2])=H18;obtain ⟨s18,a18⟩:=gen_upd gG n18;refine ⟨_,rfl,z1_,fun p19 n19=>?_⟩;generalize gG:upd H18 p19 (.tup [.ref p2])=H19;obtain ⟨s19,a19⟩:=gen_upd gG n19;refine ⟨z0_,fun p20 n20=>?_⟩;generalize gG:upd H19 p20 (.tup [])=H20;obtain ⟨s20,a20⟩:=gen_upd gG n20;refine ⟨z2_,fun p21 n21=>?_⟩;generalize gG:upd H20 p21 (.tup [.ref p19,.ref p20])=H21;obtain ⟨s21,a21⟩:=gen_upd gG n21;refine ⟨by show 6≤sizeLine; decide,fun p22 n22=>?_⟩;generalize gG:upd H21 p22 (.lst [.ref p6,.ref p10,.ref p13,.ref p15,.ref p18,.ref p21])=H22;obtain ⟨s22,a22⟩:=gen_upd gG n22;have i1:IsQt H22 (.ref p1) 1:=⟨p1,rfl,((s2.trans (s3.trans (s4.trans (s5.trans (s6.trans (s7.trans (s8.trans (s9.trans (s10.trans (s11.trans (s12.trans (s13.trans (s14.trans (s15.trans (s16.trans (s17.trans (s18.trans (s19.trans (s20.trans (s21.trans s22)))))))))))))))))))) _ _ a1)⟩
 have io:IsRt H22 (.ref p2) [1]:=⟨p2,_,rfl,((s3.trans (s4.trans (s5.trans (s6.trans (s7.trans (s8.trans (s9.trans (s10.trans (s11.trans (s12.trans (s13.trans (s14.trans (s15.trans (s16.trans (s17.trans (s18.trans (s19.trans (s20.trans (s21.trans s22))))))))))))))))))) _ _ a2),.cons i1 .nil⟩;have f0:(List.replicate (Int.toNat 60) [(.ref p2:V)]).flatten=List.replicate 60 (.ref p2):=Zae _ 60;have g0:(List.replicate (Int.toNat 60) [(.ref p1:V)]).flatten=List.replicate 60 (.ref p1):=Zae _ 60;rw [f0] at a4;rw [g0] at a5;have P0:Pr (fun _=>False) H22 (.ref p6):=Zd0 ((s7.trans (s8.trans (s9.trans (s10.trans (s11.trans (s12.trans (s13.trans (s14.trans (s15.trans (s16.trans (s17.trans (s18.trans (s19.trans (s20.trans (s21.trans s22))))))))))))))) _ _ a6) ⟨p4,_,rfl,((s5.trans (s6.trans (s7.trans (s8.trans (s9.trans (s10.trans (s11.trans (s12.trans (s13.trans (s14.trans (s15.trans (s16.trans (s17.trans (s18.trans (s19.trans (s20.trans (s21.trans s22))))))))))))))))) _ _ a4),Ze6 io 60⟩ ⟨p5,_,rfl,((s6.trans (s7.trans (s8.trans (s9.trans (s10.trans (s11.trans (s12.trans (s13.trans (s14.trans (s15.trans (s16.trans (s17.trans (s18.trans (s19.trans (s20.trans (s21.trans s22)))))))))))))))) _ _ a5),Ze6 i1 60⟩ Zql ones (by decide +kernel) (by rw [n40_]; decide) (.inr (.inr (by decide)));have f1:(List.replicate (Int.toNat 61) [(.ref p2:V)]).flatten=List.replicate 61 (.ref p2):=Zae _ 61;have g1:(List.replicate (Int.toNat 61) [(.ref p1:V)]).flatten=List.replicate 61 (.ref p1):=Zae _ 61;rw [f1] at a8;rw [g1] at a9;have P1:Pr (fun _=>False) H22 (.ref p10):=Zd0 ((s11.trans (s12.trans (s13.trans (s14.trans (s15.trans (s16.trans (s17.trans (s18.trans (s19.trans (s20.trans (s21.trans s22))))))))))) _ _ a10) ⟨p8,_,rfl,((s9.trans (s10.trans (s11.trans (s12.trans (s13.trans (s14.trans (s15.trans (s16.trans (s17.trans (s18.trans (s19.trans (s20.trans (s21.trans s22))))))))))))) _ _ a8),Ze6 io 61⟩ ⟨p9,_,rfl,((s10.trans (s11.trans (s12.trans (s13.trans (s14.trans (s15.trans (s16.trans (s17.trans (s18.trans (s19.trans (s20.trans (s21.trans s22)))))))))))) _ _ a9),Ze6 i1 61⟩ Zql ones (by decide +kernel) (by rw [n40_]; decide) (.inr (.inr (by decide)));have P2:Pr (fun _=>False) H22 (.ref p13):=Zd0 ((s14.trans (s15.trans (s16.trans (s17.trans (s18.trans (s19.trans (s20.trans (s21.trans s22)))))))) _ _ a13) (show IsRsT H22 (.ref p11) [] from ⟨p11,[],rfl,((s12.trans (s13.trans (s14.trans (s15.trans (s16.trans (s17.trans (s18.trans (s19.trans (s20.trans (s21.trans s22)))))))))) _ _ a11),.nil⟩) (show IsRt H22 (.ref p12) [] from ⟨p12,[],rfl,((s13.trans (s14.trans (s15.trans (s16.trans (s17.trans (s18.trans (s19.trans (s20.trans (s21.trans s22))))))))) _ _ a12),.nil⟩) (fun m hm=>nomatch hm) (fun m hm=>nomatch hm) (by decide +kernel) (by decide) (.inl (by decide));have P3:Pr (fun _=>False) H22 (.ref p15):=Zd0 ((s16.trans (s17.trans (s18.trans (s19.trans (s20.trans (s21.trans s22)))))) _ _ a15) (show IsRsT H22 (.ref p14) [] from ⟨p14,[],rfl,((s15.trans (s16.trans (s17.trans (s18.trans (s19.trans (s20.trans (s21.trans s22))))))) _ _ a14),.nil⟩) io (fun m hm=>nomatch hm) (fun q hq=>by rw [n8_.mp hq]; exact dr1) (by decide +kernel) (by decide) (.inl (by decide))
 have P4:Pr (fun _=>False) H22 (.ref p18):=Zd0 (ms:=[[]]) ((s19.trans (s20.trans (s21.trans s22))) _ _ a18) ⟨p17,_,rfl,((s18.trans (s19.trans (s20.trans (s21.trans s22)))) _ _ a17),.cons (show IsRt H22 (.ref p16) [] from ⟨p16,[],rfl,((s17.trans (s18.trans (s19.trans (s20.trans (s21.trans s22))))) _ _ a16),.nil⟩) .nil⟩ io (fun m hm q hq=>by rw [n8_.mp hm] at hq; cases hq) (fun q hq=>by rw [n8_.mp hq]; exact dr1) (by decide +kernel) (by decide) (.inl (by decide));have P5:Pr (fun _=>False) H22 (.ref p21):=Zd0 (ms:=[[1]]) (s22 _ _ a21) ⟨p19,_,rfl,((s20.trans (s21.trans s22)) _ _ a19),.cons io .nil⟩ (show IsRt H22 (.ref p20) [] from ⟨p20,[],rfl,((s21.trans s22) _ _ a20),.nil⟩) (fun m hm q hq=>by rw [n8_.mp hm] at hq; rw [n8_.mp hq]; exact dr1) (fun m hm=>nomatch hm) (by decide +kernel) (by decide) (.inl (by decide));have aL:=a22;have sL:=(s1.trans (s2.trans (s3.trans (s4.trans (s5.trans (s6.trans (s7.trans (s8.trans (s9.trans (s10.trans (s11.trans (s12.trans (s13.trans (s14.trans (s15.trans (s16.trans (s17.trans (s18.trans (s19.trans (s20.trans (s21.trans s22)))))))))))))))))))));have thL:=th.same sL;have twL:=tw.same sL;generalize hvs:[V.ref p6,V.ref p10,V.ref p13,V.ref p15,V.ref p18,V.ref p21]=vs at aL ⊢
 have PV:∀ v∈vs,Pr (fun _=>False) H22 v:=by
  rw [← hvs];intro v hv;simp only [n18_,n25_,or_false] at hv
  rcases hv with rfl | rfl | rfl | rfl | rfl | rfl
  · exact P0
  · exact P1
  · exact P2
  · exact P3
  · exact P4
  · exact P5
 have lvs:vs.length=6:=by rw [← hvs]; rfl
 clear hvs P0 P1 P2 P3 P4 P5 i1 f0 f1 g0 g1 a22 a21 a20 a19 a18 a17 a16 a15 a14 a13 a12 a11 a10 a9 a8 a7 a6 a5 a4 a3 a2 a1 s22 s21 s20 s19 s18 s17 s16 s15 s14 s13 s12 s11 s10 s9 s8 s7 s6 s5 s4 s3 s2 s1;generalize p22=L at aL ⊢;generalize hHL:H22=HL at *;refine ⟨_,rfl,L,rfl,⟨_,SqL.of aL⟩,?_⟩
 have nLt:∀ {H':Hp} {P':Addr} {q':Str} {L':Addr} {xs:List V},TabF H' P' q'→H' L'=some (.lst xs)→L'≠P':=fun t e z=>by
  obtain ⟨ps,h,_⟩:=t;rw [z,h] at e; cases e
 refine Zab (n:=6) (fun i σ H2=>∃ x3 x4 x5 x6 x7 x8 x9 x10 x11,σ=[some (.ref a),some (.ref p2),some (.ref L),x3,x4,x5,x6,x7,x8,x9,x10,x11]∧Gv Ph Pw HL H2∧TabF H2 Ph "head_of.<locals>.<lambda>" ∧ TabF H2 Pw "_law_right.<locals>.<lambda>") ⟨_,_,_,_,_,_,_,_,_,rfl,Gv.refl,thL,twL⟩ (fun i σ H2 hi p=>?_) (fun σ H2 p=>?_) (fun i y σ H2 H3 hi yl p=>?_) (fun σ H2 p=>?_)
 · obtain ⟨x3,x4,x5,x6,x7,x8,x9,x10,x11,rfl,g2,t2,t3⟩:=p;exact ⟨vs,_,SqL.of (g2 _ _ (nLt thL aL) (nLt twL aL) aL),n0_ (by omega)⟩
 · obtain ⟨x3,x4,x5,x6,x7,x8,x9,x10,x11,rfl,g2,t2,t3⟩:=p;exact ⟨vs,SqL.of (g2 _ _ (nLt thL aL) (nLt twL aL) aL),by omega⟩
 · obtain ⟨x3,x4,x5,x6,x7,x8,x9,x10,x11,rfl,g2,t2,t3⟩:=p;obtain ⟨rfl,ye⟩:=yl;have ey:=ye _ (SqL.of (g2 _ _ (nLt thL aL) (nLt twL aL) aL));obtain ⟨pp,x,y',d1,d2,rfl,hp,h1,h2,e1,e2,n1,n2,PO⟩:=(PV y (n6_ ey)).gv g2 thL twL;refine ⟨pp,_,rfl,SqT.of hp,rfl,_,_,rfl,_,_,rfl,rfl,?_⟩;refine ⟨_,rfl,_,rfl,_,x,y',.non,d1,d2,.none,rfl,h1,h2,.non,e1,e2,n55_ _,n1,n2,by decide,PO,nP,t2,t3,fun H5 g5 t5 t6=>⟨_,rfl,iteF ?_⟩⟩;exact ⟨_,_,_,_,_,_,_,_,_,rfl,g2.trans g5,t5,t6⟩
 · obtain ⟨x3,x4,x5,x6,x7,x8,x9,x10,x11,rfl,g2,t2,t3⟩:=p;have io2:=io.tk (Tk.gv g2 thL twL);have hS2:SqL K H2 a (ns.map V.int):=Zod hS (Gv.trans (Same.gv sL) g2) th tw;refine ⟨_,rfl,a,_,rfl,.inl hS2,_,_,rfl,_,_,rfl,_,rfl,?_,?_,?_⟩
   · split <;> (try split) <;> omega
   · rw [n4_];split <;> (try split) <;> omega
   refine Zdz (fun i σ H3=>∃ x3 x4 x5 x6 x7 x8 x9 x10 x11,σ=[some (.ref a),some (.ref p2),some (.ref L),x3,x4,x5,x6,x7,x8,x9,x10,x11]∧Gv Ph Pw H2 H3∧TabF H3 Ph "head_of.<locals>.<lambda>" ∧ TabF H3 Pw "_law_right.<locals>.<lambda>") ⟨_,_,_,_,_,_,_,_,_,rfl,Gv.refl,t2,t3⟩ ?_ ?_
   rotate_left
   · rintro σ H3 ⟨x3,x4,x5,x6,x7,x8,x9,x10,x11,rfl,_⟩
     exact q H3
   rintro i σ H3 _ ⟨x3,x4,x5,x6,x7,x8,x9,x10,x11,rfl,g3,t4,t5⟩
   have io3:=io2.tk (Tk.gv g3 t2 t3);have hS3:=Zod hS2 g3 t2 t3;refine ⟨_,rfl,_,rfl,a,ns,i,by rw [Int.zero_add],hS3,fun l H4 nl s4 st4=>?_⟩;have nl2:H2 l=none∨True:=.inr trivial;refine ⟨_,rfl,l,4,rfl,st4,by decide,Xm (by decide),fun r H5 r0 r1 k5 st5=>?_⟩;obtain ⟨wn,rfl⟩:=Int.eq_ofNat_of_zero_le r0;refine ⟨_,rfl,l,5,rfl,st5,by decide,Xm (by decide),fun r' H6 r0' r1' k6 st6=>?_⟩;obtain ⟨rn,rfl⟩:=Int.eq_ofNat_of_zero_le r0';refine ⟨_,rfl,by omega,by omega,fun D nD=>?_⟩;refine Zk1 (n:=rn) (l:=l) (fun H v (m:List Rat)=>IsRt H v m∧m.length=wn∧∀ q∈m,Dr q) (fun H1 H2 v x t r=>⟨r.1.tk t,r.2⟩) (by omega) (fun σ=>∃ u,σ=[u,some (.ref l),some (.int wn)]) ⟨_,rfl⟩ nD st6 (fun i H2 k hi=>hi) (fun H2 k=>n5_ _) (fun i x σ2 H7 H8 C hi k2 l2 y o c=>?_) (fun H7 us ms k7 st7 e7 hy a7=>?_)
   · obtain ⟨u,rfl⟩:=o;obtain ⟨rfl,rfl⟩:=y;exact ⟨_,rfl,_,rfl,l,wn,rfl,l2,by omega,fun H9 v m k9 l9 hv hl hr=>c _ _ _ m ⟨_,rfl⟩ k9 l9 ⟨hv,hl,hr⟩⟩
   refine ⟨D,us,rfl,.inl ⟨SqL.of e7,fun t nt=>?_⟩⟩;generalize gG:upd H7 t (.tup us)=H8;obtain ⟨s8,a8⟩:=gen_upd gG nt;have st8:=st7.same s8;have lus:=a7.1;refine ⟨_,rfl,_,rfl,t,us,rfl,.inr (SqT.of a8),l,us.length,rfl,st8,by omega,fun H9 v9 qs k9 st9 hv9 lq dq=>?_⟩;have tk79:Tk H7 H9:=fun b xs e=>tkS k9 st8 _ _ (s8 _ _ e);have tk39:Tk H3 H9:=fun b xs e=>tk79 _ _ (tkS k7 st6 _ _ (tkS k6 st5 _ _ (tkS k5 st4 _ _ (s4 _ _ e))));have gv9:Gv Ph Pw H3 H9:=Gv.keepS (Gv.same (Gv.keepS (Gv.keepS (Gv.keepS (Same.gv s4) nl k5) nl k6) nl k7) s8) nl k9;obtain ⟨_,el4⟩:=st4.lst';obtain ⟨_,el5⟩:=st5.lst';obtain ⟨_,el6⟩:=st6.lst';obtain ⟨_,el8⟩:=st8.lst';have th9:=(((((t4.same s4).keepL el4 k5).keepL el5 k6).keepL el6 k7).same s8).keepL el8 k9;have tw9:=(((((t5.same s4).keepL el4 k5).keepL el5 k6).keepL el6 k7).same s8).keepL el8 k9
   have M:MQ ms qs:=by
    have g:∀ m∈ms,m.length=wn∧∀ q∈m,Dr q:=fun m hm=>by
     obtain ⟨i,hi,e⟩:=n45_ hm;obtain ⟨v,_,r⟩:=a7.got (show ms[i]? = some m by rw [n0_ hi,e]);exact r.2
    exact ⟨by omega,fun m hm=>by have:=(g m hm).1; omega,fun m hm=>(g m hm).2,by omega,dq⟩
   have I9:LI Ph Pw l p2 H3 (.ref t) v9 ms qs H9:=⟨st9,⟨t,us,rfl,tkS k9 st8 _ _ a8,a7.imp fun v m r=>r.1.tk tk79⟩,hv9,io3.tk tk39,gv9,th9,tw9⟩;obtain ⟨_,us9,e9,ht9,al9⟩:=id I9.rs;cases e9
   obtain ⟨g,gs,rfl,hg9,ag9⟩:=id I9.rt;obtain ⟨_,on,e9,ho9,ao9⟩:=id I9.on;cases e9
   have l9:=al9.1;have lg9:=ag9.1;have lo9:on.length=1:=ao9.1;have m4:=M.m4;have q4:=M.q4;have ML:=M.nzm;have MQ':=M.nzq;clear hv9 io3 gv9 th9 tw9 tk39 tk79 a8 st8 e7 a7 k9 k7 k6 k5 st4 st5 st6 st7 s8 el4 el5 el6 el8 nt nD s4 lus hy dq lq;obtain ⟨N,hN⟩:∃ N:Addr→Prop,N=fun b=>b=l:=⟨_,rfl⟩;have Nl:N l:=by rw [hN]
   have DN:∀ {H':Hp},StAt H' l→Dom N H':=fun s b z=>by
    obtain ⟨ys,e⟩:=s.lst';rw [hN] at z;exact ⟨_,by rw [show b=l from z]; exact e⟩
   refine ⟨_,rfl,_,rfl,z2_,fun pa1 na1=>?_⟩;generalize gG:upd H9 pa1 (.tup [.ref t,.ref g])=Ha1;obtain ⟨sa1,aa1⟩:=gen_upd gG na1;refine ⟨_,rfl,t,us9,rfl,.inr (SqT.of (sa1 _ _ ht9)),fun pa2 na2 ma2=>?_⟩;generalize gG:upd Ha1 pa2 (.lst us9)=Ha2;obtain ⟨sa2,aa2⟩:=gen_upd gG na2;refine ⟨_,rfl,z2_,fun pa3 na3=>?_⟩;generalize gG:upd Ha2 pa3 (.tup [.ref pa2,.ref g])=Ha3;obtain ⟨sa3,aa3⟩:=gen_upd gG na3;refine ⟨_,rfl,_,rfl,g,gs,rfl,.inr (SqT.of ((sa1.trans (sa2.trans sa3)) _ _ hg9)),fun pa4 na4 ma4=>?_⟩;generalize gG:upd Ha3 pa4 (.lst gs)=Ha4;obtain ⟨sa4,aa4⟩:=gen_upd gG na4;refine ⟨z2_,fun pa5 na5=>?_⟩;generalize gG:upd Ha4 pa5 (.tup [.ref t,.ref pa4])=Ha5;obtain ⟨sa5,aa5⟩:=gen_upd gG na5;refine ⟨_,rfl,z0_,fun pa6 na6=>?_⟩;generalize gG:upd Ha5 pa6 (.tup [])=Ha6;obtain ⟨sa6,aa6⟩:=gen_upd gG na6;refine ⟨z1_,fun pa7 na7=>?_⟩;generalize gG:upd Ha6 pa7 (.tup [.ref pa6])=Ha7;obtain ⟨sa7,aa7⟩:=gen_upd gG na7;refine ⟨t,pa7,_,_,rfl,rfl,((sa1.trans (sa2.trans (sa3.trans (sa4.trans (sa5.trans (sa6.trans sa7)))))) _ _ ht9),aa7,by simp only [n16_,n37_,sizeLine_eq]; omega,fun pa8 Ha8 sa8 aa8=>?_⟩;refine ⟨_,rfl,z2_,fun pa9 na9=>?_⟩;generalize gG:upd Ha8 pa9 (.tup [.ref pa8,.ref g])=Ha9;obtain ⟨sa9,aa9⟩:=gen_upd gG na9;refine ⟨z4_,fun pa10 na10=>?_⟩;generalize gG:upd Ha9 pa10 (.lst [.ref pa1,.ref pa3,.ref pa5,.ref pa9])=Ha10;obtain ⟨sa10,aa10⟩:=gen_upd gG na10;refine ⟨_,rfl,.inl ⟨rfl,_,SqL.of aa10⟩,_,rfl,_,rfl,t,us9,rfl,((sa1.trans (sa2.trans (sa3.trans (sa4.trans (sa5.trans (sa6.trans (sa7.trans (sa8.trans (sa9.trans sa10))))))))) _ _ ht9),fun pa11 Ha11 sa11 aa11=>?_⟩;rw [show (1:Int)=((1:Nat):Int) from rfl,Zb0] at aa11;refine ⟨_,rfl,z2_,fun pa12 na12=>?_⟩;generalize gG:upd Ha11 pa12 (.tup [.ref pa11,.ref g])=Ha12;obtain ⟨sa12,aa12⟩:=gen_upd gG na12;have aL0:=((sa11.trans sa12) _ _ aa10);refine ⟨pa10,_,_,rfl,rfl,aL0,by show 4 < sizeLine; decide,?_⟩;have Ib:=I9.same (sa1.trans (sa2.trans (sa3.trans (sa4.trans (sa5.trans (sa6.trans (sa7.trans (sa8.trans sa9))))))));have It:=I9.same (sa1.trans (sa2.trans (sa3.trans (sa4.trans (sa5.trans (sa6.trans (sa7.trans (sa8.trans (sa9.trans (sa10.trans (sa11.trans sa12)))))))))));have rd:Dts N Ha9 100 us9 (ms.map rowD):=Zg7 (al9.imp fun v x r=>IsRt.tk (sa1.trans (sa2.trans (sa3.trans (sa4.trans (sa5.trans (sa6.trans (sa7.trans (sa8.trans sa9)))))))).tk r) fun v x hx hv=>Zdx hv (M.dm x hx);have qd:Dts N Ha9 100 gs (qs.map frD):=Zg7 (ag9.imp fun v x r=>IsQt.tk (sa1.trans (sa2.trans (sa3.trans (sa4.trans (sa5.trans (sa6.trans (sa7.trans (sa8.trans sa9)))))))).tk r) fun v x hx hv=>Zqg hv (M.dq x hx);have P1:Pr N Ha9 (.ref pa1):=Zd0 ((sa2.trans (sa3.trans (sa4.trans (sa5.trans (sa6.trans (sa7.trans (sa8.trans sa9))))))) _ _ aa1) Ib.rs Ib.rt M.dm M.dq (by omega) (by omega) (.inl m4);have P2:Pr N Ha9 (.ref pa3):=Zhk (e:=1) (d1:=.list (ms.map rowD)) ((sa4.trans (sa5.trans (sa6.trans (sa7.trans (sa8.trans sa9))))) _ _ aa3) (.lst ((sa3.trans (sa4.trans (sa5.trans (sa6.trans (sa7.trans (sa8.trans sa9)))))) _ _ aa2) ((DN (I9.same sa1).st).new na2) ma2 rd) (Zdx Ib.rt M.dq) (by decide) (by decide) (n24_ (show PyData.depthAll (ms.map rowD)+1≤3 from Za9 ms) (by decide)) (n24_ (Zbh qs) (by decide)) (by show 1+Zt (ms.map rowD)≤900; have:1+Zt (ms.map rowD)≤81:=ML; omega) (by omega) (.inl (n55_ _)) (by decide) (n43_ (by decide)) rfl (okdR M.dq)
   have P3:Pr N Ha9 (.ref pa5):=Zhk (e:=1) (d2:=.list (qs.map frD)) ((sa6.trans (sa7.trans (sa8.trans sa9))) _ _ aa5) (Ib.rs.dt M.dm) (.lst ((sa5.trans (sa6.trans (sa7.trans (sa8.trans sa9)))) _ _ aa4) ((DN (I9.same (sa1.trans (sa2.trans sa3))).st).new na4) ma4 qd) (by decide) (by decide) (n24_ (Za9 ms) (by decide)) (n24_ (show PyData.depthAll (qs.map frD)+1≤2 from Zbh qs) (by decide)) (by omega) (by show 1+Zt (qs.map frD)≤900; have:1+Zt (qs.map frD)≤25:=MQ'; omega) (.inl (by show (ms.map rowD).length≤4; rw [n4_]; exact m4)) (by decide) (n43_ (by decide)) (okdS M.dm) rfl;have P4:Pr N Ha9 (.ref pa9):=Zd0 (ms:=ms++[[]]) aa9 ⟨pa8,_,rfl,(sa9 _ _ aa8),(al9.imp fun v x r=>IsRt.tk (sa1.trans (sa2.trans (sa3.trans (sa4.trans (sa5.trans (sa6.trans (sa7.trans (sa8.trans sa9)))))))).tk r).snoc ⟨pa6,[],rfl,((sa7.trans (sa8.trans sa9)) _ _ aa6),.nil⟩⟩ Ib.rt (fun m hm q hq=>(n34_.mp hm).elim (fun z=>M.dm m z q hq) fun z=>by rw [n8_.mp z] at hq; cases hq) M.dq (n24_ (Zhy (w:=3) fun m hm=>(n34_.mp hm).elim (M.w3 m) fun z=>by rw [n8_.mp z]; exact n55_ _) (by rw [n17_]; show 1+(ms.length+1) * 20≤900; omega)) (by omega) (.inr (.inl (by omega)));have SbA:Same Ha9 (upd Ha12 pa10 (.lst ([.ref pa1,.ref pa3,.ref pa5,.ref pa9]++[.ref pa12]))):=fun x o e=>by rw [Zo (Zk e na10)]; exact (sa10.trans (sa11.trans sa12)) _ _ e
   have tkA:Tk Ha12 (upd Ha12 pa10 (.lst ([.ref pa1,.ref pa3,.ref pa5,.ref pa9]++[.ref pa12]))):=Tk.upd_lst aL0;have IA:LI Ph Pw l p2 H3 (.ref t) (.ref g) ms qs (upd Ha12 pa10 (.lst ([.ref pa1,.ref pa3,.ref pa5,.ref pa9]++[.ref pa12]))):=LI.upd It aL0 (Ib.nn na10) (Ib.st.ne na10);have eL:upd Ha12 pa10 (.lst ([.ref pa1,.ref pa3,.ref pa5,.ref pa9]++[.ref pa12])) pa10=some (.lst ([.ref pa1,.ref pa3,.ref pa5,.ref pa9]++[.ref pa12])):=Zc;have P5:Pr N (upd Ha12 pa10 (.lst ([.ref pa1,.ref pa3,.ref pa5,.ref pa9]++[.ref pa12]))) (.ref pa12):=Zd0 (ms:=ms.drop 1) (tkA _ _ aa12) ⟨pa11,_,rfl,tkA _ _ (sa12 _ _ aa11),Al.drop1 (al9.imp fun v x r=>IsRt.tk tkA (IsRt.tk (sa1.trans (sa2.trans (sa3.trans (sa4.trans (sa5.trans (sa6.trans (sa7.trans (sa8.trans (sa9.trans (sa10.trans (sa11.trans sa12))))))))))).tk r)) 1⟩ IA.rt (fun m hm=>M.dm m (n48_ hm)) M.dq (n24_ (Zhy (w:=3) fun m hm=>M.w3 m (n48_ hm)) (by rw [n44_]; show 1+(ms.length - 1) * 20≤900; omega)) (by omega) (.inr (.inl (by omega)));have PA:PVs N (upd Ha12 pa10 (.lst ([.ref pa1,.ref pa3,.ref pa5,.ref pa9]++[.ref pa12]))) ([.ref pa1,.ref pa3,.ref pa5,.ref pa9]++[.ref pa12]):=PVs.app (.cons (P1.same SbA) (.cons (P2.same SbA) (.cons (P3.same SbA) (.cons (P4.same SbA) .nil)))) (.cons P5 .nil);generalize hvA:([.ref pa1,.ref pa3,.ref pa5,.ref pa9]++[.ref pa12]:List V)=vA at PA IA eL SbA tkA P5 ⊢;have lvA:vA.length=5:=by rw [← hvA]; rfl
   generalize upd Ha12 pa10 (.lst vA)=HA at IA PA eL ⊢;have nLl:pa10≠l:=fun z=>Ib.st.ne na10 z.symm;generalize pa10=LA at eL nLl ⊢;clear hvA tkA SbA P1 P2 P3 P4 P5 rd qd It Ib aL0 I9 ht9 hg9 ho9 al9 ag9 ao9 sa12 aa12 sa11 aa11 sa10 aa10 sa9 aa9 sa8 aa8 sa7 aa7 sa6 aa6 sa5 aa5 sa4 aa4 sa3 aa3 sa2 aa2 sa1 aa1;obtain ⟨_,us,eA,htA,alA⟩:=id IA.rs;cases eA
   obtain ⟨_,gs',eA,hgA,agA⟩:=id IA.rt;cases eA
   obtain ⟨_,on',eA,hoA,aoA⟩:=id IA.on;cases eA
   have lA:=alA.1;have lgA:=agA.1;have loA:on'.length=1:=aoA.1;refine ⟨_,rfl,_,rfl,_,rfl,_,rfl,g,p2,_,_,rfl,rfl,((Same.refl HA) _ _ hgA),((Same.refl HA) _ _ hoA),by simp only [sizeLine_eq]; omega,fun pb1 Hb1 sb1 ab1=>?_⟩;refine ⟨z2_,fun pb2 nb2=>?_⟩;generalize gG:upd Hb1 pb2 (.tup [.ref t,.ref pb1])=Hb2;obtain ⟨sb2,ab2⟩:=gen_upd gG nb2;refine ⟨_,rfl,_,rfl,_,rfl,g,gs',rfl,((sb1.trans sb2) _ _ hgA),fun pb3 Hb3 sb3 ab3=>?_⟩;rw [show (1:Int)=((1:Nat):Int) from rfl,Zb0] at ab3;refine ⟨z2_,fun pb4 nb4=>?_⟩;generalize gG:upd Hb3 pb4 (.tup [.ref t,.ref pb3])=Hb4;obtain ⟨sb4,ab4⟩:=gen_upd gG nb4;have IB:=IA.same (sb1.trans (sb2.trans (sb3.trans sb4)));have PB:=PA.same (sb1.trans (sb2.trans (sb3.trans sb4)));have eB:=(sb1.trans (sb2.trans (sb3.trans sb4))) _ _ eL;have P6:Pr N Hb4 (.ref pb2):=Zd0 (qs:=qs++[1]) ((sb3.trans sb4) _ _ ab2) IB.rs ⟨pb1,_,rfl,((sb2.trans (sb3.trans sb4)) _ _ ab1),Al.app2 (agA.imp fun v x r=>IsQt.tk (sb1.trans (sb2.trans (sb3.trans sb4))).tk r) (aoA.imp fun v x r=>IsQt.tk (sb1.trans (sb2.trans (sb3.trans sb4))).tk r)⟩ M.dm (fun q hq=>(n34_.mp hq).elim (M.dq q) fun z=>by rw [n8_.mp z]; exact dr1) (by omega) (by rw [n17_]; show _+1≤140; omega) (.inl m4);have P7:Pr N Hb4 (.ref pb4):=Zd0 (qs:=qs.drop 1) ab4 IB.rs ⟨pb3,_,rfl,(sb4 _ _ ab3),Al.drop1 (agA.imp fun v x r=>IsQt.tk (sb1.trans (sb2.trans (sb3.trans sb4))).tk r) 1⟩ M.dm (fun q hq=>M.dq q (n48_ hq)) (by omega) (by rw [n44_]; omega) (.inl m4);refine ⟨_,rfl,l,N,rfl,IB.st,Nl,DN IB.st,fun HC v8 kC stC tg8=>?_⟩;have IC:=IB.keep nl kC stC;have PC:PVs N HC vA:=PB.keepS Nl IB.st kC;obtain ⟨_,eS⟩:=IB.st.lst';have eC:=kC _ _ nLl eB;have P6C:=P6.keepS Nl IB.st kC;have P7C:=P7.keepS Nl IB.st kC;obtain ⟨d8,h8,dp8,nz8,x8,x81,x82,x8k⟩:=tg8;refine ⟨_,rfl,z2_,fun pc1 nc1=>?_⟩;generalize gG:upd HC pc1 (.tup [v8,.ref g])=Hc1;obtain ⟨sc1,ac1⟩:=gen_upd gG nc1;refine ⟨z3_,fun pc2 nc2=>?_⟩;generalize gG:upd Hc1 pc2 (.lst [.ref pb2,.ref pb4,.ref pc1])=Hc2;obtain ⟨sc2,ac2⟩:=gen_upd gG nc2;refine ⟨LA,pc2,_,_,rfl,rfl,((sc1.trans sc2) _ _ eC),ac2,by show _+3≤_; rw [lvA,sizeLine_eq]; omega,fun pc3 nc3=>?_⟩;generalize gG:upd Hc2 pc3 (.lst (vA++[.ref pb2,.ref pb4,.ref pc1]))=Hc3;obtain ⟨sc3,ac3⟩:=gen_upd gG nc3;have ID:=IC.same (sc1.trans (sc2.trans sc3));have IQ:=IC.same (sc1.trans sc2);have P8:Pr N Hc2 (.ref pc1):=Zhk (sc2 _ _ ac1) (h8.same (sc1.trans sc2)) (Zdx IQ.rt M.dq) (by decide) (by decide) (by omega) (n24_ (Zbh qs) (by decide)) (by omega) (by omega) (.inr (.inl (by show (qs.map frD).length≤4; rw [n4_]; omega))) x81 (up _ x82) x8k (Za5 ⟨x8,rfl⟩ (okdR M.dq));have PQ:PVs N Hc2 (vA++[.ref pb2,.ref pb4,.ref pc1]):=PVs.app (PC.same (sc1.trans sc2)) (.cons (P6C.same (sc1.trans sc2)) (.cons (P7C.same (sc1.trans sc2)) (.cons P8 .nil)));have PD:PVs (fun b=>N b∨b=pc3) Hc3 (vA++[.ref pb2,.ref pb4,.ref pc1]):=fun v hv=>((PQ v hv).more nc3).same sc3
   have eD:=ac3;have nD0:=(IC.same (sc1.trans sc2)).nn nc3;have nDl:pc3≠l:=fun z=>(IC.same (sc1.trans sc2)).st.ne nc3 z.symm;have lvD:(vA++[V.ref pb2,V.ref pb4,V.ref pc1]).length=8:=by rw [n17_,lvA]; rfl
   generalize (vA++[V.ref pb2,V.ref pb4,V.ref pc1])=vD at eD PD lvD ⊢;clear P8 PQ IQ P6C P7C P6 P7 eC eB PC PB IC IB eS htA hgA hoA alA agA aoA h8 x8k kC stC eL PA IA nLl sc3 ac3 sc2 ac2 sc1 ac1 sb4 ab4 sb3 ab3 sb2 ab2 sb1 ab1;generalize Hc3=HD at *;generalize pc3=LD at *;refine ⟨_,rfl,.inl ⟨rfl,_,SqL.of eD⟩,_,rfl,_,rfl,l,(fun b=>N b∨b=LD),rfl,ID.st,.inl Nl,Dom.more (DN ID.st) eD,fun HE v9 kE stE tg9=>?_⟩;have IE:=ID.keep nl kE stE;have PE':PVs (fun b=>N b∨b=LD) HE vD:=PD.keepS (.inl Nl) ID.st kE;have eE:=kE _ _ nDl eD;obtain ⟨d9,h9,dp9,nz9,x9,x91,x92,x9k⟩:=tg9;refine ⟨z2_,fun pd1 nd1=>?_⟩;generalize gG:upd HE pd1 (.tup [.ref t,v9])=Hd1;obtain ⟨sd1,ad1⟩:=gen_upd gG nd1;have eF:=sd1 _ _ eE;have IF:=IE.same sd1;have PF:=PE'.same sd1;refine ⟨LD,_,_,rfl,rfl,eF,by rw [lvD,sizeLine_eq]; omega,?_⟩;have IG:LI Ph Pw l p2 H3 (.ref t) (.ref g) ms qs (upd Hd1 LD (.lst (vD++[.ref pd1]))):=LI.upd IF eF nD0 (Ne.symm nDl);have kG:Keep LD Hd1 (upd Hd1 LD (.lst (vD++[.ref pd1]))):=Keep.upd;have eG:upd Hd1 LD (.lst (vD++[.ref pd1])) LD=some (.lst (vD++[.ref pd1])):=Zc;have tG:Tk Hd1 (upd Hd1 LD (.lst (vD++[.ref pd1]))):=Tk.upd_lst eF;have PG0:PVs N (upd Hd1 LD (.lst (vD++[.ref pd1]))) vD:=fun v hv=>((PF v hv).keepL (.inr rfl) eF kG).less;have P9:Pr N (upd Hd1 LD (.lst (vD++[.ref pd1]))) (.ref pd1):=Zhk (tG _ _ ad1) (IG.rs.dt M.dm) (Dt.less ((h9.same sd1).keep (.inr rfl) eF kG)) (by decide) (by decide) (n24_ (Za9 ms) (by decide)) (by omega) (by omega) (by omega) (.inl (by show (ms.map rowD).length≤4; rw [n4_]; exact m4)) x91 (up _ x92) (Za5 ⟨x9,rfl⟩ (okdS M.dm)) x9k;have PG:PVs N (upd Hd1 LD (.lst (vD++[.ref pd1]))) (vD++[.ref pd1]):=PVs.app PG0 (.cons P9 .nil);have lvG:(vD++[V.ref pd1]).length=9:=by rw [n17_,lvD]; rfl
   generalize (vD++[V.ref pd1])=vG at IG kG eG tG PG0 P9 PG lvG ⊢;generalize upd Hd1 LD (.lst vG)=HG at IG kG eG tG PG0 P9 PG ⊢;clear P9 PG0 tG kG PF IF eF sd1 ad1 IE PE' eE h9 x9k kE stE PD eD ID nD0;refine ⟨_,rfl,by omega,by omega,?_⟩;refine Zdz (fun i σ H4=>∃ L' vs' x5 x9 x10 x11,σ=[some (.ref a),some (.ref p2),some (.ref L),some (.ref t),some (.ref g),x5,some (.ref l),some (.int wn),some (.ref L'),x9,x10,x11]∧LI Ph Pw l p2 H3 (.ref t) (.ref g) ms qs H4∧H4 L'=some (.lst vs')∧PVs N H4 vs'∧vs'.length≤9+2 * i∧L'≠l) ⟨LD,vG,_,_,_,_,rfl,IG,eG,PG,by omega,nDl⟩ (fun i' σ H4 hi p=>?_) (fun σ H4 p=>?_)
   · obtain ⟨L',vs',x5,x9,x10,x11,rfl,I4,e4,P4,lv4,nl4⟩:=p;have hi8:i' < 8:=by simpa using hi
     refine ⟨_,rfl,_,rfl,_,rfl,l,N,100,.ref t,Zf5 ms,rfl,I4.st,Nl,DN I4.st,I4.rs.dt M.dm,by decide,Za9 ms,by omega,okdS M.dm,fun H5 v5 k5 st5 tg5=>?_⟩;have I5:=I4.keep nl k5 st5;have P5:=P4.keepS Nl I4.st k5;have e5:=k5 _ _ nl4 e4;obtain ⟨d5,h5,dp5,nz5,x5',x51,x52,x5k⟩:=tg5;refine ⟨_,rfl,z2_,fun pe1 ne1=>?_⟩;generalize gG:upd H5 pe1 (.tup [v5,.ref g])=He1;obtain ⟨se1,ae1⟩:=gen_upd gG ne1;have I6:=I5.same se1;have P6:=P5.same se1;have e6:=se1 _ _ e5;have B1:Pr N He1 (.ref pe1):=Zhk ae1 (h5.same se1) (Zdx I6.rt M.dq) (by decide) (by decide) (by omega) (n24_ (Zbh qs) (by decide)) (by omega) (by omega) (.inr (.inl (by show (qs.map frD).length≤4; rw [n4_]; omega))) x51 x52 x5k (Za5 ⟨x5',rfl⟩ (okdR M.dq));refine ⟨_,rfl,_,rfl,_,rfl,l,N,100,.ref g,rowD qs,rfl,I6.st,Nl,DN I6.st,Zdx I6.rt M.dq,by decide,Zbh qs,by omega,okdR M.dq,fun H7 v7 k7 st7 tg7=>?_⟩;have I7:=I6.keep nl k7 st7;have P7:=P6.keepS Nl I6.st k7;have e7:=k7 _ _ nl4 e6;have B1':=B1.keepS Nl I6.st k7;obtain ⟨d7,h7,dp7,nz7,x7',x71,x72,x7k⟩:=tg7;refine ⟨z2_,fun pf1 nf1=>?_⟩;generalize gG:upd H7 pf1 (.tup [.ref t,v7])=Hf1;obtain ⟨sf1,af1⟩:=gen_upd gG nf1;refine ⟨z2_,fun pf2 nf2=>?_⟩;generalize gG:upd Hf1 pf2 (.lst [.ref pe1,.ref pf1])=Hf2;obtain ⟨sf2,af2⟩:=gen_upd gG nf2;refine ⟨L',pf2,_,_,rfl,rfl,((sf1.trans sf2) _ _ e7),af2,by show _+2≤_; rw [sizeLine_eq]; omega,fun pf3 nf3=>?_⟩;generalize gG:upd Hf2 pf3 (.lst (vs'++[.ref pe1,.ref pf1]))=Hf3;obtain ⟨sf3,af3⟩:=gen_upd gG nf3;have I8:=I7.same (sf1.trans (sf2.trans sf3));have B2:Pr N Hf3 (.ref pf1):=Zhk ((sf2.trans sf3) _ _ af1) (I8.rs.dt M.dm) (h7.same (sf1.trans (sf2.trans sf3))) (by decide) (by decide) (n24_ (Za9 ms) (by decide)) (by omega) (by omega) (by omega) (.inl (by show (ms.map rowD).length≤4; rw [n4_]; exact m4)) x71 x72 (Za5 ⟨x7',rfl⟩ (okdS M.dm)) x7k;exact ⟨pf3,_,_,_,_,_,rfl,I8,af3,PVs.app (P7.same (sf1.trans (sf2.trans sf3))) (.cons (B1'.same (sf1.trans (sf2.trans sf3))) (.cons B2 .nil)),by rw [n17_]; show _+2≤_; omega,fun z=>(I7.same (sf1.trans sf2)).st.ne nf3 z.symm⟩
   · obtain ⟨L',vs',x5,x9,x10,x11,rfl,I4,e4,P4,lv4,nl4⟩:=p;refine ⟨_,rfl,L',rfl,⟨_,SqL.of e4⟩,?_⟩;refine Zab (n:=vs'.length) (fun i σ H5=>∃ x5 x9 x10 x11,σ=[some (.ref a),some (.ref p2),some (.ref L),some (.ref t),some (.ref g),x5,some (.ref l),some (.int wn),some (.ref L'),x9,x10,x11]∧LI Ph Pw l p2 H3 (.ref t) (.ref g) ms qs H5∧H5 L'=some (.lst vs')∧PVs N H5 vs') ⟨_,_,_,_,rfl,I4,e4,P4⟩ (fun i' σ H5 hi p=>?_) (fun σ H5 p=>?_) (fun i' y σ H5 H6 hi yl p=>?_) (fun σ H5 p=>?_)
     · obtain ⟨x5,x9,x10,x11,rfl,I5,e5,P5⟩:=p;exact ⟨vs',_,SqL.of e5,n0_ hi⟩
     · obtain ⟨x5,x9,x10,x11,rfl,I5,e5,P5⟩:=p;exact ⟨vs',SqL.of e5,n5_ _⟩
     · obtain ⟨x5,x9,x10,x11,rfl,I5,e5,P5⟩:=p;obtain ⟨rfl,ye⟩:=yl;have ey:=ye _ (SqL.of e5);obtain ⟨pp,x,y',d1,d2,rfl,hp,h1,h2,f1,f2,n1,n2,PO⟩:=P5 y (n6_ ey);refine ⟨pp,_,rfl,SqT.of hp,rfl,_,_,rfl,_,_,rfl,rfl,?_⟩;refine ⟨_,rfl,_,rfl,_,rfl,l,N,rfl,I5.st,Nl,DN I5.st,fun H7 v7 k7 st7 tg7=>?_⟩;have I7:=I5.keep nl k7 st7;have P7:=P5.keepS Nl I5.st k7;have e7:=k7 _ _ nl4 e5;obtain ⟨d7,h7,dp7,nz7,_⟩:=tg7;refine ⟨N,x,y',v7,d1,d2,d7,rfl,Dt.keepS Nl I5.st h1 k7,Dt.keepS Nl I5.st h2 k7,h7.up (by decide),f1,f2,by omega,n1,n2,by omega,PO,nP,I7.th,I7.tw,fun H8 g8 t8 t9=>⟨_,rfl,iteF ?_⟩⟩;exact ⟨_,_,_,_,rfl,I7.gvS g8 t8 t9,g8 _ _ (nLt I7.th e7) (nLt I7.tw e7) e7,fun v hv=>(P7 v hv).gv g8 I7.th I7.tw⟩
     · obtain ⟨x5,x9,x10,x11,rfl,I5,e5,P5⟩:=p;exact ⟨_,_,_,_,_,_,_,_,_,rfl,g3.trans I5.gv,I5.th,I5.tw⟩
end
structure EkK (K:PySem.W.Frag) (cl:Str→Addr):Prop where
 nm:∀ x,x∈CLS→PySem.W.nsIn K mainGlobals x=some (some (.ref (cl x)))
 vb:PySem.W.nsIn K mainGlobals "ValueError" = some none
 mpe:PySem.W.nsIn K mainGlobals "PlateError" = some (some (.ref (cl "PlateError")))
 e_NoRows:ExcK K (cl "NoRows")
 k_NoRows:Kind K cl (cl "NoRows") 16
theorem EkK.ek {K:PySem.W.Frag} {cl:Str→Addr} {h:Heap} {mg:Str→Option Value} (z:EkK K cl) (X:K.In h) (G:h.Ns mainGlobals mg):Ek K mg cl:=⟨fun x hx=>n54_ X G (z.nm x hx),n35_ X G z.vb,n54_ X G z.mpe,z.e_NoRows,z.k_NoRows⟩
def BkK (K:PySem.W.Frag):Prop:=∃ (bm:Addr) (o:Obj),PySem.W.nsIn K mainGlobals "__builtins__" = some (some (.ref bm))∧bm≠builtinsNs∧bm≠mainGlobals∧K.lookup bm=some o∧o.cls=.type "module" ∧ o.dict=some builtinsNs∧o.data=.plain
theorem BkK.blt {K:PySem.W.Frag} {h:Heap} {mg:Str→Option Value} (z:BkK K) (X:K.In h) (G:h.Ns mainGlobals mg):BltK K mg:=let ⟨bm,o,e,r⟩:=z; ⟨bm,o,n54_ X G e,r⟩
structure Lk (K:PySem.W.Frag) (b:Str) (st:Stmt) (f:Addr):Prop where
 fn:∃ fd,Fun K b b st f fd
 a:PySem.W.nsIn K mainGlobals b=some (some (.ref f))
 k:PySem.W.keepIn K (.ref f)=true
theorem Zq2 {K:PySem.W.Frag} {b:Str} {st:Stmt} {f:Addr} {od an:Option Addr} {sl:Array (Option Value)} {oc kV dc pm cd ct:Value} (a:PySem.W.nsIn K mainGlobals b=some (some (.ref f))) (l:K.lookup f=some ⟨oc,od,.func (PySem.W.fnOf b b (Yr st) (Yh st) (Ze st) .none kV dc pm an cd ct),sl⟩) (c:PySem.W.codeIn K cd b=true) (k:PySem.W.keepIn K (.ref f)=true):Lk K b st f:=⟨⟨_,Zil (st:=st) l c k⟩,a,k⟩
theorem Lk.cal {P:Program} {w:World} {K:PySem.W.Frag} {h:Heap} {mg:Str→Option Value} {base:Heap} {b:Str} {st:Stmt} {f:Addr} {k:Nat} {ps:List Str} {sp:Sp} (L:Lk K b st f) (X:K.In h) (G:h.Ns mainGlobals mg) (ok:∀ {fd},Fun K b b st f fd→FnOk P w K mg base CX0 k f fd ps sp) (hb:∀ (kV doc pm:Value) (an:Option Addr) (cdv ct:Value) (us:List Value),us.length=ps.length→bindArgs (PySem.W.fnOf b b (Yr st) (Yh st) (Ze st) .none kV doc pm an cdv ct) ⟨us,[]⟩=pure (ps.zip us)):Cal P w K mg base b k ps sp :=
 let ⟨_,F⟩:=L.fn
 ⟨f,_,ok F,n54_ X G L.a,L.k,F.binds (ps:=ps) hb⟩
theorem Lk.calX {P:Program} {w:World} {K:PySem.W.Frag} {h:Heap} {mg:Str→Option Value} {base:Heap} {b:Str} {st:Stmt} {f:Addr} {k:Nat} {ps:List Str} {sp:Sp} (L:Lk K b st f) (X:K.In h) (G:h.Ns mainGlobals mg) (ok:∀ {fd},Fun K b b st f fd→FnOk P w K mg base (CX1 P w) k f fd ps sp) (hb:∀ (kV doc pm:Value) (an:Option Addr) (cdv ct:Value) (us:List Value),us.length=ps.length→bindArgs (PySem.W.fnOf b b (Yr st) (Yh st) (Ze st) .none kV doc pm an cdv ct) ⟨us,[]⟩=pure (ps.zip us)):CalX P w K mg base b k ps sp :=
 let ⟨_,F⟩:=L.fn
 ⟨f,_,ok F,n54_ X G L.a,L.k,F.binds (ps:=ps) hb⟩
theorem Lk.calH {P:Program} {w:World} {K:PySem.W.Frag} {h:Heap} {mg:Str→Option Value} {base:Heap} {b:Str} {st:Stmt} {f:Addr} {k:Nat} {ps:List Str} {sp:Sp} (L:Lk K b st f) (X:K.In h) (G:h.Ns mainGlobals mg) (ok:∀ {fd},Fun K b b st f fd→FnOkH P w K mg base k f fd ps sp) (hb:∀ (kV doc pm:Value) (an:Option Addr) (cdv ct:Value) (us:List Value),us.length=ps.length→bindArgs (PySem.W.fnOf b b (Yr st) (Yh st) (Ze st) .none kV doc pm an cdv ct) ⟨us,[]⟩=pure (ps.zip us)):CalH P w K mg base b k ps sp :=
 let ⟨_,F⟩:=L.fn
 ⟨f,_,ok F,n54_ X G L.a,L.k,F.binds (ps:=ps) hb⟩
theorem ln1 {P:List Value→Prop} (h:∀ x0,P [x0]):∀ us:List Value,us.length=1→P us:=fun us e=>match us,e with | [x0],_=>h x0
theorem ln2 {P:List Value→Prop} (h:∀ x0 x1,P [x0,x1]):∀ us:List Value,us.length=2→P us:=fun us e=>match us,e with | [x0,x1],_=>h x0 x1
theorem ln3 {P:List Value→Prop} (h:∀ x0 x1 x2,P [x0,x1,x2]):∀ us:List Value,us.length=3→P us:=fun us e=>match us,e with | [x0,x1,x2],_=>h x0 x1 x2
theorem ln4 {P:List Value→Prop} (h:∀ x0 x1 x2 x3,P [x0,x1,x2,x3]):∀ us:List Value,us.length=4→P us:=fun us e=>match us,e with | [x0,x1,x2,x3],_=>h x0 x1 x2 x3
theorem Zqk {l:PySem.W.OpenLaw} {w:World} {K:PySem.W.Frag} {h:Heap} {mg:Str→Option Value} {fa:Addr} (X:K.In h) (G:h.Ns mainGlobals mg) (hfa:mg "law" = some (.ref fa))
 {f_0:Addr} (h_0:Lk K "plain_divisor" Xs f_0)
 {f_1:Addr} (h_1:Lk K "divisor" Zd1 f_1)
 {f_2:Addr} (h_2:Lk K "reduced" Zdu f_2)
 {f_3:Addr} (h_3:Lk K "multiple" Zck f_3)
 {f_4:Addr} (h_4:Lk K "in_common" Zbk f_4)
 {f_5:Addr} (h_5:Lk K "scale_of" Zcd f_5)
 {f_6:Addr} (h_6:Lk K "whole" Zfv f_6)
 {f_7:Addr} (h_7:Lk K "comes_to_nought" Xc f_7)
 {f_8:Addr} (h_8:Lk K "cleared" Zap f_8)
 {f_9 cc_9 P_9:Addr} {od_9 an_9:Option Addr} {sl_9:Array (Option Value)} {oc_9 kV_9 dc_9 pm_9 ct_9:Value} (hd_9:PySem.W.codeHdIn K cc_9 P_9=true)
 (a_9:PySem.W.nsIn K mainGlobals "head_of" = some (some (.ref f_9)))
 (l_9:K.lookup f_9=some ⟨oc_9,od_9,.func (PySem.W.fnOf "head_of" "head_of" (Yr Xv) (Yh Xv) (Ze Xv) .none kV_9 dc_9 pm_9 an_9 (.ref cc_9) ct_9),sl_9⟩)
 (c_9:PySem.W.codeIn K (.ref cc_9) "head_of" = true) (k_9:PySem.W.keepIn K (.ref f_9)=true)
 {f_10:Addr} (h_10:Lk K "stepped" Zbx f_10)
 {f_11:Addr} (h_11:Lk K "levelled" Za1 f_11)
 {f_12:Addr} {od_12 an_12:Option Addr} {sl_12:Array (Option Value)} {oc_12 kV_12 dc_12 pm_12 cd_12 ct_12:Value}
 {dT_12:Addr} {dt_12:Tok} {dn_12:Nat} {oo_12:Option Addr} {os_12:Array (Option Value)} {occ_12:Value}
 (a_12:PySem.W.nsIn K mainGlobals "mixed" = some (some (.ref f_12)))
 (l_12:K.lookup f_12=some ⟨oc_12,od_12,.func (PySem.W.fnOf "mixed" "mixed" (Yr Zcj) (Yh Zcj) (Ze Zcj) (.ref dT_12) kV_12 dc_12 pm_12 an_12 cd_12 ct_12),sl_12⟩)
 (c_12:PySem.W.codeIn K cd_12 "mixed" = true) (k_12:PySem.W.keepIn K (.ref f_12)=true)
 (t_12:K.lookup dT_12=some ⟨occ_12,oo_12,.seq #[.int 1 dt_12] dn_12,os_12⟩)
 {f_13:Addr} (h_13:Lk K "put_at" Zcz f_13)
 {f_14:Addr} (h_14:Lk K "factors_of" Zau f_14)
 {f_15:Addr} (h_15:Lk K "lowered" Zdk f_15)
 {f_16:Addr} (h_16:Lk K "filled" Zf6 f_16)
 {f_17:Addr} (h_17:Lk K "places_of" Zbm f_17)
 {f_18:Addr} (h_18:Lk K "rights_to" Zbo f_18)
 {f_19:Addr} (h_19:Lk K "settled_by" Xx f_19)
 {f_20:Addr} (h_20:Lk K "settled_each" Yg f_20)
 {f_21:Addr} (h_21:Lk K "settled" Zdt f_21)
 {f_22:Addr} (h_22:Lk K "mix_of" Zby f_22)
 {f_23:Addr} (h_23:Lk K "is_whole" Zb9 f_23)
 {f_24:Addr} (h_24:Lk K "is_fraction" Zah f_24)
 {f_25:Addr} (h_25:Lk K "are_fractions" Xl f_25)
 {f_26:Addr} (h_26:Lk K "_law_cell_at" X4 f_26)
 {f_27:Addr} (h_27:Lk K "_law_state" Zar f_27)
 {f_28:Addr} (h_28:Lk K "_law_choice" Zac f_28)
 {f_29:Addr} (h_29:Lk K "_law_low" Zb8 f_29)
 {f_30:Addr} (h_30:Lk K "_law_whole" Zao f_30)
 {f_31:Addr} (h_31:Lk K "_law_is_fraction" Y6 f_31)
 {f_32:Addr} (h_32:Lk K "_law_odd" Zcb f_32)
 {f_33:Addr} (h_33:Lk K "_law_bent" Xg f_33)
 {f_34:Addr} (h_34:Lk K "are_rows" Zba f_34)
 {f_35:Addr} (h_35:Lk K "look_at_rows" X7 f_35)
 {f_36:Addr} (h_36:Lk K "solved" Zc3 f_36)
 {f_37:Addr} (h_37:Lk K "is_solution" Xn f_37)
 {f_38:Addr} (h_38:Lk K "is_mix" Za6 f_38)
 {f_39:Addr} (h_39:Lk K "_law_fraction" Xr f_39)
 {f_40:Addr} (h_40:Lk K "_law_row" Za7 f_40)
 {f_41:Addr} (h_41:Lk K "_law_are" Zb6 f_41)
 {f_42:Addr} (h_42:Lk K "_law_is_good" Xf f_42)
 {f_43:Addr} (h_43:Lk K "_law_marks" Zaq f_43)
 {f_44:Addr} (h_44:Lk K "_law_word" Zbi f_44)
 {f_45:Addr} (h_45:Lk K "_law_said" Zbn f_45)
 {f_46 cc_46 P_46:Addr} {od_46 an_46:Option Addr} {sl_46:Array (Option Value)} {oc_46 kV_46 dc_46 pm_46 ct_46:Value} (hd_46:PySem.W.codeHdIn K cc_46 P_46=true)
 (a_46:PySem.W.nsIn K mainGlobals "_law_right" = some (some (.ref f_46)))
 (l_46:K.lookup f_46=some ⟨oc_46,od_46,.func (PySem.W.fnOf "_law_right" "_law_right" (Yr Y4) (Yh Y4) (Ze Y4) .none kV_46 dc_46 pm_46 an_46 (.ref cc_46) ct_46),sl_46⟩)
 (c_46:PySem.W.codeIn K (.ref cc_46) "_law_right" = true) (k_46:PySem.W.keepIn K (.ref f_46)=true)
 {f_law:Addr} {od_law an_law:Option Addr} {sl_law:Array (Option Value)} {oc_law kV_law dc_law pm_law cd_law ct_law:Value}
 (a_law:PySem.W.nsIn K mainGlobals "law" = some (some (.ref f_law)))
 (l_law:K.lookup f_law=some ⟨oc_law,od_law,.func (PySem.W.fnOf "law" "law" (Yr Zec) (Yh Zec) (Ze Zec) .none kV_law dc_law pm_law an_law cd_law ct_law),sl_law⟩)
 (c_law:PySem.W.codeIn K cd_law "law" = true) (k_law:PySem.W.keepIn K (.ref f_law)=true)
 (z_abs:PySem.W.nsIn K mainGlobals "abs" = some none)
 (z_all:PySem.W.nsIn K mainGlobals "all" = some none)
 (z_any:PySem.W.nsIn K mainGlobals "any" = some none)
 (z_bool:PySem.W.nsIn K mainGlobals "bool" = some none)
 (z_enumerate:PySem.W.nsIn K mainGlobals "enumerate" = some none)
 (z_int:PySem.W.nsIn K mainGlobals "int" = some none)
 (z_isinstance:PySem.W.nsIn K mainGlobals "isinstance" = some none)
 (z_len:PySem.W.nsIn K mainGlobals "len" = some none)
 (z_list:PySem.W.nsIn K mainGlobals "list" = some none)
 (z_max:PySem.W.nsIn K mainGlobals "max" = some none)
 (z_min:PySem.W.nsIn K mainGlobals "min" = some none)
 (z_range:PySem.W.nsIn K mainGlobals "range" = some none)
 (z_repr:PySem.W.nsIn K mainGlobals "repr" = some none)
 (z_reversed:PySem.W.nsIn K mainGlobals "reversed" = some none)
 (z_sum:PySem.W.nsIn K mainGlobals "sum" = some none)
 (z_tuple:PySem.W.nsIn K mainGlobals "tuple" = some none)
 (z_zip:PySem.W.nsIn K mainGlobals "zip" = some none)
 {tn_GREAT_BITS:Tok} (n_GREAT_BITS:PySem.W.nsIn K mainGlobals "GREAT_BITS" = some (some (.int 4000 tn_GREAT_BITS)))
 {tn_MOST_ROWS:Tok} (n_MOST_ROWS:PySem.W.nsIn K mainGlobals "MOST_ROWS" = some (some (.int 60 tn_MOST_ROWS)))
 {cl:Str→Addr} (zk:EkK K cl) (bk:BkK K)
 {pr_N0:Addr} (gp_N0:PySem.W.nsIn K mainGlobals "NOUGHT" = some (some (.ref pr_N0))) (ep_N0:KTu K pr_N0 [.int 0,.int 1])
 {pr_O1:Addr} (gp_O1:PySem.W.nsIn K mainGlobals "ONE" = some (some (.ref pr_O1))) (ep_O1:KTu K pr_O1 [.int 1,.int 1])
 {pr_L1:Addr} (gp_L1:PySem.W.nsIn K mainGlobals "LESS_ONE" = some (some (.ref pr_L1))) (ep_L1:KTu K pr_L1 [.int (-1),.int 1])
 : ∃ fd:FuncData,(∀ (s:Shared) (v:Value),BindsTo s fd ⟨[v],[]⟩ [("_law_script",v)])∧∀ base:Heap,K.In base→base.Ns mainGlobals mg→FnOk l.prog w K mg base CX0 15 fa fd ["_law_script"] (Zi8 K P_9 P_46):=by
 have e:=hfa.symm.trans (n54_ X G a_law);cases e
 have T:Bt mg:=⟨n35_ X G z_abs,n35_ X G z_all,n35_ X G z_any,n35_ X G z_bool,n35_ X G z_enumerate,n35_ X G z_int,n35_ X G z_isinstance,n35_ X G z_len,n35_ X G z_list,n35_ X G z_max,n35_ X G z_min,n35_ X G z_range,n35_ X G z_repr,n35_ X G z_reversed,n35_ X G z_sum,n35_ X G z_tuple,n35_ X G z_zip,⟨_,n54_ X G n_GREAT_BITS⟩,⟨_,n54_ X G n_MOST_ROWS⟩⟩;have N0:Zhf K mg "NOUGHT" 0 1:=⟨pr_N0,n54_ X G gp_N0,ep_N0⟩;have O1:Zhf K mg "ONE" 1 1:=⟨pr_O1,n54_ X G gp_O1,ep_O1⟩;have L1:Zhf K mg "LESS_ONE" (-1) 1:=⟨pr_L1,n54_ X G gp_L1,ep_L1⟩;have Z:Ek K mg cl:=zk.ek X G;have BK:BltK K mg:=bk.blt X G;have F_9:=Zil (st:=Xv) l_9 c_9 k_9;have F_12:=Zoy (st:=Zcj) l_12 c_12 k_12;have F_46:=Zil (st:=Y4) l_46 c_46 k_46;have F_law:=Zil (st:=Zec) l_law c_law k_law;refine ⟨PySem.W.fnOf "law" "law" (Yr Zec) (Yh Zec) (Ze Zec) .none kV_law dc_law pm_law an_law cd_law ct_law,fun s v=>.of_eq rfl,fun base _ _=>?_⟩;have C_0:a0_ l.prog w K mg base:=h_0.cal X G (fun F=>Zcu T F) fun _ _ _ _ _ _=>ln2 fun _ _=>rfl;have C_1:a1_ l.prog w K mg base:=h_1.cal X G (fun F=>Zkf T F C_0) fun _ _ _ _ _ _=>ln2 fun _ _=>rfl;have C_2:a8_ l.prog w K mg base:=h_2.cal X G (fun F=>Zj4 T F C_1) fun _ _ _ _ _ _=>ln2 fun _ _=>rfl;have C_3:a3_ l.prog w K mg base:=h_3.cal X G (fun F=>Zhi T F C_1) fun _ _ _ _ _ _=>ln1 fun _=>rfl;have C_4:a2_ l.prog w K mg base:=h_4.cal X G (fun F=>Zgf T F C_1) fun _ _ _ _ _ _=>ln2 fun _ _=>rfl;have C_5:a4_ l.prog w K mg base:=h_5.cal X G (fun F=>Zif T F O1 C_4 C_3) fun _ _ _ _ _ _=>ln1 fun _=>rfl;have C_6:a5_ l.prog w K mg base:=h_6.cal X G (fun F=>Znq T F C_5) fun _ _ _ _ _ _=>ln1 fun _=>rfl;have C_7:a27_ l.prog w K mg base:=h_7.cal X G (fun F=>Zbw T F C_6) fun _ _ _ _ _ _=>ln2 fun _ _=>rfl;have C_8:a6_ l.prog w K mg base:=h_8.cal X G (fun F=>Zke T F C_4) fun _ _ _ _ _ _=>ln4 fun _ _ _ _=>rfl;have C_9:Cal l.prog w K mg base "head_of" 5 ["left","place"] (Zht P_9):=⟨f_9,_,Zj1 T F_9 rfl (fun _ Y=>PySem.W.codeHd_of_K Y hd_9) BK,n54_ X G a_9,k_9,F_9.binds (ps:=["left","place"]) fun _ _ _ _ _ _=>ln2 fun _ _=>rfl⟩;have C_10:Cal l.prog w K mg base "stepped" 6 ["lines","places"] (Zca P_9):=h_10.cal X G (fun F=>Zjv T F C_8 C_9) fun _ _ _ _ _ _=>ln2 fun _ _=>rfl;have C_11:a7_ l.prog w K mg base:=h_11.cal X G (fun F=>Zh4 T F C_3) fun _ _ _ _ _ _=>ln1 fun _=>rfl
 have C_12:a10_ l.prog w K mg base:=⟨f_12,_,Zm6 T F_12 C_11 C_2,n54_ X G a_12,k_12,fun s us KX hl=>(by
  have h1:us.length=3:=by simpa using hl
  match us,h1 with
  | [u0,u1,u2],_=>first | exact .of_eq rfl | exact BindsTo.of_defaults (T:=dT_12) (items:=#[.int 1 dt_12]) rfl (KX _ _ t_12) rfl rfl rfl)⟩
 have C_13:a9_ l.prog w K mg base:=h_13.cal X G (fun F=>Zkz T F C_3 C_2) fun _ _ _ _ _ _=>ln3 fun _ _ _=>rfl;have C_14:a12_ l.prog w K mg base:=h_14.cal X G (fun F=>Zff T F C_1) fun _ _ _ _ _ _=>ln1 fun _=>rfl;have C_15:a13_ l.prog w K mg base:=h_15.cal X G (fun F=>Zjr T F C_1) fun _ _ _ _ _ _=>ln2 fun _ _=>rfl;have C_16:a11_ l.prog w K mg base:=h_16.cal X G (fun F=>Zl4 T F C_13) fun _ _ _ _ _ _=>ln2 fun _ _=>rfl;have C_17:a14_ l.prog w K mg base:=h_17.cal X G (fun F=>Zgg T F) fun _ _ _ _ _ _=>ln1 fun _=>rfl;have C_18:a15_ l.prog w K mg base:=h_18.cal X G (fun F=>Zg5 T F C_12 C_5) fun _ _ _ _ _ _=>ln2 fun _ _=>rfl;have C_19:a16_ l.prog w K mg base:=h_19.cal X G (fun F=>Zfu T F N0 C_16) fun _ _ _ _ _ _=>ln3 fun _ _ _=>rfl;have C_20:Cal l.prog w K mg base "settled_each" 7 ["rows","columns"] (Zbj K P_9):=h_20.cal X G (fun F=>Zc6 T F C_14 C_11 C_15 C_17 C_18 C_19 C_10 C_6) fun _ _ _ _ _ _=>ln2 fun _ _=>rfl;have C_21:Cal l.prog w K mg base "settled" 8 ["rows","rights"] (Za3 K P_9):=h_21.cal X G (fun F=>Zjp T F C_20) fun _ _ _ _ _ _=>ln2 fun _ _=>rfl;have C_22:Cal l.prog w K mg base "mix_of" 9 ["rows","rights","taken"] (Zfp K P_9):=h_22.cal X G (fun F=>Zli T F N0 O1 C_21) fun _ _ _ _ _ _=>ln3 fun _ _ _=>rfl;have C_23:a17_ l.prog w K mg base:=h_23.cal X G (fun F=>Zhn T F) fun _ _ _ _ _ _=>ln1 fun _=>rfl;have C_24:a18_ l.prog w K mg base:=h_24.cal X G (fun F=>Zd9 T F C_1 C_23) fun _ _ _ _ _ _=>ln1 fun _=>rfl;have C_x25:a24_ l.prog w K mg base:=h_25.cal X G (fun F=>Zcg T F C_24) fun _ _ _ _ _ _=>ln2 fun _ _=>rfl;have C_26:a19_ l.prog w K mg base:=h_26.cal X G (fun F=>Zdl T F) fun _ _ _ _ _ _=>ln2 fun _ _=>rfl;have C_27:a35_ l.prog w K mg base:=h_27.cal X G (fun F=>Zfz T F C_26) fun _ _ _ _ _ _=>ln2 fun _ _=>rfl;have C_28:a22_ l.prog w K mg base:=h_28.cal X G (fun F=>Zed T F) fun _ _ _ _ _ _=>ln2 fun _ _=>rfl;have C_29:a20_ l.prog w K mg base:=h_29.cal X G (fun F=>Zhq T F) fun _ _ _ _ _ _=>ln2 fun _ _=>rfl;have C_30:a21_ l.prog w K mg base:=h_30.cal X G (fun F=>Ze8 T F) fun _ _ _ _ _ _=>ln1 fun _=>rfl;have C_31:a29_ l.prog w K mg base:=h_31.cal X G (fun F=>Zbf T F C_29 C_30) fun _ _ _ _ _ _=>ln1 fun _=>rfl
 have C_32:a23_ l.prog w K mg base:=h_32.cal X G (fun F=>Zh7 T F C_28) fun _ _ _ _ _ _=>ln1 fun _=>rfl;have C_xI:Cal l.prog w K mg base "_law_bent" 2 ["_law_state_here","_law_thing"] (Zfi 0):=h_33.cal X G (fun F=>Ze2 T F) fun _ _ _ _ _ _=>ln2 fun _ _=>rfl;have C_x33:Cal l.prog w K mg base "_law_bent" 3 ["_law_state_here","_law_thing"] (Za8 0):=h_33.cal X G (fun F=>Xo (n:=0) T F C_xI C_28 C_32 C_30) fun _ _ _ _ _ _=>ln2 fun _ _=>rfl;have C_x34:Cal l.prog w K mg base "_law_bent" 4 ["_law_state_here","_law_thing"] (Za8 1):=h_33.cal X G (fun F=>Xo (n:=1) T F C_x33 C_28 C_32 C_30) fun _ _ _ _ _ _=>ln2 fun _ _=>rfl;have C_x35:a32_ l.prog w K mg base:=h_33.cal X G (fun F=>Xo (n:=2) T F C_x34 C_28 C_32 C_30) fun _ _ _ _ _ _=>ln2 fun _ _=>rfl;have C_x36:a33_ l.prog w K mg base:=h_33.cal X G (fun F=>Xo (n:=3) T F C_x35 C_28 C_32 C_30) fun _ _ _ _ _ _=>ln2 fun _ _=>rfl;have C_x37:a25_ l.prog w K mg base:=h_17.cal X G (fun F=>Zf0 T F) fun _ _ _ _ _ _=>ln1 fun _=>rfl;have C_34:a26_ l.prog w K mg base:=h_34.cal X G (fun F=>Zhr T F C_x25 C_x37) fun _ _ _ _ _ _=>ln1 fun _=>rfl;have X_35:CalX l.prog w K mg base "look_at_rows" 6 ["rows","rights"] (Zan (cl "NoRows")):=h_35.calX X G (fun F=>Zda T F Z C_x25 C_34) fun _ _ _ _ _ _=>ln2 fun _ _=>rfl;have X_36:CalX l.prog w K mg base "solved" 10 ["rows","rights"] (Zb7 P_9 (cl "NoRows")):=h_36.calX X G (fun F=>Zk3 T F Z C_22 C_17 C_21 X_35) fun _ _ _ _ _ _=>ln2 fun _ _=>rfl;have X_37:CalX l.prog w K mg base "is_solution" 7 ["rows","rights","thing"] (Y0 (cl "NoRows")):=h_37.calX X G (fun F=>Zea T F L1 Z C_x25 C_7 C_17 C_6 X_35) fun _ _ _ _ _ _=>ln3 fun _ _ _=>rfl;have X_38:CalX l.prog w K mg base "is_mix" 7 ["rows","rights","thing"] (Y0 (cl "NoRows")):=h_38.calX X G (fun F=>Zlz T F Z C_x25 C_7 C_17 C_6 X_35) fun _ _ _ _ _ _=>ln3 fun _ _ _=>rfl;have C_39:a28_ l.prog w K mg base:=h_39.cal X G (fun F=>Zcy T F C_28 C_29) fun _ _ _ _ _ _=>ln1 fun _=>rfl;have C_40:a34_ l.prog w K mg base:=h_40.cal X G (fun F=>Zhx T F C_39) fun _ _ _ _ _ _=>ln2 fun _ _=>rfl;have C_41:a30_ l.prog w K mg base:=h_41.cal X G (fun F=>Zh6 T F C_31) fun _ _ _ _ _ _=>ln2 fun _ _=>rfl;have C_42:a31_ l.prog w K mg base:=h_42.cal X G (fun F=>Zdg T F C_41) fun _ _ _ _ _ _=>ln2 fun _ _=>rfl;have H_43:CalH l.prog w K mg base "_law_marks" 1 ["_law_e"] (Ze5 K cl):=h_43.calH X G (fun F=>Zfw T F Z) fun _ _ _ _ _ _=>ln1 fun _=>rfl;have H_44:CalH l.prog w K mg base "_law_word" 2 ["_law_e"] (Zie K cl):=h_44.calH X G (fun F=>Zhb T F Z H_43) fun _ _ _ _ _ _=>ln1 fun _=>rfl
 have C_45:Cal l.prog w K mg base "_law_said" 13 ["_law_call"] (Zdh l.prog w K mg base cl):=h_45.cal X G (fun F=>Zhg T F Z H_44) fun _ _ _ _ _ _=>ln1 fun _=>rfl;have C_46:Cal l.prog w K mg base "_law_right" 14 ["_law_rows","_law_rights","_law_thing"] (Zfh P_9 P_46):=⟨f_46,_,Zfq T F_46 Z rfl (fun _ Y=>PySem.W.codeHd_of_K Y hd_46) BK X_36 X_37 X_38 C_42 C_45,n54_ X G a_46,k_46,F_46.binds (ps:=["_law_rows","_law_rights","_law_thing"]) fun _ _ _ _ _ _=>ln3 fun _ _ _=>rfl⟩;exact Zqy T F_law C_x35 C_x36 C_28 C_32 C_46 C_40 C_27
theorem walk {l:PySem.W.OpenLaw} {q:Program} {loose:List Str} {XP:(Str→Option Value)→Heap→Prop} {YP:World→Heap→Prop} {d:DefRec} {K:Params→PySem.W.Frag} {c1 c2 P1 P2:Addr} (hn:l.most=some 63) (hdf:d.params.defaults=[]) (hne:P1≠P2)
 (hY:∀ (w:World) (h:Heap),YP w h→(K w.params).In h∧h.get? P1=some (PySem.W.tabObj #[])∧h.get? P2=some (PySem.W.tabObj #[]))
 (hc:∀ P,PySem.W.codeHdIn (K P) c1 P1=true∧PySem.W.codeHdIn (K P) c2 P2=true∧(K P).lookup P1=none∧(K P).lookup P2=none)
 (F:∀ (w:World) (mg:Str→Option Value) (fa:Addr) (h:Heap),(K w.params).In h→h.Ns mainGlobals mg→mg d.name=some (.ref fa) →
   ∃ fd:FuncData,(∀ (s:Shared) (u:Value),BindsTo s fd ⟨[u],[]⟩ [("_law_script",u)])∧∀ base:Heap,(K w.params).In base→base.Ns mainGlobals mg→FnOk l.prog w (K w.params) mg base CX0 15 fa fd ["_law_script"] (Zi8 (K w.params) P1 P2)) :
 PySem.W.WalkO q loose XP YP l.row.toRowW d [] (fun f vs=>PySem.call f vs) :=
 L2.Zni (n:=63) (k:=15) (x := "_law_script") (sp:=fun w=>Zi8 (K w.params) P1 P2) hn (by decide) hdf ⟨rfl,by decide,by decide,rfl⟩ hY hc F fun _ _ a ns hl hS e1 e2=>⟨a,ns,rfl,hS,hl,hne,Zit e1,Zit e2,fun _=>rfl⟩
end My

namespace My
open PySem PySem.W PyProof.Rows L2
set_option maxRecDepth 1000000
set_option maxHeartbeats 0
def gE (P : Params) (n : Str) (t : Tok) (v : Value) : DictEntry := ⟨PySem.PyData.keyHash P n, .str n t, v⟩
def gR (P : Params) (n : Str) (t : Tok) (a : Addr) : DictEntry := gE P n t (.ref a)
def fO (n : Str) (i : Nat) (m : Str) (mt : Tok) (c : Addr) (dv : Value) : Obj := { cls := .type "function", data := .func (PySem.W.fnOf n n (Yr (top i)) (Yh (top i)) (Ze (top i)) dv .none .none (.str m mt) none (.ref c) .none) }
def cO (n : Str) (a : Tok) (l k : Int) (r s : Addr) (u v : Value) (t : Nat) : Obj := { cls := .type "code", data := .fields (Array.mk [.str n a, .str n (a + 1), .str "/claim/cut.py" (a + 2), .int l 0, .int k 0, .int 0 0, .int 0 0, .int 3 0, .ref r, .bool true, .int 181 0, .ref (r + 1), .none, u, v, .ref s, .int t 0, .int l 0, .str "/claim/cut.py" (t + 1)]) }
def dR (n : Str) (i : Nat) (m : Str) (mt a : Tok) (l k : Int) (r : Addr) (t : Nat) : Frag := [(r + 6, fO n i m mt (r + 5) .none), (r + 5, cO n a l k r (r + 4) (.ref (r + 2)) (.ref (r + 3)) t)]
def dN (n : Str) (i : Nat) (m : Str) (mt a : Tok) (l k : Int) (r : Addr) (t : Nat) : Frag := [(r + 4, fO n i m mt (r + 3) .none), (r + 3, cO n a l k r (r + 2) .none .none t)]
def Zqb (s : Stmt) : Pos := match s with | .FunctionDef _ _ _ _ _ _ _ _ _ p => p | _ => ⟨0, 0, 0, 0⟩
def vE : List Value := [.type "ValueError", .type "Exception", .type "BaseException", .type "object"]
def clO (n : Str) (a d : Addr) (t : Tok) (bs mr su : List Value) : Addr × Obj := (a, { cls := .type "type", data := .cls { name := n, bases := bs, mro := .ref a :: mr, ns := a - 1, qualname := n, subclasses := su }, slots := #[some (.ref d), none, some (.str n t), some (.str n (t + 8)), some (.builtin "ValueError.__new__"), some (.bool true)] })
def clS (n : Str) (a d : Addr) (t : Tok) : Addr × Obj := clO n a d t [.ref 59] (.ref 59 :: vE) []
def m0 : Str := "platerest.divisors"
def m1 : Str := "platerest.quotients"
def m2 : Str := "platerest.rows"
def m3 : Str := "law_platerest_k12_rows_refused"
noncomputable def kK (P : Params) : Frag := (3, { cls := .type "dict", data := (.dict #[gE P "__name__" 165 (.str "law_platerest_k12_rows_refused" 944),
gE P "__doc__" 166 (.none),
gE P "__package__" 167 (.none),
gE P "__loader__" 168 (.builtin "__main__.__loader__#opaque"),
gE P "__spec__" 169 (.none),
gR P "__annotations__" 170 6,
gR P "__builtins__" 171 4,
gE P "__file__" 173 (.str "/claim/cut.py" 172),
gE P "__cached__" 174 (.none),
gE P "GREAT_BITS" 190 (.int 4000 189),
gE P "FEW_BITS" 192 (.int 200 191),
gR P "plain_divisor" 200 21,
gR P "few_steps" 215 28,
gR P "mixed_by" 230 35,
gR P "shrinking" 250 42,
gR P "divisor" 259 49,
gR P "PlateError" 279 59,
gR P "NoWhole" 295 72,
gR P "NoFraction" 311 84,
gR P "NoRows" 327 96,
gR P "NoPlate" 343 108,
gR P "NoMotions" 359 120,
gR P "NoLoads" 375 132,
gR P "NoHolding" 391 144,
gR P "NoWays" 407 156,
gR P "NoWay" 423 168,
gR P "NoPiece" 439 180,
gR P "NoStresses" 455 192,
gR P "NoBalance" 471 204,
gR P "NoRest" 487 216,
gR P "NoRounds" 503 228,
gR P "NoFrame" 519 240,
gR P "NoLot" 535 252,
gR P "NoInner" 551 264,
gR P "NoTurning" 567 276,
gR P "NoFirm" 583 288,
gR P "NoThick" 599 300,
gR P "NoDeed" 615 312,
gR P "NoDeeds" 631 324,
gR P "NotHeld" 647 336,
gR P "NoLine" 663 348,
gR P "TooMany" 690 367,
gR P "NoText" 715 386,
gR P "NOUGHT" 720 389,
gR P "ONE" 723 390,
gR P "is_whole" 730 397,
gR P "multiple" 739 404,
gR P "reduced" 748 411,
gR P "is_fraction" 757 418,
gR P "are_fractions" 763 423,
gR P "levelled" 769 428,
gR P "mixed" 776 434,
gE P "MOST_ROWS" 780 (.int 60 779),
gR P "LESS_ONE" 784 435,
gR P "places_of" 791 442,
gR P "are_rows" 797 447,
gR P "look_at_rows" 805 454,
gR P "in_common" 815 461,
gR P "scale_of" 821 466,
gR P "whole" 827 471,
gR P "comes_to_nought" 833 476,
gR P "head_of" 839 481,
gR P "cleared" 845 486,
gR P "stepped" 851 491,
gR P "put_at" 857 496,
gR P "filled" 868 503,
gR P "rights_to" 874 508,
gR P "factors_of" 885 515,
gR P "lowered" 897 522,
gR P "settled_by" 903 527,
gR P "settled_each" 909 532,
gR P "settled" 919 539,
gR P "mix_of" 925 544,
gR P "solved" 931 549,
gR P "is_solution" 937 554,
gR P "is_mix" 943 559,
gR P "_law_cell_at" 953 566,
gR P "_law_state" 962 573,
gR P "_law_choice" 972 580,
gR P "_law_low" 982 587,
gR P "_law_fraction" 991 594,
gR P "_law_row" 997 599,
gR P "_law_odd" 1005 606,
gR P "_law_marks" 1013 613,
gR P "_law_word" 1023 620,
gR P "_law_said" 1031 627,
gR P "_law_whole" 1038 634,
gR P "_law_is_fraction" 1044 639,
gR P "_law_bent" 1055 646,
gR P "_law_are" 1061 651,
gR P "_law_is_good" 1067 656,
gR P "_law_right" 1084 663,
gR P "law" 1090 668] 93) }) :: (dR "plain_divisor" 3 m0 187 193 4 2 15 198 ++
dR "divisor" 7 m0 187 251 35 2 43 257 ++
dR "reduced" 41 m1 716 740 113 2 405 746 ++
dR "multiple" 40 m1 716 731 108 1 398 737 ++
dR "in_common" 52 m2 777 806 152 2 455 813 ++
dN "scale_of" 53 m2 777 816 159 1 462 819 ++
dN "whole" 54 m2 777 822 162 1 467 825 ++
dN "comes_to_nought" 55 m2 777 828 165 2 472 831 ++
dN "cleared" 57 m2 777 840 170 4 482 843 ++
dN "head_of" 56 m2 777 834 167 2 477 837 ++
dN "stepped" 58 m2 777 846 180 2 487 849 ++
dN "levelled" 44 m1 716 764 129 1 424 767 ++
[(434, fO "mixed" 45 m1 716 433 (.ref 429)), (433, cO "mixed" 771 132 3 430 432 (.none) (.none) 774), (429, { cls := .type "tuple", data := .seq #[.int 1 770] 0 })] ++
dN "put_at" 59 m2 777 852 190 3 492 855 ++
dR "factors_of" 62 m2 777 875 203 1 509 883 ++
dR "lowered" 63 m2 777 886 212 2 516 895 ++
dR "filled" 60 m2 777 858 195 2 497 866 ++
dR "places_of" 49 m2 777 785 138 1 436 789 ++
dN "rights_to" 61 m2 777 869 200 2 504 872 ++
dN "settled_by" 64 m2 777 898 219 3 523 901 ++
dN "settled_each" 65 m2 777 904 222 2 528 907 ++
dR "settled" 66 m2 777 910 236 2 533 917 ++
dN "mix_of" 67 m2 777 920 239 3 540 923 ++
dR "is_whole" 39 m1 716 724 106 1 391 728 ++
dR "is_fraction" 42 m1 716 749 118 1 412 755 ++
dN "are_fractions" 43 m1 716 758 125 2 419 761 ++
dR "_law_cell_at" 72 m3 944 946 266 2 560 951 ++
dR "_law_state" 73 m3 944 954 270 2 567 960 ++
dR "_law_choice" 74 m3 944 963 273 2 574 970 ++
dR "_law_low" 75 m3 944 973 283 2 581 980 ++
dR "_law_whole" 82 m3 944 1032 329 1 628 1036 ++
dN "_law_is_fraction" 83 m3 944 1039 331 1 635 1042 ++
dR "_law_odd" 78 m3 944 998 296 1 600 1003 ++
dR "_law_bent" 84 m3 944 1045 335 2 640 1053 ++
dN "are_rows" 50 m2 777 792 140 1 443 795 ++
dR "look_at_rows" 51 m2 777 798 147 2 448 803 ++
dN "solved" 68 m2 777 926 243 2 545 929 ++
dN "is_solution" 69 m2 777 932 250 3 550 935 ++
dN "is_mix" 70 m2 777 938 256 3 555 941 ++
dR "_law_fraction" 76 m3 944 983 288 1 588 989 ++
dN "_law_row" 77 m3 944 992 294 2 595 995 ++
dN "_law_are" 85 m3 944 1056 347 2 647 1059 ++
dN "_law_is_good" 86 m3 944 1062 349 2 652 1065 ++
dR "_law_marks" 79 m3 944 1006 299 1 607 1011 ++
dR "_law_word" 80 m3 944 1014 311 1 614 1021 ++
dR "_law_said" 81 m3 944 1024 324 1 621 1029 ++
dR "_law_right" 87 m3 944 1068 353 3 657 1082 ++
dN "law" 88 m3 944 1085 363 1 664 1088 ++
[(389, { cls := .type "tuple", data := .seq #[.int 0 718, .int 1 719] 0 })] ++
[(390, { cls := .type "tuple", data := .seq #[.int 1 721, .int 1 722] 0 })] ++
[(435, { cls := .type "tuple", data := .seq #[.int (-1) 782, .int 1 783] 0 })] ++
[clO "PlateError" 59 50 262 [.type "ValueError"] vE [.ref 72, .ref 84, .ref 96, .ref 108, .ref 120, .ref 132, .ref 144, .ref 156, .ref 168, .ref 180, .ref 192, .ref 204, .ref 216, .ref 228, .ref 240, .ref 252, .ref 264, .ref 276, .ref 288, .ref 300, .ref 312, .ref 324, .ref 336, .ref 348, .ref 367, .ref 386],
clS "NoWhole" 72 63 280,
clS "NoFraction" 84 75 296,
clS "NoRows" 96 87 312,
clS "NoPlate" 108 99 328,
clS "NoMotions" 120 111 344,
clS "NoLoads" 132 123 360,
clS "NoHolding" 144 135 376,
clS "NoWays" 156 147 392,
clS "NoWay" 168 159 408,
clS "NoPiece" 180 171 424,
clS "NoStresses" 192 183 440,
clS "NoBalance" 204 195 456,
clS "NoRest" 216 207 472,
clS "NoRounds" 228 219 488,
clS "NoFrame" 240 231 504,
clS "NoLot" 252 243 520,
clS "NoInner" 264 255 536,
clS "NoTurning" 276 267 552,
clS "NoFirm" 288 279 568,
clS "NoThick" 300 291 584,
clS "NoDeed" 312 303 600,
clS "NoDeeds" 324 315 616,
clS "NotHeld" 336 327 632,
clS "NoLine" 348 339 648,
clS "TooMany" 367 351 664,
clS "NoText" 386 370 691,
(58, { cls := .type "dict", data := (.dict #[gE P "__module__" 269 (.str "platerest.errors" 260), gE P "__firstlineno__" 273 (.int 42 272), gR P "__static_attributes__" 274 57, gR P "__weakref__" 276 60, gE P "__doc__" 277 (.none)] 3) }),
(95, { cls := .type "dict", data := (.dict #[gE P "__module__" 319 (.str "platerest.errors" 260), gE P "__firstlineno__" 323 (.int 48 322), gR P "__static_attributes__" 324 94, gE P "__doc__" 325 (.none)] 2) }),
(4, { cls := .type "module", dict := some builtinsNs })])
def kA : List Addr := [3, 21, 20, 49, 48, 411, 410, 404, 403, 461, 460, 466, 465, 471, 470, 476, 475, 486, 485, 481, 480, 491, 490, 428, 427, 434, 433, 429, 496, 495, 515, 514, 522, 521, 503, 502, 442, 441, 508, 507, 527, 526, 532, 531, 539, 538, 544, 543, 397, 396, 418, 417, 423, 422, 566, 565, 573, 572, 580, 579, 587, 586, 634, 633, 639, 638, 606, 605, 646, 645, 447, 446, 454, 453, 549, 548, 554, 553, 559, 558, 594, 593, 599, 598, 651, 650, 656, 655, 613, 612, 620, 619, 627, 626, 663, 662, 668, 667, 389, 390, 435, 59, 72, 84, 96, 108, 120, 132, 144, 156, 168, 180, 192, 204, 216, 228, 240, 252, 264, 276, 288, 300, 312, 324, 336, 348, 367, 386, 58, 95, 4]
theorem kAs : ∀ P, kA = (kK P).map (·.1) := fun _ => by kernel_rfl
def kT : List Addr := [478, 658]
def clA (x : Str) : Addr := (List.lookup x [("PlateError", 59), ("NoWhole", 72), ("NoFraction", 84), ("NoRows", 96), ("NoPlate", 108), ("NoMotions", 120), ("NoLoads", 132), ("NoHolding", 144), ("NoWays", 156), ("NoWay", 168), ("NoPiece", 180), ("NoStresses", 192), ("NoBalance", 204), ("NoRest", 216), ("NoRounds", 228), ("NoFrame", 240), ("NoLot", 252), ("NoInner", 264), ("NoTurning", 276), ("NoFirm", 288), ("NoThick", 300), ("NoDeed", 312), ("NoDeeds", 324), ("NotHeld", 336), ("NoLine", 348), ("TooMany", 367), ("NoText", 386)]).getD 0
theorem Zon {K : PySem.W.Frag} {cl : Str → Addr} {C : Addr} {ix : Nat} (h : (CLS.map fun x => PySem.W.kitOne K (.ref C) (.ref (cl x))) = (List.range 26).map fun i => some (decide (i = ix))) : ∀ (i : Nat) x, CLS[i]? = some x → PySem.W.kitOne K (.ref C) (.ref (cl x)) = some (decide (i = ix)) := by
  intro i x e;have q := congrArg (fun l => l[i]?) h;simp only [n3_, e, Option.map_some] at q;have hi : i < 26 := (n33_.mp e).1;rw [List.getElem?_range hi] at q;exact Option.some.inj q
theorem Zrj (P : Params) : (CLS.map fun x => PySem.W.nsIn (kK P) mainGlobals x) = CLS.map fun x => some (some (.ref (clA x))) := by kernel_rfl
theorem Zkx (P : Params) : ExcK (kK P) (clA "NoRows") := ⟨_, _, _, PySem.F.excBase_ValueError, by kernel_rfl⟩
theorem Zmj (P : Params) : Kind (kK P) clA (clA "NoRows") 16 := ⟨Zon (by kernel_rfl), by kernel_rfl, by kernel_rfl, by kernel_rfl, by kernel_rfl, by kernel_rfl, by kernel_rfl, by kernel_rfl, by kernel_rfl⟩
theorem kz (P : Params) : EkK (kK P) clA := ⟨List.map_inj_left.mp (Zrj P), by kernel_rfl, by kernel_rfl, Zkx P, Zmj P⟩
theorem kb (P : Params) : BkK (kK P) := ⟨4, { cls := .type "module", dict := some builtinsNs }, by kernel_rfl, by decide, by decide, by kernel_rfl, rfl, rfl, rfl⟩
theorem h3 : ∀ w os, (topK pw 14934 w os).map (fun s => (kA.map s.abs.heap.get?, kT.map s.abs.heap.get?)) = some (((kK w.params).map fun p => some p.2, kT.map fun _ => some (tabObj #[]))) := fun w os => by
  unfold topK topStub;rw [PySem.W.Fast.te4652649595001227023, PySem.W.Fast.te14364793385576792824, PySem.W.Fast.te17154629097778926822, PySem.W.Fast.te12822647523644345616]
  kernel_rfl
theorem left : LeftO pw qq ll (fun s => xlAt qq [] s && recOk (RowW.records (OpenRow.toRowW rr)) s) (Hook.obs (kmHook kK kA kAs kT)) (Hook.val (kmHook kK kA kAs kT)) 14934 :=
  Zhs (T0 := bootT) (life := {}) (by kernel_rfl) (by kernel_rfl) (fun s => by kernel_rfl) Zm3 Zle (Zhc (R := topK pw 14934) h1 h2 h3)
theorem lk4 {P : Params} {b : Str} {i : Nat} {f : Addr} (c : Addr) (m : Str) (mt : Tok) (h : ((kK P).lookup f, PySem.W.nsIn (kK P) mainGlobals b, PySem.W.codeIn (kK P) (.ref c) b, PySem.W.keepIn (kK P) (.ref f)) = (some (fO b i m mt c .none), some (some (.ref f)), true, true)) : Lk (kK P) b (top i) f := Zq2 (Prod.mk.inj (Prod.mk.inj h).2).1 (Prod.mk.inj h).1 (Prod.mk.inj (Prod.mk.inj (Prod.mk.inj h).2).2).1 (Prod.mk.inj (Prod.mk.inj (Prod.mk.inj h).2).2).2
theorem Zez (P : Params) : PySem.W.codeHdIn (kK P) 480 478 = true := by kernel_rfl
theorem Zjt (P : Params) : (kK P).lookup 481 = some (fO "head_of" 56 m2 777 480 .none) := by kernel_rfl
theorem Zkc (P : Params) : PySem.W.nsIn (kK P) mainGlobals "head_of" = some (some (.ref 481)) := by kernel_rfl
theorem Zjo (P : Params) : PySem.W.codeIn (kK P) (.ref 480) "head_of" = true := by kernel_rfl
theorem Zjz (P : Params) : PySem.W.keepIn (kK P) (.ref 481) = true := by kernel_rfl
theorem Zne (P : Params) : (kK P).lookup 434 = some (fO "mixed" 45 m1 716 433 (.ref 429)) := by kernel_rfl
theorem Znf (P : Params) : PySem.W.nsIn (kK P) mainGlobals "mixed" = some (some (.ref 434)) := by kernel_rfl
theorem Zm1 (P : Params) : PySem.W.codeIn (kK P) (.ref 433) "mixed" = true := by kernel_rfl
theorem Znl (P : Params) : PySem.W.keepIn (kK P) (.ref 434) = true := by kernel_rfl
theorem Znc (P : Params) : (kK P).lookup 429 = some ⟨.type "tuple", none, .seq #[.int 1 770] 0, #[]⟩ := by kernel_rfl
theorem Zbt (P : Params) : PySem.W.codeHdIn (kK P) 662 658 = true := by kernel_rfl
theorem Zfy (P : Params) : (kK P).lookup 663 = some (fO "_law_right" 87 m3 944 662 .none) := by kernel_rfl
theorem Zfe (P : Params) : PySem.W.nsIn (kK P) mainGlobals "_law_right" = some (some (.ref 663)) := by kernel_rfl
theorem Zf1 (P : Params) : PySem.W.codeIn (kK P) (.ref 662) "_law_right" = true := by kernel_rfl
theorem Zfd (P : Params) : PySem.W.keepIn (kK P) (.ref 663) = true := by kernel_rfl
theorem Zqi (P : Params) : (kK P).lookup 668 = some (fO "law" 88 m3 944 667 .none) := by kernel_rfl
theorem Zp1 (P : Params) : PySem.W.nsIn (kK P) mainGlobals "law" = some (some (.ref 668)) := by kernel_rfl
theorem Zqj (P : Params) : PySem.W.codeIn (kK P) (.ref 667) "law" = true := by kernel_rfl
theorem Zqh (P : Params) : PySem.W.keepIn (kK P) (.ref 668) = true := by kernel_rfl
theorem Zrl (P : Params) : (kK P).lookup 389 = some ({ cls := .type "tuple", data := .seq #[.int 0 718, .int 1 719] 0 } : Obj) := by kernel_rfl
theorem Zq3 (P : Params) : KTu (kK P) 389 [.int 0, .int 1] := ⟨_, _, _, Zrl P, rfl, rfl, (by show 2 ≤ sizeLine; decide), (.cons ⟨_, rfl⟩ (.cons ⟨_, rfl⟩ .nil))⟩
theorem Zq8 (P : Params) : (kK P).lookup 390 = some ({ cls := .type "tuple", data := .seq #[.int 1 721, .int 1 722] 0 } : Obj) := by kernel_rfl
theorem Zrc (P : Params) : KTu (kK P) 390 [.int 1, .int 1] := ⟨_, _, _, Zq8 P, rfl, rfl, (by show 2 ≤ sizeLine; decide), (.cons ⟨_, rfl⟩ (.cons ⟨_, rfl⟩ .nil))⟩
theorem Zra (P : Params) : (kK P).lookup 435 = some ({ cls := .type "tuple", data := .seq #[.int (-1) 782, .int 1 783] 0 } : Obj) := by kernel_rfl
theorem Zrq (P : Params) : KTu (kK P) 435 [.int (-1), .int 1] := ⟨_, _, _, Zra P, rfl, rfl, (by show 2 ≤ sizeLine; decide), (.cons ⟨_, rfl⟩ (.cons ⟨_, rfl⟩ .nil))⟩
theorem hcL : ∀ P, PySem.W.codeHdIn (kK P) 480 478 = true ∧ PySem.W.codeHdIn (kK P) 662 658 = true ∧ (kK P).lookup 478 = none ∧ (kK P).lookup 658 = none := fun P => ⟨Zez P, Zbt P, by kernel_rfl, by kernel_rfl⟩
def dL : DefRec := ⟨"law", Yr (top 88), Yh (top 88), Ze (top 88), Zqb (top 88)⟩
theorem hdL : defOf qq (OpenRow.toRowW rr).name = some (dL, []) := by kernel_rfl
theorem hpL : (OpenRow.toRowW rr).prog.theDef (OpenRow.toRowW rr).name = some (dL.params, dL.body, dL.scope) := by kernel_rfl
theorem hkL : kwWritten? dL.params.kwonlyargs dL.params.kw_defaults = some [] := by kernel_rfl
theorem okL : (chainsOk qq && opensWell (OpenRow.toRowW rr).prog && (frees (OpenRow.toRowW rr) && (OpenRow.toRowW rr).within.isEmpty)) = true := by kernel_rfl
theorem dfL : dL.params.defaults = [] := by kernel_rfl
theorem wkL : WalkO qq ll (XL qq []) (Hook.says (kmHook kK kA kAs kT)) (OpenRow.toRowW rr) dL [] (fun f vs => PySem.call f vs) := by
  refine My.walk (l := PySem.Challenge.rw_platerest_k12_rows_refused) rfl dfL (by decide) (fun w h Y => ⟨PySem.W.km_in_of Y, PySem.W.km_tabs_of Y _ (by decide), PySem.W.km_tabs_of Y _ (by decide)⟩) hcL ?F;intro w mg fa h KX G hmg;exact Zqk KX G hmg (lk4 (f:=21) 20 m0 187 (by kernel_rfl)) (lk4 (f:=49) 48 m0 187 (by kernel_rfl)) (lk4 (f:=411) 410 m1 716 (by kernel_rfl)) (lk4 (f:=404) 403 m1 716 (by kernel_rfl)) (lk4 (f:=461) 460 m2 777 (by kernel_rfl)) (lk4 (f:=466) 465 m2 777 (by kernel_rfl)) (lk4 (f:=471) 470 m2 777 (by kernel_rfl)) (lk4 (f:=476) 475 m2 777 (by kernel_rfl)) (lk4 (f:=486) 485 m2 777 (by kernel_rfl)) (Zez _) (Zkc _) (Zjt _) (Zjo _) (Zjz _) (lk4 (f:=491) 490 m2 777 (by kernel_rfl)) (lk4 (f:=428) 427 m1 716 (by kernel_rfl)) (Znf _) (Zne _) (Zm1 _) (Znl _) (Znc _) (lk4 (f:=496) 495 m2 777 (by kernel_rfl)) (lk4 (f:=515) 514 m2 777 (by kernel_rfl)) (lk4 (f:=522) 521 m2 777 (by kernel_rfl)) (lk4 (f:=503) 502 m2 777 (by kernel_rfl)) (lk4 (f:=442) 441 m2 777 (by kernel_rfl)) (lk4 (f:=508) 507 m2 777 (by kernel_rfl)) (lk4 (f:=527) 526 m2 777 (by kernel_rfl)) (lk4 (f:=532) 531 m2 777 (by kernel_rfl)) (lk4 (f:=539) 538 m2 777 (by kernel_rfl)) (lk4 (f:=544) 543 m2 777 (by kernel_rfl)) (lk4 (f:=397) 396 m1 716 (by kernel_rfl)) (lk4 (f:=418) 417 m1 716 (by kernel_rfl)) (lk4 (f:=423) 422 m1 716 (by kernel_rfl)) (lk4 (f:=566) 565 m3 944 (by kernel_rfl)) (lk4 (f:=573) 572 m3 944 (by kernel_rfl)) (lk4 (f:=580) 579 m3 944 (by kernel_rfl)) (lk4 (f:=587) 586 m3 944 (by kernel_rfl)) (lk4 (f:=634) 633 m3 944 (by kernel_rfl)) (lk4 (f:=639) 638 m3 944 (by kernel_rfl)) (lk4 (f:=606) 605 m3 944 (by kernel_rfl)) (lk4 (f:=646) 645 m3 944 (by kernel_rfl)) (lk4 (f:=447) 446 m2 777 (by kernel_rfl)) (lk4 (f:=454) 453 m2 777 (by kernel_rfl)) (lk4 (f:=549) 548 m2 777 (by kernel_rfl)) (lk4 (f:=554) 553 m2 777 (by kernel_rfl)) (lk4 (f:=559) 558 m2 777 (by kernel_rfl)) (lk4 (f:=594) 593 m3 944 (by kernel_rfl)) (lk4 (f:=599) 598 m3 944 (by kernel_rfl)) (lk4 (f:=651) 650 m3 944 (by kernel_rfl)) (lk4 (f:=656) 655 m3 944 (by kernel_rfl)) (lk4 (f:=613) 612 m3 944 (by kernel_rfl)) (lk4 (f:=620) 619 m3 944 (by kernel_rfl)) (lk4 (f:=627) 626 m3 944 (by kernel_rfl)) (Zbt _) (Zfe _) (Zfy _) (Zf1 _) (Zfd _) (Zp1 _) (Zqi _) (Zqj _) (Zqh _) (by kernel_rfl) (by kernel_rfl) (by kernel_rfl) (by kernel_rfl) (by kernel_rfl) (by kernel_rfl) (by kernel_rfl) (by kernel_rfl) (by kernel_rfl) (by kernel_rfl) (by kernel_rfl) (by kernel_rfl) (by kernel_rfl) (by kernel_rfl) (by kernel_rfl) (by kernel_rfl) (by kernel_rfl) (tn_GREAT_BITS:=189) (by kernel_rfl) (tn_MOST_ROWS:=779) (by kernel_rfl) (kz _) (kb _) (by kernel_rfl) (Zq3 _) (by kernel_rfl) (Zrc _) (by kernel_rfl) (Zrq _)
end My
open PySem PySem.W PyProof.Rows
set_option maxRecDepth 1000000 in
set_option maxHeartbeats 0 in
theorem PySem.Challenge.cw_platerest_k12_rows_refused_holds : PySem.Challenge.rw_platerest_k12_rows_refused.Holds := by
  refine holds_law My.ws fun said => ?_;refine holds_open (q := My.qq) (loose := My.ll) (Xt := fun s => xlAt My.qq [] s && recOk (RowW.records (OpenRow.toRowW My.rr)) s) (XP := XL My.qq []) (Yf := Hook.obs (kmHook My.kK My.kA My.kAs My.kT)) (Ya := Hook.val (kmHook My.kK My.kA My.kAs My.kT)) (YP := Hook.says (kmHook My.kK My.kA My.kAs My.kT)) My.left (Hook.of (kmHook My.kK My.kA My.kAs My.kT)) (Hook.keeps (kmHook My.kK My.kA My.kAs My.kT)) (fun s e => xl_of s (Bool.and_eq_true_iff.mp e).1) XL.keeps My.hdL My.hpL My.hkL (fun s e => recFacts_of (Bool.and_eq_true_iff.mp e).2) rfl said My.okL ⟨rfl, rfl, rfl, rfl, rfl, by decide +kernel⟩ ?hw My.wkL
  case hw => w_witness2
