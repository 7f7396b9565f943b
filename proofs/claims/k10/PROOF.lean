import PyProof.Rows.All
import Wide.All
import OpenK.AllK
import Wide.FinOn
import Lean
import PyProof.EqAt
import PyProof.EqKinds
import PyProof.TupleCall
import PyProof.NeKinds
import PyProof.ConsumeWalk
import PyProof.ReprRoads
import PyProof.ReprLen
import PyProof.ZipIter
import PyProof.Draws
import PyProof.EnumMake
import PyProof.SumWalkG
import PyProof.Rows.SortWalk
import PyProof.WalksMore
import PyProof.RaisesMany
import PyProof.ExcClass2
import KE.KLam
import KE.KMinKey
import KE.KRevIter
import PyProof.NoPylong
import PySem.Challenge.RW_platerest_k10_rows_solved
set_option Elab.async false
set_option linter.all false
set_option maxRecDepth 100000
abbrev n0_:=@List.getElem?_eq_getElem
abbrev n1_:=@List.getD_eq_getElem?_getD
abbrev n2_:=@List.length_map
abbrev n3_:=@List.mem_cons_of_mem
abbrev n4_:=@List.mem_of_getElem?
abbrev n5_:=@List.mem_cons_self
abbrev n6_:=@PySem.wpAny_bind
abbrev n7_:=@PySem.Heap.get?_push_of_some
abbrev n8_:=@List.getElem?_map
abbrev n9_:=@Nat.le_refl
abbrev n10_:=@Nat.lt_of_lt_of_le
abbrev n11_:=@List.getElem?_eq_some_iff
abbrev n12_:=@Nat.lt_of_le_of_lt
abbrev n13_:=@List.getElem_mem
abbrev n14_:=@List.length_replicate
abbrev n15_:=@List.mem_singleton
abbrev n16_:=@List.size_toArray
abbrev n17_:=@PySem.Heap.get?_push_size
abbrev n18_:=@List.getElem?_zipWith
abbrev n19_:=@List.mem_map
abbrev n20_:=@List.length_append
abbrev n21_:=@PySem.Heap.lt_size
abbrev n22_:=@List.length_zipWith
abbrev n23_:=@Nat.pow_le_pow_right
abbrev n24_:=@List.mem_append_right
abbrev n25_:=@PySem.wpAny_pure
abbrev n26_:=@List.getElem?_replicate
abbrev n27_:=@Rat.intCast_mul
abbrev n28_:=@Nat.le_trans
abbrev n29_:=@Bool.false_ne_true
abbrev n30_:=@decide_eq_false
abbrev n31_:=@List.zipWith_cons_cons
abbrev n32_:=@decide_eq_true
abbrev n33_:=@List.length_cons
abbrev n34_:=@List.mem_cons
abbrev n35_:=@List.getElem?_append_right
abbrev n36_:=@List.take_succ_eq_append_getElem
abbrev n37_:=@of_decide_eq_true
abbrev n38_:=@Int.natAbs_mul
abbrev n39_:=@PySem.mem_of_lookup
abbrev n40_:=@List.getElem?_append_left
abbrev n41_:=@Nat.pow_lt_pow_right
abbrev n42_:=@Int.mul_comm
abbrev n43_:=@PySem.W.mg_none_of
abbrev n44_:=@List.zipWith_nil_left
abbrev n45_:=@List.mem_iff_getElem?
abbrev n46_:=@List.mem_append
abbrev n47_:=@List.length_set
abbrev n48_:=@List.not_mem_nil
abbrev n49_:=@List.replicate_succ
abbrev n50_:=@List.sum_cons
abbrev n51_:=@Nat.ne_of_lt
abbrev n52_:=@Option.map_eq_some_iff
abbrev n53_:=@Nat.mul_le_mul_left
abbrev n54_:=@Bool.and_eq_true
abbrev n55_:=@List.getElem_of_mem
abbrev n56_:=@List.all_eq_true
abbrev n57_:=@List.getElem?_eq_none
abbrev n58_:=@Int.toNat_natCast
abbrev n59_:=@PyProof.Rows.callWith_type1
abbrev n60_:=@Nat.zero_le
abbrev n61_:=@List.take_length
abbrev n62_:=@Nat.two_pow_pos
abbrev n63_:=@Nat.pow_add
abbrev n64_:=@PySem.Builtin.SmallTypes.nextOf
abbrev n65_:=@Nat.min_self
abbrev n66_:=@List.zipWith_nil_right
abbrev n67_:=@List.mem_of_mem_take
abbrev n68_:=@Int.fmod_nonneg_of_pos
abbrev n69_:=@List.length_drop
abbrev n70_:=@Nat.lt_of_succ_lt_succ
abbrev n71_:=@List.map_cons
abbrev n72_:=@List.map_append
abbrev n73_:=@List.length_nil
abbrev n74_:=@List.foldl_append
abbrev n75_:=@Int.eq_ofNat_of_zero_le
abbrev n76_:=@PySem.W.kia_one
abbrev n77_:=@Int.mul_assoc
abbrev n78_:=@PySem.Heap.get?_update_other
abbrev n79_:=@Int.gcd_dvd_right
abbrev n80_:=@PySem.Heap.size_push
abbrev n81_:=@Nat.succ_lt_succ
abbrev n82_:=@Nat.mul_le_mul_right
abbrev n83_:=@Nat.mul_comm
abbrev n84_:=@List.mem_append_left
abbrev n85_:=@List.cons_append
abbrev n86_:=@List.length_eq_zero_iff
abbrev n87_:=@PySem.Builtin.SmallTypes.ownedTupleIsFree
abbrev n88_:=@Int.neg_mul
abbrev n89_:=@PySem.W.mg_of
abbrev n90_:=@List.mem_range
abbrev n91_:=@Int.mul_nonpos_of_nonneg_of_nonpos
abbrev n92_:=@List.range_succ
abbrev n93_:=@Int.fdiv_eq_ediv_of_nonneg
abbrev n94_:=@Nat.one_lt_two_pow
abbrev n95_:=@List.pairwise_cons
abbrev n96_:=@List.length_take
abbrev n97_:=@Int.natCast_nonneg
abbrev n98_:=@Int.fmod_lt_of_pos
abbrev n99_:=@PySem.wpAny_holding
abbrev Zey:=@Nat.lt_irrefl
namespace L2
open PySem PySem.W PyProof.Rows
def topRunT (tb:String→Option Builtin) (p:Program) (w:World) (n0:Nat) (ann:Option Value):Nat→SharedT→Thread→Option SharedT
  | 0,_,_=>none
  | n+1,s,t=>match through t with
    | true=>some s
    | false=>match stepOk n0 ann t with
      | false=>none
      | true=>match stepT (denote tb) p w s t with
        | some (s',t')=>topRunT tb p w n0 ann n s' t'
        | none=>none
theorem Zhf {tb:String→Option Builtin} {p:Program} {w:World} {n0:Nat} {ann:Option Value}:∀ {n:Nat} {s s':SharedT} {t:Thread},topRunT tb p w n0 ann n s t=some s'→topRun tb p w n0 ann n s.abs t=some s'.abs
  | 0,_,_,_,h=>by cases h
  | n+1,s,s',t,h=>by
    unfold topRunT at h;unfold topRun;cases he:through t with
    | true=>rw [he] at h;cases h;rfl
    | false =>
      rw [he] at h;cases hk:stepOk n0 ann t with
      | false=>rw [hk] at h;cases h
      | true =>
        rw [hk] at h;cases hs:stepT (denote tb) p w s t with
        | none=>rw [hs] at h;cases h
        | some r=>obtain ⟨s2,t2⟩:=r;rw [hs] at h;rw [stepT_spec hs];exact Zhf h
def btOf:List Obj→Nat→BT→BT
  | [],_,t=>t
  | o :: os,n,t=>btOf os (n+1) (t.ins n o)
theorem Zip {p q:Program} {loose:List Str} {Xt:Shared→Bool} {α:Type} {Yf:Shared→α} {Ya:World→α} {N:Nat} {g0:Bool} {T0:Params→BT} {n0:Nat} {life:Life} {ann:Option Value}
    (e:opening p=plainProg p.main.scope.names) (hN:Nat.ble 600 N=true) (f:∀ s,fenceModules? p s=some s)
    (h0:∀ P,absHeap (T0 P) n0 life=boot_heap P)
    (size:∀ P,((boot_heap P).isNs mainGlobals,(boot_heap P).objs.size,(boot_heap P).nsMap mainGlobals "__annotations__")=(true,n0,ann))
    (run:∀ (w:World) (os:OsState),(topRunT treeTable p w n0 ann N ⟨T0 w.params,n0,life,Array.mk [],boot_drawn,boot_toks,os⟩ (topStub p)).map (fun s=>((staticsOk (importedModules p.main.body) (boot_heap w.params) s.abs.heap&&namesBound p s.abs.heap&&gensDone s.abs&&laidKept (boot_heap w.params) s.abs.heap),openSeen q loose (importedModules p.main.body) Xt g0 s.abs,Yf s.abs))=some (true,openGood q loose,Ya w)):LeftO p q loose Xt Yf Ya N g0:=fun w=>by
  obtain ⟨⟨h,gs,d,k,os⟩,e1,e2⟩:=n52_.mp (boot_open e hN f w);obtain ⟨rfl,rfl,rfl,rfl⟩:h=boot_heap w.params∧gs=Array.mk []∧d=boot_drawn∧k=boot_toks:=by simpa using e2
  obtain ⟨z1,z2,z3⟩:_∧_∧_:=by simpa only [Prod.mk.injEq] using size w.params
  obtain ⟨s,r1,r2⟩:=n52_.mp (run w os);obtain ⟨l1,l2,l3⟩:_∧_∧_:=by simpa only [Prod.mk.injEq] using r2
  have r:=Zhf r1
  have ha:SharedT.abs ⟨T0 w.params,n0,life,Array.mk [],boot_drawn,boot_toks,os⟩=⟨boot_heap w.params,Array.mk [],boot_drawn,boot_toks,os⟩:=by
    unfold SharedT.abs;rw [h0]
  rw [ha] at r
  have t:topFrom treeTable p w N ⟨boot_heap w.params,Array.mk [],boot_drawn,boot_toks,os⟩=some s.abs:=by
    unfold topFrom;dsimp only;rw [z1,z2,z3,r];show (match staticsOk (importedModules p.main.body) (boot_heap w.params) s.abs.heap&&namesBound p s.abs.heap&&gensDone s.abs&&laidKept (boot_heap w.params) s.abs.heap with|true=>_|false=>_)=_
    rw [l1]
  unfold openEnds;rw [e1];show (topFrom treeTable p w N _).map _=_
  rw [t];exact congrArg some (Prod.ext l2 l3)
lay_quick L2.topRunT
end L2
namespace L2
open PySem PySem.W PyProof.Rows
theorem Zig {p q:Program} {loose:List Str} {Xt:Shared→Bool} {α:Type} {Yf:Shared→α} {Ya:World→α} {g0:Bool} {R:World→OsState→Option SharedT}
    (h1:∀ w os,(R w os).map (fun s=>(staticsOk (importedModules p.main.body) (boot_heap w.params) s.abs.heap&&namesBound p s.abs.heap&&gensDone s.abs&&laidKept (boot_heap w.params) s.abs.heap))=some true)
    (h2:∀ w os,(R w os).map (fun s=>openSeen q loose (importedModules p.main.body) Xt g0 s.abs)=some (openGood q loose))
    (h3:∀ w os,(R w os).map (fun s=>Yf s.abs)=some (Ya w)) (w:World) (os:OsState) :
    (R w os).map (fun s=>((staticsOk (importedModules p.main.body) (boot_heap w.params) s.abs.heap&&namesBound p s.abs.heap&&gensDone s.abs&&laidKept (boot_heap w.params) s.abs.heap),openSeen q loose (importedModules p.main.body) Xt g0 s.abs,Yf s.abs))=some (true,openGood q loose,Ya w):=by
  have a:=h1 w os;have b:=h2 w os;have c:=h3 w os;cases e:R w os with
  | none=>rw [e] at a;cases a
  | some s =>
    rw [e] at a b c;exact congrArg some (Prod.ext (Option.some.inj a) (Prod.ext (Option.some.inj b) (Option.some.inj c)))
noncomputable abbrev bootT (P:Params):BT:=btOf (boot_heap P).objs.toList 0 .nil
noncomputable def topK (p:Program) (N:Nat) (w:World) (os:OsState):Option SharedT:=topRunT treeTable p w 11 (some (.ref 6)) N ⟨bootT w.params,11,{},Array.mk [],boot_drawn,boot_toks,os⟩ (topStub p)
theorem Zpf:∀ P,absHeap (bootT P) 11 {}=boot_heap P:=fun P=>by kernel_rfl
theorem Zl8:∀ P,((boot_heap P).isNs mainGlobals,(boot_heap P).objs.size,(boot_heap P).nsMap mainGlobals "__annotations__")=(true,11,some (.ref 6)):=fun P=>by kernel_rfl
def Zre (p:Program) (names:List Str):List Str:=((p.main.body.flatMap bindsAtTop).filter fun x=>!startupNames.contains x&&!names.contains x).eraseDups
end L2

namespace My
open PySem PySem.W PyProof.Rows L2
noncomputable abbrev pw:Program:=PySem.Challenge.pw_platerest_k10_rows_solved
noncomputable abbrev rr:OpenRow:=OpenLaw.row PySem.Challenge.rw_platerest_k10_rows_solved
noncomputable abbrev qq:Program:=view pw [62]
noncomputable abbrev ll:List Str:=Zre pw ["law"]
set_option maxRecDepth 1000000
set_option maxHeartbeats 0
theorem ws:OpenLaw.wellSaid PySem.Challenge.rw_platerest_k10_rows_solved=true:=by kernel_rfl
theorem h1:∀ w os,(topK pw 4114 w os).map (fun s=>(staticsOk (importedModules pw.main.body) (boot_heap w.params) s.abs.heap&&namesBound pw s.abs.heap&&gensDone s.abs&&laidKept (boot_heap w.params) s.abs.heap))=some true:=fun w os=>by
  unfold topK topStub;rw [PySem.W.Fast.te4652649595001227023,PySem.W.Fast.te14364793385576792824,PySem.W.Fast.te17154629097778926822,PySem.W.Fast.te12822647523644345616]
  kernel_rfl
theorem h2:∀ w os,(topK pw 4114 w os).map (fun s=>openSeen qq ll (importedModules pw.main.body) (fun s=>xlAt qq [] s&&recOk (RowW.records (OpenRow.toRowW rr)) s) true s.abs)=some (openGood qq ll):=fun w os=>by
  unfold topK topStub;rw [PySem.W.Fast.te4652649595001227023,PySem.W.Fast.te14364793385576792824,PySem.W.Fast.te17154629097778926822,PySem.W.Fast.te12822647523644345616,PySem.W.Fast.te4187177175401517315]
  kernel_rfl
end My
noncomputable section
set_option Elab.async false
set_option linter.all false
set_option maxRecDepth 100000
namespace L2
open PySem PySem.Spec PyProof.Rows
theorem z0_:0≤sizeLine:=by decide
theorem z1_:1≤sizeLine:=by decide
theorem z2_:2≤sizeLine:=by decide
theorem z3_:3≤sizeLine:=by decide
theorem z4_:4≤sizeLine:=by decide
theorem z5_:5≤sizeLine:=by decide
abbrev Key:=Sum Int Str
def Zrv:Key→Value→Bool
 | .inl k,v=>Value.isInt k v
 | .inr x,v=>Value.isStrOf x v
def keyH (w:World):Key→Int
 | .inl k=>hashInt k
 | .inr x=>hashStr w x
theorem Ys:∀ {k:Key} {v:Value},Zrv k v=true→(∃ i t,k=Sum.inl i∧v=Value.int i t)∨(∃ x t,k=Sum.inr x∧v=Value.str x t)
 | .inl i,v,h=>by
   obtain ⟨t,e⟩:=Value.isInt_shape (k:=i) (v:=v) h;exact .inl ⟨i,t,rfl,e⟩
 | .inr x,v,h=>by
   obtain ⟨t,e⟩:=Value.isStrOf_shape (x:=x) (v:=v) h;exact .inr ⟨x,t,rfl,e⟩
theorem Zs9 (a b:Int):decide ((Sum.inl a:Key)=Sum.inl b)=(a == b):=by
 by_cases e:a=b
 · subst e;simp
 · have h:¬ (Sum.inl a:Key)=Sum.inl b:=fun q=>e (Sum.inl.inj q);rw [n30_ h];exact (beq_eq_false_iff_ne.mpr e).symm
theorem Zr1 (a b:Str):decide ((Sum.inr a:Key)=Sum.inr b)=decide (a=b):=by
 by_cases e:a=b
 · subst e;simp
 · have h:¬ (Sum.inr a:Key)=Sum.inr b:=fun q=>e (Sum.inr.inj q);rw [n30_ h,n30_ e]
theorem Zr8 (a:Int) (b:Str):decide ((Sum.inl a:Key)=Sum.inr b)=false:=n30_ (fun q=>nomatch q)
theorem Zso (a:Str) (b:Int):decide ((Sum.inr a:Key)=Sum.inl b)=false:=n30_ (fun q=>nomatch q)
def Zjl (prog:Program) (w:World):PySem.KeyKind prog w Key where
 is:=Zrv
 hash:=keyH w
 inj:=fun v a b ha hb=>by
  rcases Ys ha with ⟨i,t,rfl,rfl⟩|⟨x,t,rfl,rfl⟩
  · rcases Ys hb with ⟨j,u,rfl,e⟩|⟨y,u,rfl,e⟩
    · injection e with e1 _;rw [e1]
    · exact nomatch e
  · rcases Ys hb with ⟨j,u,rfl,e⟩|⟨y,u,rfl,e⟩
    · exact nomatch e
    · injection e with e1 _;rw [e1]
 byValue:=fun k v h=>by
  rcases Ys h with ⟨i,t,rfl,rfl⟩|⟨x,t,rfl,rfl⟩<;>rfl
 pyHash:=fun hv h=>by
  rcases Ys hv with ⟨i,t,rfl,rfl⟩|⟨x,t,rfl,rfl⟩
  · exact wpAny_pyHash_int h
  · exact wpAny_pyHash_str h
 eqBool:=fun hu hv h=>by
  rcases Ys hu with ⟨i,t,rfl,rfl⟩|⟨x,t,rfl,rfl⟩
  · rcases Ys hv with ⟨j,u,rfl,rfl⟩|⟨y,u,rfl,rfl⟩
    · rw [Zs9] at h;exact wpAny_eqBool_int h
    · rw [Zr8] at h;exact SeqAt.EqAt.int_str i t y u _ _ _ _ h
  · rcases Ys hv with ⟨j,u,rfl,rfl⟩|⟨y,u,rfl,rfl⟩
    · rw [Zso] at h;exact SeqAt.EqAt.str_int x t j u _ _ _ _ h
    · rw [Zr1] at h;exact wpAny_eqBool_str h
 «strs»:=fun k x t v h=>by
  rcases Ys h with ⟨i,u,rfl,e⟩|⟨y,u,rfl,e⟩
  · exact nomatch e
  · injection e with e1 _
    subst e1;cases v<;>rfl
inductive V where
 | non|bl (b:Bool)|int (i:Int)|str (x:Str)|byt (b:Array UInt8)|flt (b:UInt64)|ref (a:Addr)|ty (n:String)
 deriving DecidableEq
def RelV:V→Value→Prop
 | .non,u=>u=Value.none
 | .bl b,u=>u=Value.bool b
 | .int i,u=>∃ t,u=Value.int i t
 | .str x,u=>∃ t,u=Value.str x t
 | .byt b,u=>∃ t,u=Value.bytes b t
 | .flt b,u=>∃ t,u=Value.float b t
 | .ref a,u=>u=Value.ref a
 | .ty n,u=>u=Value.type n
abbrev Vals:List V→List Value→Prop:=Paired RelV
theorem Vals.length {xs:List V} {us:List Value} (r:Vals xs us):xs.length=us.length:=Paired.length r
theorem Vals.get:∀ {xs:List V} {us:List Value} {i:Nat} {x:V},Vals xs us→xs[i]? = some x→∃ u,us[i]? = some u∧RelV x u
 | _,_,_,_,.nil,e=>by simp at e
 | _,_,0,_,.cons r _,e=>by simp at e;subst e;exact ⟨_,rfl,r⟩
 | _,_,i+1,x,.cons _ t,e=>by
   obtain ⟨u,h1,h2⟩:=Vals.get (i:=i) (x:=x) t (by simpa using e);exact ⟨u,by simpa using h1,h2⟩
theorem Vals.set {x:V} {u:Value} (r:RelV x u):∀ {xs:List V} {us:List Value} (i:Nat),Vals xs us→Vals (xs.set i x) (us.set i u)
 | _,_,_,.nil=>.nil
 | _,_,0,.cons _ t=>.cons r t
 | _,_,i+1,.cons q t=>.cons q (Vals.set r i t)
theorem Vals.append:∀ {xs ys:List V} {us ws:List Value},Vals xs us→Vals ys ws→Vals (xs++ys) (us++ws)
 | _,_,_,_,.nil,s=>s
 | _,_,_,_,.cons r t,s=>.cons r (Vals.append t s)
theorem Vals.take:∀ {xs:List V} {us:List Value} (n:Nat),Vals xs us→Vals (xs.take n) (us.take n)
 | _,_,0,_=>.nil
 | _,_,_+1,.nil=>.nil
 | _,_,n+1,.cons r t=>.cons r (Vals.take n t)
theorem Vals.drop:∀ {xs:List V} {us:List Value} (n:Nat),Vals xs us→Vals (xs.drop n) (us.drop n)
 | _,_,0,r=>r
 | _,_,_+1,.nil=>.nil
 | _,_,n+1,.cons _ t=>Vals.drop n t
def RelO:Option V→Option Value→Prop
 | some v,some u=>RelV v u
 | none,none=>True
 | _,_=>False
def KV {κ:Type}:List (κ×V)→List (κ×Value)→Prop:=Paired fun (p:κ×V) (q:κ×Value)=>p.1=q.1∧RelV p.2 q.2
def kV:Key→V
 | .inl i=>.int i
 | .inr x=>.str x
inductive HO where
 | lst (xs:List V)
 | tup (xs:List V)
 | dK (kvs:List (Key×V))|dT (kvs:List (List Key×V))
 | set (S:Int→Bool) (n:Nat)
 | ins (C dx:Addr) (fs:List (Str×V))
 | own (x:Addr)
 | xd (fs:List (Str×V))
 | met (f x:Addr)
 | rng (lo hi:Int)
 | frz (o:Obj) (u:HO)
 | tbl (ps:Array Value)
 | ext (φ:Heap→Prop)
abbrev Hp:=Addr→Option HO
def upd (H:Hp) (a:Addr) (o:HO):Hp:=fun b=>if b=a then some o else H b
theorem Ze {H:Hp} {a:Addr} {o:HO}:upd H a o a=some o:=by unfold upd;rw [if_pos rfl]
theorem Zp {H:Hp} {a b:Addr} {o:HO} (h:b≠a):upd H a o b=H b:=by unfold upd;rw [if_neg h]
theorem Zqi {H:Hp} {a:Addr} {o u:HO}:upd (upd H a o) a u=upd H a u:=by
 funext b;unfold upd;split<;>rfl
theorem Zr9 {H:Hp} {a b:Addr} {o u:HO} (h:H a=some o) (h':H b=some u) (d:o≠u):a≠b:=by
 intro e;subst e;rw [h] at h';exact d (Option.some.inj h')
theorem Zl {H:Hp} {a b:Addr} {o:HO} (h:H a=some o) (h':H b=none):a≠b:=by
 intro e;subst e;rw [h] at h';cases h'
section
variable (P:Program) (w:World)
def ObjOk (H:Hp) (h:Heap) (a:Addr):HO→Prop
 | .lst xs=>xs.length≤sizeLine∧∃ (its:List Value) (n:Nat),Vals xs its∧h.get? a=some { cls:=.type "list",data:=.seq its.toArray n }
 | .tup xs=>xs.length≤sizeLine∧∃ its:List Value,Vals xs its∧IsTup h a its.toArray
 | .dK kvs=>kvs.length≤sizeLine∧(a == sysModules)=false∧∃ vs,KV kvs vs∧h.DictOf (Zjl P w) a vs
 | .dT kvs=>kvs.length≤sizeLine∧(a == sysModules)=false∧∃ xs:List (List Key×Addr×Value),
    Paired (fun (p:List Key×V) (q:List Key×Addr×Value)=>p.1=q.1∧H q.2.1=some (.tup (p.1.map kV))∧RelV p.2 q.2.2) kvs xs ∧
    ∃ o es ep,h.get? a=some o∧o.ExactDict∧o.data=.dict es ep∧es.toList=xs.map (entryOfKey (tupleKind (Zjl P w)))∧(xs.map (·.1)).Nodup
 | .set S n=>h.SetOf (intKind P w) a S n
 | .ins C dx fs=>H dx=some (.own a)∧fs.length≤1000∧dx≠a∧h.get? a=some (PySem.W.instObj C dx) ∧
    ∃ mA,h.Ns1 dx mA∧(∀ f,RelO (fs.lookup f) (mA f))∧PySem.Within mA (fs.map (·.1))
 | .own _=>∃ o,h.get? a=some o
 | .xd fs=>∃ mA,h.Ns1 a mA∧∀ f,RelO (fs.lookup f) (mA f)
 | .rng lo hi=>∃ t u v,h.get? a=some { cls:=.type "range",data:=.fields #[.int lo t,.int hi u,.int 1 v] }
 | .frz o u=>h.get? a=some o∧ObjOk H h a u
 | .tbl ps=>h.get? a=some { cls:=.none,data:=.fields ps }
 | .met f x=>h.get? a=some (PySem.W.methodObj (.ref f) (.ref x))
 | .ext φ=>φ h∧(∃ o,h.get? a=some o)∧∀ h1 h2:Heap,φ h1→(∀ o,h1.get? a=some o→h2.get? a=some o)→φ h2
def HOk (H:Hp) (h:Heap):Prop:=∀ a o,H a=some o→ObjOk P w H h a o
end
section
variable {P:Program} {w:World} {H H':Hp} {h h':Heap} {a:Addr} {o:HO}
theorem ObjOk.lt (x:ObjOk P w H h a o):a<h.objs.size:=by
 cases o with
 | lst xs=>obtain ⟨_,_,_,_,e⟩:=x;exact n21_ e
 | tup xs=>obtain ⟨_,_,_,p⟩:=x;exact p.lt
 | dK kvs=>obtain ⟨_,_,_,_,o,_,_,e,_⟩:=x;exact n21_ e
 | dT kvs=>obtain ⟨_,_,_,_,o,_,_,e,_⟩:=x;exact n21_ e
 | set S n=>obtain ⟨o,_,_,_,e,_⟩:=x;exact n21_ e
 | ins C dx fs=>obtain ⟨_,_,_,e,_⟩:=x;exact n21_ e
 | own y=>obtain ⟨_,e⟩:=x;exact n21_ e
 | xd fs=>obtain ⟨_,⟨_,_,_,e,_⟩,_⟩:=x;exact n21_ e
 | rng lo hi=>obtain ⟨_,_,_,e⟩:=x;exact n21_ e
 | frz ob u=>obtain ⟨e,_⟩:=x;exact n21_ e
 | tbl ps=>exact n21_ (show h.get? a=some _ from x)
 | met f y=>exact n21_ (show h.get? a=some _ from x)
 | ext φ=>obtain ⟨_,⟨_,e⟩,_⟩:=x;exact n21_ e
theorem Paired.mapP {α β:Type} {F G:α→β→Prop}:∀ {l₁:List α} {l₂:List β},Paired F l₁ l₂→(∀ a b,F a b→G a b)→Paired G l₁ l₂
 | _,_,.nil,_=>.nil
 | _,_,.cons r t,f=>.cons (f _ _ r) (Paired.mapP t f)
theorem ObjOk.stay (x:ObjOk P w H h a o) (k:∀ b u,(b=a∨H b=some (.own a))→h.get? b=some u→h'.get? b=some u)
 (ho:∀ b,H b=some (.own a)→H' b=some (.own a)) (ht:∀ b xs,H b=some (.tup xs)→H' b=some (.tup xs)):ObjOk P w H' h' a o:=by
 induction o with
 | lst xs=>obtain ⟨z,its,n,r,e⟩:=x;exact ⟨z,its,n,r,k _ _ (.inl rfl) e⟩
 | tup xs=>obtain ⟨z,its,r,ob,e,c⟩:=x;exact ⟨z,its,r,ob,k _ _ (.inl rfl) e,c⟩
 | dK kvs=>obtain ⟨z,y,vs,r,ob,es,ep,e,c⟩:=x;exact ⟨z,y,vs,r,ob,es,ep,k _ _ (.inl rfl) e,c⟩
 | dT kvs =>
   obtain ⟨z,y,xs,r,ob,es,ep,e,c⟩:=x;exact ⟨z,y,xs,Paired.mapP r fun p q z=>⟨z.1,ht _ _ z.2.1,z.2.2⟩,ob,es,ep,k _ _ (.inl rfl) e,c⟩
 | set S n=>obtain ⟨ob,es,ep,t,e,c⟩:=x;exact ⟨ob,es,ep,t,k _ _ (.inl rfl) e,c⟩
 | ins C dx fs =>
   obtain ⟨d,z,ne,e,mA,⟨od,es,ep,e2,c⟩,r⟩:=x;exact ⟨ho _ d,z,ne,k _ _ (.inl rfl) e,mA,⟨od,es,ep,k _ _ (.inr d) e2,c⟩,r⟩
 | own y=>obtain ⟨ob,e⟩:=x;exact ⟨ob,k _ _ (.inl rfl) e⟩
 | xd fs=>obtain ⟨mA,⟨od,es,ep,e,c⟩,r⟩:=x;exact ⟨mA,⟨od,es,ep,k _ _ (.inl rfl) e,c⟩,r⟩
 | rng lo hi=>obtain ⟨t,u,v,e⟩:=x;exact ⟨t,u,v,k _ _ (.inl rfl) e⟩
 | frz ob u ih=>obtain ⟨e,q⟩:=x;exact ⟨k _ _ (.inl rfl) e,ih q⟩
 | tbl ps =>
   have e:h.get? a=some { cls:=.none,data:=.fields ps }:=x;show h'.get? a=some { cls:=.none,data:=.fields ps }
   exact k a _ (.inl rfl) e
 | met f y =>
   have e:h.get? a=some (PySem.W.methodObj (.ref f) (.ref y)):=x;show h'.get? a=some (PySem.W.methodObj (.ref f) (.ref y))
   exact k a _ (.inl rfl) e
 | ext φ=>obtain ⟨p,⟨o,e⟩,st⟩:=x;exact ⟨st _ _ p fun o q=>k _ _ (.inl rfl) q,⟨o,k _ _ (.inl rfl) e⟩,st⟩
theorem HOk.lt (x:HOk P w H h) (e:H a=some o):a<h.objs.size:=(x a o e).lt
theorem HOk.fresh (x:HOk P w H h) (e:h.objs.size≤a):H a=none:=by
 cases q:H a with
 | none=>rfl
 | some u=>exact absurd (n10_ (x.lt q) e) (Zey _)
theorem HOk.kept (x:HOk P w H h) (k:∀ b u,h.get? b=some u→h'.get? b=some u):HOk P w H h':=fun a o e =>
 (x a o e).stay (fun b u _ q=>k b u q) (fun _ q=>q) fun _ _ q=>q
theorem HOk.laid (x:HOk P w H h) (k:∀ b u,h.get? b=some u→h'.get? b=some u) (hp:h.objs.size≤a) (new:ObjOk P w (upd H a o) h' a o):HOk P w (upd H a o) h':=fun b u e=>by
 have hn:=x.fresh hp
 by_cases hb:b=a
 · subst hb;rw [Ze] at e;cases e;exact new
 · rw [Zp hb] at e;exact (x b u e).stay (fun c v _ q=>k c v q) (fun c q=>by rw [Zp (Zl q hn)];exact q) fun c xs q=>by rw [Zp (Zl q hn)];exact q
end
def Rd (H:Hp) (a:Addr) (u:HO):Prop:=H a=some u∨∃ o,H a=some (.frz o u)
theorem Rd.ok {P:Program} {w:World} {H:Hp} {h:Heap} {a:Addr} {u:HO} (r:Rd H a u) (x:HOk P w H h):ObjOk P w H h a u:=by
 rcases r with r|⟨o,r⟩
 · exact x a u r
 · obtain ⟨_,q⟩:=x a _ r;exact q
def Mut:Option HO→Prop
 | some (.lst _)=>True
 | some (.dK _)=>True
 | some (.dT _)=>True
 | some (.set _ _)=>True
 | some (.ins _ _ _)=>True
 | some (.ext _)=>True
 | _=>False
section
variable {P:Program} {w:World} {H:Hp} {h h':Heap} {x e:Addr} {o':HO}
theorem HOk.write (ok:HOk P w H h) (mu:Mut (H x)) (he:e=x∨H e=some (.own x)) (k:∀ b u,b≠e→h.get? b=some u→h'.get? b=some u) (heo:∃ u,h'.get? e=some u)
 (new:ObjOk P w (upd H x o') h' x o'):HOk P w (upd H x o') h':=fun b u q=>by
 have nown:∀ c y,H c=some (.own y)→c≠x:=fun c y r z=>by subst z;rw [r] at mu;exact mu
 have ntup:∀ c xs,H c=some (.tup xs)→c≠x:=fun c xs r z=>by subst z;rw [r] at mu;exact mu
 by_cases hb:b=x
 · subst hb;rw [Ze] at q;cases q;exact new
 · rw [Zp hb] at q
   by_cases hbe:b=e
   · have q':H b=some (.own x):=by
      rcases he with z|z
      · exact absurd (hbe.trans z) hb
      · rw [hbe];exact z
     rw [q] at q';cases q';obtain ⟨v,hv⟩:=heo;exact ⟨v,by rw [hbe];exact hv⟩
   · refine (ok b u q).stay (fun c v hc r=>k c v ?_ r) (fun c r=>by rw [Zp (nown c b r)];exact r) fun c xs r=>by rw [Zp (ntup c xs r)];exact r
     rcases hc with rfl|hc
     · exact hbe
     · rintro rfl
       rcases he with z|z
       · exact nown c b hc z
       · rw [hc] at z;cases z;exact hb rfl
end
structure Un (fs ex:List Addr) (H H':Hp) (h h':Heap):Prop where
 keep:∀ b o,h.get? b=some o→H b=none→b∉fs→b∉ex→h'.get? b=some o
 slot:∀ b o,h.get? b=some o→H b=none→b∈fs→b∉ex→∃ sl,h'.get? b=some { o with slots:=sl }
 free:∀ b o,h.get? b=some o→H b=none→b∉ex→H' b=none
 there:∀ b o,h.get? b=some o→b∉ex→∃ o',h'.get? b=some o'
 tups:∀ b xs,H b=some (.tup xs)→H' b=some (.tup xs)
 frzs:∀ b o u,H b=some (.frz o u)→H' b=some (.frz o u)
 tbls:∀ b ps,H b=some (.tbl ps)→∃ more,H' b=some (.tbl (ps++more))
section
variable {fs fs' ex ex':List Addr} {H H1 H2:Hp} {h h1 h2 h':Heap} {a x e:Addr} {o:HO}
theorem Un.any (u:Un fs ex H H1 h h1) {b:Addr} {ob:Obj} (q:h.get? b=some ob) (n:H b=none) (hx:b∉ex):∃ sl,h1.get? b=some { ob with slots:=sl }:=by
 by_cases hb:b∈fs
 · exact u.slot b ob q n hb hx
 · exact ⟨ob.slots,u.keep b ob q n hb hx⟩
theorem Un.kept (k:∀ b u,h.get? b=some u→h'.get? b=some u):Un fs ex H H h h' :=
 ⟨fun b ob q _ _ _=>k b ob q,fun b ob q _ _ _=>⟨ob.slots,k b ob q⟩,fun _ _ _ n _=>n,fun b ob q _=>⟨ob,k b ob q⟩,fun _ _ q=>q,fun _ _ _ q=>q,fun _ ps q=>⟨#[],by rw [q];simp⟩⟩
theorem Un.refl:Un fs ex H H h h:=Un.kept fun _ _ q=>q
theorem Un.laid (k:∀ b u,h.get? b=some u→h'.get? b=some u) (hp:h.objs.size≤a) (hn:H a=none):Un fs ex H (upd H a o) h h' where
 keep:=fun b u q _ _ _=>k b u q
 slot:=fun b u q _ _ _=>⟨u.slots,k b u q⟩
 free:=fun b u q n _=>by rw [Zp (n51_ (n10_ (n21_ q) hp))];exact n
 there:=fun b u q _=>⟨u,k b u q⟩
 tups:=fun b xs q=>by rw [Zp (Zl q hn)];exact q
 frzs:=fun b u xs q=>by rw [Zp (Zl q hn)];exact q
 tbls:=fun b ps q=>⟨#[],by rw [Zp (Zl q hn),q];simp⟩
theorem Un.write (mu:Mut (H x)) (he:e=x∨H e=some (.own x)) (k:∀ b u,b≠e→h.get? b=some u→h'.get? b=some u) (heo:∃ u,h'.get? e=some u):Un fs ex H (upd H x o) h h':=by
 have hx:∀ b,H b=none→b≠x:=fun b n z=>by subst z;rw [n] at mu;exact mu
 have hb:∀ b,H b=none→b≠e:=fun b n z=>by
  subst z
  rcases he with r|r
  · exact hx b n r
  · rw [n] at r;cases r
 have hm:∀ b u,H b=some u→¬ Mut (some u)→b≠x:=fun b u q nm z=>by subst z;rw [q] at mu;exact nm mu
 refine ⟨fun b u q n _ _=>k b u (hb b n) q,fun b u q n _ _=>⟨u.slots,k b u (hb b n) q⟩,fun b u q n _=>by rw [Zp (hx b n)];exact n,fun b u q _=>?_,
  fun b xs q=>by rw [Zp (hm b _ q fun z=>z)];exact q,fun b u xs q=>by rw [Zp (hm b _ q fun z=>z)];exact q,fun b ps q=>⟨#[],by rw [Zp (hm b _ q fun z=>z),q];simp⟩⟩
 by_cases hbe:b=e
 · subst hbe;exact heo
 · exact ⟨u,k b u hbe q⟩
end
def trk (h:Heap) (H:Hp):List Addr:=(List.range h.objs.size).filter fun a=>(H a).isSome
def hidT (h:Heap) (H:Hp):Heap:=PySem.W.hideAll h (trk h H)
theorem Zn2 (h:Heap) (H:Hp):(hidT h H).objs.size=h.objs.size:=PySem.W.hideAll_size _ _
theorem Zpo {h:Heap} {H:Hp} {b:Addr} {o:Obj} (e:h.get? b=some o) (n:H b=none):(hidT h H).get? b=some o :=
 PySem.W.hideAll_get _ e fun hm=>by
  have q:(H b).isSome=true:=(List.mem_filter.mp hm).2;rw [n] at q;simp at q
theorem Zrk {h:Heap} {H:Hp} {b:Addr} {o:Obj} (e:(hidT h H).get? b=some o):h.get? b=some o∧H b=none:=by
 have e':h.get? b=some o:=PySem.W.of_hideAll (trk h H) e;refine ⟨e',?_⟩;cases q:H b with
 | none=>rfl
 | some x =>
   have hm:b∈trk h H:=List.mem_filter.mpr ⟨n90_.mpr (n21_ e'),by simp [q]⟩;have z:(hidT h H).get? b=none:=PySem.W.hideAll_none (trk h H) hm;rw [z] at e;cases e
structure Mod (K:PySem.W.Frag) (mg:Str→Option Value) (base:Heap):Prop where
 kin:K.In base
 glob:base.Ns mainGlobals mg
 blt:∃ mb,base.Ns builtinsNs mb∧∀ x:Str,x ≠ "__name__" → mb x=bootBuiltins x
 nolimit:base.NoLimit
 seer:base.NoSeer
 digits:base.NoDigits
structure Cx where
 prog:Program
 w:World
 K:PySem.W.Frag
 mg:Str→Option Value
 base:Heap
 A:Around
 N:List Str
 s₀:Shared
 H₀:Hp
 env:Env
 outer:List Env
 stack:List Env
 ex:List Addr
 fn:Str→Bool
 calm:Bool
 pn:List (Addr×Obj)
 xe:Value→Shared→Prop
def frs (l:List Env):List Addr:=l.filterMap (·.frame)
abbrev Cx.fs (X:Cx):List Addr:=frs X.outer
def Vis (sc:Scope) (x:Str):Prop:=sc.names.lookup x=some .local∨sc.names.lookup x=some .cell∨sc.names.lookup x=some .free
def Loc (sc:Scope) (x:Str):Prop:=sc.names.lookup x=some .local∨sc.names.lookup x=some .cell
def Look (env:Env) (h:Heap) (m:Str→Option Value) (x:Str) (u:Value):Prop :=
 (env.kindOf x=some .local∧m x=some u)∨((env.kindOf x=some .cell∨env.kindOf x=some .free)∧∃ c,env.cells.lookup x=some c∧h.IsCell c (some u))
structure Cx.Ok (X:Cx):Prop where
 mod:Mod X.K X.mg X.base
 kind:X.env.scope.kind=.function
 glob:X.env.globals=mainGlobals
 blt:X.env.builtins=builtinsNs
 above:X.s₀.heap.objs.size≤X.env.locals
 inj:∀ x y c,X.env.cells.lookup x=some c→X.env.cells.lookup y=some c→x=y
 has:∀ x,(X.env.kindOf x=some .cell∨X.env.kindOf x=some .free)→∃ c,X.env.cells.lookup x=some c
 cab:∀ x c,X.fn x=true→X.env.cells.lookup x=some c→X.s₀.heap.objs.size≤c
 hd:X.calm=true→X.A.handled=none
 frames:X.A.frames=some X.stack
 stk:X.stack=X.outer∨(X.stack=X.env :: X.outer∧X.env.frame=some X.env.locals)
 exf:∀ b∈X.ex,b≠X.env.locals∧∀ x c,X.env.cells.lookup x=some c→c≠b
 bs:∀ b o,X.base.get? b=some o→X.s₀.heap.get? b=some o∧X.H₀ b=none
 bsz:X.base.objs.size≤X.s₀.heap.objs.size
 noex:∀ b o,X.base.get? b=some o→b∉X.ex
 exfs:∀ b∈X.ex,b∉X.fs
 funs:X.s₀.heap.FunFrames X.base X.outer
 frf:∀ b∈X.fs,X.H₀ b=none
structure Inv (X:Cx) (pins:List (Addr×Obj)) (σ:List (Option V)) (H:Hp) (s:Shared):Prop where
 ok:X.Ok
 os:s.os=X.s₀.os
 bare:AllBare s.gens
 base:Un X.fs X.ex X.H₀ H X.s₀.heap s.heap
 loc:∃ m,s.heap.Ns X.env.locals m∧∀ (i:Nat) (x:Str) (v:V),X.N[i]? = some x→σ[i]? = some (some v)→Vis X.env.scope x→∃ u,RelV v u∧Look X.env s.heap m x u
 cell:∀ x c,X.env.cells.lookup x=some c→∃ v,s.heap.IsCell c v
 free:H X.env.locals=none
 freeC:∀ x c,X.env.cells.lookup x=some c→H c=none∨(X.fn x=false∧∃ o u,H c=some (.frz o u))
 pin:∀ p∈X.pn++pins,s.heap.get? p.1=some p.2∧H p.1=none∧p.1≠X.env.locals∧p.1∉X.fs∧∀ v,p.2.data≠.cell v
 hok:HOk X.prog X.w H s.heap
 len:σ.length=X.N.length
section
variable {X:Cx} {pins:List (Addr×Obj)} {σ:List (Option V)} {H H':Hp} {s:Shared} {h':Heap}
theorem Cx.Ok.nofr (ok:X.Ok) {b:Addr} {o:Obj} (e:X.base.get? b=some o):b∉X.fs:=fun hb=>by
 have:=(ok.funs.mem hb).1
 rw [e] at this;cases this
theorem Inv.bs (I:Inv X pins σ H s):∀ b o,X.base.get? b=some o→s.heap.get? b=some o∧H b=none:=fun b o e =>
 ⟨I.base.keep b o (I.ok.bs b o e).1 (I.ok.bs b o e).2 (I.ok.nofr e) (I.ok.noex b o e),I.base.free b o (I.ok.bs b o e).1 (I.ok.bs b o e).2 (I.ok.noex b o e)⟩
theorem Inv.bk (I:Inv X pins σ H s):∀ b o,X.base.get? b=some o→s.heap.get? b=some o:=fun b o e=>(I.bs b o e).1
theorem Inv.mod (I:Inv X pins σ H s):Mod X.K X.mg X.base:=I.ok.mod
theorem Inv.kIn (I:Inv X pins σ H s):X.K.In s.heap:=I.ok.mod.kin.keeps I.bk
theorem Inv.nolimit (I:Inv X pins σ H s):s.heap.NoLimit:=I.ok.mod.nolimit.keeps I.bk
theorem Inv.seer (I:Inv X pins σ H s):s.heap.NoSeer:=I.ok.mod.seer.keeps I.bk
theorem Inv.digits (I:Inv X pins σ H s):s.heap.NoDigits:=I.ok.mod.digits.keeps I.bk
theorem Inv.lt (I:Inv X pins σ H s):X.env.locals<s.heap.objs.size:=let ⟨_,hn,_⟩:=I.loc;hn.lt
theorem Inv.sz (I:Inv X pins σ H s):X.s₀.heap.objs.size≤s.heap.objs.size:=n28_ I.ok.above (Nat.le_of_lt I.lt)
theorem Inv.nofs (I:Inv X pins σ H s) {a:Addr} (h:s.heap.objs.size≤a):a∉X.fs:=fun hb=>by
 obtain ⟨_,o,ho,_⟩:=I.ok.funs.mem hb;exact absurd (n10_ (n21_ ho) (n28_ I.sz h)) (Zey _)
theorem Inv.cne (I:Inv X pins σ H s):∀ x c,X.env.cells.lookup x=some c→c≠X.env.locals:=fun x c e z=>by
 obtain ⟨v,o,ho,hd⟩:=I.cell x c e;obtain ⟨m,⟨o',es,ep,ho',hd',_⟩,_⟩:=I.loc;rw [z,ho'] at ho;cases ho;rw [hd'] at hd;cases hd
theorem Inv.funs (I:Inv X pins σ H s):s.heap.FunFrames X.base X.outer:=by
 have all:∀ (l:List Env),(∀ b∈frs l,b∈X.fs)→X.s₀.heap.FunFrames X.base l→s.heap.FunFrames X.base l:=by
  intro l
  induction l with
  | nil=>intro _ _;trivial
  | cons env r ih =>
    intro hs hl;obtain ⟨hk,⟨L,o,hf,hn,ho,hd⟩,hr⟩:=hl;have hL:L∈X.fs:=hs L (by unfold frs;rw [List.filterMap_cons,hf];exact n5_);obtain ⟨sl,e⟩:=I.base.slot L o ho (I.ok.frf L hL) hL fun z=>I.ok.exfs L z hL;exact ⟨hk,⟨L,_,hf,hn,e,hd⟩,ih (fun b hb=>hs b (by unfold frs;rw [List.filterMap_cons,hf];exact n3_ _ hb)) hr⟩
 exact all X.outer (fun _ hb=>hb) I.ok.funs
theorem Inv.stack (I:Inv X pins σ H s):s.heap.FunFrames X.base X.stack:=by
 rcases I.ok.stk with e|⟨e,hf⟩
 · rw [e];exact I.funs
 · rw [e];obtain ⟨m,hn,_⟩:=I.loc;refine .cons (by rw [I.ok.kind];decide) hf hn ?_ I.funs;exact Heap.get?_none_of_le (n28_ I.ok.bsz I.ok.above)
theorem Inv.stkSub (I:Inv X pins σ H s):∀ b∈frs X.stack,b∈X.env.locals :: X.fs:=fun b hb=>by
 rcases I.ok.stk with e|⟨e,hf⟩
 · rw [e] at hb;exact n3_ _ hb
 · rw [e] at hb;unfold frs at hb;rw [List.filterMap_cons,hf] at hb;exact hb
theorem Inv.stkFree (I:Inv X pins σ H s):∀ b∈frs X.stack,H b=none:=fun b hb=>by
 rcases n34_.mp (I.stkSub b hb) with e|hb
 · rw [e];exact I.free
 · obtain ⟨_,o,ho,_⟩:=I.ok.funs.mem hb;exact I.base.free b o ho (I.ok.frf b hb) fun z=>I.ok.exfs b z hb
theorem Inv.step {g':Array GenState} {t':Nat} {d':Drawn} {ch:List Addr} (I:Inv X pins σ H s)
 (hch:∀ b∈ch,(b∈X.ex∨X.s₀.heap.objs.size≤b)∧b≠X.env.locals∧(∀ x c,X.env.cells.lookup x=some c→c≠b)∧∀ p∈X.pn++pins,p.1≠b)
 (keep:∀ b o,b≠X.env.locals→b∉X.fs→b∉ch→s.heap.get? b=some o→H b=none→h'.get? b=some o)
 (slot:∀ b o,b≠X.env.locals→b∈X.fs→b∉ch→s.heap.get? b=some o→H b=none→∃ sl,h'.get? b=some { o with slots:=sl }) (free:∀ b o,b∉ch→s.heap.get? b=some o→H b=none→H' b=none)
 (there:∀ b o,b∉ch→s.heap.get? b=some o→∃ o',h'.get? b=some o')
 (tups:∀ b xs,H b=some (.tup xs)→H' b=some (.tup xs)) (frzs:∀ b o u,H b=some (.frz o u)→H' b=some (.frz o u)) (tbls:∀ b ps,H b=some (.tbl ps)→∃ more,H' b=some (.tbl (ps++more)))
 (ns:∀ m,s.heap.Ns X.env.locals m→h'.Ns X.env.locals m) (hok:HOk X.prog X.w H' h') (hg:AllBare g') :
 Inv X pins σ H' { s with heap:=h',gens:=g',drawn:=d',toks:=t' }:=by
 have neL:∀ b o,X.s₀.heap.get? b=some o→b≠X.env.locals:=fun b o e=>n51_ (n10_ (n21_ e) I.ok.above)
 have neC:∀ b o,X.s₀.heap.get? b=some o→b∉X.ex→b∉ch:=fun b o e hx hb=>by
  rcases (hch b hb).1 with z|z
  · exact hx z
  · exact absurd (n10_ (n21_ e) z) (Zey _)
 have cellK:∀ x c,X.env.cells.lookup x=some c→∀ v,s.heap.IsCell c v→h'.IsCell c v:=fun x c e v ⟨o,ho,hd⟩=>by
  have nch:c∉ch:=fun z=>(hch c z).2.2.1 x c e rfl
  rcases I.freeC x c e with fz|⟨_,o',u',fz⟩
  · by_cases hc:c∈X.fs
    · obtain ⟨sl,q⟩:=slot c o (I.cne x c e) hc nch ho fz;exact ⟨_,q,hd⟩
    · exact ⟨o,keep c o (I.cne x c e) hc nch ho fz,hd⟩
  · have h1:=(I.hok c _ fz).1;rw [ho] at h1;cases h1;exact ⟨o,(hok c _ (frzs c o u' fz)).1,hd⟩
 refine ⟨I.ok,I.os,hg,⟨fun b o e n hb hx=>?_,fun b o e n hb hx=>?_,fun b o e n hx=>?_,fun b o e hx=>?_,fun b xs e=>tups b xs (I.base.tups b xs e),fun b o xs e=>frzs b o xs (I.base.frzs b o xs e),fun b ps e=>?_⟩,?_,fun x c e=>?_,?_,fun x c e=>?_,fun p hp=>?_,hok,I.len⟩
 · exact keep b o (neL b o e) hb (neC b o e hx) (I.base.keep b o e n hb hx) (I.base.free b o e n hx)
 · obtain ⟨sl,e1⟩:=I.base.slot b o e n hb hx;obtain ⟨sl',e2⟩:=slot b _ (neL b o e) hb (neC b o e hx) e1 (I.base.free b o e n hx);exact ⟨sl',e2⟩
 · obtain ⟨o',e1⟩:=I.base.there b o e hx;exact free b o' (neC b o e hx) e1 (I.base.free b o e n hx)
 · obtain ⟨o',e1⟩:=I.base.there b o e hx;exact there b o' (neC b o e hx) e1
 · obtain ⟨m1,e1⟩:=I.base.tbls b ps e;obtain ⟨m2,e2⟩:=tbls b _ e1;exact ⟨m1++m2,by rw [e2,Array.append_assoc]⟩
 · obtain ⟨m,hn,hl⟩:=I.loc;refine ⟨m,ns m hn,fun i x v e1 e2 e3=>?_⟩;obtain ⟨u,r,l⟩:=hl i x v e1 e2 e3;refine ⟨u,r,?_⟩
   rcases l with l|⟨k,c,e,z⟩
   · exact .inl l
   · exact .inr ⟨k,c,e,cellK x c e _ z⟩
 · obtain ⟨v,z⟩:=I.cell x c e;exact ⟨v,cellK x c e v z⟩
 · obtain ⟨m,⟨o,_,_,ho,_⟩,_⟩:=I.loc;exact free _ o (fun z=>(hch _ z).2.1 rfl) ho I.free
 · obtain ⟨v,o,ho,hd⟩:=I.cell x c e;exact (I.freeC x c e).imp (fun fz=>free c o (fun z=>(hch c z).2.2.1 x c e rfl) ho fz) fun ⟨q,o',u',fz⟩=>⟨q,o',u',frzs c o' u' fz⟩
 · obtain ⟨e,n,ne,nf,d⟩:=I.pin p hp;have nch:p.1∉ch:=fun z=>(hch p.1 z).2.2.2 p hp rfl;exact ⟨keep p.1 p.2 ne nf nch e n,free p.1 p.2 nch e n,ne,nf,d⟩
theorem Inv.un {t':Nat} (I:Inv X pins σ H s) (u:Un X.fs [] H H' s.heap h') (hok:HOk X.prog X.w H' h'):Inv X pins σ H' { s with heap:=h',toks:=t' }:=by
 obtain ⟨m,⟨o,es,ep,ho,r⟩,_⟩:=id I.loc;obtain ⟨sl,hL⟩:=u.any ho I.free (by simp)
 exact I.step (g':=s.gens) (d':=s.drawn) (ch:=[]) (fun _ z=>nomatch z) (fun b o _ hb _ e n=>u.keep b o e n hb (by simp)) (fun b o _ hb _ e n=>u.slot b o e n hb (by simp)) (fun b o _ e n=>u.free b o e n (by simp)) (fun b o _ e=>u.there b o e (by simp)) u.tups u.frzs u.tbls (fun m' hm=>by
  obtain ⟨o',es',ep',ho',r'⟩:=hm;rw [ho] at ho';cases ho';exact ⟨_,es',ep',hL,r'⟩) hok I.bare
theorem Inv.call {g':Array GenState} {t':Nat} {d':Drawn} {ch:List Addr} (I:Inv X pins σ H s) (u:Un (frs X.stack) ch H H' s.heap h') (hok:HOk X.prog X.w H' h') (hg:AllBare g')
 (hch:∀ b∈ch,(b∈X.ex∨X.s₀.heap.objs.size≤b)∧b≠X.env.locals∧(∀ x c,X.env.cells.lookup x=some c→c≠b)∧∀ p∈X.pn++pins,p.1≠b) :
 Inv X pins σ H' { s with heap:=h',gens:=g',drawn:=d',toks:=t' }:=by
 obtain ⟨m,⟨o,es,ep,ho,r⟩,_⟩:=id I.loc;obtain ⟨sl,hL⟩:=u.any ho I.free fun z=>(hch _ z).2.1 rfl
 exact I.step (ch:=ch) hch (fun b o hL hb hc e n=>u.keep b o e n (fun z=>(n34_.mp (I.stkSub b z)).elim hL hb) hc) (fun b o _ _ hc e n=>u.any e n hc) (fun b o hc e n=>u.free b o e n hc) (fun b o hc e=>u.there b o e hc) u.tups u.frzs u.tbls (fun m' hm=>by
  obtain ⟨o',es',ep',ho',r'⟩:=hm;rw [ho] at ho';cases ho';exact ⟨_,es',ep',hL,r'⟩) hok hg
theorem Inv.turned {t':Nat} {it:Addr} (I:Inv X pins σ H s) (k:∀ b o,b≠it→s.heap.get? b=some o→h'.get? b=some o) (hn:H it=none) (hL:it≠X.env.locals)
 (h1:it∈X.ex∨X.s₀.heap.objs.size≤it) (h2:∀ x c,X.env.cells.lookup x=some c→c≠it) (h3:∀ p∈X.pn++pins,p.1≠it):Inv X pins σ H { s with heap:=h',toks:=t' }:=by
 have nit:∀ b u,H b=some u→b≠it:=fun b u e z=>by rw [z,hn] at e;cases e
 refine I.step (g':=s.gens) (d':=s.drawn) (ch:=[it]) (fun b hb=>?_) (fun b o _ _ hc e _=>k b o (fun z=>hc (by simp [z])) e) (fun b o _ _ hc e _=>⟨o.slots,k b o (fun z=>hc (by simp [z])) e⟩) (fun _ _ _ _ n=>n)
  (fun b o hc e=>⟨o,k b o (fun z=>hc (by simp [z])) e⟩) (fun _ _ e=>e) (fun _ _ _ e=>e) (fun b ps e=>⟨#[],by rw [e];simp⟩) (fun m hm=>?_) (fun b u e=>?_) I.bare
 · have e:b=it:=by simpa using hb
   subst e;exact ⟨h1,hL,h2,h3⟩
 · obtain ⟨o,es,ep,ho,r⟩:=hm;exact ⟨o,es,ep,k _ o (Ne.symm hL) ho,r⟩
 · refine (I.hok b u e).stay (fun c v hc q=>k c v ?_ q) (fun _ q=>q) fun _ _ q=>q
   rcases hc with z|z
   · rw [z];exact nit b u e
   · exact nit c _ z
theorem Inv.tok (I:Inv X pins σ H s) (t:Nat):Inv X pins σ H { s with toks:=t }:=I.un (h':=s.heap) (t':=t) Un.refl I.hok
theorem Inv.kept {t':Nat} (I:Inv X pins σ H s) (k:∀ b u,s.heap.get? b=some u→h'.get? b=some u):Inv X pins σ H { s with heap:=h',toks:=t' }:=I.un (Un.kept k) (I.hok.kept k)
theorem Inv.laid {a:Addr} {o:HO} {t':Nat} (I:Inv X pins σ H s) (k:∀ b u,s.heap.get? b=some u→h'.get? b=some u) (hp:s.heap.objs.size≤a) (new:ObjOk X.prog X.w (upd H a o) h' a o) :
 Inv X pins σ (upd H a o) { s with heap:=h',toks:=t' }:=I.un (Un.laid k hp (I.hok.fresh hp)) (I.hok.laid k hp new)
theorem Inv.write {x e:Addr} {o:HO} {t':Nat} (I:Inv X pins σ H s) (mu:Mut (H x)) (he:e=x∨H e=some (.own x)) (k:∀ b u,b≠e→s.heap.get? b=some u→h'.get? b=some u) (heo:∃ u,h'.get? e=some u)
 (new:ObjOk X.prog X.w (upd H x o) h' x o):Inv X pins σ (upd H x o) { s with heap:=h',toks:=t' }:=I.un (Un.write mu he k heo) (I.hok.write mu he k heo new)
theorem Inv.pins_of {pins':List (Addr×Obj)} (I:Inv X pins σ H s) (h:∀ p∈pins',s.heap.get? p.1=some p.2∧H p.1=none∧p.1≠X.env.locals∧p.1∉X.fs∧∀ v,p.2.data≠.cell v):Inv X pins' σ H s :=
 ⟨I.ok,I.os,I.bare,I.base,I.loc,I.cell,I.free,I.freeC,fun p hp=>(n46_.mp hp).elim (fun z=>I.pin p (n84_ _ z)) (h p),I.hok,I.len⟩
theorem Zjz {N:List Str} (hN:N.Nodup) {i j:Nat} {x:Str} (a:N[i]? = some x) (b:N[j]? = some x):i=j:=by
 obtain ⟨h1,e1⟩:=n11_.mp a;obtain ⟨h2,e2⟩:=n11_.mp b;exact (List.getElem_inj hN).mp (e1.trans e2.symm)
theorem Zna {M:Model} {A:Around} {E:Value→Shared→Prop} {i:Nat} {x:Str} {v:V} {u:Value} {Q:Unit→Shared→Prop} (I:Inv X pins σ H s) (hN:X.N.Nodup) (hi:X.N[i]? = some x) (hx:Loc X.env.scope x) (r:RelV v u)
 (h:∀ s',Inv X pins (σ.set i (some v)) H s'→(∃ a,Heap.SameBut a s.heap s'.heap∧(a=X.env.locals∨X.env.cells.lookup x=some a))→Q () s') (hf:X.fn x=true∨X.env.scope.names.lookup x=some .local:=by first|exact .inl rfl|exact .inr rfl|assumption):wpAny M A (storeName X.env x u) Q E s:=by
 obtain ⟨m,hn,hl⟩:=id I.loc;have hcls:(X.env.scope.kind == .class||(X.env.scope.kind == .module&&X.env.locals != X.env.globals))=false:=by rw [I.ok.kind];rfl
 have hiσ:i<σ.length:=by rw [I.len];exact (n11_.mp hi).1
 have cne:=I.cne
 have tracked:∀ {a:Addr} {h':Heap},(∃ o,s.heap.get? a=some o∧H a=none)→Heap.SameBut a s.heap h'→HOk X.prog X.w H h':=fun {a h'} ha hs b ob e=>by
  obtain ⟨_,_,hfree⟩:=ha;refine (I.hok b ob e).stay (fun c w' hc q=>(hs.2 c ?_).trans q) (fun _ q=>q) fun _ _ q=>q;rintro rfl
  rcases hc with rfl|hc
  · rw [hfree] at e;cases e
  · rw [hfree] at hc;cases hc
 rcases hx with hk|hk
 · refine wpAny_storeName_local hk hn (fun h' hn' hs=>?_) hcls;obtain ⟨oL,_,_,hoL,_⟩:=id hn;refine h _ ⟨I.ok,I.os,I.bare,⟨fun b o e n hb hx=>?_,fun b o e n hb hx=>?_,I.base.free,fun b o e hx=>?_,I.base.tups,I.base.frzs,I.base.tbls⟩,⟨_,hn',fun j y v' e1 e2 e3=>?_⟩,fun y c e=>?_,I.free,I.freeC,fun p hp=>?_,tracked ⟨oL,hoL,I.free⟩ hs,by simpa using I.len⟩ ⟨_,hs,.inl rfl⟩
   · exact (hs.2 b (n51_ (n10_ (n21_ e) I.ok.above))).trans (I.base.keep b o e n hb hx)
   · obtain ⟨sl,e1⟩:=I.base.slot b o e n hb hx;exact ⟨sl,(hs.2 b (n51_ (n10_ (n21_ e) I.ok.above))).trans e1⟩
   · obtain ⟨o',e1⟩:=I.base.there b o e hx;exact ⟨o',(hs.2 b (n51_ (n10_ (n21_ e) I.ok.above))).trans e1⟩
   · by_cases hj:j=i
     · subst hj;rw [hi] at e1;cases e1;rw [List.getElem?_set_self hiσ] at e2;cases e2
       exact ⟨u,r,.inl ⟨hk,by simp⟩⟩
     · rw [List.getElem?_set_ne (Ne.symm hj)] at e2;obtain ⟨u',r',q⟩:=hl j y v' e1 e2 e3;refine ⟨u',r',?_⟩
       rcases q with ⟨k,e⟩|⟨k,c,e,z⟩
       · refine .inl ⟨k,?_⟩
         have:y≠x:=fun e=>hj (Zjz hN e1 (e ▸ hi))
         simp [this,e]
       · exact .inr ⟨k,c,e,z.sameBut hs (cne y c e)⟩
   · obtain ⟨w',z⟩:=I.cell y c e;exact ⟨w',z.sameBut hs (cne y c e)⟩
   · obtain ⟨e,n,ne,nf,d⟩:=I.pin p hp;exact ⟨(hs.2 p.1 ne).trans e,n,ne,nf,d⟩
 · have hfn:X.fn x=true:=by
    rcases hf with z|z
    · exact z
    · rw [z] at hk;cases hk
   obtain ⟨c,hc⟩:=I.ok.has x (.inl hk);obtain ⟨w',z⟩:=I.cell x c hc;refine wpAny_storeName_cell I.ok.kind hk hc z (fun h' hc' hs=>?_);obtain ⟨oc,hoc,hocd⟩:=id z;refine h { s with heap:=h' } ⟨I.ok,I.os,I.bare,⟨fun b o e n hb hx=>?_,fun b o e n hb hx=>?_,I.base.free,fun b o e hx=>?_,I.base.tups,I.base.frzs,I.base.tbls⟩,⟨m,hn.sameBut hs (Ne.symm (cne x c hc)),fun j y v' e1 e2 e3=>?_⟩,fun y c' e=>?_,I.free,I.freeC,fun p hp=>?_,tracked ⟨oc,hoc,(I.freeC x c hc).elim id fun z=>(by rw [hfn] at z;cases z.1)⟩ hs,by simpa using I.len⟩ ⟨c,hs,.inr hc⟩
   · exact (hs.2 b (n51_ (n10_ (n21_ e) (I.ok.cab x c hfn hc)))).trans (I.base.keep b o e n hb hx)
   · obtain ⟨sl,e1⟩:=I.base.slot b o e n hb hx;exact ⟨sl,(hs.2 b (n51_ (n10_ (n21_ e) (I.ok.cab x c hfn hc)))).trans e1⟩
   · obtain ⟨o',e1⟩:=I.base.there b o e hx;exact ⟨o',(hs.2 b (n51_ (n10_ (n21_ e) (I.ok.cab x c hfn hc)))).trans e1⟩
   · by_cases hj:j=i
     · subst hj;rw [hi] at e1;cases e1;rw [List.getElem?_set_self hiσ] at e2;cases e2
       exact ⟨u,r,.inr ⟨.inl hk,c,hc,hc'⟩⟩
     · rw [List.getElem?_set_ne (Ne.symm hj)] at e2;obtain ⟨u',r',q⟩:=hl j y v' e1 e2 e3;refine ⟨u',r',?_⟩
       rcases q with q|⟨k,c',e,z'⟩
       · exact .inl q
       · refine .inr ⟨k,c',e,z'.sameBut hs ?_⟩;rintro rfl
         exact hj (Zjz hN e1 (I.ok.inj _ _ _ e hc ▸ hi))
   · by_cases hcc:c'=c
     · subst hcc;exact ⟨_,hc'⟩
     · obtain ⟨w2,z2⟩:=I.cell y c' e;exact ⟨w2,z2.sameBut hs hcc⟩
   · obtain ⟨e,n,ne,nf,d⟩:=I.pin p hp;refine ⟨(hs.2 p.1 ?_).trans e,n,ne,nf,d⟩;intro q;rw [q,hoc] at e;have q':oc=p.2:=Option.some.inj e;exact d w' (by rw [← q'];exact hocd)
theorem X9 {M:Model} {A:Around} {E:Value→Shared→Prop} {i:Nat} {x:Str} {v:V} {u:Value} {Q:Unit→Shared→Prop} (I:Inv X pins σ H s) (hN:X.N.Nodup) (hi:X.N[i]? = some x) (hx:Loc X.env.scope x) (r:RelV v u)
 (h:∀ s',Inv X pins (σ.set i (some v)) H s'→Q () s') (hf:X.fn x=true∨X.env.scope.names.lookup x=some .local:=by first|exact .inl rfl|exact .inr rfl|assumption):wpAny M A (storeName X.env x u) Q E s :=
 Zna I hN hi hx r (fun s' I' _=>h s' I') hf
theorem Inv.call' {s':Shared} {ch:List Addr} (I:Inv X pins σ H s) (ho:s'.os=s.os) (u:Un (frs X.stack) ch H H' s.heap s'.heap) (hok:HOk X.prog X.w H' s'.heap) (hg:AllBare s'.gens)
 (hch:∀ b∈ch,(b∈X.ex∨X.s₀.heap.objs.size≤b)∧b≠X.env.locals∧(∀ x c,X.env.cells.lookup x=some c→c≠b)∧∀ p∈X.pn++pins,p.1≠b):Inv X pins σ H' s':=by
 obtain ⟨h',g',d',t',o'⟩:=s';have e:o'=s.os:=ho;subst e;exact I.call (g':=g') (t':=t') (d':=d') u hok hg hch
end
abbrev XK:=Value→Option Addr→Hp→Prop
abbrev St:=List (Option V)
abbrev VK:=V→Hp→Prop
abbrev TE:=St→Hp→VK→Prop
abbrev TT:=St→Hp→(Bool→Hp→Prop)→Prop
abbrev TA:=St→Hp→(List V→Hp→Prop)→Prop
structure Ends where
 nx:St→Hp→Prop
 rt:VK
 bk:St→Hp→Prop:=fun _ _=>False
 ct:St→Hp→Prop:=fun _ _=>False
abbrev TS:=Ends→St→Hp→Prop
def EP (X:Cx) (pins:List (Addr×Obj)) (σ:St) (Q:VK) (u:Value) (s':Shared):Prop:=∃ v H',Inv X pins σ H' s'∧RelV v u∧Q v H'
def TP (X:Cx) (pins:List (Addr×Obj)) (σ:St) (Q:Bool→Hp→Prop) (b:Bool) (s':Shared):Prop:=∃ H',Inv X pins σ H' s'∧Q b H'
def AP (X:Cx) (pins:List (Addr×Obj)) (σ:St) (Q:List V→Hp→Prop) (us:List Value) (s':Shared):Prop:=∃ vs H',Inv X pins σ H' s'∧Vals vs us∧Q vs H'
def SP (X:Cx) (pins:List (Addr×Obj)) (D:Ends) (f:Flow) (s':Shared):Prop :=
 match f with
 | .next=>∃ σ' H',Inv X pins σ' H' s'∧D.nx σ' H'
 | .brk=>∃ σ' H',Inv X pins σ' H' s'∧D.bk σ' H'
 | .cont=>∃ σ' H',Inv X pins σ' H' s'∧D.ct σ' H'
 | .ret u=>∃ v σ' H',Inv X pins σ' H' s'∧RelV v u∧D.rt v H'
def PE (X:Cx) (e:Expr) (t:TE):Prop :=
 ∀ (pins:List (Addr×Obj)) (s:Shared) (σ:St) (H:Hp) (Q:VK),Inv X pins σ H s→t σ H Q→wpAny (model X.prog X.w) X.A (eval e X.env) (EP X pins σ Q) X.xe s
def PT (X:Cx) (e:Expr) (t:TT):Prop :=
 ∀ (pins:List (Addr×Obj)) (s:Shared) (σ:St) (H:Hp) (Q:Bool→Hp→Prop),Inv X pins σ H s→t σ H Q→wpAny (model X.prog X.w) X.A (isTrue e X.env (eval e X.env)) (TP X pins σ Q) X.xe s
def PW (X:Cx) (e:Expr) (t:TT):Prop :=
 ∀ (whole:Sem Value) (pins:List (Addr×Obj)) (s:Shared) (σ:St) (H:Hp) (Q:Bool→Hp→Prop),Inv X pins σ H s→t σ H Q→wpAny (model X.prog X.w) X.A (isTrue e X.env whole) (TP X pins σ Q) X.xe s
theorem PW.pt {X:Cx} {e:Expr} {t:TT} (h:PW X e t):PT X e t:=h _
def PA (X:Cx) (es:List Expr) (t:TA):Prop :=
 ∀ (pos:Pos) (pins:List (Addr×Obj)) (s:Shared) (σ:St) (H:Hp) (Q:List V→Hp→Prop),Inv X pins σ H s→t σ H Q→wpAny (model X.prog X.w) X.A (spliced (backTo pos (starEach es X.env))) (AP X pins σ Q) X.xe s
def PS (X:Cx) (st:Stmt) (t:TS):Prop :=
 ∀ (pins:List (Addr×Obj)) (s:Shared) (σ:St) (H:Hp) (D:Ends),Inv X pins σ H s→t D σ H→wpAny (model X.prog X.w) X.A (exec st X.env) (SP X pins D) X.xe s
def PSs (X:Cx) (st:List Stmt) (t:TS):Prop :=
 ∀ (pins:List (Addr×Obj)) (s:Shared) (σ:St) (H:Hp) (D:Ends),Inv X pins σ H s→t D σ H→wpAny (model X.prog X.w) X.A (execs st X.env) (SP X pins D) X.xe s
theorem thn {α:Type} {t:Sem α} {Q Q':α→Shared→Prop} {M:Model} {A:Around} {E:Value→Shared→Prop} {s:Shared} (h:wpAny M A t Q E s) (hQ:∀ a s,Q a s→Q' a s):wpAny M A t Q' E s:=wpAny_mono h hQ fun _ _ x=>x
section
variable {X:Cx}
def tVar (i:Nat):TE:=fun σ H Q=>∃ v,σ[i]? = some (some v)∧Q v H
def tC (v:V):TE:=fun _ H Q=>Q v H
theorem Zst {i:Nat} {x:Str} {pos:Pos} (hN:X.N[i]? = some x) (hv:Vis X.env.scope x) (hd:(x == ("__debug__" : Str))=false:=by decide) (hcd:(x == ("__classdict__" : Str))=false:=by decide):PE X (.Name x pos) (tVar i):=by
 intro pins s σ H Q I h;obtain ⟨v,e,h⟩:=h;obtain ⟨m,hn,hl⟩:=I.loc;obtain ⟨u,r,l⟩:=hl i x v hN e hv;have fin:EP X pins σ Q u s:=⟨v,H,I,r,h⟩
 rcases l with ⟨hk,hm⟩|⟨hk,c,hc,hcell⟩
 · exact wpAny_Name (wpAny_loadName_local I.ok.kind hk hn hm fin) hd
 · rcases hk with hk|hk
   · exact wpAny_Name (wpAny_loadName_cell I.ok.kind hk hc hcell fin) hd
   · exact wpAny_Name (wpAny_loadName_free I.ok.kind hk hc hcell fin hcd) hd
theorem Zg {i j pos}:PE X (.Constant (.int i) j pos) (tC (.int i)):=fun _ _ _ H _ I h=>wpAny_Constant_int ⟨.int i,H,I.tok _,⟨_,rfl⟩,h⟩
theorem Zcm {b j pos}:PE X (.Constant (.bool b) j pos) (tC (.bl b)):=fun _ _ _ H _ I h=>Constant_bool ⟨.bl b,H,I,rfl,h⟩
theorem Zc6 {j pos}:PE X (.Constant .none j pos) (tC .non):=fun _ _ _ H _ I h=>Constant_none ⟨.non,H,I,rfl,h⟩
theorem Zju {x j pos}:PE X (.Constant (.str x) j pos) (tC (.str x)):=fun _ _ _ H _ I h=>Calls.Constant_str ⟨.str x,H,I.tok _,⟨_,rfl⟩,h⟩
def Gl (X:Cx) (x:Str):Prop:=X.env.kindOf x=some .globalImplicit
theorem Ziv {E:Value→Shared→Prop} {pins:List (Addr×Obj)} {s:Shared} {σ:St} {H:Hp} {x:Str} {u:Value} {pos:Pos} {Q:Value→Shared→Prop} (I:Inv X pins σ H s) (hg:Gl X x) (hm:X.mg x=some u) (h:Q u s)
 (hd:(x == ("__debug__" : Str))=false:=by decide):wpAny (model X.prog X.w) X.A (eval (.Name x pos) X.env) Q E s :=
 Calls.Name_function_global I.ok.kind hg (Calls.loadGlobal_global (by rw [I.ok.glob];exact I.mod.glob.keeps I.bk) hm h) hd
theorem Zax {E:Value→Shared→Prop} {pins:List (Addr×Obj)} {s:Shared} {σ:St} {H:Hp} {x:Str} {u:Value} {pos:Pos} {Q:Value→Shared→Prop} (I:Inv X pins σ H s) (hg:Gl X x) (hm:X.mg x=none) (hv:bootBuiltins x=some u) (h:Q u s)
 (hn:x ≠ "__name__" := by decide) (hd:(x == ("__debug__" : Str))=false:=by decide):wpAny (model X.prog X.w) X.A (eval (.Name x pos) X.env) Q E s:=by
 obtain ⟨mb,h1,h2⟩:=I.mod.blt;exact Calls.Name_function_global I.ok.kind hg (Calls.loadGlobal_builtin (by rw [I.ok.glob];exact I.mod.glob.keeps I.bk) hm (by rw [I.ok.blt];exact h1.keeps I.bk) ((h2 x hn).trans hv) h) hd
theorem Zdr {x:Str} {v:V} {u:Value} {pos:Pos} (hg:Gl X x) (hm:X.mg x=some u) (r:RelV v u) (hd:(x == ("__debug__" : Str))=false:=by decide):PE X (.Name x pos) (tC v) :=
 fun _ _ _ H _ I h=>Ziv I hg hm ⟨v,H,I,r,h⟩ hd
theorem Zbr {x:Str} {v:V} {u:Value} {pos:Pos} (hg:Gl X x) (hm:X.mg x=none) (hv:bootBuiltins x=some u) (r:RelV v u) (hn:x ≠ "__name__" := by decide) (hd:(x == ("__debug__" : Str))=false:=by decide):PE X (.Name x pos) (tC v) :=
 fun _ _ _ H _ I h=>Zax I hg hm hv ⟨v,H,I,r,h⟩ hn hd
variable {a b:Expr} {ta tb:TE} {pos:Pos}
variable {tA tB':TT} {rest:List Expr}
def tAnd (t u:TT):TT:=fun σ H Q=>t σ H fun c H1=>if c=true then u σ H1 Q else Q false H1
def tOr (t u:TT):TT:=fun σ H Q=>t σ H fun c H1=>if c=true then Q true H1 else u σ H1 Q
def tNot (t:TT):TT:=fun σ H Q=>t σ H fun c H1=>Q (!c) H1
theorem Zcu (ha:PT X a tA):PW X (.BoolOp .And [a] pos) tA:=by
 intro wh pins s σ H Q I h;refine isTrue_and (thn (ha pins s σ H Q I h) fun c s1 e=>?_);cases c with
 | true=>exact isTrue_and_nil e
 | false=>exact e
theorem Zd7 (ha:PT X a tA):PW X (.BoolOp .Or [a] pos) tA:=by
 intro wh pins s σ H Q I h;refine isTrue_or (thn (ha pins s σ H Q I h) fun c s1 e=>?_);cases c with
 | false=>exact isTrue_or_nil e
 | true=>exact e
theorem Zfk (ha:PT X a tA) (hb:PW X (.BoolOp .And (b :: rest) pos) tB'):PW X (.BoolOp .And (a :: b :: rest) pos) (tAnd tA tB'):=by
 intro wh pins s σ H Q I h;refine isTrue_and (thn (ha pins s σ H _ I h) fun c s1 ⟨H1,I1,q1⟩=>?_);cases c with
 | true=>exact hb wh pins s1 σ H1 Q I1 q1
 | false=>exact ⟨H1,I1,q1⟩
theorem Zex (ha:PT X a tA) (hb:PW X (.BoolOp .Or (b :: rest) pos) tB'):PW X (.BoolOp .Or (a :: b :: rest) pos) (tOr tA tB'):=by
 intro wh pins s σ H Q I h;refine isTrue_or (thn (ha pins s σ H _ I h) fun c s1 ⟨H1,I1,q1⟩=>?_);cases c with
 | true=>exact ⟨H1,I1,q1⟩
 | false=>exact hb wh pins s1 σ H1 Q I1 q1
theorem Xx (ha:PT X a tA):PT X (.UnaryOp .Not a pos) (tNot tA):=by
 intro pins s σ H Q I h;exact isTrue_not (ha pins s σ H (fun c H1=>Q (!c) H1) I h)
def Zti (ta tb:TE):TE:=fun σ H Q=>ta σ H fun x H1=>∃ c,x=.bl c∧if c=true then tb σ H1 Q else Q (.bl false) H1
def Ztb (ta:TE):TE:=fun σ H Q=>ta σ H fun x H1=>∃ c,x=.bl c∧Q (.bl (!c)) H1
theorem Zpw {op} {t:TE} (h:PE X a t):PE X (.BoolOp op [a] pos) t:=fun pins s σ H Q I hw=>BoolOp_one (h pins s σ H Q I hw)
theorem Zps (ha:PE X a ta) (hb:PE X (.BoolOp .And (b :: rest) pos) tb):PE X (.BoolOp .And (a :: b :: rest) pos) (Zti ta tb):=by
 intro pins s σ H Q I h;refine BoolOp_and (thn (ha pins s σ H _ I h) fun v s1 ⟨x,H1,I1,r1,q1⟩=>?_);obtain ⟨c,rfl,q1⟩:=q1;cases r1
 refine wpAny_truthy_bool ?_;cases c with
 | true=>exact hb pins s1 σ H1 Q I1 q1
 | false=>exact ⟨.bl false,H1,I1,rfl,q1⟩
theorem Zrn (ha:PE X a ta):PE X (.UnaryOp .Not a pos) (Ztb ta):=by
 intro pins s σ H Q I h;refine UnaryOp_ (thn (ha pins s σ H _ I h) fun v s1 ⟨x,H1,I1,r1,q1⟩=>?_);obtain ⟨c,rfl,q1⟩:=q1;cases r1
 exact not_of (wpAny_truthy_bool ⟨.bl (!c),H1,I1,rfl,q1⟩)
def tIf (t:TT) (ta tb:TE):TE:=fun σ H Q=>t σ H fun c H1=>if c=true then ta σ H1 Q else tb σ H1 Q
theorem Zao {c:Expr} (hc:PT X c tA) (ha:PE X a ta) (hb:PE X b tb):PE X (.IfExp c a b pos) (tIf tA ta tb):=by
 intro pins s σ H Q I h;refine wpAny_IfExp (thn (hc pins s σ H _ I h) fun d s1 ⟨H1,I1,q1⟩=>?_);cases d with
 | true=>exact ha pins s1 σ H1 Q I1 q1
 | false=>exact hb pins s1 σ H1 Q I1 q1
end
def SqL (K:PySem.W.Frag) (H:Hp) (a:Addr) (xs:List V):Prop :=
 Rd H a (.lst xs) ∨
  ∃ (o:Obj) (its:Array Value) (n:Nat),K.lookup a=some o∧o.cls=.type "list" ∧ o.dict=none∧o.data=.seq its n∧its.size≤sizeLine∧Vals xs its.toList
def SqT (K:PySem.W.Frag) (H:Hp) (a:Addr) (xs:List V):Prop :=
 Rd H a (.tup xs) ∨
  ∃ (o:Obj) (its:Array Value) (n:Nat),K.lookup a=some o∧o.cls=.type "tuple" ∧ o.data=.seq its n∧its.size≤sizeLine∧Vals xs its.toList
def absV:Value→Option V
 | .none=>some .non
 | .bool b=>some (.bl b)
 | .int i _=>some (.int i)
 | .str x _=>some (.str x)
 | .bytes b _=>some (.byt b)
 | .float b _=>some (.flt b)
 | .ref a=>some (.ref a)
 | .type n=>some (.ty n)
 | _=>none
theorem RelV.abs {x:V} {u:Value} (r:RelV x u):absV u=some x:=by
 cases x with
 | non=>cases r;rfl
 | bl _=>cases r;rfl
 | int _=>obtain ⟨t,rfl⟩:=r;rfl
 | str _=>obtain ⟨t,rfl⟩:=r;rfl
 | byt _=>obtain ⟨t,rfl⟩:=r;rfl
 | flt _=>obtain ⟨t,rfl⟩:=r;rfl
 | ref _=>cases r;rfl
 | ty _=>cases r;rfl
theorem RelV.inj {x y:V} {u:Value} (r:RelV x u) (q:RelV y u):x=y:=Option.some.inj (r.abs.symm.trans q.abs)
theorem Vals.inj:∀ {xs ys:List V} {us:List Value},Vals xs us→Vals ys us→xs=ys
 | _,_,_,.nil,.nil=>rfl
 | _,_,_,.cons r t,.cons r' t'=>by rw [r.inj r',Vals.inj t t']
section
variable {X:Cx} {pins:List (Addr×Obj)} {σ:St} {H:Hp} {s:Shared} {a:Addr} {xs ys:List V}
theorem SqL.of {K:PySem.W.Frag} (h:H a=some (.lst xs)):SqL K H a xs:=.inl (.inl h)
theorem SqT.of {K:PySem.W.Frag} (h:H a=some (.tup xs)):SqT K H a xs:=.inl (.inl h)
theorem Inv.list (I:Inv X pins σ H s) (h:SqL X.K H a xs):∃ its:List Value,Vals xs its∧PlainL s.heap a its.toArray∧xs.length≤sizeLine:=by
 rcases h with h|⟨o,its,n,hk,hc,hd,hs,hz,r⟩
 · obtain ⟨z,its,n,r,e⟩:=h.ok I.hok;exact ⟨its,r,⟨_,n,e,rfl,rfl,rfl⟩,z⟩
 · refine ⟨its.toList,r,⟨o,n,I.kIn a o hk,hc,hd,by simpa using hs⟩,?_⟩;have e:=r.length;simp only [Array.length_toList] at e;omega
theorem Inv.tuple (I:Inv X pins σ H s) (h:SqT X.K H a xs):∃ its:List Value,Vals xs its∧IsTup s.heap a its.toArray∧xs.length≤sizeLine:=by
 rcases h with h|⟨o,its,n,hk,hc,hs,hz,r⟩
 · obtain ⟨z,its,r,p⟩:=h.ok I.hok;exact ⟨its,r,p,z⟩
 · refine ⟨its.toList,r,⟨o,I.kIn a o hk,hc,n,by simpa using hs⟩,?_⟩;have e:=r.length;simp only [Array.length_toList] at e;omega
theorem Inv.list_inj (I:Inv X pins σ H s) (h:SqL X.K H a xs) (h':SqL X.K H a ys):xs=ys:=by
 obtain ⟨its,r,⟨o,n,e,_,_,d⟩,_⟩:=I.list h;obtain ⟨its',r',⟨o',n',e',_,_,d'⟩,_⟩:=I.list h';rw [e] at e';cases e';rw [d] at d';injection d' with d1 _
 have:its=its':=by simpa using congrArg Array.toList d1
 subst this;exact r.inj r'
theorem Inv.tuple_inj (I:Inv X pins σ H s) (h:SqT X.K H a xs) (h':SqT X.K H a ys):xs=ys:=by
 obtain ⟨its,r,⟨o,e,_,n,d⟩,_⟩:=I.tuple h;obtain ⟨its',r',⟨o',e',_,n',d'⟩,_⟩:=I.tuple h';rw [e] at e';cases e';rw [d] at d';injection d' with d1 _
 have:its=its':=by simpa using congrArg Array.toList d1
 subst this;exact r.inj r'
end
abbrev Cx.wish (X:Cx) (E:Value→Shared→Prop):Cx:={ X with xe:=E }
abbrev Cx.nox (X:Cx):Cx:=X.wish fun _ _=>False
theorem Cx.Ok.wish {X:Cx} (ok:X.Ok) (E:Value→Shared→Prop):(X.wish E).Ok :=
 ⟨ok.mod,ok.kind,ok.glob,ok.blt,ok.above,ok.inj,ok.has,ok.cab,ok.hd,ok.frames,ok.stk,ok.exf,ok.bs,ok.bsz,ok.noex,ok.exfs,ok.funs,ok.frf⟩
theorem Cx.Ok.unwish {X:Cx} {E:Value→Shared→Prop} (ok:(X.wish E).Ok):X.Ok :=
 ⟨ok.mod,ok.kind,ok.glob,ok.blt,ok.above,ok.inj,ok.has,ok.cab,ok.hd,ok.frames,ok.stk,ok.exf,ok.bs,ok.bsz,ok.noex,ok.exfs,ok.funs,ok.frf⟩
section
variable {X:Cx} {pins:List (Addr×Obj)} {σ:St} {H:Hp} {s:Shared} {E:Value→Shared→Prop}
theorem Inv.wish (I:Inv X pins σ H s) (E:Value→Shared→Prop):Inv (X.wish E) pins σ H s:=⟨I.ok.wish E,I.os,I.bare,I.base,I.loc,I.cell,I.free,I.freeC,I.pin,I.hok,I.len⟩
theorem Inv.unwish (I:Inv (X.wish E) pins σ H s):Inv X pins σ H s:=⟨I.ok.unwish,I.os,I.bare,I.base,I.loc,I.cell,I.free,I.freeC,I.pin,I.hok,I.len⟩
theorem SP.unwish {D:Ends} {f:Flow} {s':Shared} (h:SP (X.wish E) pins D f s'):SP X pins D f s':=by
 cases f with
 | next=>obtain ⟨σ',H',I,q⟩:=h;exact ⟨σ',H',I.unwish,q⟩
 | brk=>obtain ⟨σ',H',I,q⟩:=h;exact ⟨σ',H',I.unwish,q⟩
 | cont=>obtain ⟨σ',H',I,q⟩:=h;exact ⟨σ',H',I.unwish,q⟩
 | ret u=>obtain ⟨v,σ',H',I,r,q⟩:=h;exact ⟨v,σ',H',I.unwish,r,q⟩
theorem PSs.nox {st:List Stmt} {t:TS} (h:PSs X.nox st t):PSs X st t:=fun pins s σ H D I hw =>
 wpAny_mono (h pins s σ H D (I.wish _) hw) (fun _ _ q=>q.unwish) fun _ _ z=>False.elim z
end
section
variable {X:Cx} {st:Stmt} {rest:List Stmt} {t u:TS} {e:Expr} {te:TE} {pos:Pos}
def Ztw:TS:=fun D σ H=>D.nx σ H
def tSeq (t u:TS):TS:=fun D σ H=>t { D with nx:=u D } σ H
theorem Z3:PSs X [] Ztw:=fun _ _ σ H _ I h=>wpAny_execs_nil ⟨σ,H,I,h⟩
theorem Zc (h1:PS X st t) (h2:PSs X rest u):PSs X (st :: rest) (tSeq t u):=by
 intro pins s σ H D I h;refine wpAny_execs_cons (thn (h1 pins s σ H { D with nx:=u D } I h) fun f s1 q=>?_);cases f with
 | next =>
   obtain ⟨σ',H',I',q⟩:=q;exact h2 pins s1 σ' H' D I' q
 | ret v=>exact q
 | brk=>exact q
 | cont=>exact q
theorem Zh (h1:PS X st t):PSs X [st] t:=by
 intro pins s σ H D I h;refine wpAny_execs_cons (thn (h1 pins s σ H D I h) fun f s1 q=>?_);cases f with
 | next=>exact wpAny_execs_nil q
 | ret v=>exact q
 | brk=>exact q
 | cont=>exact q
def Zsy:TS:=fun D σ H=>D.bk σ H
theorem Zj0:PS X (.Break pos) Zsy:=fun _ _ σ H _ I h=>wpAny_Break ⟨σ,H,I,h⟩
theorem Inv.quiet {pins:List (Addr×Obj)} {σ:St} {H:Hp} {s:Shared} (I:Inv X pins σ H s):interactive X.env=false:=by simp [interactive,I.ok.kind]
def Ztg (te:TE):TS:=fun D σ H=>te σ H fun _ H1=>D.nx σ H1
theorem Xw (he:PE X e te) (hs:swapsWith e none pos.line X.env=pure false:=by rfl):PS X (.Expr e pos) (Ztg te):=by
 intro pins s σ H D I h;exact wpAny_Expr_any (thn (he pins s σ H _ I h) fun v s1 ⟨x,H1,I1,r1,q1⟩=>⟨σ,H1,I1,q1⟩) I.quiet hs
def tRet (te:TE):TS:=fun D σ H=>te σ H D.rt
theorem Zn (he:PE X e te):PS X (.Return (some e) pos) (tRet te):=by
 intro pins s σ H D I h;exact wpAny_Return_some (thn (he pins s σ H _ I h) fun v s1 ⟨x,H1,I1,r1,q1⟩=>⟨x,σ,H1,I1,r1,q1⟩)
def tIfS (c:TT) (t u:TS):TS:=fun D σ H=>c σ H fun b H1=>if b=true then t D σ H1 else u D σ H1
theorem Yv {c:Expr} {a b:List Stmt} {tc:TT} (hc:PT X c tc) (ha:PSs X a t) (hb:PSs X b u):PS X (.If c a b pos) (tIfS tc t u):=by
 intro pins s σ H D I h;refine wpAny_If (thn (hc pins s σ H _ I h) fun d s1 ⟨H1,I1,q1⟩=>?_);cases d with
 | true=>exact ha pins s1 σ H1 D I1 q1
 | false=>exact hb pins s1 σ H1 D I1 q1
def Zsv:TS:=fun _ _ _=>False
theorem Zd5 {sts:List Stmt}:PSs X sts Zsv:=fun _ _ _ _ _ _ h=>h.elim
end
abbrev TG:=V→St→Hp→(St→Hp→Prop)→Prop
abbrev TGs:=List V→St→Hp→(St→Hp→Prop)→Prop
def PG (X:Cx) (target:Expr) (t:TG):Prop :=
 ∀ (pins:List (Addr×Obj)) (s:Shared) (σ:St) (H:Hp) (v:V) (u:Value) (Q:St→Hp→Prop),Inv X pins σ H s→RelV v u→t v σ H Q →
   wpAny (model X.prog X.w) X.A (assign target X.env u) (fun _ s'=>∃ σ' H',Inv X pins σ' H' s'∧Q σ' H') X.xe s
def PGs (X:Cx) (ts:List Expr) (t:TGs):Prop :=
 ∀ (pins:List (Addr×Obj)) (s:Shared) (σ:St) (H:Hp) (vs:List V) (us:List Value) (Q:St→Hp→Prop),Inv X pins σ H s→Vals vs us→t vs σ H Q →
   wpAny (model X.prog X.w) X.A (assignInOrder ((assignEach ts X.env).map (·.2)) us) (fun _ s'=>∃ σ' H',Inv X pins σ' H' s'∧Q σ' H') X.xe s
abbrev TSet:=V→V→V→Hp→(Hp→Prop)→Prop
def PSet (X:Cx) (t:TSet):Prop :=
 ∀ (pins:List (Addr×Obj)) (s:Shared) (σ:St) (H:Hp) (o i v:V) (ov iv u:Value) (Q:Hp→Prop),Inv X pins σ H s→RelV o ov→RelV i iv→RelV v u→t o i v H Q →
   wpAny (model X.prog X.w) X.A (setItem ov iv u) (fun _ s'=>∃ H',Inv X pins σ H' s'∧Q H') X.xe s
abbrev TIp:=V→V→Hp→VK→Prop
def PIp (X:Cx) (op:Operator) (t:TIp):Prop :=
 ∀ (pins:List (Addr×Obj)) (s:Shared) (σ:St) (H:Hp) (x y:V) (v u:Value) (Q:VK),Inv X pins σ H s→RelV x v→RelV y u→t x y H Q →
   wpAny (model X.prog X.w) X.A (inplaceOp op v u) (EP X pins σ Q) X.xe s
section
variable {X:Cx} {pos:Pos}
def Z4 (i:Nat):TG:=fun v σ H Q=>Q (σ.set i (some v)) H
theorem Zi {i:Nat} {x:Str} (hN:X.N.Nodup) (hi:X.N[i]? = some x) (hx:Loc X.env.scope x) (hf:X.fn x=true∨X.env.scope.names.lookup x=some .local:=by first|exact .inl rfl|exact .inr rfl|assumption):PG X (.Name x pos) (Z4 i):=by
 intro pins s σ H v u Q I r h;exact wpAny_assign_Name (X9 I hN hi hx r (fun s' I'=>⟨_,H,I',h⟩) hf)
def gNil:TGs:=fun vs σ H Q=>vs=[]∧Q σ H
def Yb (t:TG) (u:TGs):TGs:=fun vs σ H Q=>∃ v r,vs=v :: r∧t v σ H fun σ' H'=>u r σ' H' Q
theorem Zr:PGs X [] gNil:=by
 intro pins s σ H vs us Q I r h;obtain ⟨e,h⟩:=h;subst e;cases r
 exact assignInOrder_nil ⟨σ,H,I,h⟩
theorem Zd {e:Expr} {es:List Expr} {t:TG} {u:TGs} (h1:PG X e t) (h2:PGs X es u)
 (hs:(assignEach (e :: es) X.env).map (·.2)=assign e X.env :: (assignEach es X.env).map (·.2):=by rfl):PGs X (e :: es) (Yb t u):=by
 intro pins s σ H vs us Q I r h;obtain ⟨v,vr,e1,h⟩:=h;subst e1;cases r with
 | cons r rr =>
   rw [hs];refine assignInOrder_cons (thn (h1 pins s σ H _ _ _ I r h) fun _ s1 ⟨σ1,H1,I1,q1⟩=>?_);exact h2 pins s1 σ1 H1 _ _ Q I1 rr q1
def gTup (K:PySem.W.Frag) (n:Nat) (t:TGs):TG:=fun v σ H Q=>∃ a xs,v=.ref a∧SqT K H a xs∧xs.length=n∧t xs σ H Q
theorem Zy {es:List Expr} {k:Nat} {t:TGs} {n:Nat} (hc:X.calm=true) (h:PGs X es t)
 (hn:(assignEach es X.env).length=n:=by rfl) (hst:(assignEach es X.env).findIdx? (·.1)=none:=by rfl):PG X (.Tuple es k pos) (gTup X.K n t):=by
 intro pins s σ H v u Q I r hw;obtain ⟨a,xs,e1,hq,hl,hw⟩:=hw;subst e1;cases r
 obtain ⟨its,rv,ht,hz⟩:=I.tuple hq;refine assign_Tuple_tuple (I.ok.hd hc) ht (by simp [hn,← hl,rv.length]) hst fun h' hx=>?_;have I1:Inv X pins σ H { s with heap:=h' }:=I.kept (t':=s.toks) fun b o e=>hx b o (n51_ (n21_ e)) e;exact h pins _ σ H xs _ Q I1 (by simpa using rv) hw
def gSub (to ti:TE) (t:TSet):TG:=fun v σ H Q=>to σ H fun o H1=>ti σ H1 fun i H2=>t o i v H2 fun H3=>Q σ H3
theorem Zda {o i:Expr} {to ti:TE} {t:TSet} (ho:PE X o to) (hi:PE X i ti) (hs:PSet X t)
 (ha:∀ v,assign (.Subscript o i pos) X.env v=(do
   let ov ← holding [v] (eval o X.env)
   let iv ← holding [v,ov] (eval i X.env)
   standAt pos
   holding [v,ov,iv] (setItem ov iv v)
   release [v,ov,iv] []):=by intro _;rfl):PG X (.Subscript o i pos) (gSub to ti t):=by
 intro pins s σ H v u Q I r h;rw [ha];refine n6_ (n99_ (thn (ho pins s σ H _ I h) fun ov s1 ⟨x,H1,I1,r1,q1⟩=>?_));refine n6_ (n99_ (thn (hi pins s1 σ H1 _ I1 q1) fun iv s2 ⟨y,H2,I2,r2,q2⟩=>?_));refine n6_ (wpAny_standAt (n6_ (n99_ (thn (hs pins s2 σ H2 x y v ov iv u _ I2 r1 r2 r q2) fun _ s3 ⟨H3,I3,q3⟩=>?_))));exact wpAny_release ⟨σ,H3,I3,q3⟩
def tAsg (te:TE) (g:TG):TS:=fun D σ H=>te σ H fun x H1=>g x σ H1 D.nx
theorem Yn {tg e:Expr} {te:TE} {g:TG} (he:PE X e te) (hg:PG X tg g) (hs:swapsWithSole [tg] e pos.line X.env=pure false:=by rfl) (hw:swappedStores [tg] e X.env=pure none:=by rfl)
 (h1:(assignEach [tg] X.env).map (·.2)=[assign tg X.env]:=by rfl):PS X (.Assign [tg] e pos) (tAsg te g):=by
 intro pins s σ H D I h;refine wpAny_Assign_stores (thn (he pins s σ H _ I h) fun v s1 ⟨x,H1,I1,r1,q1⟩=>?_) hs hw;rw [h1];exact thn (hg pins s1 σ H1 x v _ I1 r1 q1) fun _ s2 q=>q
theorem Zv {i:Nat} {x:Str} {e:Expr} {te:TE} {pos':Pos} (hN:X.N.Nodup) (hi:X.N[i]? = some x) (hx:Loc X.env.scope x) (he:PE X e te) (hs:swapsWith e (some (.Name x pos')) pos.line X.env=pure false:=by rfl) (hf:X.fn x=true∨X.env.scope.names.lookup x=some .local:=by first|exact .inl rfl|exact .inr rfl|assumption) :
 PS X (.Assign [.Name x pos'] e pos) (tAsg te (Z4 i)):=by
 intro pins s σ H D I h;refine wpAny_Assign_Name (thn (he pins s σ H _ I h) fun v s1 ⟨y,H1,I1,r1,q1⟩=>?_) hs;exact X9 I1 hN hi hx r1 (fun s2 I2=>⟨_,H1,I2,q1⟩) hf
def tPar (i j:Nat) (ta:TA):TS:=fun D σ H=>ta σ H fun vs H1=>∃ v w,vs=[v,w]∧D.nx ((σ.set i (some v)).set j (some w)) H1
theorem Zb9 {i j:Nat} {x y:Str} {a b:Expr} {ta:TA} {px py pt:Pos} {kt k2 pt2} (hc:X.calm=true) (hN:X.N.Nodup) (hi:X.N[i]? = some x) (hj:X.N[j]? = some y) (hij:i≠j)
 (hx:X.env.scope.names.lookup x=some .local) (hy:X.env.scope.names.lookup y=some .local) (ha:PA X [a,b] ta)
 (hw:swappedStores [.Tuple [.Name x px,.Name y py] kt pt] (.Tuple [a,b] k2 pt2) X.env=pure (some [x,y]))
 (hs:swapsWithSole [.Tuple [.Name x px,.Name y py] kt pt] (.Tuple [a,b] k2 pt2) pos.line X.env=pure false:=by rfl) :
 PS X (.Assign [.Tuple [.Name x px,.Name y py] kt pt] (.Tuple [a,b] k2 pt2) pos) (tPar i j ta):=by
 intro pins s σ H D I h;rw [exec_Assign_arm];refine n6_ (wpAny_standAt ?_);rw [hs];refine n6_ (n25_ ?_);rw [if_neg (by decide)];refine n6_ (Tuple_ (thn (ha _ pins s σ H _ I h) fun us s1 ⟨vs,H1,I1,r1,q1⟩=>?_));obtain ⟨v,w,e1,q1⟩:=q1;subst e1
 obtain ⟨u1,u2,rfl,rv,rw'⟩:∃ u1 u2,us=[u1,u2]∧RelV v u1∧RelV w u2:=by
  cases r1 with
  | cons p q =>
    cases q with
    | cons p' q' =>
      cases q'
      exact ⟨_,_,rfl,p,p'⟩
 refine wpAny_newObj_type ?_ (z2_);have I2:Inv X pins σ H1 { s1 with heap:=s1.heap.push { cls:=.type "tuple",data:=.seq [u1,u2].toArray } }:=I1.kept (t':=s1.toks) fun b o e=>n7_ _ e;rw [hw];refine n6_ (n25_ ?_);show wpAny (model X.prog X.w) X.A (do rule "assign.swapped-stores";let items ← unpackItems (.ref s1.heap.objs.size) 2 none;assignInOrder [fun v=>bindName X.env y v,fun v=>bindName X.env x v] items.reverse;pure Flow.next) _ _ _
 refine n6_ (wpAny_rule (n6_ (unpackItems_tuple (items:=#[u1,u2]) (I.ok.hd hc) (IsTup.new s1.heap _) fun h' hx'=>?_)));have I3:=I2.kept (h':=h') (t':=s1.toks) fun b o e=>hx' b o (n51_ (n21_ e)) e;show wpAny _ _ (assignInOrder [fun v=>bindName X.env y v,fun v=>bindName X.env x v] [u2,u1] >>= fun _=>pure Flow.next) _ _ _
 refine n6_ (assignInOrder_cons (wpAny_bindName (X9 I3 hN hj (.inl hy) rw' (fun s2 I4=>?_) (.inr hy))));refine assignInOrder_cons (wpAny_bindName (X9 I4 hN hi (.inl hx) rv (fun s3 I5=>assignInOrder_nil (n25_ ?_)) (.inr hx)));rw [List.set_comm _ _ (Ne.symm hij)] at I5;exact ⟨_,H1,I5,q1⟩
def tAug (i:Nat) (te:TE) (ti:TIp):TS:=fun D σ H=>∃ x,σ[i]? = some (some x)∧te σ H fun y H1=>ti x y H1 fun z H2=>D.nx (σ.set i (some z)) H2
theorem Zn7 {i:Nat} {x:Str} {e:Expr} {te:TE} {op:Operator} {ti:TIp} {pos':Pos} (hN:X.N.Nodup) (hi:X.N[i]? = some x) (hx:Loc X.env.scope x) (he:PE X e te) (ho:PIp X op ti) (hf:X.fn x=true∨X.env.scope.names.lookup x=some .local:=by first|exact .inl rfl|exact .inr rfl|assumption) :
 PS X (.AugAssign (.Name x pos') op e pos) (tAug i te ti):=by
 intro pins s σ H D I h;obtain ⟨v,e1,h⟩:=h;obtain ⟨m,hn,hl⟩:=I.loc;have vis:Vis X.env.scope x:=by rcases hx with k|k;exact .inl k;exact .inr (.inl k)
 obtain ⟨u,r,l⟩:=hl i x v hi e1 vis;refine wpAny_AugAssign_Name ?_
 have go:wpAny (model X.prog X.w) X.A (eval e X.env) (fun w s₂=>wpAny (model X.prog X.w) X.A (inplaceOp op u w) (fun r s₃=>wpAny (model X.prog X.w) X.A (storeName X.env x r) (fun _=>SP X pins D .next) X.xe s₃) X.xe s₂) X.xe s:=by
  refine thn (he pins s σ H _ I h) fun w s1 ⟨y,H1,I1,r1,q1⟩=>?_;refine thn (ho pins s1 σ H1 v y u w _ I1 r r1 q1) fun z s2 ⟨zv,H2,I2,r2,q2⟩=>?_;exact X9 I2 hN hi hx r2 (fun s3 I3=>⟨_,H2,I3,q2⟩) hf
 rcases l with ⟨hk,hm⟩|⟨hk,c,hc,hcell⟩
 · exact wpAny_loadName_local I.ok.kind hk hn hm go
 · rcases hk with hk|hk
   · exact wpAny_loadName_cell I.ok.kind hk hc hcell go
   · rcases hx with k|k
     · have:X.env.scope.names.lookup x=some .free:=hk
       rw [k] at this;cases this
     · have:X.env.scope.names.lookup x=some .free:=hk
       rw [k] at this;cases this
end
section
variable {X:Cx} {pos:Pos}
def Zqa (c:TT) (tb:TS):TS:=fun D σ H=>∃ W:Nat→St→Hp→Prop,(∃ m,W m σ H)∧∀ m σ H,W m σ H →
 c σ H fun b H1=>if b=true then ∃ N:St→Hp→Prop,(∀ σ' H',N σ' H'→∃ m',m'<m∧W m' σ' H')∧tb { D with nx:=N,ct:=N,bk:=D.nx } σ H1 else D.nx σ H1
theorem Zbd {c:Expr} {body:List Stmt} {tc:TT} {tb:TS} (hp:PassesOwn (model X.prog X.w) X.A X.env X.xe) (hc:PT X c tc) (hb:PSs X body tb):PS X (.While c body [] pos) (Zqa tc tb):=by
 intro pins s σ H D I h;obtain ⟨W,⟨m0,w0⟩,turn⟩:=h;refine wpAny_While (codeAny_whileLoop (fun n s'=>∃ σ' H',Inv X pins σ' H' s'∧W n σ' H') ?_ m0 ⟨σ,H,I,w0⟩);rintro n s1 ⟨σ1,H1,I1,w1⟩
 refine wpAny_passesOwn hp (thn (hc pins s1 σ1 H1 _ I1 (turn n σ1 H1 w1)) fun b s2 ⟨H2,I2,q2⟩=>?_);cases b with
 | true =>
   obtain ⟨N,hN,q2⟩:=q2;rw [if_pos rfl];refine wpAny_passesOwn hp (thn (hb pins s2 σ1 H2 _ I2 q2) fun f s3 q3=>?_);cases f with
   | next =>
     obtain ⟨σ3,H3,I3,n3⟩:=q3;obtain ⟨m',hm,w3⟩:=hN σ3 H3 n3;exact ⟨m',hm,σ3,H3,I3,w3⟩
   | cont =>
     obtain ⟨σ3,H3,I3,n3⟩:=q3;obtain ⟨m',hm,w3⟩:=hN σ3 H3 n3;exact ⟨m',hm,σ3,H3,I3,w3⟩
   | brk=>exact q3
   | ret v=>exact q3
 | false =>
   rw [if_neg n29_];exact wpAny_execs_nil ⟨σ1,H2,I2,q2⟩
end
structure It where
 go:Nat→Hp→Prop
 yld:Nat→Hp→V→Hp→Prop
 stop:Nat→Hp→Prop
def FpOk (X:Cx) (pins:List (Addr×Obj)) (H:Hp) (b:Addr):Prop :=
 H b=none∧b≠X.env.locals∧b∉X.fs∧(b∈X.ex∨X.s₀.heap.objs.size≤b)∧(∀ x c,X.env.cells.lookup x=some c→c≠b)∧∀ p∈X.pn++pins,p.1≠b
theorem Inv.fpOk {X:Cx} {pins:List (Addr×Obj)} {σ:St} {H H':Hp} {s:Shared} {b:Addr} (I:Inv X pins σ H s) (hb:s.heap.objs.size≤b) (hn:H' b=none):FpOk X pins H' b:=by
 refine ⟨hn,Nat.ne_of_gt (n10_ I.lt hb),I.nofs hb,.inr (n28_ I.sz hb),fun x c e z=>?_,fun p hp z=>?_⟩
 · obtain ⟨v,q⟩:=I.cell x c e;exact absurd (n10_ q.lt (by rw [z];exact hb)) (Zey _)
 · exact absurd (n10_ (n21_ (I.pin p hp).1) (by rw [z];exact hb)) (Zey _)
structure Turn (P:Program) (w:World) (K:PySem.W.Frag) (tg:Expr) (J:It) (fp:List Addr) (it:Addr) (tn:Nat→Heap→Prop):Prop where
 mem:it∈fp
 obj:∀ i h,tn i h→∀ b∈fp,∃ o,h.get? b=some o∧∀ v,o.data≠.cell v
 keep:∀ i h h',tn i h→(∀ b∈fp,∀ o,h.get? b=some o→h'.get? b=some o)→tn i h'
 item:∀ (X:Cx),X.prog=P→X.w=w→X.K=K→X.calm=true→∀ (i:Nat) (pins:List (Addr×Obj)) (s:Shared) (σ:St) (H:Hp) (E:Value→Shared→Prop),Inv X pins σ H s→(∀ b∈fp,FpOk X pins H b)→tn i s.heap→J.go i H →
  wpAny (model P w) X.A (pyNext (.ref it)) (fun r s1=>∃ u,r=some u ∧
   wpAny (model P w) X.A (letOwnedTupleGo tg (.ref it) u) (fun _ s2=>∃ x H',Inv X pins σ H' s2∧RelV x u∧J.yld i H x H'∧tn (i+1) s2.heap∧∀ b∈fp,H' b=none) E s1) E s
 done:∀ (X:Cx),X.prog=P→X.w=w→X.K=K→X.calm=true→∀ (i:Nat) (pins:List (Addr×Obj)) (s:Shared) (σ:St) (H:Hp) (E:Value→Shared→Prop),Inv X pins σ H s→(∀ b∈fp,FpOk X pins H b)→tn i s.heap→J.stop i H →
  wpAny (model P w) X.A (pyNext (.ref it)) (fun r s1=>r=none∧Inv X pins σ H s1) E s
 self:∀ (A:Around) (i:Nat) (s:Shared) (Q:Value→Shared→Prop) (E:Value→Shared→Prop),tn i s.heap→Q (.ref it) s→wpAny (model P w) A (pyIter (.ref it)) Q E s
abbrev TI:=St→Hp→(It→Hp→Prop)→Prop
def PIE (X:Cx) (pins:List (Addr×Obj)) (σ:St) (tg:Expr) (R:It→Hp→Prop) (itv:Value) (s2:Shared):Prop :=
 ∃ (it:Addr) (fp:List Addr) (tn:Nat→Heap→Prop) (J:It) (H':Hp),itv=.ref it∧Inv X pins σ H' s2∧Turn X.prog X.w X.K tg J fp it tn∧tn 0 s2.heap∧(∀ b∈fp,FpOk X pins H' b)∧R J H'
def PI (X:Cx) (tg iter:Expr) (wi:TI):Prop :=
 ∀ (pins:List (Addr×Obj)) (s:Shared) (σ:St) (H:Hp) (R:It→Hp→Prop),Inv X pins σ H s→wi σ H R →
   wpAny (model X.prog X.w) X.A (eval iter X.env) (fun v s1=>wpAny (model X.prog X.w) X.A (pyIter v) (PIE X pins σ tg R) X.xe s1) X.xe s
theorem Zox {M:Model} {A:Around} {E:Value→Shared→Prop} {s:Shared} {tg:Expr} {it:Addr} {u:Value} {o:Obj} {n:String} {vs:Array Value} {Q:Unit→Shared→Prop} (ho:s.heap.get? it=some o) (hc:o.cls=.type n) (hd:o.data=.fields vs)
 (hn:["enumerate","zip","dict_itemiterator","dict_reverseitemiterator","odict_iterator","itertools.zip_longest","itertools.pairwise"].contains n=false) (hQ:Q () s):wpAny M A (letOwnedTupleGo tg (.ref it) u) Q E s:=by
 unfold letOwnedTupleGo
 cases tg<;>first
  | exact n25_ hQ
  | (cases u<;>first
      | exact n25_ hQ
      | (refine n6_ (wpAny_load ho ?_)
         rw [hc,hd];show wpAny M A (if (["enumerate","zip","dict_itemiterator","dict_reverseitemiterator","odict_iterator","itertools.zip_longest","itertools.pairwise"].contains n&&vs[0]? == some (rawInt _))=true then _ else _) Q E s
         rw [if_neg (by intro h;rw [hn,Bool.false_and] at h;cases h)];exact n25_ hQ))
def Itl (K:PySem.W.Frag) (a:Addr):It :=
 ⟨fun i H=>∃ xs x,SqL K H a xs∧xs[i]? = some x,fun i H x H'=>H'=H∧∀ xs,SqL K H a xs→xs[i]? = some x,fun i H=>∃ xs,SqL K H a xs∧xs.length≤i⟩
def Itt (K:PySem.W.Frag) (a:Addr):It :=
 ⟨fun i H=>∃ xs x,SqT K H a xs∧xs[i]? = some x,fun i H x H'=>H'=H∧∀ xs,SqT K H a xs→xs[i]? = some x,fun i H=>∃ xs,SqT K H a xs∧xs.length≤i⟩
def Itr (lo:Int) (n:Nat):It:=⟨fun i _=>i<n,fun i H x H'=>H'=H∧x=.int (lo+i),fun i _=>n≤i⟩
theorem Zih {P:Program} {w:World} {K:PySem.W.Frag} {tg:Expr} (a it:Addr):Turn P w K tg (Itl K a) [it] it (fun i h=>h.IsListIter it a i) where
 mem:=by simp
 obj:=fun i h st b hb=>by
  have e:b=it:=by simpa using hb
  subst e;obtain ⟨o,e,c,d⟩:=st;exact ⟨o,e,fun v z=>by rw [d] at z;cases z⟩
 keep:=fun i h h' st k=>st.at fun o e=>k it (by simp) o e
 item:=by
  intro X hP hw hK hc i pins s σ H E I hf st hg;subst hP hw hK;obtain ⟨xs,x,hq,hx⟩:=hg;obtain ⟨its,rv,p,hz⟩:=I.list hq;obtain ⟨u,hu,ru⟩:=rv.get hx;obtain ⟨f0,f1,f2,f3,f4,f5⟩:=hf it (by simp);refine wpAny_pyNext_list_item st p.isList (x:=u) (by simpa using hu) fun h' st' sb=>?_;have I1:Inv X pins σ H { s with heap:=h' }:=I.turned (t':=s.toks) (fun b o hb e=>(sb.2 b hb).trans e) f0 f1 f3 f4 f5;obtain ⟨o,e,c,d⟩:=id st';exact ⟨u,rfl,Zox (s:={ s with heap:=h' }) e c d (by decide) ⟨x,H,I1,ru,⟨rfl,fun ys hy=>by rw [I.list_inj hy hq];exact hx⟩,st',fun b hb=>(hf b hb).1⟩⟩
 done:=by
  intro X hP hw hK hc i pins s σ H E I hf st hg;subst hP hw hK;obtain ⟨xs,hq,hx⟩:=hg;obtain ⟨its,rv,p,hz⟩:=I.list hq;obtain ⟨f0,f1,f2,f3,f4,f5⟩:=hf it (by simp);have hl:=rv.length;exact wpAny_pyNext_list_end (I.ok.hd hc) st p.isList (by simp;omega) fun h' eb=>⟨rfl,I.turned (t':=s.toks) (fun b o hb e=>eb b o hb e) f0 f1 f3 f4 f5⟩
 self:=fun _ _ _ _ _ st h=>wpAny_pyIter_listiter st h
theorem Zfa {P:Program} {w:World} {K:PySem.W.Frag} {tg:Expr} (a it:Addr):Turn P w K tg (Itt K a) [it] it (fun i h=>h.IsTupleIter it a i) where
 mem:=by simp
 obj:=fun i h st b hb=>by
  have e:b=it:=by simpa using hb
  subst e;obtain ⟨o,e,c,d⟩:=st;exact ⟨o,e,fun v z=>by rw [d] at z;cases z⟩
 keep:=fun i h h' st k=>st.at fun o e=>k it (by simp) o e
 item:=by
  intro X hP hw hK hc i pins s σ H E I hf st hg;subst hP hw hK;obtain ⟨xs,x,hq,hx⟩:=hg;obtain ⟨its,rv,p,hz⟩:=I.tuple hq;obtain ⟨u,hu,ru⟩:=rv.get hx;obtain ⟨f0,f1,f2,f3,f4,f5⟩:=hf it (by simp);refine wpAny_pyNext_tuple_item st (show s.heap.IsTuple a its.toArray from p) (x:=u) (by simpa using hu) fun h' st' sb=>?_;have I1:Inv X pins σ H { s with heap:=h' }:=I.turned (t':=s.toks) (fun b o hb e=>(sb.2 b hb).trans e) f0 f1 f3 f4 f5;obtain ⟨o,e,c,d⟩:=id st';exact ⟨u,rfl,Zox (s:={ s with heap:=h' }) e c d (by decide) ⟨x,H,I1,ru,⟨rfl,fun ys hy=>by rw [I.tuple_inj hy hq];exact hx⟩,st',fun b hb=>(hf b hb).1⟩⟩
 done:=by
  intro X hP hw hK hc i pins s σ H E I hf st hg;subst hP hw hK;obtain ⟨xs,hq,hx⟩:=hg;obtain ⟨its,rv,p,hz⟩:=I.tuple hq;obtain ⟨f0,f1,f2,f3,f4,f5⟩:=hf it (by simp);have hl:=rv.length;exact wpAny_pyNext_tuple_end (I.ok.hd hc) st (show s.heap.IsTuple a its.toArray from p) (by simp;omega) fun h' eb=>⟨rfl,I.turned (t':=s.toks) (fun b o hb e=>eb b o hb e) f0 f1 f3 f4 f5⟩
 self:=fun _ _ _ _ _ st h=>wpAny_pyIter_tupleiter st h
theorem Zk2 {P:Program} {w:World} {K:PySem.W.Frag} {tg:Expr} (it:Addr) (lo:Int) (n:Nat):Turn P w K tg (Itr lo n) [it] it (fun i h=>IsRangeIter h it (lo+(i:Nat)*1) ((n:Int)-(i:Nat)) 1) where
 mem:=by simp
 obj:=fun i h st b hb=>by
  have e:b=it:=by simpa using hb
  subst e
  exact ⟨_,st,fun v z=>by
   have z':Data.fields _=Data.cell v:=z;cases z'⟩
 keep:=fun i h h' st k=>k it (by simp) _ st
 item:=by
  intro X hP hw hK hc i pins s σ H E I hf st hg;subst hP hw hK;obtain ⟨f0,f1,f2,f3,f4,f5⟩:=hf it (by simp);have W:=Walks.range (prog:=X.prog) (w:=X.w) (I.ok.hd hc) it lo 1 n;refine W.item i s _ _ hg st fun v h' tk hv st' kk=>?_;obtain ⟨t,rfl⟩:=hv;have I1:Inv X pins σ H { s with heap:=h',toks:=tk }:=I.turned (fun b o hb e=>kk b o (by simpa using hb) e) f0 f1 f3 f4 f5;refine ⟨_,rfl,Zox (s:={ s with heap:=h',toks:=tk }) (n := "range_iterator") st' rfl rfl (by decide) ⟨.int (lo+i),H,I1,⟨t,?_⟩,⟨rfl,rfl⟩,st',fun b hb=>(hf b hb).1⟩⟩;rw [Int.mul_one]
 done:=by
  intro X hP hw hK hc i pins s σ H E I hf st hg;subst hP hw hK;obtain ⟨f0,f1,f2,f3,f4,f5⟩:=hf it (by simp);exact wpAny_pyNext_range_end (I.ok.hd hc) st (by have:n≤i:=hg;omega) fun h' eb=>⟨rfl,I.turned (t':=s.toks) (fun b o hb e=>eb b o hb e) f0 f1 f3 f4 f5⟩
 self:=fun _ _ _ _ _ st h=>wpAny_pyIter_rangeiter st h
section
variable {X:Cx} {tg:Expr}
def Zr3 (K:PySem.W.Frag) (tl:TE):TI:=fun σ H R=>tl σ H fun x H1=>∃ a,x=.ref a∧(∃ xs,SqL K H1 a xs)∧R (Itl K a) H1
def iTup (K:PySem.W.Frag) (tl:TE):TI:=fun σ H R=>tl σ H fun x H1=>∃ a,x=.ref a∧(∃ xs,SqT K H1 a xs)∧R (Itt K a) H1
theorem Yi {l:Expr} {tl:TE} (hl:PE X l tl):PI X tg l (Zr3 X.K tl):=by
 intro pins s σ H R I h;refine thn (hl pins s σ H _ I h) fun v s1 ⟨x,H1,I1,r1,q1⟩=>?_;obtain ⟨a,e,⟨xs,hq⟩,q⟩:=q1;subst e;cases r1
 obtain ⟨its,rv,p,hz⟩:=I1.list hq;refine wpAny_pyIter_list p.isList ?_;refine ⟨s1.heap.objs.size,[s1.heap.objs.size],_,_,H1,rfl,I1.kept (t':=s1.toks) fun b o e=>n7_ _ e,Zih a _,⟨_,n17_ _ rfl,rfl,rfl⟩,fun b hb=>?_,q⟩;have e:b=s1.heap.objs.size:=by simpa using hb
 subst e;exact I1.fpOk (n9_ _) (I1.hok.fresh (n9_ _))
theorem Zhm {l:Expr} {tl:TE} (hl:PE X l tl):PI X tg l (iTup X.K tl):=by
 intro pins s σ H R I h;refine thn (hl pins s σ H _ I h) fun v s1 ⟨x,H1,I1,r1,q1⟩=>?_;obtain ⟨a,e,⟨xs,hq⟩,q⟩:=q1;subst e;cases r1
 obtain ⟨its,rv,p,hz⟩:=I1.tuple hq;refine wpAny_pyIter_tuple (show s1.heap.IsTuple a its.toArray from p) ?_;refine ⟨s1.heap.objs.size,[s1.heap.objs.size],_,_,H1,rfl,I1.kept (t':=s1.toks) fun b o e=>n7_ _ e,Zfa a _,⟨_,n17_ _ rfl,rfl,rfl⟩,fun b hb=>?_,q⟩;have e:b=s1.heap.objs.size:=by simpa using hb
 subst e;exact I1.fpOk (n9_ _) (I1.hok.fresh (n9_ _))
theorem Zkk {pins:List (Addr×Obj)} {σ:St} {H:Hp} {s:Shared} {R:It→Hp→Prop} {E:Value→Shared→Prop} {lo hi:Int} {t u v:Tok} {tk:Nat} (I:Inv X pins σ H s) (h1:-(2^62)≤lo) (h2:lo<2^62) (h3:-(2^62)≤hi) (h4:hi<2^62)
 (q:R (Itr lo (hi-lo).toNat) H):wpAny (model X.prog X.w) X.A (pyIter (.ref s.heap.objs.size)) (PIE X pins σ tg R) E { s with heap:=s.heap.push { cls:=.type "range",data:=.fields #[.int lo t,.int hi u,.int 1 v] },toks:=tk }:=by
 refine wpAny_pyIter_range (IsRange.new ..) (small_one h1 h2 h3 h4) ?_;have I1:Inv X pins σ H { s with heap:=s.heap.push { cls:=.type "range",data:=.fields #[.int lo t,.int hi u,.int 1 v] },toks:=tk }:=I.kept fun b o e=>n7_ _ e
 refine ⟨(s.heap.push { cls:=.type "range",data:=.fields #[.int lo t,.int hi u,.int 1 v] }).objs.size,[(s.heap.push { cls:=.type "range",data:=.fields #[.int lo t,.int hi u,.int 1 v] }).objs.size],_,_,H,rfl,
  I1.kept (t':=tk) fun b o e=>n7_ _ e,Zk2 _ lo (hi-lo).toNat,?_,fun b hb=>?_,q⟩
 · have e1:lo+((0:Nat):Int)*1=lo:=by simp
   have e2:(((hi-lo).toNat:Nat):Int)-((0:Nat):Int)=Builtin.Range.rangeSize lo hi 1:=by rw [rangeSize_one];split<;>omega
   show IsRangeIter _ _ (lo+((0:Nat):Int)*1) ((((hi-lo).toNat:Nat):Int)-((0:Nat):Int)) 1
   rw [e1,e2];exact n17_ _ rfl
 · have e:b=(s.heap.push { cls:=.type "range",data:=.fields #[.int lo t,.int hi u,.int 1 v] }).objs.size:=by simpa using hb
   subst e;exact I1.fpOk (n9_ _) (I1.hok.fresh (n9_ _))
def Ztu (ta:TA):TI:=fun σ H R=>ta σ H fun vs H1=>∃ j:Int,vs=[.int j]∧-(2^62)≤j∧j<2^62∧R (Itr 0 j.toNat) H1
def Ztx (ta:TA):TI:=fun σ H R=>ta σ H fun vs H1=>∃ i j:Int,vs=[.int i,.int j]∧(-(2^62)≤i∧i<2^62∧-(2^62)≤j∧j<2^62)∧R (Itr i (j-i).toNat) H1
theorem Yz {a:Expr} {ta:TA} {p pos:Pos} (hg:Gl X "range") (hm:X.mg "range" = none) (ha:PA X [a] ta) (hs:starEach [a] X.env=[(false,eval a X.env)]:=by rfl):PI X tg (.Call (.Name "range" p) [a] [] pos) (Ztu ta):=by
 intro pins s σ H R I h;refine Call_ (Zax I hg hm boot_range (n59_ (thn (ha pos pins s σ H _ I h) fun us s1 ⟨vs,H1,I1,r1,q1⟩=>?_) hs rfl));obtain ⟨j,e,q1,q2,q⟩:=q1;subst e;cases r1 with
 | cons r rr =>
   cases rr
   obtain ⟨t,rfl⟩:=r;exact call_range_1 (Zkk I1 (by omega) (by omega) q1 q2 (by simpa using q))
theorem Zn0 {a b:Expr} {ta:TA} {p pos:Pos} (hg:Gl X "range") (hm:X.mg "range" = none) (ha:PA X [a,b] ta) (hs:starEach [a,b] X.env=[(false,eval a X.env),(false,eval b X.env)]:=by rfl) (hs2:starEach [b] X.env=[(false,eval b X.env)]:=by rfl) :
 PI X tg (.Call (.Name "range" p) [a,b] [] pos) (Ztx ta):=by
 intro pins s σ H R I h;refine Call_ (Zax I hg hm boot_range (n59_ (thn (ha pos pins s σ H _ I h) fun us s1 ⟨vs,H1,I1,r1,q1⟩=>?_) (by rw [hs,hs2]) (by rw [hs2];rfl)));obtain ⟨i,j,e,⟨q1,q2,q3,q4⟩,q⟩:=q1;subst e;cases r1 with
 | cons r rr =>
   cases rr with
   | cons r' rr =>
     cases rr
     obtain ⟨t,rfl⟩:=r;obtain ⟨t',rfl⟩:=r';exact call_range_2 (Zkk I1 q1 q2 q3 q4 q)
def tFor (wi:TI) (g:TG) (tb:TS):TS:=fun D σ H=>wi σ H fun J H1=>∃ W:Nat→Nat→St→Hp→Prop,(∃ m,W 0 m σ H1)∧∀ i m σ H,W i m σ H →
 (J.stop i H∧D.nx σ H)∨(J.go i H∧∃ N:St→Hp→Prop,(∀ σ' H',N σ' H'→∃ m',m'<m∧W (i+1) m' σ' H')∧∀ x H',J.yld i H x H'→g x σ H' fun σ2 H2=>tb { D with nx:=N,ct:=N,bk:=D.nx } σ2 H2)
def Zjx (fp:List Addr) (h:Heap):List (Addr×Obj):=fp.filterMap fun b=>(h.get? b).map fun o=>(b,o)
theorem Zah {fp:List Addr} {h:Heap} {b:Addr} {o:Obj} (hb:b∈fp) (e:h.get? b=some o):(b,o)∈Zjx fp h:=List.mem_filterMap.mpr ⟨b,hb,by rw [e];rfl⟩
theorem Zml {fp:List Addr} {h:Heap} {p:Addr×Obj} (hp:p∈Zjx fp h):p.1∈fp∧h.get? p.1=some p.2:=by
 obtain ⟨b,hb,e⟩:=List.mem_filterMap.mp hp;cases q:h.get? b with
 | none=>rw [q] at e;cases e
 | some o =>
   rw [q] at e;have e':(b,o)=p:=Option.some.inj e;subst e';exact ⟨hb,q⟩
theorem Inv.pinned {pins:List (Addr×Obj)} {σ:St} {H:Hp} {s:Shared} {fp:List Addr} (I:Inv X pins σ H s) (hf:∀ b∈fp,FpOk X pins H b) (ho:∀ b∈fp,∃ o,s.heap.get? b=some o∧∀ v,o.data≠.cell v):Inv X (pins++Zjx fp s.heap) σ H s :=
 I.pins_of fun p hp=>(n46_.mp hp).elim (fun z=>I.pin p (n24_ _ z)) fun z=>by
  obtain ⟨hb,e⟩:=Zml z;obtain ⟨f0,f1,f2,_⟩:=hf p.1 hb;obtain ⟨o,e',d⟩:=ho p.1 hb;rw [e] at e';cases e';exact ⟨e,f0,f1,f2,d⟩
theorem Inv.unpinned {pins pl:List (Addr×Obj)} {σ:St} {H:Hp} {s:Shared} (I:Inv X (pins++pl) σ H s):Inv X pins σ H s:=I.pins_of fun p hp=>I.pin p (n24_ _ (n84_ _ hp))
theorem Xi {iter:Expr} {body:List Stmt} {wi:TI} {g:TG} {tb:TS} {pos:Pos} (hp:PassesOwn (model X.prog X.w) X.A X.env X.xe) (hc:X.calm=true) (hi:PI X tg iter wi) (hg:PG X tg g) (hb:PSs X body tb)
 (hs:∀ x,foldedSetIterable iter X.env x=pure x:=by intro _;rfl):PS X (.For tg iter body [] pos) (tFor wi g tb):=by
 intro pins s σ H D I h;refine wpAny_For (thn (hi pins s σ H _ I h) fun v s1 h1=>thn h1 fun itv s2 h2=>?_) hs;obtain ⟨it,fp,tn,J,H2,e,I2,T,st2,f2,W,⟨m0,w0⟩,turn⟩:=h2;subst e;have stat:∀ {H':Hp},(∀ b∈fp,H' b=none)→∀ b∈fp,FpOk X pins H' b:=fun hn b hb=>⟨hn b hb,(f2 b hb).2⟩;refine codeAny_forLoop_any (fun n s'=>∃ i σ' H',Inv X pins σ' H' s'∧tn i s'.heap∧(∀ b∈fp,H' b=none)∧W i n σ' H') ?_ m0 ⟨0,σ,H2,I2,st2,fun b hb=>(f2 b hb).1,w0⟩;rintro n s3 ⟨i,σ3,H3,I3,st3,fr3,w3⟩
 rcases turn i n σ3 H3 w3 with ⟨stop,qn⟩|⟨go,N,hN,step⟩
 · refine wpAny_passesOwn hp (thn (T.done X rfl rfl rfl hc i pins s3 σ3 H3 X.xe I3 (stat fr3) st3 stop) fun r s4 ⟨hr,I4⟩=>?_);subst hr;exact wpAny_execs_nil ⟨σ3,H3,I4,qn⟩
 · refine wpAny_passesOwn hp (thn (T.item X rfl rfl rfl hc i pins s3 σ3 H3 X.xe I3 (stat fr3) st3 go) fun r s4 ⟨u,hr,h4⟩=>?_);subst hr;refine wpAny_passesOwn hp (thn h4 fun _ s5 ⟨x,H5,I5,r5,y5,st5,fr5⟩=>?_);have I5':=I5.pinned (stat fr5) (T.obj _ _ st5);refine wpAny_passesOwn hp (thn (hg _ s5 σ3 H5 x u _ I5' r5 (step x H5 y5)) fun _ s6 ⟨σ6,H6,I6,q6⟩=>?_);refine wpAny_passesOwn hp (thn (hb _ s6 σ6 H6 _ I6 q6) fun f s7 q7=>?_)
   have again:∀ {σ7:St} {H7:Hp},Inv X (pins++Zjx fp s5.heap) σ7 H7 s7→N σ7 H7→∃ m,m<n∧∃ i σ' H',Inv X pins σ' H' s7∧tn i s7.heap∧(∀ b∈fp,H' b=none)∧W i m σ' H':=fun {σ7 H7} I7 n7=>by
    obtain ⟨m',hm,w7⟩:=hN σ7 H7 n7;refine ⟨m',hm,i+1,σ7,H7,I7.unpinned,T.keep _ _ _ st5 fun b hb o e=>(I7.pin (b,o) (n24_ _ (n24_ _ (Zah hb e)))).1,fun b hb=>?_,w7⟩;obtain ⟨o,e,d⟩:=T.obj _ _ st5 b hb;exact (I7.pin (b,o) (n24_ _ (n24_ _ (Zah hb e)))).2.1
   cases f with
   | next=>obtain ⟨σ7,H7,I7,n7⟩:=q7;exact again I7 n7
   | cont=>obtain ⟨σ7,H7,I7,n7⟩:=q7;exact again I7 n7
   | brk=>obtain ⟨σ7,H7,I7,q7⟩:=q7;exact ⟨σ7,H7,I7.unpinned,q7⟩
   | ret v=>obtain ⟨x7,σ7,H7,I7,r7,q7⟩:=q7;exact ⟨x7,σ7,H7,I7.unpinned,r7,q7⟩
end
theorem Zae {lo:Int} {n:Nat} {g:TG} {tb:TS} {D:Ends} {σ:St} {H:Hp} (Pv:Nat→St→Hp→Prop) (h0:Pv 0 σ H)
 (hs:∀ i σ H,i<n→Pv i σ H→g (.int (lo+i)) σ H fun σ2 H2=>tb { D with nx:=Pv (i+1),ct:=Pv (i+1),bk:=D.nx } σ2 H2) (hd:∀ σ H,Pv n σ H→D.nx σ H) :
 ∃ W:Nat→Nat→St→Hp→Prop,(∃ m,W 0 m σ H)∧∀ i m σ H,W i m σ H →
   ((Itr lo n).stop i H∧D.nx σ H)∨((Itr lo n).go i H∧∃ N:St→Hp→Prop,(∀ σ' H',N σ' H'→∃ m',m'<m∧W (i+1) m' σ' H')∧∀ x H',(Itr lo n).yld i H x H'→g x σ H' fun σ2 H2=>tb { D with nx:=N,ct:=N,bk:=D.nx } σ2 H2):=by
 refine ⟨fun i m σ H=>m=n-i∧i≤n∧Pv i σ H,⟨n,by simp,n60_ _,h0⟩,?_⟩;rintro i m σ H ⟨rfl,hi,p⟩
 by_cases hlt:i<n
 · refine .inr ⟨hlt,Pv (i+1),fun σ' H' p'=>⟨n-(i+1),by omega,rfl,hlt,p'⟩,fun x H' y=>?_⟩;obtain ⟨e,y⟩:=y;subst e y;exact hs i σ _ hlt p
 · have e:i=n:=by omega
   subst e;exact .inl ⟨n9_ _,hd σ H p⟩
theorem Zbg {c:TT} {tb:TS} {D:Ends} {σ:St} {H:Hp} (Pv:St→Hp→Prop) (μ:St→Hp→Nat) (h0:Pv σ H)
 (hs:∀ σ H,Pv σ H→c σ H fun b H1=>if b=true then tb { D with nx:=fun σ' H'=>Pv σ' H'∧μ σ' H'<μ σ H,ct:=fun σ' H'=>Pv σ' H'∧μ σ' H'<μ σ H,bk:=D.nx } σ H1 else D.nx σ H1)
 (mono:∀ σ H Q Q',(∀ b H1,Q b H1→Q' b H1)→c σ H Q→c σ H Q'):Zqa c tb D σ H:=by
 refine ⟨fun m σ H=>m=μ σ H∧Pv σ H,⟨_,rfl,h0⟩,?_⟩;rintro m σ H ⟨rfl,p⟩
 refine mono σ H _ _ (fun b H1 q=>?_) (hs σ H p);cases b with
 | true=>exact ⟨_,fun σ' H' ⟨p',l⟩=>⟨_,l,rfl,p'⟩,q⟩
 | false=>exact q
abbrev R2:=V→V→Hp→VK→Prop
def OpR (X:Cx) (f:Value→Value→Sem Value) (r:R2):Prop :=
 ∀ (pins:List (Addr×Obj)) (s:Shared) (σ:St) (H:Hp) (x y:V) (v u:Value) (Q:VK),Inv X pins σ H s→RelV x v→RelV y u→r x y H Q →
   wpAny (model X.prog X.w) X.A (f v u) (EP X pins σ Q) X.xe s
def UnR (X:Cx) (f:Value→Sem Value) (r:V→Hp→VK→Prop):Prop :=
 ∀ (pins:List (Addr×Obj)) (s:Shared) (σ:St) (H:Hp) (x:V) (v:Value) (Q:VK),Inv X pins σ H s→RelV x v→r x H Q →
   wpAny (model X.prog X.w) X.A (f v) (EP X pins σ Q) X.xe s
def Zas (X:Cx) (f:Value) (r:List V→Hp→VK→Prop):Prop :=
 ∀ (pins:List (Addr×Obj)) (s:Shared) (σ:St) (H:Hp) (xs:List V) (us:List Value) (Q:VK),Inv X pins σ H s→Vals xs us→r xs H Q →
   wpAny (model X.prog X.w) X.A (call f us) (EP X pins σ Q) X.xe s
def TruR (X:Cx) (r:V→Hp→(Bool→Hp→Prop)→Prop):Prop :=
 ∀ (pins:List (Addr×Obj)) (s:Shared) (σ:St) (H:Hp) (x:V) (v:Value) (Q:Bool→Hp→Prop),Inv X pins σ H s→RelV x v→r x H Q →
   wpAny (model X.prog X.w) X.A (truthy v) (TP X pins σ Q) X.xe s
def tOp (r:R2) (ta tb:TE):TE:=fun σ H Q=>ta σ H fun x H1=>tb σ H1 fun y H2=>r x y H2 Q
def tUn (r:V→Hp→VK→Prop) (ta:TE):TE:=fun σ H Q=>ta σ H fun x H1=>r x H1 Q
def rI (C:Int→Int→Prop) (g:Int→Int→V):R2:=fun x y H Q=>∃ i j,x=.int i∧y=.int j∧C i j∧Q (g i j) H
def rI0 (g:Int→Int→V):R2:=fun x y H Q=>∃ i j,x=.int i∧y=.int j∧Q (g i j) H
def rU (g:Int→V):V→Hp→VK→Prop:=fun x H Q=>∃ i,x=.int i∧Q (g i) H
section
variable {X:Cx} {a b c:Expr} {ta tb tc:TE} {pos:Pos}
theorem binT (ha:PE X a ta) (hb:PE X b tb) {pins:List (Addr×Obj)} {s:Shared} {σ:St} {H:Hp} {R:V→V→Hp→Prop} (I:Inv X pins σ H s)
 (h:ta σ H fun x H1=>tb σ H1 fun y H2=>R x y H2) {Q:Value→Shared→Prop} {f:Value→Value→Sem Value}
 (hf:∀ v u s2 x y H2,Inv X pins σ H2 s2→RelV x v→RelV y u→R x y H2→wpAny (model X.prog X.w) X.A (f v u) Q X.xe s2) :
 wpAny (model X.prog X.w) X.A (eval a X.env) (fun v s₁=>wpAny (model X.prog X.w) X.A (eval b X.env) (fun u s₂=>wpAny (model X.prog X.w) X.A (f v u) Q X.xe s₂) X.xe s₁) X.xe s:=by
 refine thn (ha pins s σ H _ I h) fun v s1 ⟨x,H1,I1,r1,q1⟩=>?_;refine thn (hb pins s1 σ H1 _ I1 q1) fun u s2 ⟨y,H2,I2,r2,q2⟩=>?_;exact hf v u s2 x y H2 I2 r1 r2 q2
theorem Zm {op:Operator} {r:R2} (ho:OpR X (binaryOp op) r) (ha:PE X a ta) (hb:PE X b tb):PE X (.BinOp a op b pos) (tOp r ta tb):=by
 intro pins s σ H Q I h;exact wpAny_BinOp (binT ha hb I h fun v u s2 x y H2 I2 rx ry q=>ho pins s2 σ H2 x y v u Q I2 rx ry q)
theorem Zf1 {op:UnaryOp} {r:V→Hp→VK→Prop} (ho:UnR X (unaryOp op) r) (ha:PE X a ta):PE X (.UnaryOp op a pos) (tUn r ta):=by
 intro pins s σ H Q I h;exact UnaryOp_ (thn (ha pins s σ H _ I h) fun v s1 ⟨x,H1,I1,r1,q1⟩=>ho pins s1 σ H1 x v Q I1 r1 q1)
theorem opI {f:Value→Value→Sem Value} {C:Int→Int→Prop} {g:Int→Int→Int}
 (rule:∀ (i j:Int) (t u:Tok) (s:Shared) (Q:Value→Shared→Prop) (E:Value→Shared→Prop),C i j→Q (.int (g i j) s.toks) { s with toks:=s.toks+1 }→wpAny (model X.prog X.w) X.A (f (.int i t) (.int j u)) Q E s) :
 OpR X f (rI C fun i j=>.int (g i j)):=by
 intro pins s σ H x y v u Q I rx ry h;obtain ⟨i,j,rfl,rfl,hc,q⟩:=h;obtain ⟨t,rfl⟩:=rx;obtain ⟨t',rfl⟩:=ry;exact rule i j t t' s _ _ hc ⟨.int (g i j),H,I.tok _,⟨_,rfl⟩,q⟩
theorem opI0 {f:Value→Value→Sem Value} {g:Int→Int→Int}
 (rule:∀ (i j:Int) (t u:Tok) (s:Shared) (Q:Value→Shared→Prop) (E:Value→Shared→Prop),Q (.int (g i j) s.toks) { s with toks:=s.toks+1 }→wpAny (model X.prog X.w) X.A (f (.int i t) (.int j u)) Q E s) :
 OpR X f (rI0 fun i j=>.int (g i j)):=by
 intro pins s σ H x y v u Q I rx ry h;obtain ⟨i,j,rfl,rfl,q⟩:=h;obtain ⟨t,rfl⟩:=rx;obtain ⟨t',rfl⟩:=ry;exact rule i j t t' s _ _ ⟨.int (g i j),H,I.tok _,⟨_,rfl⟩,q⟩
theorem opB0 {f:Value→Value→Sem Value} {g:Int→Int→Bool}
 (rule:∀ (i j:Int) (t u:Tok) (s:Shared) (Q:Value→Shared→Prop) (E:Value→Shared→Prop),Q (.bool (g i j)) s→wpAny (model X.prog X.w) X.A (f (.int i t) (.int j u)) Q E s) :
 OpR X f (rI0 fun i j=>.bl (g i j)):=by
 intro pins s σ H x y v u Q I rx ry h;obtain ⟨i,j,rfl,rfl,q⟩:=h;obtain ⟨t,rfl⟩:=rx;obtain ⟨t',rfl⟩:=ry;exact rule i j t t' s _ _ ⟨.bl (g i j),H,I,rfl,q⟩
def CPow (i j:Int):Prop:=0≤j∧j≤1000000∧i.natAbs<2^64
theorem Zlm (k:Nat):(0:Int)≤2^k:=by
 rw [two_pow_cast];exact n97_ _
theorem Yx:OpR X (binaryOp .Add) (rI0 fun i j=>.int (i+j)):=opI0 fun _ _ _ _ _ _ _ q=>add_int q
theorem Zau:OpR X (binaryOp .Sub) (rI0 fun i j=>.int (i-j)):=opI0 fun _ _ _ _ _ _ _ q=>sub_int q
theorem Xz:OpR X (binaryOp .Mod) (rI (fun _ j=>j≠0) fun i j=>.int (i.fmod j)):=opI fun _ _ _ _ _ _ _ hc q=>mod_int' hc q
theorem Zpy:OpR X (binaryOp .Pow) (rI CPow fun i j=>.int (i^j.toNat)):=opI fun _ _ _ _ _ _ _ hc q=>pow_int_small hc.1 hc.2.1 hc.2.2 q
theorem Ze2:OpR X (binaryOp .RShift) (rI (fun _ j=>0≤j) fun i j=>.int (i/2^j.toNat)):=opI fun i j _ _ _ _ _ hc q =>
 rshift_int hc (by rw [n93_ i (Zlm _)];exact q)
theorem unI {f:Value→Sem Value} {g:Int→Int}
 (rule:∀ (i:Int) (t:Tok) (s:Shared) (Q:Value→Shared→Prop) (E:Value→Shared→Prop),Q (.int (g i) s.toks) { s with toks:=s.toks+1 }→wpAny (model X.prog X.w) X.A (f (.int i t)) Q E s) :
 UnR X f (rU fun i=>.int (g i)):=by
 intro pins s σ H x v Q I rx h;obtain ⟨i,rfl,q⟩:=h;obtain ⟨t,rfl⟩:=rx;exact rule i t s _ _ ⟨.int (g i),H,I.tok _,⟨_,rfl⟩,q⟩
theorem Zb7:UnR X (unaryOp .USub) (rU fun i=>.int (-i)):=unI fun _ _ _ _ _ q=>neg_int q
end
def scal:V→V→Bool
 | .non,.non=>true|.non,.int _=>true|.int _,.non=>true|.non,.bl _=>true|.bl _,.non=>true|.non,.str _=>true|.str _,.non=>true
 | .int _,.int _=>true|.bl _,.bl _=>true|.str _,.str _=>true|.byt _,.byt _=>true
 | .int _,.str _=>true|.str _,.int _=>true|.bl _,.str _=>true|.str _,.bl _=>true
 | _,_=>false
def rEq:R2:=fun x y H Q=>scal x y=true∧Q (.bl (decide (x=y))) H
def rNe:R2:=fun x y H Q=>scal x y=true∧Q (.bl (!decide (x=y))) H
theorem Zl9 {i j:Int}:decide (V.int i=V.int j)=(i == j):=by
 rw [Bool.eq_iff_iff]
 simp
theorem Zpu {i j:Bool}:decide (V.bl i=V.bl j)=(i == j):=by
 rw [Bool.eq_iff_iff]
 simp
theorem Zm6 {i j:Str}:decide (V.str i=V.str j)=(i == j):=by
 rw [Bool.eq_iff_iff]
 simp
theorem Zm1 {i j:Array UInt8}:decide (V.byt i=V.byt j)=(i.toList == j.toList):=by
 rw [Bool.eq_iff_iff];cases i
 cases j
 simp
section
variable {X:Cx} {a b c:Expr} {ta tb tc:TE} {pos:Pos}
theorem Yk {pins:List (Addr×Obj)} {σ:St} {H:Hp} {s:Shared} {Q:VK} {k k':Bool} (I:Inv X pins σ H s) (q:Q (.bl k) H) (e:k=k'):EP X pins σ Q (.bool k') s:=by
 subst e;exact ⟨.bl k,H,I,rfl,q⟩
theorem Zez:OpR X (compareOp .Eq) rEq:=by
 intro pins s σ H x y v u Q I rx ry h;obtain ⟨hs,q⟩:=h;cases x with
 | non =>
   cases rx
   cases y with
   | non=>cases ry;exact PySem.EqNone.eq_none_none (Yk I q (by simp))
   | bl j=>cases ry;exact PySem.EqNone.eq_none_bool (Yk I q (by simp))
   | int j=>obtain ⟨t',rfl⟩:=ry;exact PySem.EqNone.eq_none_int (Yk I q (by simp))
   | str j=>obtain ⟨t',rfl⟩:=ry;exact PySem.EqNone.eq_none_str (Yk I q (by simp))
   | _=>exact absurd (show false=true from hs) n29_
 | bl i =>
   cases rx
   cases y with
   | non=>cases ry;exact PySem.EqNone.eq_bool_none (Yk I q (by simp))
   | bl j=>cases ry;exact eq_bool (Yk I q Zpu)
   | str j=>obtain ⟨t',rfl⟩:=ry;exact PySem.EqMixed.eq_bool_str (Yk I q (by simp))
   | _=>exact absurd (show false=true from hs) n29_
 | int i =>
   obtain ⟨t,rfl⟩:=rx;cases y with
   | non=>cases ry;exact PySem.EqNone.eq_int_none (Yk I q (by simp))
   | int j=>obtain ⟨t',rfl⟩:=ry;exact eq_int (Yk I q Zl9)
   | str j=>obtain ⟨t',rfl⟩:=ry;exact PySem.EqMixed.eq_int_str (Yk I q (by simp))
   | _=>exact absurd (show false=true from hs) n29_
 | str i =>
   obtain ⟨t,rfl⟩:=rx;cases y with
   | non=>cases ry;exact PySem.EqNone.eq_str_none (Yk I q (by simp))
   | bl j=>cases ry;exact PySem.EqMixed.eq_str_bool (Yk I q (by simp))
   | int j=>obtain ⟨t',rfl⟩:=ry;exact PySem.EqMixed.eq_str_int (Yk I q (by simp))
   | str j=>obtain ⟨t',rfl⟩:=ry;exact eq_str (Yk I q Zm6)
   | _=>exact absurd (show false=true from hs) n29_
 | byt i =>
   obtain ⟨t,rfl⟩:=rx;cases y with
   | byt j=>obtain ⟨t',rfl⟩:=ry;exact PySem.W.eq_bytes (Yk I q Zm1)
   | _=>exact absurd (show false=true from hs) n29_
 | _=>cases y<;>exact absurd (show false=true from hs) n29_
theorem Ze1:OpR X (compareOp .NotEq) rNe:=by
 intro pins s σ H x y v u Q I rx ry h;obtain ⟨hs,q⟩:=h;cases x with
 | non =>
   cases rx
   cases y with
   | non=>cases ry;exact PySem.EqNone.ne_none_none (Yk I q (by simp))
   | bl j=>cases ry;exact PySem.EqNone.ne_none_bool (Yk I q (by simp))
   | int j=>obtain ⟨t',rfl⟩:=ry;exact PySem.EqNone.ne_none_int (Yk I q (by simp))
   | str j=>obtain ⟨t',rfl⟩:=ry;exact PySem.EqNone.ne_none_str (Yk I q (by simp))
   | _=>exact absurd (show false=true from hs) n29_
 | bl i =>
   cases rx
   cases y with
   | non=>cases ry;exact PySem.EqNone.ne_bool_none (Yk I q (by simp))
   | bl j=>cases ry;exact ne_bool (Yk I q (congrArg not Zpu))
   | str j=>obtain ⟨t',rfl⟩:=ry;exact PySem.EqMixed.ne_bool_str (Yk I q (by simp))
   | _=>exact absurd (show false=true from hs) n29_
 | int i =>
   obtain ⟨t,rfl⟩:=rx;cases y with
   | non=>cases ry;exact PySem.EqNone.ne_int_none (Yk I q (by simp))
   | int j=>obtain ⟨t',rfl⟩:=ry;exact ne_int (Yk I q (congrArg not Zl9))
   | str j=>obtain ⟨t',rfl⟩:=ry;exact PySem.EqMixed.ne_int_str (Yk I q (by simp))
   | _=>exact absurd (show false=true from hs) n29_
 | str i =>
   obtain ⟨t,rfl⟩:=rx;cases y with
   | non=>cases ry;exact PySem.EqNone.ne_str_none (Yk I q (by simp))
   | bl j=>cases ry;exact PySem.EqMixed.ne_str_bool (Yk I q (by simp))
   | int j=>obtain ⟨t',rfl⟩:=ry;exact PySem.EqMixed.ne_str_int (Yk I q (by simp))
   | str j=>obtain ⟨t',rfl⟩:=ry;exact ne_str (Yk I q (congrArg not Zm6))
   | _=>exact absurd (show false=true from hs) n29_
 | byt i =>
   obtain ⟨t,rfl⟩:=rx;cases y with
   | byt j=>obtain ⟨t',rfl⟩:=ry;exact PySem.W.ne_bytes (Yk I q (congrArg not Zm1))
   | _=>exact absurd (show false=true from hs) n29_
 | _=>cases y<;>exact absurd (show false=true from hs) n29_
theorem Zhp:OpR X (compareOp .Lt) (rI0 fun i j=>.bl (decide (i<j))):=opB0 fun _ _ _ _ _ _ _ q=>lt_int q
theorem Zrw:OpR X (compareOp .LtE) (rI0 fun i j=>.bl (decide (i≤j))):=opB0 fun _ _ _ _ _ _ _ q=>le_int q
theorem Zdi:OpR X (compareOp .Gt) (rI0 fun i j=>.bl (decide (j<i))):=opB0 fun _ _ _ _ _ _ _ q=>gt_int q
theorem Zny:OpR X (compareOp .Is) (fun x y H Q=>y=.non∧Q (.bl (decide (x=.non))) H):=by
 intro pins s σ H x y v u Q I rx ry h;obtain ⟨rfl,q⟩:=h;cases ry
 refine is_none_gen (Yk I q ?_)
 cases x<;>first
  | (cases rx;rfl)
  | (obtain ⟨t,rfl⟩:=rx;rfl)
theorem Znm:OpR X (compareOp .IsNot) (fun x y H Q=>y=.non∧Q (.bl (!decide (x=.non))) H):=by
 intro pins s σ H x y v u Q I rx ry h;obtain ⟨rfl,q⟩:=h;cases ry
 refine isnot_none_gen (Yk I q ?_)
 cases x<;>first
  | (cases rx;rfl)
  | (obtain ⟨t,rfl⟩:=rx;rfl)
theorem Zw (b:Expr) {op:CmpOp} (h:op≠.In:=by decide) (h2:op≠.NotIn:=by decide):behindInMarks op b=false:=by
 have e1:(op == CmpOp.In)=false:=by cases op<;>first|rfl|exact absurd rfl h
 have e2:(op == CmpOp.NotIn)=false:=by cases op<;>first|rfl|exact absurd rfl h2
 cases b<;>simp [behindInMarks,e1,e2]
theorem Zc1 {op:CmpOp} {r:R2} (ho:OpR X (compareOp op) r) (ha:PE X a ta) (hb:PE X b tb) (hm:behindInMarks op b=false):PE X (.Compare a [op] [b] pos) (tOp r ta tb):=by
 intro pins s σ H Q I h;exact wpAny_Compare1 (binT ha hb I h fun v u s2 x y H2 I2 rx ry q=>ho pins s2 σ H2 x y v u Q I2 rx ry q) hm
def Zts (t:TE):TT:=fun σ H Q=>t σ H fun x H'=>∃ k,x=.bl k∧Q k H'
theorem Zq {op:CmpOp} {r:R2} (ho:OpR X (compareOp op) r) (ha:PE X a ta) (hb:PE X b tb) (hm:behindInMarks op b=false):PT X (.Compare a [op] [b] pos) (Zts (tOp r ta tb)):=by
 intro pins s σ H Q I h
 refine wpAny_isTrue_Compare1 (thn (ha pins s σ H _ I h) fun v s1 ⟨x,H1,I1,r1,q1⟩=>thn (hb pins s1 σ H1 _ I1 q1) fun u s2 ⟨y,H2,I2,r2,q2⟩ =>
  thn (ho pins s2 σ H2 x y v u _ I2 r1 r2 q2) fun c s3 ⟨z,H3,I3,r3,k,e,q3⟩=>?_) hm
 subst e;cases r3
 exact wpAny_truthy_bool ⟨H3,I3,q3⟩
def TruV (K:PySem.W.Frag) (x:V) (H:Hp) (k:Bool):Prop :=
 match x with
 | .non=>k=false
 | .bl b=>k=b
 | .int i=>k=(i != 0)
 | .str y=>y.length≤sizeLine∧k=((y.length:Int) != 0)
 | .byt y=>y.size≤sizeLine∧k=((y.size:Int) != 0)
 | .ref p=>(∃ xs,SqL K H p xs∧k = !xs.isEmpty)∨(∃ xs,SqT K H p xs∧k = !xs.isEmpty)∨∃ kvs,H p=some (.dK kvs)∧k = !kvs.isEmpty
 | _=>False
theorem Zle {κ:Type} {kvs:List (κ×V)} {vs:List (κ×Value)} (r:KV kvs vs):(!vs.isEmpty) = !kvs.isEmpty:=by
 cases r<;>rfl
theorem Zfr {xs:List V} {its:List Value} (r:Vals xs its):(!its.toArray.isEmpty) = !xs.isEmpty:=by
 cases r<;>simp
theorem Zg3:(sizeLine:Nat)<2^63:=by rw [sizeLine_eq];decide
theorem Zsa:TruR X (fun x H Q=>∃ k,TruV X.K x H k∧Q k H):=by
 intro pins s σ H x v Q I rx h;obtain ⟨k,e,q⟩:=h;have hl:=Zg3;have hs:sizeLine=16777216:=sizeLine_eq;cases x with
 | non =>
   cases rx
   have e':k=false:=e;subst e';exact truthy_none ⟨H,I,q⟩
 | bl b =>
   cases rx
   have e':k=b:=e;subst e';exact wpAny_truthy_bool ⟨H,I,q⟩
 | int i =>
   obtain ⟨t,rfl⟩:=rx;have e':k=(i != 0):=e;subst e';exact PySem.P.truthy_int ⟨H,I,q⟩
 | str y =>
   obtain ⟨t,rfl⟩:=rx;obtain ⟨hy,e'⟩:y.length≤sizeLine∧k=((y.length:Int) != 0):=e;subst e';exact PySem.P.truthy_str (by omega) ⟨H,I.tok _,q⟩
 | byt y =>
   obtain ⟨t,rfl⟩:=rx;obtain ⟨hy,e'⟩:y.size≤sizeLine∧k=((y.size:Int) != 0):=e;subst e';exact PySem.W.truthy_bytes (by omega) ⟨H,I.tok _,q⟩
 | ref p =>
   cases rx
   have e':(∃ xs,SqL X.K H p xs∧k = !xs.isEmpty)∨(∃ xs,SqT X.K H p xs∧k = !xs.isEmpty)∨∃ kvs,H p=some (.dK kvs)∧k = !kvs.isEmpty:=e
   rcases e' with ⟨xs,hx,e'⟩|⟨xs,hx,e'⟩|⟨kvs,hx,e'⟩
   · subst e';obtain ⟨its,r,pl,hz⟩:=I.list hx;have hlen:=r.length;exact wpAny_truthy_list pl.isList (by simp only [n16_];omega) ⟨H,I.tok _,by rw [Zfr r];exact q⟩
   · subst e';obtain ⟨its,r,pl,hz⟩:=I.tuple hx;have hlen:=r.length;exact truthy_tuple pl (by simp only [n16_];omega) ⟨H,I.tok _,by rw [Zfr r];exact q⟩
   · subst e';obtain ⟨hz,hS,vs,r,m⟩:kvs.length≤sizeLine∧(p == sysModules)=false∧∃ vs,KV kvs vs∧s.heap.DictOf (Zjl X.prog X.w) p vs:=I.hok p _ hx;have hlen:kvs.length=vs.length:=Paired.length r;exact wpAny_truthy_dict hS m (by omega) ⟨H,I.tok _,by rw [Zle r];exact q⟩
 | _=>exact (show False from e).elim
theorem Yg (ha:PE X a ta) (he:∀ whole,isTrue a X.env whole=(do let v ← whole;standAt a.pos;holding [v] (truthy v))) :
 PT X a (fun σ H Q=>ta σ H fun x H'=>∃ k,TruV X.K x H' k∧Q k H'):=by
 intro pins s σ H Q I h;exact isTrue_plain (thn (ha pins s σ H _ I h) fun v s1 ⟨x,H1,I1,r1,q1⟩=>Zsa pins s1 σ H1 x v Q I1 r1 q1) (he _)
theorem Zli {x:V} {us:List Value} (r:Vals [x] us):∃ u,us=[u]∧RelV x u:=by
 cases r with
 | cons r1 r2=>cases r2;exact ⟨_,rfl,r1⟩
theorem Zrf {x y:V} {us:List Value} (r:Vals [x,y] us):∃ u w',us=[u,w']∧RelV x u∧RelV y w':=by
 cases r with
 | cons r1 r2 =>
   cases r2 with
   | cons r3 r4=>cases r4;exact ⟨_,_,rfl,r1,r3⟩
theorem Y2:Zas X (.builtin "abs") (fun xs H Q=>∃ i,xs=[.int i]∧Q (.int (if i<0 then -i else i)) H):=by
 intro pins s σ H xs us Q I r h;obtain ⟨i,rfl,q⟩:=h;obtain ⟨u,rfl,t,rfl⟩:=Zli r;exact call_abs_int fun u tk=>⟨.int (if i<0 then -i else i),H,I.tok _,⟨_,rfl⟩,q⟩
theorem Zcb (hc:X.calm=true):Zas X (.builtin "max") (fun xs H Q=>∃ i j,xs=[.int i,.int j]∧Q (.int (if j>i then j else i)) H):=by
 intro pins s σ H xs us Q I r h;obtain ⟨i,j,rfl,q⟩:=h;obtain ⟨u,w',rfl,⟨t,rfl⟩,⟨t',rfl⟩⟩:=Zrf r;refine max_two_ints (I.ok.hd hc) fun h' tk k=>⟨_,H,I.kept k,?_,q⟩
 by_cases hj:j>i
 · rw [if_pos hj,if_pos hj];exact ⟨_,rfl⟩
 · rw [if_neg hj,if_neg hj];exact ⟨_,rfl⟩
theorem Zek (hc:X.calm=true):Zas X (.builtin "min") (fun xs H Q=>∃ i j,xs=[.int i,.int j]∧Q (.int (if j<i then j else i)) H):=by
 intro pins s σ H xs us Q I r h;obtain ⟨i,j,rfl,q⟩:=h;obtain ⟨u,w',rfl,⟨t,rfl⟩,⟨t',rfl⟩⟩:=Zrf r;refine min_two_ints (I.ok.hd hc) fun h' tk k=>⟨_,H,I.kept k,?_,q⟩
 by_cases hj:j<i
 · rw [if_pos hj,if_pos hj];exact ⟨_,rfl⟩
 · rw [if_neg hj,if_neg hj];exact ⟨_,rfl⟩
theorem Znu:Zas X (.type "int") (fun xs H Q=>(∃ i,xs=[.int i]∧Q (.int i) H)∨∃ k,xs=[.bl k]∧Q (.int (if k then 1 else 0)) H):=by
 intro pins s σ H xs us Q I r h
 rcases h with ⟨i,rfl,q⟩|⟨k,rfl,q⟩
 · obtain ⟨u,rfl,t,rfl⟩:=Zli r;exact call_int_int ⟨.int i,H,I,⟨_,rfl⟩,q⟩
 · obtain ⟨u,rfl,r1⟩:=Zli r;cases r1
   exact call_int_bool ⟨.int (if k then 1 else 0),H,I.tok _,⟨_,rfl⟩,q⟩
end
structure ObjM (h:Heap) (x dx C:Addr) (mA:Str→Option Value):Prop where
 obj:h.get? x=some (PySem.W.instObj C dx)
 ns:h.Ns1 dx mA
 ne:dx≠x
theorem Zly {h:Heap} {dx:Addr} {mA:Str→Option Value} (n:h.Ns1 dx mA):∃ od,h.get? dx=some od∧∀ name,PySem.W.lookIn name od=some (mA name):=by
 obtain ⟨o,es,ep,ho,hd,hk,_,hm⟩:=n;refine ⟨o,ho,fun name=>?_⟩;have e:=hm name;unfold nsFind findBy at e;rw [← Array.find?_toList] at e;unfold PySem.W.lookIn;rw [hd];dsimp only;split
 · rename_i y q
   rw [q] at e;exact congrArg some e
 · rename_i q
   rw [q] at e
   have a:es.toList.any (·.refKey)=false:=by
    rw [List.any_eq_false];intro y hy;obtain ⟨z,t,hkey⟩:=hk y (Array.mem_toList_iff.mp hy);simp [DictEntry.refKey,hkey]
   have a':¬ es.toList.any (·.refKey)=true:=by rw [a];exact n29_
   rw [if_neg a'];exact congrArg some e
theorem ObjM.look {h:Heap} {x dx C:Addr} {mA:Str→Option Value} (I:ObjM h x dx C mA):∃ od,PySem.W.InstAt h x (PySem.W.instObj C dx) C (some od)∧∀ name,PySem.W.lookIn name od=some (mA name) :=
 let ⟨od,ho,hl⟩:=Zly I.ns
 ⟨od,⟨I.obj,rfl,rfl,ho⟩,hl⟩
section
variable {prog:Program} {w:World} {A:Around} {E:Value→Shared→Prop} {s:Shared} {K:PySem.W.Frag} {x dx C f:Addr} {mA:Str→Option Value} {name:Str} {v:Value}
end
section
variable {P:Program} {w:World} {H H':Hp} {h h':Heap} {a C dx:Addr} {fs fs':List (Str×V)}
theorem Zqn (hok:HOk P w H h) (e:H a=some (.ins C dx fs)):∃ mA,ObjM h a dx C mA∧(∀ f,RelO (fs.lookup f) (mA f))∧PySem.Within mA (fs.map (·.1))∧fs.length≤1000∧H dx=some (.own a):=by
 obtain ⟨d,z,ne,ob,mA,n,r,q⟩:=(show ObjOk P w H h a (.ins C dx fs) from hok a _ e);exact ⟨mA,⟨ob,n,ne⟩,r,q,z,d⟩
end
structure Cls (K:PySem.W.Frag) (C:Addr):Prop where
 pg:PySem.W.plainGet K C Str.empty=true
 hd:PySem.W.hasDictIn K C=true
 po:PySem.W.plainOver K C=true
 sa:PySem.W.findIn K (.ref C) "__setattr__" = some (some (.builtin "object.__setattr__"))
theorem Cls.get {K:PySem.W.Frag} {C:Addr} (c:Cls K C) (f:Str):PySem.W.plainGet K C f=true:=c.pg
section
variable {X:Cx} {pins:List (Addr×Obj)} {σ:St} {H:Hp} {s:Shared} {a C dx:Addr} {fs:List (Str×V)} {f:Str} {v:V} {A:Around} {E:Value→Shared→Prop}
end
section
variable {X:Cx} {o e value:Expr} {f:Str} {pos pos' tpos:Pos} {ta tv:TE}
end
section
variable {X:Cx} {pins:List (Addr×Obj)} {σ:St} {H:Hp} {s:Shared} {A:Around} {E:Value→Shared→Prop} {Q:Value→Shared→Prop} {c:Value} {b:Bool}
inductive TyOf (K:PySem.W.Frag) (H:Hp):V→Value→Prop where
 | non:TyOf K H .non (.type "NoneType")
 | bl (x:Bool):TyOf K H (.bl x) (.type "bool")
 | int (i:Int):TyOf K H (.int i) (.type "int")
 | str (x:Str):TyOf K H (.str x) (.type "str")
 | flt (x:UInt64):TyOf K H (.flt x) (.type "float")
 | lst {a:Addr} {xs:List V} (e:H a=some (.lst xs)):TyOf K H (.ref a) (.type "list")
 | frz {a:Addr} {o:Obj} {xs:List V} (e:H a=some (.frz o (.lst xs))):TyOf K H (.ref a) (.type "list")
 | tup {a:Addr} {xs:List V} (e:H a=some (.tup xs)):TyOf K H (.ref a) (.type "tuple")
 | dK {a:Addr} {kvs:List (Key×V)} (e:H a=some (.dK kvs)):TyOf K H (.ref a) (.type "dict")
 | dT {a:Addr} {kvs:List (List Key×V)} (e:H a=some (.dT kvs)):TyOf K H (.ref a) (.type "dict")
 | ins {a C dx:Addr} {fs:List (Str×V)} (e:H a=some (.ins C dx fs)) (cl:Cls K C) (ha:PySem.W.findIn K (.ref C) "__class__" = some (some (.builtin "object.__class__")))
    (hn:PySem.W.specialIn K (.builtin "object.__class__") "__get__" = some (some (.builtin "getset_descriptor.__get__"))) (htk:PySem.W.takesIn K (.builtin "object.__class__")=some true)
    (hm:PySem.W.mroIn K C (.type "object")=some true):TyOf K H (.ref a) (.ref C)
theorem Zmx {x:V} {u t:Value} (I:Inv X pins σ H s) (rx:RelV x u) (ty:TyOf X.K H x t) (e:PySem.W.kitOne X.K t c=some b) (h:∀ tk,Q (.bool b) { s with toks:=tk }) :
 wpAny (model X.prog X.w) A (call (.builtin "isinstance") [u,c]) Q E s:=by
 cases ty with
 | non=>cases (show u=Value.none from rx);exact n76_ PySem.W.kitx_none I.kIn True.intro e (fun z=>nomatch z) h
 | bl y=>cases (show u=Value.bool y from rx);exact n76_ PySem.W.kitx_bool I.kIn True.intro e (fun z=>nomatch z) h
 | int i=>obtain ⟨t,q⟩:=(show ∃ t,u=Value.int i t from rx);cases q;exact n76_ PySem.W.kitx_int I.kIn True.intro e (fun z=>nomatch z) h
 | str y=>obtain ⟨t,q⟩:=(show ∃ t,u=Value.str y t from rx);cases q;exact n76_ PySem.W.kitx_str I.kIn True.intro e (fun z=>nomatch z) h
 | flt y=>obtain ⟨t,q⟩:=(show ∃ t,u=Value.float y t from rx);cases q;exact n76_ PySem.W.kitx_float I.kIn True.intro e (fun z=>nomatch z) h
 | @lst a xs ea =>
   cases (show u=Value.ref a from rx)
   obtain ⟨_,_,n,_,h1⟩:=(show ObjOk X.prog X.w H s.heap a (.lst xs) from I.hok a _ ea);exact n76_ PySem.W.kitx_list I.kIn ⟨_,h1,rfl⟩ e (fun z=>nomatch z) h
 | @frz a ob xs ea =>
   cases (show u=Value.ref a from rx)
   obtain ⟨_,_,_,n,_,h1⟩:=(show ObjOk X.prog X.w H s.heap a (.frz ob (.lst xs)) from I.hok a _ ea);exact n76_ PySem.W.kitx_list I.kIn ⟨_,h1,rfl⟩ e (fun z=>nomatch z) h
 | @tup a xs ea =>
   cases (show u=Value.ref a from rx)
   obtain ⟨_,_,_,p⟩:=(show ObjOk X.prog X.w H s.heap a (.tup xs) from I.hok a _ ea);obtain ⟨o,h1,h2,_⟩:=p;exact n76_ PySem.W.kitx_tuple I.kIn ⟨o,h1,h2⟩ e (fun z=>nomatch z) h
 | @dK a kvs ea =>
   cases (show u=Value.ref a from rx)
   obtain ⟨_,_,vs,_,p⟩:=(show ObjOk X.prog X.w H s.heap a (.dK kvs) from I.hok a _ ea);obtain ⟨o,es,ep,h1,h2,_⟩:=p;exact n76_ PySem.W.kitx_dict I.kIn ⟨o,h1,h2.1⟩ e (fun z=>nomatch z) h
 | @dT a kvs ea =>
   cases (show u=Value.ref a from rx)
   obtain ⟨_,_,xs,_,o,es,ep,h1,h2,_⟩:=(show ObjOk X.prog X.w H s.heap a (.dT kvs) from I.hok a _ ea);exact n76_ PySem.W.kitx_dict I.kIn ⟨o,h1,h2.1⟩ e (fun z=>nomatch z) h
 | @ins a C dx fs ea cl ha hn htk hm =>
   cases (show u=Value.ref a from rx)
   obtain ⟨mA,O,_⟩:=Zqn I.hok ea;obtain ⟨od,J,_⟩:=O.look;exact n76_ (PySem.W.kitx_own (cl.get _) cl.hd ha hn htk hm) I.kIn J e (fun z=>nomatch z) h
end
structure Room (k:Nat) (A:Around):Prop where
 hd:A.handled=none
 dp:A.depth+3*k+5<recursionLimit
 un:A.units+16*k+200<cLine
 gd:A.guards=some []
theorem Room.mono {j k:Nat} {A:Around} (r:Room k A) (h:j≤k):Room j A:=⟨r.hd,by have:=r.dp;omega,by have:=r.un;omega,r.gd⟩
theorem Room.deeper {k:Nat} {A:Around} (r:Room (k+1) A) (env:Env):Room k (A.deeper env) :=
 ⟨r.hd,by have:=r.dp;show A.depth+1+3*k+5<_;omega,by have:=r.un;show A.units+3+16*k+200<_;omega,r.gd⟩
theorem Room.in1 {k:Nat} {A:Around} (r:Room (k+1) A):Room k A.in1 :=
 ⟨r.hd,by have:=r.dp;show A.depth+3*k+5<_;omega,by have:=r.un;show A.units+1+16*k+200<_;omega,r.gd⟩
theorem Room.depth {k:Nat} {A:Around} (r:Room k A):A.depth<recursionLimit:=by have:=r.dp;omega
theorem Room.units {k:Nat} {A:Around} (r:Room k A):A.units+64<cLine:=by have:=r.un;omega
def tNil:TA:=fun _ H Q=>Q [] H
def Zsn (ta:TE) (tr:TA):TA:=fun σ H Q=>ta σ H fun x H1=>tr σ H1 fun xs H2=>Q (x :: xs) H2
section
variable {X:Cx} {e:Expr} {es:List Expr} {te:TE} {t:TA} {pos:Pos}
theorem Zb:PA X [] tNil:=fun _ _ _ _ H Q I h=>Calls.spliced_nil ⟨[],H,I,.nil,h⟩
theorem Za (ha:PE X e te) (hr:PA X es t) (hs:starEach (e :: es) X.env=(false,eval e X.env) :: starEach es X.env:=by rfl):PA X (e :: es) (Zsn te t):=by
 intro pos pins s σ H Q I h;rw [hs];show wpAny _ _ (spliced ((false,eval e X.env) :: backTo pos (starEach es X.env))) _ _ s
 refine Calls.spliced_cons (thn (ha pins s σ H _ I h) fun u s1 ⟨x,H1,I1,r1,q1⟩=>?_);exact thn (hr pos pins s1 σ H1 _ I1 q1) fun us s2 ⟨xs,H2,I2,r2,q2⟩=>⟨x :: xs,H2,I2,.cons r1 r2,q2⟩
def tTup (t:TA):TE:=fun σ H Q=>t σ H fun xs H1=>xs.length≤sizeLine∧∀ p,H1 p=none→Q (.ref p) (upd H1 p (.tup xs))
def tLst (t:TA):TE:=fun σ H Q=>t σ H fun xs H1=>xs.length≤sizeLine∧∀ p,H1 p=none→Q (.ref p) (upd H1 p (.lst xs))
theorem Zu {x1} (h:PA X es t):PE X (.Tuple es x1 pos) (tTup t):=by
 intro pins s σ H Q I hq;refine wpAny_Tuple_spliced (thn (h pos pins s σ H _ I hq) fun us s1 ⟨xs,H1,I1,r,z,q⟩=>⟨by rw [← r.length];exact z,?_⟩);have hf:H1 s1.heap.objs.size=none:=I1.hok.fresh (n9_ _);refine ⟨.ref s1.heap.objs.size,upd H1 s1.heap.objs.size (.tup xs),I1.laid (t':=s1.toks) (fun b u e=>n7_ _ e) (n9_ _) ?_,rfl,q _ hf⟩;exact ⟨z,us,r,⟨_,n17_ _ rfl,rfl,_,rfl⟩⟩
theorem Y4 (h:PA X es t):PE X (.List es pos) (tLst t):=by
 intro pins s σ H Q I hq;refine wpAny_List_spliced (thn (h pos pins s σ H _ I hq) fun us s1 ⟨xs,H1,I1,r,z,q⟩=>⟨by rw [← r.length];exact z,?_⟩);have hf:H1 s1.heap.objs.size=none:=I1.hok.fresh (n9_ _);refine ⟨.ref s1.heap.objs.size,upd H1 s1.heap.objs.size (.lst xs),I1.laid (t':=s1.toks) (fun b u e=>n7_ _ e) (n9_ _) ?_,rfl,q _ hf⟩;exact ⟨z,us,0,r,n17_ _ rfl⟩
end
abbrev Sp:=List V→Hp→VK→XK→Prop
abbrev CXT:=List Env→Hp→Shared→XK→Value→Shared→Prop
structure Env0 (P:Program) (w:World) (K:PySem.W.Frag) (mg:Str→Option Value) (base:Heap) (A:Around) (outer:List Env) (s:Shared) (H:Hp):Prop where
 frames:A.frames=some outer
 mod:Mod K mg base
 bs:∀ b o,base.get? b=some o→s.heap.get? b=some o∧H b=none
 bsz:base.objs.size≤s.heap.objs.size
 funs:s.heap.FunFrames base outer
 frf:∀ b∈frs outer,H b=none
 hok:HOk P w H s.heap
 bare:AllBare s.gens
def CE (outer:List Env) (P:Program) (w:World) (H:Hp) (s:Shared) (Q:VK) (u:Value) (s':Shared):Prop :=
 ∃ v H',s'.os=s.os∧AllBare s'.gens∧Un (frs outer) [] H H' s.heap s'.heap∧HOk P w H' s'.heap∧RelV v u∧Q v H'
def CR (CX:CXT) (outer:List Env) (P:Program) (w:World) (H:Hp) (s:Shared) (Q:VK) (E:XK) (r:Result) (s':Shared):Prop :=
 match r with
 | .ok (.ret u)=>CE outer P w H s Q u s'
 | .ok _=>False
 | .error e=>CX outer H s E e s'
structure FnOk (P:Program) (w:World) (K:PySem.W.Frag) (mg:Str→Option Value) (base:Heap) (CX:CXT) (k:Nat) (f:Addr) (fd:FuncData) (ps:List Str) (sp:Sp):Prop where
 len:∀ vs H Q E,sp vs H Q E→vs.length=ps.length
 run:∀ (A:Around) (outer:List Env) (s:Shared) (H:Hp) (args:Args) (us:List Value) (vs:List V) (Q:VK) (E:XK),Room k A→Env0 P w K mg base A outer s H→BindsTo s fd args (ps.zip us)→Vals vs us→sp vs H Q E →
  codeAny (model P w) A (.call (.ref f) args) (CR CX outer P w H s Q E) s
section
variable {X:Cx} {pins:List (Addr×Obj)} {σ:St} {H:Hp} {s s':Shared}
theorem Inv.env0 (I:Inv X pins σ H s):Env0 X.prog X.w X.K X.mg X.base X.A X.stack s H :=
 ⟨I.ok.frames,I.ok.mod,I.bs,n28_ I.ok.bsz I.sz,I.stack,I.stkFree,I.hok,I.bare⟩
theorem Inv.after {Q:VK} {u:Value} (I:Inv X pins σ H s) (h:CE X.stack X.prog X.w H s Q u s'):EP X pins σ Q u s':=by
 obtain ⟨v,H',os,bare,un,hok,r,q⟩:=h;obtain ⟨hh,g,d,t,os'⟩:=s';obtain rfl:os'=s.os:=os;exact ⟨v,H',I.call (h':=hh) (g':=g) (d':=d) (t':=t) (ch:=[]) un hok bare (fun b z=>absurd z (by simp)),r,q⟩
end
def Zsh (sp:Sp) (dvs:List V) (E:XK) (t:TA):TE:=fun σ H Q=>t σ H fun vs H1=>sp (vs++dvs) H1 Q E
def Binds (K:PySem.W.Frag) (fd:FuncData) (ps:List Str) (ds:List Value):Prop :=
 ∀ (s:Shared) (us:List Value),K.In s.heap→(us++ds).length=ps.length→BindsTo s fd ⟨us,[]⟩ (ps.zip (us++ds))
theorem Binds.all {K:PySem.W.Frag} {fd:FuncData} {ps:List Str} (h:∀ us:List Value,us.length=ps.length→bindArgs fd ⟨us,[]⟩=pure (ps.zip us)):Binds K fd ps []:=fun s us _ hl=>by
 rw [List.append_nil] at hl ⊢;exact .of_eq (h us hl)
def Zl3 (CX:CXT) (X:Cx) (E:XK):Prop:=∀ (pins:List (Addr×Obj)) (σ:St) (H:Hp) (s:Shared) (e:Value) (s':Shared),Inv X pins σ H s→CX X.stack H s E e s'→X.xe e s'
section
variable {X:Cx} {CX:CXT} {k:Nat} {f C:Addr} {fd:FuncData} {ps:List Str} {sp:Sp} {dvs:List V} {ds:List Value} {E:XK} {x m:Str} {p pos apos:Pos} {e o:Expr} {es:List Expr} {ta:TE} {t:TA}
theorem Zs0 {pins:List (Addr×Obj)} {σ:St} {H:Hp} {s:Shared} {Q:VK} {us:List Value} {vs:List V} (F:FnOk X.prog X.w X.K X.mg X.base CX k f fd ps sp) (hr:Room k X.A) (hb:Binds X.K fd ps ds) (hd:Vals dvs ds) (hx:Zl3 CX X E)
 (I:Inv X pins σ H s) (r:Vals vs us) (h:sp (vs++dvs) H Q E):wpAny (model X.prog X.w) X.A (call (.ref f) us) (EP X pins σ Q) X.xe s:=by
 have r2:Vals (vs++dvs) (us++ds):=r.append hd;have hl:(us++ds).length=ps.length:=by rw [← r2.length];exact F.len _ _ _ _ h
 refine wpAny_call (codeAny_mono (F.run X.A X.stack s H ⟨us,[]⟩ (us++ds) (vs++dvs) Q E hr I.env0 (hb s us I.kIn hl) r2 h) fun r s' hq=>?_);cases r with
 | error e=>exact hx pins σ H s e s' I hq
 | ok fl =>
   cases fl with
   | ret u=>exact I.after hq
   | next=>exact False.elim hq
   | brk=>exact False.elim hq
   | cont=>exact False.elim hq
theorem Zqo (F:FnOk X.prog X.w X.K X.mg X.base CX k f fd ps sp) (hr:Room k X.A) (hg:Gl X x) (hm:X.mg x=some (.ref f)) (hk:PySem.W.keepIn X.K (.ref f)=true) (hb:Binds X.K fd ps ds) (hd:Vals dvs ds) (hx:Zl3 CX X E)
 (ha:PA X (e :: es) t) (hdb:(x == ("__debug__" : Str))=false:=by decide) (he:starEach (e :: es) X.env=(false,eval e X.env) :: starEach es X.env:=by rfl) (hpl:(backTo pos (starEach es X.env)).any (·.1)=false:=by rfl) :
 PE X (.Call (.Name x p) (e :: es) [] pos) (Zsh sp dvs E t):=by
 intro pins s σ H Q I h;refine wpAny_Call_Name_kw (Ziv I hg hm ?_ hdb);refine PySem.W.callWith_K (h₀:=X.base) I.ok.mod.kin hk (thn (ha pos pins s σ H _ I h) fun us s1 ⟨vs,H1,I1,r,q⟩=>⟨I1.kIn,?_⟩) he hpl;exact Zs0 F hr hb hd hx I1 r q
end
def PK (X:Cx) (kws:List Keyword) (t:TA):Prop :=
 ∀ (pos:Pos) (pins:List (Addr×Obj)) (s:Shared) (σ:St) (H:Hp) (Q:List V→Hp→Prop),Inv X pins σ H s→t σ H Q→wpAny (model X.prog X.w) X.A (evalAll ((backToKw pos (keywordEach kws X.env)).map (·.2))) (AP X pins σ Q) X.xe s
section
variable {X:Cx} {CX:CXT} {k:Nat} {f C:Addr} {fd:FuncData} {ps ks:List Str} {sp:Sp} {E:XK} {x m:Str} {p pos apos kpos:Pos} {e o:Expr} {es:List Expr} {kws:List Keyword} {te ta:TE} {t tk:TA} {nm:Option Str}
theorem Zrq:PK X [] tNil:=fun _ _ _ _ H Q I h=>wpAny_evalAll_nil ⟨[],H,I,.nil,h⟩
theorem Zn8 (ha:PE X e te) (hr:PK X kws t):PK X (⟨nm,e,kpos⟩ :: kws) (Zsn te t):=by
 intro pos pins s σ H Q I h;show wpAny _ _ (evalAll ((do let v ← eval e X.env;standAt pos;pure v) :: (backToKw pos (keywordEach kws X.env)).map (·.2))) _ _ s
 refine wpAny_evalAll_cons (n6_ (thn (ha pins s σ H _ I h) fun u s1 ⟨x,H1,I1,r1,q1⟩=>n6_ (wpAny_standAt (n25_ ?_))));exact thn (hr pos pins s1 σ H1 _ I1 q1) fun us s2 ⟨xs,H2,I2,r2,q2⟩=>⟨x :: xs,H2,I2,.cons r1 r2,q2⟩
variable {g:List Value→List Value→List Value} {gV:List V→List V→List V}
end
structure FnScope (N P:List Str) (sc:Scope):Prop where
 kind:sc.kind=.function
 co:sc.isCoroutine=false
 gen:sc.isGenerator=false
 nd:N.Nodup
 pre:N.take P.length=P
 par:∀ x∈P,sc.names.lookup x=some .local∨sc.names.lookup x=some .cell
 nofree:∀ y∈sc.names,y.2≠.free
theorem Zie {kindOf:Str→Option NameKind} {x:Str}:∀ {binds:List (Str×Value)} {m:Str→Option Value},(∀ v,(x,v)∉binds)→bindL kindOf binds m x=m x
 | [],_,_=>rfl
 | (n,v) :: r,m,h=>by
   unfold bindL;rw [Zie fun w hw=>h w (n3_ _ hw)];split
   · have:x≠n:=by rintro rfl;exact h v n5_
     simp [this]
   · rfl
theorem Zhn {kindOf:Str→Option NameKind} {x:Str}:∀ {binds:List (Str×Value)} {m:Str→Option Value},(∀ v,(x,v)∉binds)→bindC kindOf binds m x=m x
 | [],_,_=>rfl
 | (n,v) :: r,m,h=>by
   unfold bindC;rw [Zhn fun w hw=>h w (n3_ _ hw)];split
   · rfl
   · have:x≠n:=by rintro rfl;exact h v n5_
     simp [this]
theorem Zg6 {kindOf:Str→Option NameKind} {x:Str} {v:Value}:∀ {P:List Str} {vs:List Value} {i:Nat} {m:Str→Option Value},P.Nodup→P[i]? = some x→vs[i]? = some v→kindOf x=some .local →
 bindL kindOf (P.zip vs) m x=some v
 | [],_,_,_,_,h,_,_=>by simp at h
 | _ :: _,[],_,_,_,_,h,_=>by simp at h
 | p :: P,w :: vs,0,m,nd,h1,h2,hk=>by
   simp at h1 h2;subst h1;subst h2;show bindL kindOf ((p,w) :: P.zip vs) m p=_
   unfold bindL;rw [Zie fun v hv=>(List.nodup_cons.mp nd).1 (List.of_mem_zip hv).1,if_pos hk]
   simp
 | p :: P,w :: vs,i+1,m,nd,h1,h2,hk=>by
   show bindL kindOf ((p,w) :: P.zip vs) m x=_
   unfold bindL;exact Zg6 (i:=i) (List.nodup_cons.mp nd).2 (by simpa using h1) (by simpa using h2) hk
theorem Zh1 {kindOf:Str→Option NameKind} {x:Str} {v:Value}:∀ {P:List Str} {vs:List Value} {i:Nat} {m:Str→Option Value},P.Nodup→P[i]? = some x→vs[i]? = some v→kindOf x≠some .local →
 bindC kindOf (P.zip vs) m x=some v
 | [],_,_,_,_,h,_,_=>by simp at h
 | _ :: _,[],_,_,_,_,h,_=>by simp at h
 | p :: P,w :: vs,0,m,nd,h1,h2,hk=>by
   simp at h1 h2;subst h1;subst h2;show bindC kindOf ((p,w) :: P.zip vs) m p=_
   unfold bindC;rw [Zhn fun v hv=>(List.nodup_cons.mp nd).1 (List.of_mem_zip hv).1,if_neg hk]
   simp
 | p :: P,w :: vs,i+1,m,nd,h1,h2,hk=>by
   show bindC kindOf ((p,w) :: P.zip vs) m x=_
   unfold bindC;exact Zh1 (i:=i) (List.nodup_cons.mp nd).2 (by simpa using h1) (by simpa using h2) hk
def start (N:List Str) (vs:List V):St:=vs.map some++List.replicate (N.length-vs.length) none
def cxOf (CX:CXT) (P:Program) (w:World) (K:PySem.W.Frag) (mg:Str→Option Value) (base:Heap) (N:List Str) (qual:Str) (scope:Scope) (f:Addr) (cd:Value) (A:Around) (outer:List Env) (s:Shared) (H:Hp) (E:XK):Cx where
 prog:=P
 w:=w
 K:=K
 mg:=mg
 base:=base
 A:=A.deeper (envOfC qual scope s.heap.objs.size f cd)
 N:=N
 s₀:=s
 H₀:=H
 env:=envOfC qual scope s.heap.objs.size f cd
 outer:=outer
 stack:=envOfC qual scope s.heap.objs.size f cd :: outer
 ex:=[]
 calm:=true
 fn:=fun _=>true
 pn:=[]
 xe:=fun e s'=>wpAny (model P w) (A.deeper (envOfC qual scope s.heap.objs.size f cd)) (leaving (envOfC qual scope s.heap.objs.size f cd) e) (fun _ s''=>CX outer H s E e s'') (fun e' s''=>CX outer H s E e' s'') s'
theorem Z0 {sc:Scope} {n:Nat} {x:Str} (h:sc.names.lookup x=some .cell):∃ c,(cellsFrom n sc.names []).lookup x=some c:=by
 have q:=PySem.W.cellsFrom_some sc.names n [] (.inl h);exact Option.isSome_iff_exists.mp q
theorem Zl7 {CX:CXT} {P:Program} {w:World} {K:PySem.W.Frag} {mg:Str→Option Value} {base:Heap} {N ps:List Str} {qual:Str} {scope:Scope} {f:Addr} {cd:Value} {A:Around} {outer:List Env} {s s1:Shared} {H:Hp} {E:XK} {us:List Value} {vs:List V}
 (S:FnScope N ps scope) (hd:A.handled=none) (e0:Env0 P w K mg base A outer s H) (hl:vs.length=ps.length) (r:Vals vs us)
 (x:InCallC s s.heap.objs.size (bindL (envOfC qual scope s.heap.objs.size f cd).kindOf (ps.zip us) fun _=>none) (cellsFrom (s.heap.objs.size+1) scope.names []) (bindC (envOfC qual scope s.heap.objs.size f cd).kindOf (ps.zip us) fun _=>none) s1) :
 Inv (cxOf CX P w K mg base N qual scope f cd A outer s H E) [] (start N vs) H s1:=by
 have hpl:ps.length≤N.length:=by have:=congrArg List.length S.pre;rw [n96_] at this;omega
 obtain ⟨h1,tk,rfl,hk⟩:=x.done;have noA:∀ b:Addr,b∉(cxOf CX P w K mg base N qual scope f cd A outer s H E).ex:=fun b z=>absurd (show b∈([]:List Addr) from z) (by simp)
 refine ⟨⟨e0.mod,S.kind,rfl,rfl,n9_ _,fun y z c h1 h2=>?_,fun y hy=>?_,fun y c _ h=>?_,fun _=>hd,Around.frames_deeper e0.frames,.inr ⟨rfl,rfl⟩,fun b z=>absurd z (noA b),e0.bs,e0.bsz,fun b _ _=>noA b,fun b z=>absurd z (noA b),e0.funs,e0.frf⟩,
  rfl,e0.bare,Un.kept hk,⟨_,x.toInCall.ns,fun i y v h1 h2 h3=>?_⟩,fun y c h=>⟨_,x.cell y c h⟩,e0.hok.fresh (n9_ _),fun y c h=>?_,fun p hp=>absurd (show p∈([]:List (Addr×Obj)) from hp) (by simp),e0.hok.kept hk,?_⟩
 · exact name_of_addr x.apart (n39_ h1) (n39_ h2)
 · have hy:scope.names.lookup y=some .cell∨scope.names.lookup y=some .free:=hy
   rcases hy with hy|hy
   · exact Z0 hy
   · exact absurd rfl (S.nofree _ (n39_ hy))
 · exact Nat.le_of_lt (x.above y c (n39_ h))
 · have hi:i<vs.length:=by
    unfold start at h2
    by_cases hi:i<vs.length
    · exact hi
    · rw [n35_ (by simpa using hi)] at h2;rw [n26_] at h2;split at h2<;>cases h2
   have ha:vs[i]? = some v:=by
    unfold start at h2;rw [n40_ (by simpa using hi),n8_] at h2;cases e:vs[i]? with
    | none=>rw [e] at h2;cases h2
    | some a=>rw [e] at h2;cases h2;rfl
   obtain ⟨u,hu,rv⟩:=r.get ha
   have hp:ps[i]? = some y:=by
    rw [← S.pre,List.getElem?_take_of_lt (by omega)];exact h1
   have ndP:ps.Nodup:=by rw [← S.pre];exact S.nd.sublist (List.take_sublist _ _)
   refine ⟨u,rv,?_⟩
   rcases S.par y (n4_ hp) with k|k
   · exact .inl ⟨k,Zg6 ndP hp hu k⟩
   · obtain ⟨c,e⟩:=Z0 (n:=s.heap.objs.size+1) k;refine .inr ⟨.inl k,c,e,?_⟩;have q:=x.cell y c e;rw [Zh1 ndP hp hu (by show scope.names.lookup y≠_;rw [k];decide)] at q;exact q
 · exact .inl (e0.hok.fresh (Nat.le_of_lt (x.above y c (n39_ h))))
 · unfold start;show _=N.length
   rw [n20_,n2_,n14_];omega
theorem Zra {CX:CXT} {P:Program} {w:World} {K:PySem.W.Frag} {mg:Str→Option Value} {base:Heap} {k:Nat} {f:Addr} {name qual:Str} {params:Arguments} {body:List Stmt} {scope:Scope} {dV kV doc pm cdv ct oc:Value} {an od:Option Addr}
 {osl:Array (Option Value)} {N ps:List Str} {sp:Sp} (lk:K.lookup f=some ⟨oc,od,.func (PySem.W.fnOf name qual params body scope dV kV doc pm an cdv ct),osl⟩) (hcd:PySem.W.codeIn K cdv qual=true) (S:FnScope N ps scope)
 (len:∀ vs H Q E,sp vs H Q E→vs.length=ps.length)
 (hbody:∀ (A:Around) (outer:List Env) (s:Shared) (H:Hp) (vs:List V) (Q:VK) (E:XK),Room k (A.deeper (envOfC qual scope s.heap.objs.size f cdv))→sp vs H Q E →
   ∃ t,PSs (cxOf CX P w K mg base N qual scope f cdv A outer s H E) body t∧t { nx:=fun _ H'=>Q .non H',rt:=Q } (start N vs) H) :
 FnOk P w K mg base CX (k+1) f (PySem.W.fnOf name qual params body scope dV kV doc pm an cdv ct) ps sp:=by
 refine ⟨len,fun A outer s H args us vs Q E hr e0 hb r hsp=>?_⟩;have hl:=len _ _ _ _ hsp;have KX:K.In s.heap:=e0.mod.kin.keeps fun b o e=>(e0.bs b o e).1;have lim:s.heap.NoLimit:=e0.mod.nolimit.keeps fun b o e=>(e0.bs b o e).1
 have hkind:∀ y∈ps.zip us,scope.names.lookup y.1=some .local∨(scope.names.lookup y.1=some .cell∧((cellsFrom (s.heap.objs.size+1) scope.names []).lookup y.1).isSome=true):=fun ⟨n,v⟩ hy=>by
  rcases S.par n (List.of_mem_zip hy).1 with q|q
  · exact .inl q
  · exact .inr ⟨q,PySem.W.cellsFrom_some _ _ _ (.inl q)⟩
 refine codeAny_call_function hr.depth (KX _ _ lk) rfl S.co S.gen rfl (PySem.W.codeRec_of KX hcd) (hb _ _ _ _ ?_);refine wpAny_newFunctionEnv_cells S.kind hkind fun env he s1 x=>?_;subst he;refine ⟨lim.keeps x.toInCall.keep,codeAny_func ?_⟩;obtain ⟨t,ht,hq⟩:=hbody A outer s H vs Q E (hr.deeper _) hsp;have I:Inv (cxOf CX P w K mg base N qual scope f cdv A outer s H E) [] (start N vs) H s1:=Zl7 S hr.hd e0 hl r x;refine wpAny_mono (ht [] s1 (start N vs) H _ I hq) (fun fl s' hs=>?_) fun e s' hs=>hs
 have fin:∀ {σ':St} {H':Hp} {v:V} {u:Value},Inv (cxOf CX P w K mg base N qual scope f cdv A outer s H E) [] σ' H' s'→RelV v u→Q v H'→CE outer P w H s Q u s' :=
  fun {σ' H' v u} J rv q=>⟨v,H',J.os,J.bare,J.base,J.hok,rv,q⟩
 cases fl with
 | ret u =>
   obtain ⟨v,σ',H',J,rv,q⟩:=hs;exact fin J rv q
 | next =>
   obtain ⟨σ',H',J,q⟩:=hs;exact fin (v:=V.non) (u:=Value.none) J rfl q
 | brk =>
   obtain ⟨_,_,_,q⟩:=hs;exact False.elim q
 | cont =>
   obtain ⟨_,_,_,q⟩:=hs;exact False.elim q
section
variable {X:Cx} {x:Str} {p pos:Pos} {e:Expr} {es:List Expr} {t:TA} {id T:String} {r:List V→Hp→VK→Prop}
def tCB (r:List V→Hp→VK→Prop) (t:TA):TE:=fun σ H Q=>t σ H fun vs H1=>r vs H1 Q
theorem Zk (hc:Zas X (.builtin id) r) (hg:Gl X x) (hm:X.mg x=none) (hv:bootBuiltins x=some (.builtin id)) (ha:PA X (e :: es) t) (hn:x ≠ "__name__" := by decide) (hdb:(x == ("__debug__" : Str))=false:=by decide)
 (he:starEach (e :: es) X.env=(false,eval e X.env) :: starEach es X.env:=by rfl) (hpl:(backTo pos (starEach es X.env)).any (·.1)=false:=by rfl):PE X (.Call (.Name x p) (e :: es) [] pos) (tCB r t):=by
 intro pins s σ H Q I h;refine wpAny_Call_Name_kw (Zax I hg hm hv ?_ hn hdb);exact PyProof.Rows.callWith_builtin1 (thn (ha pos pins s σ H _ I h) fun us s1 ⟨vs,H1,I1,r1,q1⟩=>hc pins s1 σ H1 vs us Q I1 r1 q1) he hpl
theorem Yo (hc:Zas X (.type T) r) (hg:Gl X x) (hm:X.mg x=none) (hv:bootBuiltins x=some (.type T)) (ha:PA X (e :: es) t) (hn:x ≠ "__name__" := by decide) (hdb:(x == ("__debug__" : Str))=false:=by decide)
 (he:starEach (e :: es) X.env=(false,eval e X.env) :: starEach es X.env:=by rfl) (hpl:(backTo pos (starEach es X.env)).any (·.1)=false:=by rfl):PE X (.Call (.Name x p) (e :: es) [] pos) (tCB r t):=by
 intro pins s σ H Q I h;refine wpAny_Call_Name_kw (Zax I hg hm hv ?_ hn hdb);exact n59_ (thn (ha pos pins s σ H _ I h) fun us s1 ⟨vs,H1,I1,r1,q1⟩=>hc pins s1 σ H1 vs us Q I1 r1 q1) he hpl
end
end L2
namespace HT
open PySem PyProof.Rows
section
open PySem.SeqAt
open PySem.AutoSeq1 (wpAny_loadPart')
open PySem.MeetsSeq PySem.MeetsSeq2 PySem.MeetsSeq3
end
section
variable {prog:Program} {w:World} {A:Around} {E:Value→Shared→Prop} {s:Shared}
def sIx (n d:Nat):Option Int→Nat
 | none=>d
 | some v=>if v<0 then (v+(n:Int)).toNat else min v.toNat n
theorem sIx_none (n d:Nat):sIx n d none=d:=rfl
theorem sIx_nat (n d k:Nat):sIx n d (some (k:Int))=min k n:=by
 show (if (k:Int)<0 then ((k:Int)+(n:Int)).toNat else min (k:Int).toNat n)=min k n
 rw [if_neg (by omega),n58_]
theorem Zrs (n d:Nat) (hd:d≤n) (o:Option Int):sIx n d o≤n:=by
 cases o with
 | none=>exact hd
 | some v =>
   show (if v<0 then (v+(n:Int)).toNat else min v.toNat n)≤n
   by_cases hv:v<0
   · rw [if_pos hv];omega
   · rw [if_neg hv];exact Nat.min_le_right _ _
theorem Znf (v:Int) (n d:Nat):(if v<0 then max (v+(n:Int)) 0 else min v (n:Int))=((sIx n d (some v):Nat):Int):=by
 show (if v<0 then max (v+(n:Int)) 0 else min v (n:Int))=(((if v<0 then (v+(n:Int)).toNat else min v.toNat n):Nat):Int)
 by_cases hv:v<0
 · simp only [if_pos hv];omega
 · simp only [if_neg hv];omega
theorem Zln (lo hi:Option Int) (n:Nat):Builtin.Slice.sliceAdjust lo hi 1 (n:Int)=(((sIx n 0 lo:Nat):Int),((sIx n n hi:Nat):Int)):=by
 have h1:¬ ((1:Int)<0):=by omega
 unfold Builtin.Slice.sliceAdjust;simp only [h1,if_false];refine Prod.ext ?_ ?_
 · cases lo with
   | none=>rfl
   | some v=>exact Znf v n 0
 · cases hi with
   | none=>rfl
   | some v=>exact Znf v n n
theorem Zlk (i j:Nat):Builtin.Slice.slicePlaces (i:Int) (j:Int) 1=j-i:=by
 unfold Builtin.Slice.slicePlaces;have h1:(1:Int)>0:=by omega
 simp only [h1,if_true,Int.ediv_one];split<;>omega
theorem Zff {v:Value} {o:Option Int} {Q:Option Int→Shared→Prop} (p:IsPart v o) (h:Q o s):wpAny (model prog w) A (Builtin.Slice.slicePartIndex v) Q E s:=by
 cases p with
 | none=>exact slicePart_none h
 | int i t=>exact slicePart_int h
theorem Zdf {sl:Addr} {vl vu:Value} {lo hi:Option Int} {n:Nat} {Q:Int×Int×Nat→Shared→Prop} (hs:s.heap.IsSliceOf sl vl vu .none) (pl:IsPart vl lo) (pu:IsPart vu hi)
 (h:Q (((sIx n 0 lo:Nat):Int),1,sIx n n hi-sIx n 0 lo) s):wpAny (model prog w) A (Builtin.Slice.sliceApplied (.ref sl) (pure (n:Int))) Q E s:=by
 obtain ⟨os,hos,hcs,hds⟩:=id hs;unfold Builtin.Slice.sliceApplied Builtin.Slice.sliceFields;refine n6_ (n6_ (wpAny_field hos hds (x:=vl) rfl (n6_ (wpAny_field hos hds (x:=vu) rfl (n6_ (wpAny_field hos hds (x:=.none) rfl (n25_ ?_)))))));refine n6_ (slicePart_none ?_);show wpAny _ _ (if ((1:Int) == 0)=true then _ else _) _ _ s
 rw [if_neg (by decide)];refine n6_ (Zff pl (n6_ (Zff pu (n6_ (n25_ ?_)))));show wpAny _ _ (match Builtin.Slice.sliceAdjust lo hi 1 (n:Int) with|(lo,hi)=>pure (lo,(1:Int),Builtin.Slice.slicePlaces lo hi 1)) _ _ s
 rw [Zln lo hi n];show wpAny _ _ (pure (((sIx n 0 lo:Nat):Int),(1:Int),Builtin.Slice.slicePlaces ((sIx n 0 lo:Nat):Int) ((sIx n n hi:Nat):Int) 1)) _ _ s
 rw [Zlk];exact n25_ h
theorem Zpg (xs:Array Value) (i k:Nat):((List.range k).filterMap fun (m:Nat)=>xs[((i:Int)+(m:Int)*1).toNat]?).toArray=((xs.toList.drop i).take k).toArray:=by
 have e:(fun (m:Nat)=>xs[((i:Int)+(m:Int)*1).toNat]?)=fun m=>xs[i+m]?:=by
  funext m
  have:((i:Int)+(m:Int)*1).toNat=i+m:=by omega
  rw [this]
 rw [e]
 have:=pick_run xs i k
 rw [List.filterMap_map] at this;have e2:((fun x=>xs[x]?) ∘ fun x=>i+x)=fun m=>xs[i+m]?:=rfl;rw [e2] at this;rw [this]
theorem getItem_tuple_cut {t sl:Addr} {items:Array Value} {vl vu:Value} {lo hi:Option Int} {Q:Value→Shared→Prop} (ht:IsTup s.heap t items) (hs:s.heap.IsSliceOf sl vl vu .none) (pl:IsPart vl lo) (pu:IsPart vu hi)
 (hw:¬ (sIx items.size 0 lo=0∧sIx items.size items.size hi=items.size))
 (h:Q (.ref s.heap.objs.size) { s with heap:=s.heap.push { cls:=.type "tuple",data:=.seq ((items.toList.drop (sIx items.size 0 lo)).take (sIx items.size items.size hi-sIx items.size 0 lo)).toArray } })
 (hsz:items.size≤sizeLine):wpAny (model prog w) A (getItem (.ref t) (.ref sl)) Q E s:=by
 have htake:sizeOk (.seq ((items.toList.drop (sIx items.size 0 lo)).take (sIx items.size items.size hi-sIx items.size 0 lo)).toArray):=by
  show ((items.toList.drop (sIx items.size 0 lo)).take (sIx items.size items.size hi-sIx items.size 0 lo)).toArray.size≤sizeLine
  rw [n16_,n96_,n69_,Array.length_toList];omega
 have hj:sIx items.size items.size hi≤items.size:=Zrs _ _ (n9_ _) hi;obtain ⟨os,hos,hcs,hds⟩:=id hs;have hTs:s.TypeIs (.ref sl) "slice" := ⟨os,hos,hcs⟩;unfold getItem
 try with_reducible refine n99_ ?_
 first|refine n6_ (n25_ ?_)|skip
 refine n6_ (wpAny_sequenceKey ht.typeIs (by decide) ?_)
 refine n6_ (wpAny_callSpecial?_slot (name:=Str.ofString "__getitem__") ht.typeIs PyProof.Rows.slot_tuple_getitem
  (wpAny_call_entry PyProof.Rows.slot_tuple_getitem ht.typeIs entry_tuple_getitem ?_ (args_tuple_getitem _ _)))
 show wpAny _ _ (Builtin.Tuple.tupleItemsOf (.ref t) >>= _) _ _ s
 refine n6_ (tupleItemsOf_ ht ?_);refine n6_ (wpAny_typeOf hTs ?_);rw [if_pos (by decide)];refine n6_ (Zdf hs pl pu ?_)
 have hno:¬ ((((sIx items.size 0 lo:Nat):Int) == 0&&(1:Int) == 1&&(sIx items.size items.size hi-sIx items.size 0 lo) == items.size)=true):=by
  intro q;rw [n54_,n54_] at q;have q1:((sIx items.size 0 lo:Nat):Int)=0:=eq_of_beq q.1.1;have q2:sIx items.size items.size hi-sIx items.size 0 lo=items.size:=eq_of_beq q.2;exact hw ⟨by omega,by omega⟩
 show wpAny _ _ (if (((sIx items.size 0 lo:Nat):Int) == 0&&(1:Int) == 1&&(sIx items.size items.size hi-sIx items.size 0 lo) == items.size)=true then _ else _) _ _ s
 rw [if_neg hno,Zpg]
 first
  | exact n6_ (m:=Builtin.Tuple.tupleExact _) (wpAny_newObj_type (n25_ ⟨_,rfl,n25_ h⟩) htake)
  | exact n6_ (m:=Builtin.Tuple.tupleExact _) (wpAny_newObj_type (n6_ (n25_ (n25_ ⟨_,rfl,n25_ h⟩))) htake)
  | exact n6_ (n6_ (m:=Builtin.Tuple.tupleExact _) (wpAny_newObj_type (n25_ (n25_ ⟨_,rfl,n25_ h⟩)) htake))
  | exact n6_ (n6_ (m:=Builtin.Tuple.tupleExact _) (wpAny_newObj_type (n25_ ⟨_,rfl,n25_ h⟩) htake))
end
end HT
namespace L2
open PySem PySem.Spec PyProof.Rows
abbrev TO:=St→Hp→(Option Int→Hp→Prop)→Prop
def PO (X:Cx) (e:Option Expr) (t:TO):Prop :=
 ∀ (pins:List (Addr×Obj)) (s:Shared) (σ:St) (H:Hp) (Q:Option Int→Hp→Prop),Inv X pins σ H s→t σ H Q →
   wpAny (model X.prog X.w) X.A (evalPart e X.env) (fun u s'=>∃ o H',Inv X pins σ H' s'∧IsPart u o∧Q o H') X.xe s
def Zrc:TO:=fun _ H Q=>Q none H
def Ztc (t:TE):TO:=fun σ H Q=>t σ H fun x H1=>∃ i,x=.int i∧Q (some i) H1
section
variable {X:Cx} {e:Expr} {te:TE} {lo hi:Option Expr} {tl th:TO} {pos p2:Pos}
theorem Zeb:PO X none Zrc:=by
 intro pins s σ H Q I h;rw [evalPart_none];exact n25_ ⟨none,H,I,.none,h⟩
theorem Zdv (h:PE X e te):PO X (some e) (Ztc te):=by
 intro pins s σ H Q I hw;rw [evalPart_some];refine thn (h pins s σ H _ I hw) fun u s1 ⟨x,H1,I1,r1,q1⟩=>?_;obtain ⟨i,rfl,q⟩:=q1;obtain ⟨t,rfl⟩:=r1;exact ⟨some i,H1,I1,.int i t,q⟩
def SlR (X:Cx) (r:V→Option Int→Option Int→Hp→VK→Prop):Prop :=
 ∀ (pins:List (Addr×Obj)) (s:Shared) (σ:St) (H:Hp) (x:V) (v vl vu:Value) (lo hi:Option Int) (sl:Addr) (Q:VK),Inv X pins σ H s→RelV x v→s.heap.IsSliceOf sl vl vu .none→IsPart vl lo→IsPart vu hi→r x lo hi H Q →
   ∃ T id,typeLookup (.type T) "__getitem__" = pure (some (.builtin id))∧s.TypeIs v T∧wpAny (model X.prog X.w) X.A (getItem v (.ref sl)) (EP X pins σ Q) X.xe s
def tSl (r:V→Option Int→Option Int→Hp→VK→Prop) (te:TE) (tl th:TO):TE:=fun σ H Q=>te σ H fun x H1=>tl σ H1 fun l H2=>th σ H2 fun u H3=>r x l u H3 Q
theorem Zby {r:V→Option Int→Option Int→Hp→VK→Prop} (hr:SlR X r) (he:PE X e te) (hl:PO X lo tl) (hu:PO X hi th):PE X (.Subscript e (.Slice lo hi none p2) pos) (tSl r te tl th):=by
 intro pins s σ H Q I h;refine Subscript_ (thn (he pins s σ H _ I h) fun v s1 ⟨x,H1,I1,r1,q1⟩=>?_);refine wpAny_Slice (thn (hl pins s1 σ H1 _ I1 q1) fun vl s2 ⟨l,H2,I2,pl,q2⟩=>thn (hu pins s2 σ H2 _ I2 q2) fun vu s3 ⟨u,H3,I3,pu,q3⟩=>?_);rw [evalPart_none];refine n25_ ?_;have I4:Inv X pins σ H3 { s3 with heap:=s3.heap.push { cls:=.type "slice",data:=.fields #[vl,vu,.none] } }:=I3.kept (t':=s3.toks) fun b ob q=>n7_ _ q;obtain ⟨T,id,hT,ht,hg⟩:=hr pins { s3 with heap:=s3.heap.push { cls:=.type "slice",data:=.fields #[vl,vu,.none] } } σ H3 x v vl vu l u s3.heap.objs.size Q I4 r1 (Heap.IsSliceOf.new ..) pl pu q3;show wpAny (model X.prog X.w) X.A (subscriptTail e (.Slice lo hi none p2) v (.ref s3.heap.objs.size)) (EP X pins σ Q) X.xe { s3 with heap:=s3.heap.push { cls:=.type "slice",data:=.fields #[vl,vu,.none] } }
 exact tail_any (ops:=[.ref s3.heap.objs.size,v]) ht hT hg (by with_unfolding_all rfl)
def cutV (xs:List V) (lo hi:Option Int):List V:=(xs.drop (HT.sIx xs.length 0 lo)).take (HT.sIx xs.length xs.length hi-HT.sIx xs.length 0 lo)
theorem Zd9 (xs:List V) (lo hi:Option Int):(cutV xs lo hi).length≤xs.length:=by
 unfold cutV;rw [n96_,n69_];omega
def rSlT (K:PySem.W.Frag):V→Option Int→Option Int→Hp→VK→Prop:=fun x lo hi H Q=>∃ a xs,x=.ref a∧SqT K H a xs ∧
 ¬ (HT.sIx xs.length 0 lo=0∧HT.sIx xs.length xs.length hi=xs.length)∧∀ p,H p=none→Q (.ref p) (upd H p (.tup (cutV xs lo hi)))
theorem Zs7:SlR X (rSlT X.K):=by
 intro pins s σ H x v vl vu lo hi sl Q I rx hs pl pu h;obtain ⟨a,xs,rfl,hx,hw,q⟩:=h;cases rx
 obtain ⟨its,r,ht,hz⟩:=I.tuple hx;have hlen:its.toArray.size=xs.length:=by rw [n16_];exact r.length.symm
 refine ⟨"tuple",_,PyProof.Rows.slot_tuple_getitem.lookup,ht.typeIs,?_⟩;refine HT.getItem_tuple_cut ht hs pl pu (by rw [hlen];exact hw) ?_ (by rw [hlen];exact hz);rw [hlen];refine ⟨.ref s.heap.objs.size,_,I.laid (t':=s.toks) (o:=.tup (cutV xs lo hi)) (fun b ob q=>n7_ _ q) (n9_ _) ?_,rfl,q _ (I.hok.fresh (n9_ _))⟩;exact ⟨n28_ (Zd9 xs lo hi) hz,_,(r.drop (HT.sIx xs.length 0 lo)).take (HT.sIx xs.length xs.length hi-HT.sIx xs.length 0 lo),IsTup.new _ _⟩
theorem Vals.nil_iff {xs:List V} {us:List Value} (r:Vals xs us):us=[]↔xs=[]:=by
 cases r with
 | nil=>simp
 | cons _ _=>simp
end
def ixN (n:Nat) (i:Int):Option Nat:=if 0≤i then (if i<n then some i.toNat else none) else if -(n:Int)≤i then some (i+n).toNat else none
def atI {α:Type} (xs:List α) (i:Int):Option α:=(ixN xs.length i).bind fun j=>xs[j]?
theorem Zm4 {n:Nat} {i:Int} {j:Nat} (h:ixN n i=some j):seqIndex? i n=some j∧j<n∧-(n:Int)≤i∧i<n:=by
 unfold ixN at h
 by_cases h0:0≤i
 · rw [if_pos h0] at h
   by_cases h1:i<n
   · rw [if_pos h1] at h;have e:i.toNat=j:=Option.some.inj h;exact ⟨by rw [seqIndex_of h0 h1,e],by omega,by omega,h1⟩
   · rw [if_neg h1] at h;cases h
 · rw [if_neg h0] at h
   by_cases h1:-(n:Int)≤i
   · rw [if_pos h1] at h;have e:(i+n).toNat=j:=Option.some.inj h;exact ⟨by rw [seqIndex_neg (by omega) h1,e],by omega,h1,by omega⟩
   · rw [if_neg h1] at h;cases h
theorem Zmr {α:Type} {xs:List α} {i:Int} {v:α} (h:atI xs i=some v):∃ j,seqIndex? i xs.length=some j∧xs[j]? = some v∧j<xs.length∧-(xs.length:Int)≤i∧i<xs.length:=by
 unfold atI at h;cases e:ixN xs.length i with
 | none=>rw [e] at h;cases h
 | some j =>
   rw [e] at h;obtain ⟨h1,h2,h3,h4⟩:=Zm4 e;exact ⟨j,h1,h,h2,h3,h4⟩
theorem Yh {α:Type} {xs:List α} {j:Nat} {v:α} (h:xs[j]? = some v):atI xs (j:Int)=some v:=by
 have hj:j<xs.length:=(n11_.mp h).1
 have e:ixN xs.length (j:Int)=some j:=by
  unfold ixN;rw [if_pos (by omega),if_pos (by omega)];simp
 unfold atI;rw [e];exact h
def Zqk (b:Expr):Prop:=∀ o i,subscripted b false o i=operate [o,i] (getItem o i)
def IxR (X:Cx) (r:R2):Prop :=
 ∀ (value slice:Expr) (pins:List (Addr×Obj)) (s:Shared) (σ:St) (H:Hp) (x y:V) (v u:Value) (Q:VK),Inv X pins σ H s→RelV x v→RelV y u→r x y H Q →
   subscripted slice false v u=operate [v,u] (getItem v u)→wpAny (model X.prog X.w) X.A (subscriptTail value slice v u) (EP X pins σ Q) X.xe s
def MtR (X:Cx) (id:String) (r:V→List V→Hp→VK→Prop):Prop :=
 ∀ (pins:List (Addr×Obj)) (s:Shared) (σ:St) (H:Hp) (x:V) (xs:List V) (v:Value) (us:List Value) (Q:VK),Inv X pins σ H s→RelV x v→Vals xs us→r x xs H Q →
   wpAny (model X.prog X.w) X.A (call (.builtin id) (v :: us)) (EP X pins σ Q) X.xe s
section
variable {X:Cx} {a b:Expr} {ta tb:TE} {pos:Pos}
theorem Z1 {r:R2} (hr:IxR X r) (ha:PE X a ta) (hb:PE X b tb) (hs:Zqk b):PE X (.Subscript a b pos) (tOp r ta tb):=by
 intro pins s σ H Q I h;exact Subscript_ (binT ha hb I h fun v u s2 x y H2 I2 rx ry q=>hr a b pins s2 σ H2 x y v u Q I2 rx ry q (hs _ _))
def rIxL (K:PySem.W.Frag):R2:=fun x y H Q=>∃ p xs i v,x=.ref p∧y=.int i∧SqL K H p xs∧atI xs i=some v∧Q v H
def rIxT (K:PySem.W.Frag):R2:=fun x y H Q=>∃ p xs i v,x=.ref p∧y=.int i∧SqT K H p xs∧atI xs i=some v∧Q v H
theorem Z2:IxR X (rIxL X.K):=by
 intro value slice pins s σ H x y v u Q I rx ry h hs;obtain ⟨p,xs,i,z,rfl,rfl,hq,he,q⟩:=h;cases rx
 obtain ⟨t,rfl⟩:=ry;obtain ⟨its,r,pl,hz⟩:=I.list hq;obtain ⟨j,h1,h2,h3,h4,h5⟩:=Zmr he;obtain ⟨w,ew,rw'⟩:=r.get h2;have hl:=r.length;have hn:=Zg3;have fin:EP X pins σ Q w s:=⟨z,H,I,rw',q⟩
 by_cases h0:0≤i
 · have hj:i.toNat=j:=by
    rw [seqIndex_of h0 h5] at h1;exact Option.some.inj h1
   exact item_listR pl.isList h0 (by omega) (by rw [hj];simpa using ew) fin hs
 · have hj:(i+(its.toArray.size:Int)).toNat=j:=by
    rw [seqIndex_neg (by omega) h4] at h1;rw [n16_,← hl];exact Option.some.inj h1
   exact subscriptTail_builtinR (x:=w) pl.isList.typeIs slot_list_getitem.lookup
    (wpAny_getItem_list_neg (Q:=fun r s'=>r=w∧EP X pins σ Q r s') pl.isList (by omega) (by rw [n16_]<;>omega) (by omega) (by rw [hj];simpa using ew) ⟨rfl,fin⟩) hs
theorem Yp:IxR X (rIxT X.K):=by
 intro value slice pins s σ H x y v u Q I rx ry h hs;obtain ⟨p,xs,i,z,rfl,rfl,hq,he,q⟩:=h;cases rx
 obtain ⟨t,rfl⟩:=ry;obtain ⟨its,r,pl,hz⟩:=I.tuple hq;obtain ⟨j,h1,h2,h3,h4,h5⟩:=Zmr he;obtain ⟨w,ew,rw'⟩:=r.get h2;have hl:=r.length;have hn:=Zg3;have fin:EP X pins σ Q w s:=⟨z,H,I,rw',q⟩
 exact subscriptTail_builtinR (x:=w) pl.typeIs slot_tuple_getitem.lookup
  (getItem_tuple (j:=j) (Q:=fun r s'=>r=w∧EP X pins σ Q r s') pl (by omega) (by omega) (by rw [n16_,← hl];exact h1) (by simpa using ew) ⟨rfl,fin⟩) hs
theorem Zlu (its:List Value) (n j:Nat) (u:Value):Obj.mapSeq (·.setIfInBounds j u) { cls:=.type "list",data:=.seq its.toArray n }={ cls:=.type "list",data:=.seq (its.set j u).toArray n }:=by
 simp [Obj.mapSeq]
theorem Inv.lst {pins:List (Addr×Obj)} {σ:St} {H:Hp} {s:Shared} {p:Addr} {xs:List V} (I:Inv X pins σ H s) (h:H p=some (.lst xs)) :
 ∃ (its:List Value) (n:Nat),Vals xs its∧s.heap.get? p=some { cls:=.type "list",data:=.seq its.toArray n }∧xs.length≤sizeLine:=by
 obtain ⟨z,its,n,r,e⟩:=I.hok p _ h;exact ⟨its,n,r,e,z⟩
theorem Inv.lstUpd {pins:List (Addr×Obj)} {σ:St} {H:Hp} {s:Shared} {p:Addr} {xs ys:List V} {its its':List Value} {n n':Nat} {f:Obj→Obj} (I:Inv X pins σ H s) (h:H p=some (.lst xs))
 (ho:s.heap.get? p=some { cls:=.type "list",data:=.seq its.toArray n }) (hf:f { cls:=.type "list",data:=.seq its.toArray n }={ cls:=.type "list",data:=.seq its'.toArray n' }) (r:Vals ys its') (hz:ys.length≤sizeLine) (t:Nat) :
 Inv X pins σ (upd H p (.lst ys)) { s with heap:=s.heap.update p f,toks:=t }:=by
 have e:(s.heap.update p f).get? p=some { cls:=.type "list",data:=.seq its'.toArray n' }:=by
  rw [Heap.get?_update_self f ho (by rw [hf]<;>rfl),hf]
 refine I.write (x:=p) (e:=p) (by rw [h];trivial) (.inl rfl) (fun b u hb q=>(n78_ _ _ (Ne.symm hb)).trans q) ⟨_,e⟩ ?_;exact ⟨hz,its',n',r,e⟩
def Ztm:V→V→V→Hp→(Hp→Prop)→Prop:=fun o i v H Q=>∃ p xs k j,o=.ref p∧i=.int k∧H p=some (.lst xs)∧ixN xs.length k=some j∧Q (upd H p (.lst (xs.set j v)))
theorem X7:PSet X Ztm:=by
 intro pins s σ H o i v ov iv u Q I ro ri rv h;obtain ⟨p,xs,k,j,rfl,rfl,hp,hj,q⟩:=h;cases ro
 obtain ⟨t,rfl⟩:=ri;obtain ⟨its,n,r,ho,hz⟩:=I.lst hp;obtain ⟨h1,h2,h3,h4⟩:=Zm4 hj;have hl:=r.length;have hn:=Zg3
 have I':Inv X pins σ (upd H p (.lst (xs.set j v))) { s with heap:=s.heap.update p (Obj.mapSeq (·.setIfInBounds j u)) } :=
  I.lstUpd hp ho (Zlu its n j u) (r.set rv j) (by rw [n47_];exact hz) s.toks
 by_cases h0:0≤k
 · have hk:k.toNat=j:=by
    rw [seqIndex_of h0 h4] at h1;exact Option.some.inj h1
   exact PySem.W.ki_setAt ho h0 (by omega) (by rw [n16_,← hl];exact h4) (by rw [hk];exact ⟨_,I',q⟩)
 · have hk:(k+(its.toArray.size:Int)).toNat=j:=by
    rw [seqIndex_neg (by omega) h3] at h1;rw [n16_,← hl];exact Option.some.inj h1
   exact PySem.W.ki_setBack ho (by omega) (by rw [n16_,← hl];exact h3) (by omega) (by rw [hk];exact ⟨_,I',q⟩)
theorem Zhc (lo hi:Option Int) (n:Nat):(sliceBounds lo hi none n).1=((HT.sIx n 0 lo:Nat):Int)∧(sliceBounds lo hi none n).2.1=((HT.sIx n n hi:Nat):Int)∧(sliceBounds lo hi none n).2.2=1:=by
 refine ⟨?_,?_,rfl⟩
 · cases lo with
   | none=>simp [sliceBounds,HT.sIx]
   | some i =>
     simp only [sliceBounds,HT.sIx,Option.getD_none,show (1:Int)>0 by decide,if_true]
     by_cases h:i<0
     · simp only [h,if_true]<;>omega
     · simp only [h,if_false]<;>omega
 · cases hi with
   | none=>simp [sliceBounds,HT.sIx]
   | some i =>
     simp only [sliceBounds,HT.sIx,Option.getD_none,show (1:Int)>0 by decide,if_true]
     by_cases h:i<0
     · simp only [h,if_true]<;>omega
     · simp only [h,if_false]<;>omega
theorem Zgt (its:List Value) (lo hi:Option Int):slicePick its.toArray lo hi none=((its.drop (HT.sIx its.length 0 lo)).take (HT.sIx its.length its.length hi-HT.sIx its.length 0 lo)).toArray:=by
 obtain ⟨h1,h2,h3⟩:=Zhc lo hi its.toArray.size;unfold slicePick;rw [h1,h2,h3];simp only [sliceRange_one,pick_run,n16_]<;>rfl
def rSlL (K:PySem.W.Frag):V→Option Int→Option Int→Hp→VK→Prop:=fun x lo hi H Q=>∃ a xs,x=.ref a∧SqL K H a xs∧∀ p,H p=none→Q (.ref p) (upd H p (.lst (cutV xs lo hi)))
theorem Zf3:SlR X (rSlL X.K):=by
 intro pins s σ H x v vl vu lo hi sl Q I rx hs pl pu h;obtain ⟨a,xs,rfl,hx,q⟩:=h;cases rx
 obtain ⟨its,r,ht,hz⟩:=I.list hx;have hlen:=r.length;refine ⟨"list",_,slot_list_getitem.lookup,ht.isList.typeIs,?_⟩;refine wpAny_getItem_list_slice ht.isList hs pl pu .none (by simp) ?_ (by rw [n16_]<;>omega);rw [Zgt,← hlen];refine ⟨.ref s.heap.objs.size,_,I.laid (t':=s.toks) (o:=.lst (cutV xs lo hi)) (fun b ob q=>n7_ _ q) (n9_ _) ?_,rfl,q _ (I.hok.fresh (n9_ _))⟩;exact ⟨n28_ (Zd9 xs lo hi) hz,_,0,(r.drop (HT.sIx xs.length 0 lo)).take (HT.sIx xs.length xs.length hi-HT.sIx xs.length 0 lo),n17_ _ rfl⟩
def Zer:V→Bool
 | .non=>true
 | .bl _=>true
 | .int _=>true
 | .str _=>true
 | _=>false
def eqV:V→V→Bool
 | .non,.non=>true
 | .bl a,.bl b=>a == b
 | .bl a,.int b=>(if a then 1 else 0) == b
 | .int a,.bl b=>a == (if b then 1 else 0)
 | .int a,.int b=>a == b
 | .str a,.str b=>a == b
 | _,_=>false
theorem Zsi {A:Around} {s:Shared} {y x:V} {u v:Value} (ry:RelV y u) (rx:RelV x v) (fy:Zer y=true) (fx:Zer x=true):SeqAt.EqAt A s u v (eqV y x):=by
 cases y with
 | non =>
   cases ry
   cases x with
   | non=>cases rx;exact SeqAt.EqAt.same _
   | bl b=>cases rx;exact SeqAt.EqAt.none_bool b
   | int b=>obtain ⟨t,rfl⟩:=rx;exact SeqAt.EqAt.none_int b t
   | str b=>obtain ⟨t,rfl⟩:=rx;exact SeqAt.EqAt.none_str b t
   | _=>exact absurd (show false=true from fx) n29_
 | bl a =>
   cases ry
   cases x with
   | non=>cases rx;exact SeqAt.EqAt.bool_none a
   | bl b=>cases rx;exact SeqAt.EqAt.bool_bool a b
   | int b=>obtain ⟨t,rfl⟩:=rx;exact SeqAt.EqAt.bool_int a b t
   | str b=>obtain ⟨t,rfl⟩:=rx;exact SeqAt.EqAt.bool_str a b t
   | _=>exact absurd (show false=true from fx) n29_
 | int a =>
   obtain ⟨t',rfl⟩:=ry;cases x with
   | non=>cases rx;exact SeqAt.EqAt.int_none a t'
   | bl b=>cases rx;exact SeqAt.EqAt.int_bool a t' b
   | int b=>obtain ⟨t,rfl⟩:=rx;exact SeqAt.EqAt.int_int a t' b t
   | str b=>obtain ⟨t,rfl⟩:=rx;exact SeqAt.EqAt.int_str a t' b t
   | _=>exact absurd (show false=true from fx) n29_
 | str a =>
   obtain ⟨t',rfl⟩:=ry;cases x with
   | non=>cases rx;exact SeqAt.EqAt.str_none a t'
   | bl b=>cases rx;exact SeqAt.EqAt.str_bool a t' b
   | int b=>obtain ⟨t,rfl⟩:=rx;exact SeqAt.EqAt.str_int a t' b t
   | str b=>obtain ⟨t,rfl⟩:=rx;exact SeqAt.EqAt.str_str a t' b t
   | _=>exact absurd (show false=true from fx) n29_
 | _=>exact absurd (show false=true from fy) n29_
def eqU (x:V) (u:Value):Bool:=match u with
 | .none=>eqV .non x
 | .bool b=>eqV (.bl b) x
 | .int i _=>eqV (.int i) x
 | .str z _=>eqV (.str z) x
 | _=>false
theorem Zqb {x y:V} {u:Value} (r:RelV y u) (f:Zer y=true):eqU x u=eqV y x:=by
 cases y with
 | non=>cases r;rfl
 | bl b=>cases r;rfl
 | int i=>obtain ⟨t,rfl⟩:=r;rfl
 | str z=>obtain ⟨t,rfl⟩:=r;rfl
 | _=>exact absurd (show false=true from f) n29_
theorem Zjj {x:V}:∀ {xs:List V} {us:List Value},Vals xs us→xs.all Zer=true→us.any (eqU x)=xs.any fun y=>eqV y x
 | _,_,.nil,_=>rfl
 | y :: xs,u :: us,.cons r t,f=>by
   rw [List.all_cons,n54_] at f;rw [List.any_cons,List.any_cons,Zqb r f.1,Zjj t f.2]
theorem Zfy {A:Around} {s:Shared} {x:V} {v:Value} (rx:RelV x v) (fx:Zer x=true):∀ {xs:List V} {us:List Value},Vals xs us→xs.all Zer=true→∀ u∈us,SeqAt.EqAt A s u v (eqU x u)
 | _,_,.nil,_=>fun u hu=>by cases hu
 | y :: xs,u :: us,.cons r t,f=>fun u' hu=>by
   rw [List.all_cons,n54_] at f
   rcases n34_.mp hu with rfl|hu
   · rw [Zqb r f.1];exact Zsi r rx f.1 fx
   · exact Zfy rx fx t f.2 u' hu
def inV (x:V) (xs:List V):Bool:=xs.any fun y=>eqV y x
def rIn (K:PySem.W.Frag) (neg:Bool):R2:=fun x y H Q=>∃ p xs,y=.ref p∧(SqL K H p xs∨SqT K H p xs)∧Zer x=true∧xs.all Zer=true∧Q (.bl (if neg then !inV x xs else inV x xs)) H
theorem Zh7:OpR X (compareOp .NotIn) (rIn X.K true):=by
 intro pins s σ H x y v u Q I rx ry h;obtain ⟨p,xs,rfl,hq,fx,fs,q⟩:=h;cases ry
 rcases hq with hq|hq
 · obtain ⟨its,r,pl,hz⟩:=I.list hq;refine SeqAt.notIn_listAt (eqU x) pl.isList (fun w hw=>Zfy rx fx r fs w (by simpa using hw)) ⟨.bl _,H,I,rfl,?_⟩;rw [show its.toArray.any (eqU x)=its.any (eqU x) by simp,Zjj r fs];exact q
 · obtain ⟨its,r,pl,hz⟩:=I.tuple hq;refine SeqAt.notIn_tupleAt (eqU x) pl (fun w hw=>Zfy rx fx r fs w (by simpa using hw)) ⟨.bl _,H,I,rfl,?_⟩;rw [show its.toArray.any (eqU x)=its.any (eqU x) by simp,Zjj r fs];exact q
theorem Zt:Zas X (.builtin "len") (fun xs H Q=>∃ p ys,xs=[.ref p]∧(SqL X.K H p ys∨SqT X.K H p ys)∧Q (.int ys.length) H):=by
 intro pins s σ H xs us Q I r h;obtain ⟨p,ys,rfl,hq,q⟩:=h;obtain ⟨u,rfl,rx⟩:=Zli r;cases rx
 have hn:=Zg3
 rcases hq with hq|hq
 · obtain ⟨its,r',pl,hz⟩:=I.list hq;have hlen:=r'.length;exact Calls.call_len_list pl.isList (by simp only [n16_]<;>omega) ⟨.int ys.length,H,I.tok _,⟨s.toks+1,by rw [n16_,hlen]⟩,q⟩
 · obtain ⟨its,r',pl,hz⟩:=I.tuple hq;have hlen:=r'.length;exact len_tuple pl (by simp only [n16_]<;>omega) ⟨.int ys.length,H,I.tok _,⟨s.toks+1,by rw [n16_,hlen]⟩,q⟩
theorem Yd:Zas X (.type "tuple") (fun xs H Q=>∃ p ys,xs=[.ref p]∧((SqL X.K H p ys∧∀ l,H l=none→Q (.ref l) (upd H l (.tup ys)))∨(SqT X.K H p ys∧Q (.ref p) H))):=by
 intro pins s σ H xs us Q I r h;obtain ⟨p,ys,rfl,h⟩:=h;obtain ⟨u,rfl,rx⟩:=Zli r;cases rx
 rcases h with ⟨hq,q⟩|⟨hq,q⟩
 · obtain ⟨its,r',pl,hz⟩:=I.list hq;have hlen:=r'.length;refine call_tuple_list pl.isList (fun h' kp=>?_) (by simp only [n16_]<;>omega);have I1:Inv X pins σ H { s with heap:=h' }:=I.kept (t':=s.toks) kp
   have I2:Inv X pins σ (upd H h'.objs.size (.tup ys)) { s with heap:=h'.push { cls:=.type "tuple",data:=.seq its.toArray } } :=
    I1.laid (t':=s.toks) (fun b o e=>n7_ _ e) (n9_ _) (show ObjOk X.prog X.w _ _ _ (.tup ys) from ⟨hz,its,r',IsTup.new _ _⟩)
   exact ⟨.ref h'.objs.size,_,I2,rfl,q _ (I1.hok.fresh (n9_ _))⟩
 · obtain ⟨its,r',pl,hz⟩:=I.tuple hq;exact call_tuple_same pl ⟨.ref p,H,I,rfl,q⟩
def tyV (K:PySem.W.Frag) (T:String) (x:V) (H:Hp):Prop:=match x with
 | .str _=>T = "str"
 | .int _=>T = "int"
 | .ref p=>(T = "list" ∧ ∃ xs,SqL K H p xs)∨(T = "tuple" ∧ ∃ o,K.lookup p=some o∧o.cls=.type "tuple" ∧ o.dict=none) ∨
    (T = "dict" ∧ ((∃ kvs,H p=some (.dK kvs))∨∃ kvs,H p=some (.dT kvs)))∨(T = "set" ∧ ∃ S n,H p=some (.set S n))
 | _=>False
theorem Zpr {pins:List (Addr×Obj)} {σ:St} {H:Hp} {s:Shared} {T:String} {x:V} {v:Value} (I:Inv X pins σ H s) (r:RelV x v) (ty:tyV X.K T x H) :
 s.TypeIs v T∧∀ a,v=.ref a→∃ ob,s.heap.get? a=some ob∧ob.dict=none:=by
 cases x with
 | str z =>
   obtain ⟨t,rfl⟩:=r;cases (show T = "str" from ty)
   exact ⟨typeIs_str s z t,fun _ e=>nomatch e⟩
 | int i =>
   obtain ⟨t,rfl⟩:=r;cases (show T = "int" from ty)
   exact ⟨typeIs_int s i t,fun _ e=>nomatch e⟩
 | ref p =>
   cases r
   rcases ty with ⟨rfl,xs,hq⟩|⟨rfl,o,hk,hc,hd⟩|⟨rfl,hk⟩|⟨rfl,S,n,hk⟩
   · obtain ⟨its,_,pl,_⟩:=I.list hq;refine ⟨pl.isList.typeIs,fun a e=>?_⟩;cases e
     obtain ⟨o,n,e,c,hd,_⟩:=pl;exact ⟨o,e,hd⟩
   · refine ⟨⟨o,I.kIn p o hk,hc⟩,fun a e=>?_⟩;cases e
     exact ⟨o,I.kIn _ o hk,hd⟩
   · have z:∃ o,s.heap.get? p=some o∧o.ExactDict:=by
      rcases hk with ⟨kvs,hk⟩|⟨kvs,hk⟩
      · obtain ⟨_,_,_,_,o,_,_,e,ex,_⟩:=I.hok p _ hk;exact ⟨o,e,ex⟩
      · obtain ⟨_,_,_,_,o,_,_,e,ex,_⟩:=I.hok p _ hk;exact ⟨o,e,ex⟩
     obtain ⟨o,e,ex⟩:=z;refine ⟨⟨o,e,ex.1⟩,fun a e2=>?_⟩;cases e2
     exact ⟨o,e,ex.2.1⟩
   · obtain ⟨o,_,_,_,e,ex,_⟩:=I.hok p _ hk;refine ⟨⟨o,e,ex.1⟩,fun a e2=>?_⟩;cases e2
     exact ⟨o,e,ex.2.1⟩
 | _=>exact False.elim ty
def tBM0 (K:PySem.W.Frag) (T:String) (r:V→List V→Hp→VK→Prop) (to:TE):TE:=fun σ H Q=>to σ H fun x H1=>tyV K T x H1∧r x [] H1 Q
def tBM (K:PySem.W.Frag) (T:String) (r:V→List V→Hp→VK→Prop) (to:TE) (t:TA):TE:=fun σ H Q=>to σ H fun x H1=>tyV K T x H1∧t σ H1 fun xs H2=>r x xs H2 Q
variable {o e:Expr} {es:List Expr} {to:TE} {t:TA} {name:Str} {apos cpos:Pos} {T id:String} {r:V→List V→Hp→VK→Prop}
theorem Za1 (pa:PlainAttrs T) (slot:Slot T name id) (hty:typeOf (.builtin id)=pure (.type "method_descriptor")) (hm:MtR X id r) (ho:PE X o to)
 (hbase:attributeBase o name X.env (eval o X.env)=eval o X.env:=by rfl) (hline:(apos.endLine == cpos.line)=true:=by rfl):PE X (.Call (.Attribute o name apos) [] [] cpos) (tBM0 X.K T r to):=by
 intro pins s σ H Q I h;refine wpAny_Call_method0_late hbase hline (thn (ho pins s σ H _ I h) fun v s1 ⟨x,H1,I1,r1,ty,q1⟩=>?_);obtain ⟨h1,h2⟩:=Zpr I1 r1 ty;exact ⟨T,id,pa,slot,hty,h1,h2,Calls.callWith_builtin rfl (PySem.evalArgs_none (hm pins s1 σ H1 x [] v [] Q I1 r1 .nil q1))⟩
theorem Zdz (pa:PlainAttrs T) (slot:Slot T name id) (hty:typeOf (.builtin id)=pure (.type "method_descriptor")) (hm:MtR X id r) (ho:PE X o to) (ha:PA X (e :: es) t)
 (hbase:attributeBase o name X.env (eval o X.env)=eval o X.env:=by rfl)
 (hfew:((backTo cpos (starEach (e :: es) X.env)).all (fun x=>!x.1)&&(backToKw cpos (keywordEach [] X.env)).all (fun x=>x.1.isSome)
   && decide ((e :: es).length+([]:List Keyword).length+(if ([]:List Keyword).isEmpty then 0 else 1)<30))=true:=by rfl)
 (hline:(apos.endLine == cpos.line)=true:=by rfl) (hs:starEach (e :: es) X.env=(false,eval e X.env) :: starEach es X.env:=by rfl) (hplain:(backTo cpos (starEach es X.env)).any (·.1)=false:=by rfl) :
 PE X (.Call (.Attribute o name apos) (e :: es) [] cpos) (tBM X.K T r to t):=by
 intro pins s σ H Q I h;refine wpAny_Call_method_late hbase hfew hline rfl (thn (ho pins s σ H _ I h) fun v s1 ⟨x,H1,I1,r1,ty,q1⟩=>?_);obtain ⟨h1,h2⟩:=Zpr I1 r1 ty;refine ⟨T,id,pa,slot,hty,h1,h2,?_⟩;have hA:=ha cpos pins s1 σ H1 _ I1 q1;rw [hs] at hA ⊢;refine Calls.callWith_builtin (by show (false||(backTo cpos (starEach es X.env)).any (·.1))=false;rw [hplain]<;>rfl) (Calls.evalArgs_plain ?_);exact thn hA fun us s2 ⟨vs,H2,I2,r2,q2⟩=>hm pins s2 σ H2 x vs v us Q I2 r1 r2 q2
/- xs.append(e),list.index on a module's tuple .. are MtR facts of 06m -/
end
def MtM (X:Cx) (id:String) (r:V→List V→Hp→VK→Prop):Prop :=
 ∀ (pins:List (Addr×Obj)) (s:Shared) (σ:St) (H:Hp) (x:V) (xs:List V) (v:Value) (us:List Value) (Q:VK),Inv X pins σ H s→RelV x v→Vals xs us→r x xs H Q →
   wpAny (model X.prog X.w) X.A (call (.builtin id) (v :: us)) (EP X pins σ Q) X.xe s
theorem Vals.one:∀ {x:V} {us:List Value},Vals [x] us→∃ u,us=[u]∧RelV x u
 | _,_,.cons r .nil=>⟨_,rfl,r⟩
theorem Vals.two:∀ {x y:V} {us:List Value},Vals [x,y] us→∃ u v,us=[u,v]∧RelV x u∧RelV y v
 | _,_,_,.cons r (.cons q .nil)=>⟨_,_,rfl,r,q⟩
theorem Vals.eraseIdx:∀ {xs:List V} {us:List Value} (i:Nat),Vals xs us→Vals (xs.eraseIdx i) (us.eraseIdx i)
 | _,_,_,.nil=>.nil
 | _,_,0,.cons _ t=>t
 | _,_,i+1,.cons r t=>.cons r (Vals.eraseIdx i t)
theorem Vals.rep {xs:List V} {us:List Value} (h:Vals xs us):∀ k:Nat,Vals (List.replicate k xs).flatten (List.replicate k us).flatten
 | 0=>.nil
 | k+1=>by
   rw [n49_,n49_,List.flatten_cons,List.flatten_cons];exact Vals.append h (Vals.rep h k)
theorem Zid {α:Type}:∀ (l:List α) (i:Nat),(l.eraseIdx i).length≤l.length
 | [],_=>n9_ _
 | _ :: _,0=>Nat.le_succ _
 | _ :: r,i+1=>Nat.succ_le_succ (Zid r i)
theorem Zhl (its:List Value):∀ (k:Nat) (acc:List Value),
 List.foldl (fun x1 x2=>x1++x2) acc.toArray (List.replicate k its.toArray)=(acc++(List.replicate k its).flatten).toArray
 | 0,acc=>by simp
 | k+1,acc=>by
   have e:acc.toArray++its.toArray=(acc++its).toArray:=by simp
   have e2:(acc++its)++(List.replicate k its).flatten=acc++(List.replicate (k+1) its).flatten:=by
    rw [n49_,List.flatten_cons,List.append_assoc]
   rw [← e2,← Zhl its k (acc++its),← e,n49_,List.foldl_cons]
section
variable {X:Cx} {pins:List (Addr×Obj)} {σ:St} {H:Hp} {s:Shared} {l b:Addr} {xs ys zs:List V}
theorem Inv.lset {its its':List Value} {n:Nat} {f:Array Value→Array Value} {t':Nat} (I:Inv X pins σ H s) (hH:H l=some (.lst xs))
 (e:s.heap.get? l=some { cls:=.type "list",data:=.seq its.toArray n }) (hf:f its.toArray=its'.toArray) (hv:Vals ys its') (hz:ys.length≤sizeLine) :
 Inv X pins σ (upd H l (.lst ys)) { s with heap:=s.heap.update l (Obj.mapSeq f),toks:=t' }:=by
 have q:=PySem.IsL.update e f;rw [hf] at q;refine I.write (x:=l) (e:=l) (by rw [hH];exact trivial) (.inl rfl) (fun b' u hb hu=>(n78_ s.heap (Obj.mapSeq f) (Ne.symm hb)).trans hu) ⟨_,q⟩ ?_;exact ⟨hz,its',_,hv,q⟩
theorem Inv.lnew {its:List Value} {t':Nat} (I:Inv X pins σ H s) (hv:Vals ys its) (hz:ys.length≤sizeLine) :
 Inv X pins σ (upd H s.heap.objs.size (.lst ys)) { s with heap:=s.heap.push { cls:=.type "list",data:=.seq its.toArray },toks:=t' } :=
 I.laid (fun _ _ q=>n7_ _ q) (n9_ _) ⟨hz,its,0,hv,n17_ _ rfl⟩
theorem Inv.fresh (I:Inv X pins σ H s):H s.heap.objs.size=none:=I.hok.fresh (n9_ _)
theorem Inv.lstM (I:Inv X pins σ H s) (hH:H l=some (.lst xs)):xs.length≤sizeLine∧∃ (its:List Value) (n:Nat),Vals xs its∧xs.length=its.length∧s.heap.get? l=some { cls:=.type "list",data:=.seq its.toArray n }:=by
 obtain ⟨z,its,n,r,e⟩:=I.hok l _ hH;exact ⟨z,its,n,r,r.length,e⟩
theorem Zok {n:Nat} (h:n≤sizeLine):Builtin.List.listTooLong n=false:=by
 unfold Builtin.List.listTooLong;exact n30_ (by omega)
end
section
variable {X:Cx}
def Zq5:V→List V→Hp→VK→Prop:=fun x vs H Q=>∃ l xs y,x=.ref l∧vs=[y]∧H l=some (.lst xs)∧xs.length<sizeLine∧Q .non (upd H l (.lst (xs++[y])))
theorem Y0:MtM X "list.append" Zq5:=by
 intro pins s σ H x vs v us Q I rx rv h;obtain ⟨l,xs,y,rfl,rfl,hH,hz,q⟩:=h;cases rx
 obtain ⟨u,rfl,ru⟩:=rv.one;obtain ⟨z,its,n,r,hl,e⟩:=I.lstM hH;refine call_meets F.slot_list_append ⟨_,e,rfl⟩ F.entry_list_append (F.args_list_append_2 _ _) (PySem.list_append l its.toArray n u (by rw [n16_];omega)) ⟨e,?_⟩;refine ⟨.non,_,I.lset (its':=its++[u]) hH e (by simp) (r.append (.cons ru .nil)) ?_,rfl,q⟩;rw [n20_,List.length_singleton];omega
def Zrz:V→List V→Hp→VK→Prop:=fun x vs H Q=>∃ l xs i k y,x=.ref l∧vs=[.int i]∧H l=some (.lst xs)∧-(2^63)≤i∧i<2^63∧seqIndex? i xs.length=some k∧xs[k]? = some y∧Q y (upd H l (.lst (xs.eraseIdx k)))
theorem Zoe:MtM X "list.pop" Zrz:=by
 intro pins s σ H x vs v us Q I rx rv h;obtain ⟨l,xs,i,k,y,rfl,rfl,hH,h1,h2,hk,hy,q⟩:=h;cases rx
 obtain ⟨u,rfl,ru⟩:=rv.one;obtain ⟨t,rfl⟩:=ru;obtain ⟨z,its,n,r,hl,e⟩:=I.lstM hH;obtain ⟨w,hw,rw'⟩:=r.get hy
 refine call_meets F.slot_list_pop ⟨_,e,rfl⟩ F.entry_list_pop (F.args_list_pop_2 _ _)
  (MeetsSeq.list_pop_at l its.toArray n i t k w (fitsIndex_both h1 h2) (by rw [n16_,← hl];exact hk) (by rw [← Array.getElem?_toList];exact hw) (by rw [n16_];omega)) ⟨e,?_⟩
 refine ⟨y,_,I.lset (its':=its.eraseIdx k) hH e ?_ (r.eraseIdx k) ?_,rw',q⟩
 · show its.toArray.eraseIdxIfInBounds k=(its.eraseIdx k).toArray
   rw [List.eraseIdxIfInBounds_toArray]
 · have:=Zid xs k
   omega
def rCat:R2:=fun x y H Q=>∃ l b xs zs,x=.ref l∧y=.ref b∧H l=some (.lst xs)∧H b=some (.lst zs)∧xs.length+zs.length≤sizeLine∧∀ p,H p=none→Q (.ref p) (upd H p (.lst (xs++zs)))
theorem Zh6:OpR X (binaryOp .Add) rCat:=by
 intro pins s σ H x y v u Q I rx ry h;obtain ⟨l,b,xs,zs,rfl,rfl,hH,hB,hz,q⟩:=h;cases rx
 cases ry
 obtain ⟨z,its,n,r,hl,e⟩:=I.lstM hH;obtain ⟨z2,its2,n2,r2,hl2,e2⟩:=I.lstM hB;refine PySem.P.add_list e e2 ?_ (by rw [n16_,n16_];omega);have ea:its.toArray++its2.toArray=(its++its2).toArray:=by simp
 rw [ea];exact ⟨.ref _,_,I.lnew (t':=s.toks) (r.append r2) (by rw [n20_];omega),rfl,q _ I.fresh⟩
def rRep:R2:=fun x y H Q=>∃ l k xs,x=.ref l∧y=.int k∧H l=some (.lst xs)∧-(2^63)≤k∧k<2^63∧xs.length*k.toNat≤sizeLine ∧
 ∀ p,H p=none→Q (.ref p) (upd H p (.lst (List.replicate k.toNat xs).flatten))
theorem Zqg {α:Type} (xs:List α) (k:Nat):(List.replicate k xs).flatten.length=k*xs.length:=by
 induction k with
 | zero=>simp
 | succ k ih=>rw [n49_,List.flatten_cons,n20_,ih,Nat.succ_mul,Nat.add_comm]
theorem Zmh:OpR X (binaryOp .Mult) rRep:=by
 intro pins s σ H x y v u Q I rx ry h;obtain ⟨l,k,xs,rfl,rfl,hH,h1,h2,hz,q⟩:=h;cases rx
 obtain ⟨t,rfl⟩:=ry;obtain ⟨z,its,n,r,hl,e⟩:=I.lstM hH;have hlen:its.toArray.size*k.toNat≤sizeLine:=by rw [n16_,← hl];exact hz
 have hcap:¬ its.toArray.size*k.toNat>(2^63-1)/8:=by
  have:(sizeLine:Nat)≤(2^63-1)/8:=by decide
  omega
 have hfit:¬ (!Builtin.List.listFitsIndex k)=true:=by
  rw [fitsIndex_both h1 h2];exact n29_
 have hlong:¬ Builtin.List.listTooLong (its.toArray.size*k.toNat)=true:=by
  rw [Zok hlen];exact n29_
 have hnew:List.foldl (fun x1 x2=>x1++x2) #[] (List.replicate (if its.toArray.isEmpty=true then 0 else k.toNat) its.toArray)=(List.replicate k.toNat its).flatten.toArray:=by
  have f0:∀ m:Nat,List.foldl (fun x1 x2=>x1++x2) #[] (List.replicate m its.toArray)=(List.replicate m its).flatten.toArray:=fun m=>by
   have:=Zhl its m []
   rw [List.nil_append] at this;exact this
  rw [f0];cases its with
  | nil=>simp
  | cons a r'=>rw [if_neg (by simp)]
 refine wpAny_binaryOp_repeat_ref (T := "list") (U := "int") (by decide) ⟨_,e,rfl⟩ (fun s'=>typeIs_int s' k t) noFill_list_mul F.fills_int_mul F.slot_int_rmul repeat_list F.slot_int_index.lookup
  (call_meets F.slot_int_rmul (typeIs_int s k t) F.entry_int_rmul (F.args_int_rmul_2 _ _) (int___rmul___int_list k t l its.toArray n)
    ⟨e,rfl,⟨_,e,rfl⟩,call_meets F.slot_list_mul ⟨_,e,rfl⟩ F.entry_list_mul (F.args_list_mul_2 _ _) (AutoListH.list___mul___list_int_3 l its.toArray n k t hfit hcap hlong) ⟨e,?_⟩⟩)
 rw [hnew];exact ⟨.ref _,_,I.lnew (t':=s.toks) (r.rep k.toNat) (by rw [Zqg,n83_];exact hz),rfl,q _ I.fresh⟩
end
section
variable {prog:Program} {w:World} {A:Around} {E:Value→Shared→Prop} {s:Shared}
set_option maxRecDepth 100000 in
end
section
variable {X:Cx}
end
end L2
namespace Att
open PySem PySem.W PySem.Calls PyProof.Rows
theorem Zei {P:Params} {h:Heap}:∀ (ns:List Int) (vs:List Value),WellAll P h vs (ns.map WData.int)→IntsAre vs ns:=by
 intro ns
 induction ns with
 | nil =>
   intro vs w;rw [List.map_nil] at w;cases w
   exact .nil
 | cons n ns ih =>
   intro vs w;rw [n71_] at w;cases w with
   | cons a b =>
     cases a
     exact .cons _ _ (ih _ b)
theorem Znh {l:OpenLaw} {n:Nat} (hn:l.most=some n) {P:Params} {h:Heap} {args:List WData} {vals:List Value}
 (hpre:l.row.toRowW.claim.pre args=true) (hwl:WellAll P h vals args) :
 ∃ a vs ns,vals=[Value.ref a]∧args=[WData.list (ns.map WData.int)]∧h.get? a=some { cls:=.type "list",data:=.seq vs.toArray }∧IntsAre vs ns∧ns.length≤n:=by
 have hsh:WShape.hasAll [] args [.list .int]=true:=(pre_splitW hpre).1;have hc:l.pre.holds [] { args:=args }=true:=(pre_splitW hpre).2;obtain ⟨d,r,rfl,h1,h2⟩:=hasAllW_cons hsh;obtain rfl:=hasAllW_nil h2;obtain ⟨xs,rfl,h3⟩:=hasW_list h1;obtain ⟨ns,rfl⟩:=items_int h3
 have hlen:ns.length≤n:=by
  unfold OpenLaw.pre at hc
  have h4:(WTm.not (.lt (.lit (.int (n:Int))) (.len (.arg 0)))).holds [] { args:=[.list (ns.map .int)] }=true:=by
   have h4:=(holds_andW hc).1;rw [hn] at h4;exact h4
  have h5:=condW_of h4 (w_not (w_lt w_lit (w_len_list (w_arg rfl))));rw [n2_] at h5;refine Nat.le_of_not_lt fun q=>?_;have q':(n:Int)<((ns.length:Nat):Int):=by omega
  first
   | (rw [n32_ q'] at h5;exact absurd h5 (by decide))
   | (simp at h5;omega)
 cases hwl with
 | cons w1 w2 =>
   cases w2
   cases w1 with
   | list ho hall=>exact ⟨_,_,ns,rfl,rfl,ho,Zei ns _ hall,hlen⟩
theorem Zn9 (l:OpenLaw) (args:List WData):l.row.toRowW.claim.post args (.bool true) args=true :=
 postW_of (r:=l.row.toRowW) (X:=(true == true))
  (show WShape.has [] (.bool true) .bool=true by first|rfl|decide|simp [WShape.has,WShape.arms,WShape.armsAll])
  (show (WTm.eq .res (.lit (.bool true))).value [] { args:=args,res:=some (.bool true),after:=args }=some (.bool (true == true)) from w_eq_bool (w_res rfl) w_lit) rfl
theorem attach_call {l:OpenLaw} {n:Nat} {q:Program} {loose:List Str} {XP:(Str→Option Value)→Heap→Prop} {YP:World→Heap→Prop} {d:DefRec}
 (hn:l.most=some n) (hdf:d.params.defaults=[])
 (call:∀ (w:World) (s₀ s₁:Shared) (mg mb:Str→Option Value) (fa:Addr) (o:Obj) (pm cd doc:Value) (a:Addr) (vs:List Value) (ns:List Int),
   Ground q loose [] XP w s₀ mg mb s₁.heap→YP w s₁.heap →
   s₁.heap.get? fa=some o→o.data=.func (docDef d.name d.params d.body d.scope pm cd doc)→s₁.heap.CodeRec cd d.name→mg d.name=some (.ref fa) →
   s₁.heap.get? a=some { cls:=.type "list",data:=.seq vs.toArray }→IntsAre vs ns→ns.length≤n→s₁.gens=#[] →
   codeAny (model l.prog w) callerA (.call (.ref fa) ⟨[.ref a],[]⟩) (fun r s'=>r=.ok (.ret (.bool true))∧OldK s₁.heap s'.heap∧s'.os=s₁.os∧AllBare s'.gens) s₁) :
 WalkO q loose XP YP l.row.toRowW d [] (fun f vs=>PySem.call f vs):=by
 intro w s₀ s₁ mg mb G Y fa o pm cd doc dV kV ho hd hcd hD hmg hg args vals as hpre hlay hrd hwl hlo;obtain rfl:dV=.none:=Dflts.none hD hdf;obtain rfl:kV=.none:=Dflts.noKw hD;obtain ⟨a,vs,ns,rfl,rfl,hobj,hints,hlen⟩:=Znh hn hpre hwl;refine enter_call (codeAny_mono (call w s₀ s₁ mg mb fa o pm cd doc a vs ns G Y ho (fd_plain hd) hcd hmg hobj hints hlen hg) fun r s' hq=>?_);obtain ⟨rfl,h2,h3,h4⟩:=hq;exact ⟨.inl ⟨.bool true,.bool true,[],rfl,fun _=>rfl,.bool true,Zn9 l _,fun _=>⟨List.Pairwise.nil,fun _ hm=>(nomatch hm)⟩⟩,h2,h3,h4⟩
section
variable {prog:Program} {w:World} {A:Around} {E:Value→Shared→Prop} {s:Shared} {K:Frag}
end
end Att
namespace L2
open PySem PySem.Spec PyProof.Rows
theorem Zhd:∀ {vs:List Value} {ns:List Int},IntsAre vs ns→Vals (ns.map V.int) vs
 | _,_,.nil=>.nil
 | _,_,.cons n t h=>.cons ⟨t,rfl⟩ (Zhd h)
def Xa (s:Stmt):Arguments:=match s with
 | .FunctionDef _ a _ _ _ _ _ _ _ _=>a
 | _=>{ posonlyargs:=[],args:=[],vararg:=none,kwonlyargs:=[],kw_defaults:=[],kwarg:=none,defaults:=[] }
def Yw (s:Stmt):List Stmt:=match s with
 | .FunctionDef _ _ b _ _ _ _ _ _ _=>b
 | _=>[]
def Zf (s:Stmt):Scope:=match s with
 | .FunctionDef _ _ _ _ _ _ sc _ _ _=>sc
 | _=>{ kind:=.function,names:=[],isGenerator:=false,isCoroutine:=false }
abbrev CX0:CXT:=fun _ _ _ _ _ _=>False
abbrev E0:XK:=fun _ _ _=>False
theorem Ztp {X:Cx}:Zl3 CX0 X E0:=fun _ _ _ _ _ _ _ h=>h.elim
structure Fun (K:PySem.W.Frag) (x qual:Str) (st:Stmt) (f:Addr) (fd:FuncData):Prop where
 ex:∃ (oc:Value) (od:Option Addr) (kV doc pm:Value) (an:Option Addr) (cdv ct:Value) (osl:Array (Option Value)),
  fd=PySem.W.fnOf x qual (Xa st) (Yw st) (Zf st) .none kV doc pm an cdv ct∧K.lookup f=some ⟨oc,od,.func fd,osl⟩∧PySem.W.codeIn K cdv qual=true
 kp:PySem.W.keepIn K (.ref f)=true
section
variable {P:Program} {w:World} {K:PySem.W.Frag} {mg:Str→Option Value} {base:Heap}
theorem Fun.ok {x qual:Str} {st:Stmt} {f:Addr} {fd:FuncData} {N ps:List Str} {k:Nat} {sp:Sp} (F:Fun K x qual st f fd) (S:FnScope N ps (Zf st)) (len:∀ vs H Q E,sp vs H Q E→vs.length=ps.length)
 (hbody:∀ (cdv:Value) (A:Around) (outer:List Env) (s:Shared) (H:Hp) (vs:List V) (Q:VK) (E:XK),Room k (A.deeper (envOfC qual (Zf st) s.heap.objs.size f cdv))→sp vs H Q E →
   ∃ t,PSs (cxOf CX0 P w K mg base N qual (Zf st) f cdv A outer s H E).nox (Yw st) t∧t { nx:=fun _ H'=>Q .non H',rt:=Q } (start N vs) H):FnOk P w K mg base CX0 (k+1) f fd ps sp:=by
 obtain ⟨oc,od,kV,doc,pm,an,cdv,ct,osl,rfl,lk,hcd⟩:=F.ex;refine Zra lk hcd S len fun A outer s H vs Q E hr hsp=>?_;obtain ⟨t,h,q⟩:=hbody cdv A outer s H vs Q E hr hsp;exact ⟨t,h.nox,q⟩
theorem Fun.binds {x qual:Str} {st:Stmt} {f:Addr} {fd:FuncData} {ps:List Str} (F:Fun K x qual st f fd)
 (h:∀ (kV doc pm:Value) (an:Option Addr) (cdv ct:Value) (us:List Value),us.length=ps.length→bindArgs (PySem.W.fnOf x qual (Xa st) (Yw st) (Zf st) .none kV doc pm an cdv ct) ⟨us,[]⟩=pure (ps.zip us)):Binds K fd ps []:=by
 obtain ⟨oc,od,kV,doc,pm,an,cdv,ct,osl,rfl,lk,hcd⟩:=F.ex;exact .all (h kV doc pm an cdv ct)
theorem Zm2 {x qual:Str} {st:Stmt} {f:Addr} {oc:Value} {od an:Option Addr} {osl:Array (Option Value)} {kV doc pm cdv ct:Value} (l:K.lookup f=some ⟨oc,od,.func (PySem.W.fnOf x qual (Xa st) (Yw st) (Zf st) .none kV doc pm an cdv ct),osl⟩)
 (c:PySem.W.codeIn K cdv qual=true) (k:PySem.W.keepIn K (.ref f)=true):Fun K x qual st f (PySem.W.fnOf x qual (Xa st) (Yw st) (Zf st) .none kV doc pm an cdv ct):=⟨⟨oc,od,kV,doc,pm,an,cdv,ct,osl,rfl,l,c⟩,k⟩
end
theorem Zi3 {A:Around} {k:Nat} (hr:Room k A):A.units+1<cLine:=n12_ (Nat.add_le_add_left (by decide:1≤64) _) hr.units
section
variable {X:Cx}
theorem pv (i:Nat) {x:Str} {pos:Pos} (hN:X.N[i]? = some x:=by rfl) (hv:Vis X.env.scope x:=by first|exact Or.inl rfl|exact Or.inr (Or.inl rfl)|exact Or.inr (Or.inr rfl)) (hd:(x == ("__debug__" : Str))=false:=by decide)
 (hcd:(x == ("__classdict__" : Str))=false:=by decide):PE X (.Name x pos) (tVar i):=Zst hN hv hd hcd
end
theorem iteF {A B:Prop} (h:B):if false=true then A else B:=by
 rw [if_neg n29_];exact h
theorem iteT {A B:Prop} (h:A):if true=true then A else B:=by
 rw [if_pos rfl];exact h
theorem ite2 {c A B:Prop} [Decidable c] (h1:c→A) (h2:¬ c→B):if c then A else B:=by
 by_cases h:c
 · rw [if_pos h];exact h1 h
 · rw [if_neg h];exact h2 h
def Same (H H':Hp):Prop:=∀ b o,H b=some o→H' b=some o
theorem Same.refl (H:Hp):Same H H:=fun _ _ h=>h
theorem Same.trans {H H1 H2:Hp} (a:Same H H1) (b:Same H1 H2):Same H H2:=fun c o h=>b c o (a c o h)
end L2
namespace FM
def sg (t b:Int):Int:=if b<0 then -(Int.gcd t b:Int) else (Int.gcd t b:Int)
theorem gcd_ne {t b:Int} (h:b≠0):(Int.gcd t b:Int)≠0:=by
 intro e
 have:=Int.gcd_eq_zero_iff.mp (Int.ofNat.inj e)
 exact h this.2
theorem sg_ne {t b:Int} (h:b≠0):sg t b≠0:=by
 have:=gcd_ne (t:=t) h
 unfold sg;split<;>omega
theorem fdiv_mul {c k:Int} (h:k≠0):(c*k).fdiv k=c:=Int.mul_fdiv_cancel c h
theorem fdiv_num {t b:Int} (h:b≠0):t.fdiv (sg t b)=(Rat.divInt t b).num:=by
 rw [Rat.num_divInt];obtain ⟨c,hc⟩:=Int.gcd_dvd_left t b;have hg:=gcd_ne (t:=t) h;have e:(b.gcd t:Int)=(t.gcd b:Int):=by rw [Int.gcd_comm]
 rw [e];unfold sg
 rcases Int.lt_or_gt_of_ne h with hb|hb
 · rw [if_pos hb,Int.sign_eq_neg_one_of_neg hb];generalize (t.gcd b:Int)=g at *;subst hc;rw [show g*c=(-c)*(-g) by rw [Int.neg_mul_neg,n42_],fdiv_mul (by omega)];rw [show (-1:Int)*((-c)*(-g))=(-c)*g by rw [Int.neg_mul_neg,n88_,Int.one_mul,n88_],Int.mul_ediv_cancel _ hg]
 · rw [if_neg (by omega),Int.sign_eq_one_of_pos hb,Int.one_mul];generalize (t.gcd b:Int)=g at *;subst hc;rw [n42_,fdiv_mul hg,Int.mul_ediv_cancel _ hg]
theorem fdiv_den {t b:Int} (h:b≠0):b.fdiv (sg t b)=((Rat.divInt t b).den:Int):=by
 rw [Rat.den_divInt,if_neg h];obtain ⟨c,hc⟩:=n79_ t b;have hg:=gcd_ne (t:=t) h;have e:b.gcd t=t.gcd b:=by rw [Int.gcd_comm]
 rw [e,Int.natCast_ediv];unfold sg
 rcases Int.lt_or_gt_of_ne h with hb|hb
 · rw [if_pos hb,Int.ofNat_natAbs_of_nonpos (by omega)];generalize (t.gcd b:Int)=g at *;subst hc;rw [show g*c=(-c)*(-g) by rw [Int.neg_mul_neg,n42_],fdiv_mul (by omega)];rw [show -((-c)*(-g))=(-c)*g by rw [Int.neg_mul_neg,n88_],Int.mul_ediv_cancel _ hg]
 · rw [if_neg (by omega),Int.natAbs_of_nonneg (by omega)];generalize (t.gcd b:Int)=g at *;subst hc;rw [n42_,fdiv_mul hg,Int.mul_ediv_cancel _ hg]
theorem low_num {t b:Int} (h:b≠0):(if 0<b then t.fdiv (Int.gcd t b:Int) else 0-t.fdiv (Int.gcd t b:Int))=(Rat.divInt t b).num:=by
 rw [← fdiv_num h];have hg:=gcd_ne (t:=t) h;obtain ⟨c,hc⟩:=Int.gcd_dvd_left t b;unfold sg
 by_cases hb:0<b
 · rw [if_pos hb,if_neg (by omega)]
 · rw [if_neg hb,if_pos (by omega)];generalize (t.gcd b:Int)=g at *;subst hc;rw [show g*c=c*g by simp [n42_],fdiv_mul hg];rw [show c*g=(-c)*(-g) by rw [Int.neg_mul_neg],fdiv_mul (by omega)];omega
theorem low_den {t b:Int} (h:b≠0):(b.natAbs:Int).fdiv (Int.gcd t b:Int)=((Rat.divInt t b).den:Int):=by
 rw [← fdiv_den h];have hg:=gcd_ne (t:=t) h;obtain ⟨c,hc⟩:=n79_ t b;unfold sg
 by_cases hb:b<0
 · rw [if_pos hb,Int.ofNat_natAbs_of_nonpos (by omega)];generalize (t.gcd b:Int)=g at *;subst hc;rw [show g*c=(-c)*(-g) by rw [Int.neg_mul_neg,n42_],fdiv_mul (by omega)];rw [show -((-c)*(-g))=(-c)*g by rw [Int.neg_mul_neg,n88_],fdiv_mul hg]
 · rw [if_neg hb,Int.natAbs_of_nonneg (by omega)]
theorem gcd_fmod {a b:Int} (h:b≠0):Int.gcd b (a.fmod b)=Int.gcd a b:=by
 have e:a.fmod b=a-b*a.fdiv b:=by have:=Int.mul_fdiv_add_fmod a b;omega
 rw [e,Int.gcd_comm a b]
 have:=Int.gcd_sub_mul_left_right b a (a.fdiv b)
 first|exact this|(rw [← this])|simpa using this
theorem fmod_abs_lt {a b:Int} (h:b≠0):(a.fmod b).natAbs<b.natAbs:=by
 rcases Int.lt_or_gt_of_ne h with hb|hb
 · have e:a.fmod b = -((-a).fmod (-b)):=by
    have:=Int.neg_fmod_neg a b
    omega
   have h1:=n68_ (-a) (show (0:Int) < -b by omega);have h2:=n98_ (-a) (show (0:Int) < -b by omega);omega
 · have h1:=n68_ a hb;have h2:=n98_ a hb;omega
def B (n:Nat) (q:Rat):Prop:=q.num.natAbs<2^n∧q.den<2^n
theorem B.mono {n m:Nat} {q:Rat} (h:B n q) (l:n≤m):B m q :=
 ⟨n10_ h.1 (n23_ (by decide) l),n10_ h.2 (n23_ (by decide) l)⟩
theorem natAbs_mul_lt {a b:Int} {n m:Nat} (h1:a.natAbs<2^n) (h2:b.natAbs<2^m):(a*b).natAbs<2^(n+m):=by
 rw [n38_,n63_];exact Nat.mul_lt_mul'' h1 h2
theorem Zgq (t:Int) {b:Int} (h:b≠0):(Rat.divInt t b).num.natAbs≤t.natAbs:=by
 rw [Rat.num_divInt]
 have hs:(b.sign*t).natAbs≤t.natAbs:=by
  rw [n38_]
  have:b.sign.natAbs≤1:=by
   rcases Int.lt_trichotomy b 0 with z|z|z
   · rw [Int.sign_eq_neg_one_of_neg z];decide
   · omega
   · rw [Int.sign_eq_one_of_pos z];decide
  calc b.sign.natAbs*t.natAbs≤1*t.natAbs:=n82_ _ this
   _=t.natAbs:=Nat.one_mul _
 obtain ⟨c,hc⟩:∃ c,b.sign*t=(b.gcd t:Int)*c:=by
  obtain ⟨c,hc⟩:=n79_ b t;refine ⟨b.sign*c,?_⟩;rw [← n77_,n42_ (b.gcd t:Int) b.sign,n77_,← hc]
 have hg:(b.gcd t:Int)≠0:=by
  intro e;exact h (Int.gcd_eq_zero_iff.mp (Int.ofNat.inj e)).1
 rw [hc,Int.mul_ediv_cancel_left _ hg]
 have:c.natAbs≤(b.sign*t).natAbs:=by
  rw [hc,n38_]
  have:1≤(b.gcd t:Int).natAbs:=by omega
  calc c.natAbs=1*c.natAbs:=(Nat.one_mul _).symm
   _≤_:=n82_ _ this
 omega
theorem Zgb (t:Int) {b:Int} (h:b≠0):(Rat.divInt t b).den≤b.natAbs:=by
 rw [Rat.den_divInt,if_neg h];exact Nat.div_le_self _ _
theorem B_divInt {n:Nat} {t b:Int} (h:b≠0) (h1:t.natAbs<2^n) (h2:b.natAbs<2^n):B n (Rat.divInt t b) :=
 ⟨n12_ (Zgq t h) h1,n12_ (Zgb t h) h2⟩
theorem den_ne (q:Rat):(q.den:Int)≠0:=by have:=q.den_nz;omega
theorem den_pos (q:Rat):(0:Int)<q.den:=by have:=q.den_nz;omega
theorem add_eq (p q:Rat):Rat.divInt (p.num*q.den+q.num*p.den) (p.den*q.den)=p+q:=by
 have:=Rat.divInt_add_divInt p.num q.num (den_ne p) (den_ne q)
 rw [Rat.num_divInt_den,Rat.num_divInt_den] at this;exact this.symm
theorem mul_eq (p q:Rat):Rat.divInt (p.num*q.num) (p.den*q.den)=p*q:=by
 have:=Rat.divInt_mul_divInt p.num q.num (d₁:=p.den) (d₂:=q.den)
 rw [Rat.num_divInt_den,Rat.num_divInt_den] at this;exact this.symm
theorem div_eq (p q:Rat):Rat.divInt (p.num*q.den) (p.den*q.num)=p/q:=by
 rw [Rat.div_def,Rat.inv_def]
 have:=Rat.divInt_mul_divInt p.num q.den (d₁:=p.den) (d₂:=q.num)
 rw [Rat.num_divInt_den] at this;exact this.symm
theorem mul_ne {p q:Rat}:(p.den:Int)*q.den≠0:=Int.mul_ne_zero (den_ne p) (den_ne q)
theorem B_add {n m:Nat} {p q:Rat} (hp:B n p) (hq:B m q):B (n+m+1) (p+q):=by
 rw [← add_eq];refine B_divInt mul_ne ?_ ?_
 · have h1:=natAbs_mul_lt hp.1 (show (q.den:Int).natAbs<2^m from hq.2);have h2:=natAbs_mul_lt hq.1 (show (p.den:Int).natAbs<2^n from hp.2);have h3:=Int.natAbs_add_le (p.num*q.den) (q.num*p.den);rw [Nat.add_comm m n] at h2;rw [Nat.pow_succ];omega
 · have h1:=natAbs_mul_lt (show (p.den:Int).natAbs<2^n from hp.2) (show (q.den:Int).natAbs<2^m from hq.2);rw [Nat.pow_succ];omega
theorem B_neg {n:Nat} {p:Rat} (hp:B n p):B n (-p):=⟨by rw [Rat.neg_num,Int.natAbs_neg];exact hp.1,hp.2⟩
theorem B_mul {n m:Nat} {p q:Rat} (hp:B n p) (hq:B m q):B (n+m) (p*q):=by
 rw [← mul_eq];exact B_divInt mul_ne (natAbs_mul_lt hp.1 hq.1) (natAbs_mul_lt (show (p.den:Int).natAbs<2^n from hp.2) (show (q.den:Int).natAbs<2^m from hq.2))
theorem num_ne {q:Rat} (h:q≠0):q.num≠0:=fun e=>h (Rat.num_eq_zero.mp e)
theorem B_div {n m:Nat} {p q:Rat} (hq0:q≠0) (hp:B n p) (hq:B m q):B (n+m) (p/q):=by
 rw [← div_eq];exact B_divInt (Int.mul_ne_zero (den_ne p) (num_ne hq0)) (natAbs_mul_lt hp.1 (show (q.den:Int).natAbs<2^m from hq.2)) (natAbs_mul_lt (show (p.den:Int).natAbs<2^n from hp.2) hq.1)
theorem gcd_one (q:Rat):Int.gcd q.num q.den=1:=by
 have:=q.reduced
 unfold Nat.Coprime at this
 simpa [Int.gcd] using this
theorem Zk5 {a b:Int} (hb:0<b) (h:Int.gcd a b=1):(Rat.divInt a b).num=a∧((Rat.divInt a b).den:Int)=b:=by
 rw [Rat.num_divInt,Rat.den_divInt,if_neg (by omega),Int.gcd_comm b a,h,Int.sign_eq_one_of_pos hb];constructor
 · simp
 · simp;omega
theorem whole (a:Int):(Rat.divInt a 1).num=a∧((Rat.divInt a 1).den:Int)=1:=Zk5 (by decide) (by simp)
end FM
namespace L2
open PySem PySem.Spec PyProof.Rows
theorem Zc3 {prog:Program} {w:World} {A:Around} {R:Result→Shared→Prop} {s:Shared} {elt target iter:Expr} {ifs:List Expr} {scope:Scope} {pos:Pos} {it acc:Value} {env:Env} (I:Nat→Shared→Prop)
 (turn:∀ n s,I n s→wpAny (model prog w) A (pyNext it) (fun r s₁=>match r with
   | none=>R (.ok .next) s₁
   | some v=>wpAny (model prog w) A (letOwnedTupleGo target it v) (fun _ s₀=>wpAny (model prog w) A (assign target env v) (fun _ s₂ =>
      wpAny (model prog w) A (forIn ifs true fun c r=>if r=true then do let ok ← isTrue c env (eval c env);pure (ForInStep.yield ok) else pure (ForInStep.yield r)) (fun ok s₃ =>
       if ok=true then wpAny (model prog w) A (eval elt env) (fun x s₄ =>
        wpAny (model prog w) A (call (.builtin "list.append") [acc,x]) (fun _ s₅=>∃ m,m<n∧I m s₅) (fun _ _=>False) s₄) (fun _ _=>False) s₃
       else ∃ m,m<n∧I m s₃) (fun _ _=>False) s₂) (fun _ _=>False) s₀) (fun _ _=>False) s₁) (fun _ _=>False) s)
 (n:Nat) (h:I n s) :
 codeAny (model prog w) A (.compLoop (.ListComp elt [⟨target,iter,ifs,0⟩] scope pos) 0 it acc env) R s:=by
 refine codeAny_loop rfl I (fun n s hI=>?_) n h;show wpAny _ A ((compTurn (.ListComp elt [⟨target,iter,ifs,0⟩] scope pos) 0 it acc env).onRaise (fun x=>do noteFrame x env;theTreesLotGoes x)) _ _ s
 refine wpAny_noted ?_;rw [compTurn_list];refine n6_ (wpAny_standAt (n6_ (wpAny_mono (turn n s hI) (fun r s₁ h₁=>?_) fun _ _ h'=>h'.elim)));cases r with
 | none=>exact n25_ h₁
 | some v =>
   refine n6_ (wpAny_mono h₁ (fun _ s₀ h₀=>?_) fun _ _ h'=>h'.elim);refine n6_ (wpAny_mono h₀ (fun _ s₂ h₂=>n6_ (wpAny_mono h₂ (fun ok s₃ h₃=>?_) fun _ _ h'=>h'.elim)) fun _ _ h'=>h'.elim);cases ok with
   | false=>exact n25_ ⟨rfl,h₃⟩
   | true =>
     exact n6_ (n6_ (wpAny_mono h₃ (fun x s₄ h₄=>n6_ (wpAny_mono h₄ (fun _ s₅ h₅=>n25_ (n25_ ⟨rfl,h₅⟩)) fun _ _ h'=>h'.elim)) fun _ _ h'=>h'.elim))
theorem Ym:∀ (names:List (Str×NameKind)) (n:Nat) (acc:List (Str×Addr)),cellsFrom n names acc=cellsFrom n names []++acc
 | [],_,_=>rfl
 | (x,k) :: r,n,acc=>by
   unfold cellsFrom;split
   · rw [Ym r (n+1) ((x,n) :: acc),Ym r (n+1) [(x,n)],List.append_assoc];rfl
   · exact Ym r n acc
theorem Zam {x:Str} {c:Addr}:∀ (names:List (Str×NameKind)) (n:Nat),(x,c)∈cellsFrom n names []→(x,NameKind.cell)∈names
 | [],_,h=>by simp [cellsFrom] at h
 | (y,k) :: r,n,h=>by
   unfold cellsFrom at h;split at h
   · rename_i hk
     rw [Ym] at h
     rcases n46_.mp h with h|h
     · exact n3_ _ (Zam r _ h)
     · cases n15_.mp h
       rw [show k=.cell by simpa using hk];exact n5_
   · exact n3_ _ (Zam r _ h)
theorem Zb5 {names:List (Str×NameKind)} {n:Nat} {cl:List (Str×Addr)} {x:Str} {c:Addr} (h:(cellsFrom n names cl).lookup x=some c):(cellsFrom n names []).lookup x=some c∨cl.lookup x=some c:=by
 rw [Ym,List.lookup_append] at h;cases e:(cellsFrom n names []).lookup x with
 | none=>rw [e] at h;exact .inr h
 | some c'=>rw [e] at h;exact .inl h
theorem Zla {M:Model} {A:Around} {E:Value→Shared→Prop} {s:Shared} {scope:Scope} {globals:Addr} {cl:List (Str×Addr)} {qual:Str} {env:Env} {Q:Env→Shared→Prop}
 (hQ:∀ h',h'.Ns s.heap.objs.size (fun _=>none)→(∀ b o,s.heap.get? b=some o→h'.get? b=some o)→CellsOk h' (s.heap.objs.size+1) (cellsFrom (s.heap.objs.size+1) scope.names []) →
   Q (newEnv scope s.heap.objs.size globals (cellsFrom (s.heap.objs.size+1) scope.names cl) qual none .none (some env) builtinsNs) { s with heap:=h' }) :
 wpAny M A (newFunctionEnv scope globals cl [] qual none .none (some env)) Q E s:=by
 simp only [newFunctionEnv,Option.isSome_some,if_true];refine n6_ (wpAny_alloc ?_);refine n6_ (wpAny_layCells _ (fun name kind cells=>by cases hkc:kind == NameKind.cell<;>simp [hkc]) _ _ _ _ ?_);have ok:=cellsFrom_ok scope.names (s.heap.push { cls:=.type "dict",data:=.dict #[] }) (s.heap.objs.size+1) [] ⟨fun _ _ hm=>(nomatch hm),List.Pairwise.nil⟩ (by rw [n80_];exact n9_ _);rw [n80_] at ok;rw [show ({ s with heap:=s.heap.push { cls:=.type "dict",data:=.dict #[] } }:Shared).heap.objs.size=s.heap.objs.size+1 from n80_ ..];rw [List.forIn_nil];exact n6_ (n25_ (n25_ (hQ _ ((Heap.Ns.new s.heap (.type "dict")).keeps (pushCells_keeps _ _)) (fun b o e=>pushCells_keeps _ _ b o (n7_ _ e)) ok)))
def blk (X:Cx) (scope:Scope) (cl:List (Str×Addr)) (C:Addr) (N:List Str) (s3:Shared) (H3:Hp) (fp:List Addr):Cx where
 prog:=X.prog
 w:=X.w
 K:=X.K
 mg:=X.mg
 base:=X.base
 A:=X.A
 N:=N
 s₀:=s3
 H₀:=H3
 env:=compEnvC scope (cellsFrom (C+1) scope.names cl) C X.env
 outer:=X.stack
 stack:=X.stack
 ex:=fp
 fn:=fun x=>scope.names.lookup x == some .cell
 calm:=X.calm
 pn:=[]
 xe:=fun _ _=>False
structure LcO (X:Cx) (scope:Scope) (cl:List (Str×Addr)) (N:List Str) (fr:List (Option Nat)):Prop where
 clos:closureFor scope X.env=pure cl
 sub:∀ x c,cl.lookup x=some c→X.env.cells.lookup x=some c
 has:∀ x,((relabel scope X.env).names.lookup x=some .cell∨(relabel scope X.env).names.lookup x=some .free)→scope.names.lookup x=some .cell∨∃ c,cl.lookup x=some c
 kind:scope.kind=.function
 names:∀ y∈scope.names,y.2=.local→scope.names.lookup y.1=some .local
 len:fr.length=N.length
 from':∀ (i j:Nat),fr[i]? = some (some j)→∃ x,N[i]? = some x∧X.N[j]? = some x∧(X.env.scope.names.lookup x=some .cell∨X.env.scope.names.lookup x=some .free)∧((relabel scope X.env).names.lookup x=some .cell∨(relabel scope X.env).names.lookup x=some .free)∧(∃ c,cl.lookup x=some c)∧(x,NameKind.cell)∉scope.names
def Zd4 (fr:List (Option Nat)) (σ:St):St:=fr.map fun o=>match o with
 | some j=>match σ[j]? with
   | some v=>v
   | none=>none
 | none=>none
theorem pgB {X:Cx} {scope:Scope} {cl:List (Str×Addr)} {C:Addr} {N:List Str} {s3:Shared} {H3:Hp} {fp:List Addr} {x:Str} {pos:Pos} (i:Nat) (hN:N.Nodup:=by decide) (hi:N[i]? = some x:=by rfl) (hf:(blk X scope cl C N s3 H3 fp).env.scope.names.lookup x=some .local:=by rfl):PG (blk X scope cl C N s3 H3 fp) (.Name x pos) (Z4 i):=Zi hN hi (.inl hf) (.inr hf)
theorem Zqu {P:Program} {w:World} {H:Hp} {h h':Heap} {a:Addr} (ok:HOk P w H h) (hfree:H a=none) (hs:Heap.SameBut a h h'):HOk P w H h':=fun b ob e=>by
 refine (ok b ob e).stay (fun c w' hc q=>(hs.2 c ?_).trans q) (fun _ q=>q) fun _ _ q=>q;rintro rfl
 rcases hc with rfl|hc
 · rw [hfree] at e;cases e
 · rw [hfree] at hc;cases hc
theorem Zng {X:Cx} {pins:List (Addr×Obj)} {σ:St} {H:Hp} {s3:Shared} {h1:Heap} {scope:Scope} {cl:List (Str×Addr)} {N:List Str} {fr:List (Option Nat)} {fp:List Addr} (L:LcO X scope cl N fr) (I:Inv X pins σ H s3) (co:CellsOk h1 (s3.heap.objs.size+1) (cellsFrom (s3.heap.objs.size+1) scope.names []))
 (hf:∀ b∈fp,FpOk X pins H b) (hlt:∀ b∈fp,b<s3.heap.objs.size):(blk X scope cl s3.heap.objs.size N s3 H fp).Ok where
 mod:=I.ok.mod
 kind:=L.kind
 glob:=I.ok.glob
 blt:=I.ok.blt
 above:=n9_ _
 inj:=fun x y c h1 h2=>by
  have old:∀ z,cl.lookup z=some c→c<s3.heap.objs.size:=fun z e=>let ⟨_,k⟩:=I.cell z c (L.sub z c e);k.lt;have new:∀ z,(cellsFrom (s3.heap.objs.size+1) scope.names []).lookup z=some c→s3.heap.objs.size+1≤c:=fun z e=>(co.empty z c (n39_ e)).2
  rcases Zb5 h1 with a|a<;>rcases Zb5 h2 with b|b
  · exact name_of_addr co.apart (n39_ a) (n39_ b)
  · exact absurd (n10_ (old y b) (Nat.le_of_succ_le (new x a))) (Zey _)
  · exact absurd (n10_ (old x a) (Nat.le_of_succ_le (new y b))) (Zey _)
  · exact I.ok.inj x y c (L.sub x c a) (L.sub y c b)
 has:=fun x h=>by
  refine Option.isSome_iff_exists.mp (PySem.W.cellsFrom_some scope.names (s3.heap.objs.size+1) cl ?_)
  rcases L.has x h with z|⟨c,z⟩
  · exact .inl z
  · exact .inr (by rw [z];rfl)
 cab:=fun x c h e=>by
  obtain ⟨c',e'⟩:=Z0 (sc:=scope) (n:=s3.heap.objs.size+1) (beq_iff_eq.mp (show (scope.names.lookup x == some .cell)=true from h));have e2:(cellsFrom (s3.heap.objs.size+1) scope.names cl).lookup x=some c:=e;rw [Ym,List.lookup_append,e'] at e2;have e3:c'=c:=Option.some.inj e2;subst e3;exact Nat.le_of_succ_le (co.empty x c' (n39_ e')).2
 hd:=I.ok.hd
 frames:=I.ok.frames
 stk:=.inl rfl
 exf:=fun b hb=>⟨n51_ (hlt b hb),fun x c h=>by
  rcases Zb5 h with a|a
  · exact Nat.ne_of_gt (n10_ (hlt b hb) (Nat.le_of_succ_le (co.empty x c (n39_ a)).2))
  · exact (hf b hb).2.2.2.2.1 x c (L.sub x c a)⟩
 bs:=I.bs
 bsz:=n28_ I.ok.bsz I.sz
 noex:=fun b o e hb=>by
  rcases (hf b hb).2.2.2.1 with z|z
  · exact I.ok.noex b o e z
  · exact absurd (n10_ (n21_ e) (n28_ I.ok.bsz z)) (Zey _)
 exfs:=fun b hb z=>by
  rcases n34_.mp (I.stkSub b z) with e|e
  · exact (hf b hb).2.1 e
  · exact (hf b hb).2.2.1 e
 funs:=I.stack
 frf:=I.stkFree
theorem Zm3 {X:Cx} {pins:List (Addr×Obj)} {σ:St} {H:Hp} {s3:Shared} {h1:Heap} {t:Nat} {scope:Scope} {cl:List (Str×Addr)} {N:List Str} {fr:List (Option Nat)} {fp:List Addr} (L:LcO X scope cl N fr) (I:Inv X pins σ H s3) (co:CellsOk h1 (s3.heap.objs.size+1) (cellsFrom (s3.heap.objs.size+1) scope.names []))
 (hf:∀ b∈fp,FpOk X pins H b) (hlt:∀ b∈fp,b<s3.heap.objs.size) {m0:Str→Option Value} (hns:h1.Ns s3.heap.objs.size m0) (hk:∀ b o,s3.heap.get? b=some o→h1.get? b=some o) :
 Inv (blk X scope cl s3.heap.objs.size N s3 H fp) [] (Zd4 fr σ) H { s3 with heap:=h1,toks:=t } where
 ok:=Zng L I co hf hlt
 os:=rfl
 bare:=I.bare
 base:=Un.kept hk
 loc:=⟨m0,hns,fun i x v e1 e2 e3=>by
  unfold Zd4 at e2;rw [n8_] at e2;cases q:fr[i]? with
  | none=>rw [q] at e2;cases e2
  | some o =>
    rw [q] at e2;cases o with
    | none=>cases e2
    | some j =>
      obtain ⟨y,n1,n2,n3,n4,⟨c,hc⟩,n6⟩:=L.from' i j q;have e1':N[i]? = some x:=e1;rw [n1] at e1';cases e1'
      have e2':(match σ[j]? with|some v=>v|none=>none)=some v:=Option.some.inj e2
      have e2'':σ[j]? = some (some v):=by
       cases z:σ[j]? with
       | none=>rw [z] at e2';cases e2'
       | some w'=>rw [z] at e2';rw [show w'=some v from e2']
      obtain ⟨m,_,hl⟩:=I.loc;obtain ⟨u,r,lk⟩:=hl j x v n2 e2'' (.inr n3);refine ⟨u,r,.inr ⟨n4,c,?_,?_⟩⟩
      · show (cellsFrom (s3.heap.objs.size+1) scope.names cl).lookup x=some c
        rw [Ym,List.lookup_append];cases z:(cellsFrom (s3.heap.objs.size+1) scope.names []).lookup x with
        | none=>exact hc
        | some c'=>exact absurd (Zam _ _ (n39_ z)) n6
      rcases lk with ⟨k,_⟩|⟨k,c',hc',z⟩
      · exfalso
        have k':X.env.scope.names.lookup x=some .local:=k
        rcases n3 with z|z<;>rw [k'] at z<;>cases z
      · rw [L.sub x c hc] at hc';cases hc'
        obtain ⟨o,ho,hd⟩:=z;exact ⟨o,hk _ _ ho,hd⟩⟩
 cell:=fun x c e=>by
  rcases Zb5 e with a|a
  · exact ⟨none,(co.empty x c (n39_ a)).1⟩
  · obtain ⟨v,o,ho,hd⟩:=I.cell x c (L.sub x c a);exact ⟨v,o,hk _ _ ho,hd⟩
 free:=I.hok.fresh (n9_ _)
 freeC:=fun x c e=>by
  rcases Zb5 e with a|a
  · exact .inl (I.hok.fresh (Nat.le_of_succ_le (co.empty x c (n39_ a)).2))
  · refine (I.freeC x c (L.sub x c a)).imp id fun ⟨_,z⟩=>⟨Bool.eq_false_iff.mpr fun q=>?_,z⟩;obtain ⟨v,oc,hoc,_⟩:=I.cell x c (L.sub x c a);obtain ⟨c',e'⟩:=Z0 (sc:=scope) (n:=s3.heap.objs.size+1) (beq_iff_eq.mp (show (scope.names.lookup x == some .cell)=true from q));have e2:(cellsFrom (s3.heap.objs.size+1) scope.names cl).lookup x=some c:=e;rw [Ym,List.lookup_append,e'] at e2;cases e2
    exact absurd (n10_ (n21_ hoc) (Nat.le_of_succ_le (co.empty x c (n39_ e')).2)) (Zey _)
 pin:=fun p hp=>absurd (show p∈([]:List (Addr×Obj)) from hp) (by simp)
 hok:=I.hok.kept hk
 len:=by
  unfold Zd4;rw [n2_];exact L.len
def PIfs (X:Cx) (ifs:List Expr) (t:TT):Prop :=
 ∀ (pins:List (Addr×Obj)) (s:Shared) (σ:St) (H:Hp) (Q:Bool→Hp→Prop),Inv X pins σ H s→t σ H Q →
   wpAny (model X.prog X.w) X.A (forIn ifs true fun c r=>if r=true then do let ok ← isTrue c X.env (eval c X.env);pure (ForInStep.yield ok) else pure (ForInStep.yield r)) (TP X pins σ Q) X.xe s
def tYes:TT:=fun _ H Q=>Q true H
theorem X6 {σ:St} {H:Hp} {A B:Hp→Prop} (h:A H):tYes σ H (fun b H5=>if b=true then A H5 else B H5):=h
theorem Zbw {i:Nat} {x:V} {σ:St} {H:Hp} {A B:St→Hp→Prop} (h:A (σ.set i (some x)) H):Z4 i x σ H fun σ4 H4=>tYes σ4 H4 fun b H5=>if b=true then A σ4 H5 else B σ4 H5:=h
theorem Zs {X:Cx}:PIfs X [] tYes:=fun _ _ _ H _ I h=>wpAny_tests_nil ⟨H,I,h⟩
theorem Za7 {X:Cx} {c:Expr} {t:TT} (h:PT X c t):PIfs X [c] t:=fun pins s σ H Q I hw=>wpAny_tests_one (h pins s σ H Q I hw)
def LcGo (J:It) (g:TG) (tt:TT) (te:TE) (σ0:St) (H1:Hp) (D:Addr) (Q:VK):Prop:=∃ W:Nat→Nat→St→Hp→Prop,(∃ m,W 0 m σ0 (upd H1 D (.lst []))) ∧
 ∀ i m σ2 H2,W i m σ2 H2→(J.stop i H2∧Q (.ref D) H2)∨(J.go i H2∧∀ x H3,J.yld i H2 x H3→g x σ2 H3 fun σ4 H4=>tt σ4 H4 fun b H5=>if b=true then te σ4 H5 fun y H6=>∃ ys,H6 D=some (.lst ys)∧ys.length<sizeLine ∧
   ∃ m',m'<m∧W (i+1) m' σ4 (upd H6 D (.lst (ys++[y]))) else ∃ m',m'<m∧W (i+1) m' σ4 H5)
def tLC (wi:TI) (g:TG) (tt:TT) (te:TE) (fr:List (Option Nat)):TE:=fun σ H Q=>wi σ H fun J H1=>∀ D,H1 D=none→LcGo J g tt te (Zd4 fr σ) H1 D Q
abbrev NoX:Value→Shared→Prop:=fun _ _=>False
theorem Zm8 {X:Cx} {pins:List (Addr×Obj)} {σ σ7:St} {H3 H7:Hp} {s3 s7:Shared} {scope:Scope} {cl:List (Str×Addr)} {N:List Str} {fp:List Addr} (I3:Inv X pins σ H3 s3) (f3:∀ b∈fp,FpOk X pins H3 b) (I7:Inv (blk X scope cl s3.heap.objs.size N s3 H3 fp) [] σ7 H7 s7) :
 ∃ m7,s7.heap.Ns s3.heap.objs.size m7∧∀ h8,Heap.SameBut s3.heap.objs.size s7.heap h8→Inv X pins σ H7 { s7 with heap:=h8 }:=by
 obtain ⟨m7,hn7,_⟩:=I7.loc;refine ⟨m7,hn7,fun h8 sb8=>?_⟩;have un:=I7.base;have neC:∀ b o,s3.heap.get? b=some o→b≠s3.heap.objs.size:=fun b o e=>n51_ (n21_ e);refine I3.call' (s':={ s7 with heap:=h8 }) (ch:=fp) I7.os ?_ (Zqu I7.hok I7.free sb8) I7.bare (fun b hb=>⟨(f3 b hb).2.2.2.1,(f3 b hb).2.1,(f3 b hb).2.2.2.2.1,(f3 b hb).2.2.2.2.2⟩);refine ⟨fun b o e n' hb hx=>?_,fun b o e n' hb hx=>?_,un.free,fun b o e hx=>?_,un.tups,un.frzs,un.tbls⟩
 · exact sb8.extBut b o (neC b o e) (un.keep b o e n' hb hx)
 · obtain ⟨sl,q⟩:=un.slot b o e n' hb hx;exact ⟨sl,sb8.extBut b _ (neC b o e) q⟩
 · obtain ⟨o',q⟩:=un.there b o e hx;exact ⟨o',sb8.extBut b _ (neC b o e) q⟩
def Zsc (M:Model) (A:Around) (tg:Expr) (it:Value) (env:Env) (R:Result→Shared→Prop) (B:Nat→Shared→Prop) (n:Nat) (s:Shared):Prop :=
 wpAny M A (pyNext it) (fun r s1=>match r with
  | none=>R (.ok .next) s1
  | some v=>wpAny M A (letOwnedTupleGo tg it v) (fun _ s0=>wpAny M A (assign tg env v) (fun _ s2=>B n s2) NoX s0) NoX s1) NoX s
theorem Zkb {X:Cx} {pins:List (Addr×Obj)} {σ:St} {H2:Hp} {s2:Shared} {scope:Scope} {cl:List (Str×Addr)} {N:List Str} {fr:List (Option Nat)} {tg:Expr} {g:TG} {J:It} {fp:List Addr} {it:Addr} {tn:Nat→Heap→Prop} {ac:HO} {o0:Obj} {W:Nat→Nat→St→Hp→Prop} {m0:Nat} {Qn:Hp→Prop} {Kn:Nat→Nat→St→Hp→Prop} {c:Expr} {R:Addr→Result→Shared→Prop} {B:(Nat→Shared→Prop)→Nat→Shared→Prop} {s3:Shared}
 (hs3:s3={ s2 with heap:=s2.heap.push o0 }) (hc:X.calm=true) (L:LcO X scope cl N fr) (hg:∀ C s3 H3 fp,PG (blk X scope cl C N s3 H3 fp) tg g)
 (I2:Inv X pins σ H2 s2) (T:Turn X.prog X.w X.K tg J fp it tn) (st2:tn 0 s2.heap) (f2:∀ b∈fp,FpOk X pins H2 b)
 (ok0:ObjOk X.prog X.w (upd H2 s2.heap.objs.size ac) (s2.heap.push o0) s2.heap.objs.size ac) (w0:W 0 m0 (Zd4 fr σ) (upd H2 s2.heap.objs.size ac))
 (turn:∀ i m σ2 H2,W i m σ2 H2→(J.stop i H2∧Qn H2)∨(J.go i H2∧∀ x H3,J.yld i H2 x H3→g x σ2 H3 (Kn i m)))
 (start:∀ env s4,codeAny (model X.prog X.w) X.A (.compLoop c 0 (.ref it) (.ref s2.heap.objs.size) env) (R s3.heap.objs.size) s4→(∀ E,wpAny (model X.prog X.w) X.A (pyIter (.ref it)) (fun it' s'=>codeAny (model X.prog X.w) X.A (.compLoop c 0 it' (.ref s2.heap.objs.size) env) (R s3.heap.objs.size) s') E s4)→codeAny (model X.prog X.w) X.A (.compStart c 0 (.ref it) (.ref s2.heap.objs.size) env) (R s3.heap.objs.size) s4)
 (loop:∀ (LI:Nat→Shared→Prop) s4,(∀ n s,LI n s→Zsc (model X.prog X.w) X.A tg (.ref it) (blk X scope cl s3.heap.objs.size N s3 (upd H2 s2.heap.objs.size ac) fp).env (R s3.heap.objs.size) (B LI) n s)→∀ n,LI n s4→codeAny (model X.prog X.w) X.A (.compLoop c 0 (.ref it) (.ref s2.heap.objs.size) (blk X scope cl s3.heap.objs.size N s3 (upd H2 s2.heap.objs.size ac) fp).env) (R s3.heap.objs.size) s4)
 (stop:∀ H7 s7,Qn H7→Inv X pins σ (upd H2 s2.heap.objs.size ac) s3→H7 s3.heap.objs.size=none→(∃ m7,s7.heap.Ns s3.heap.objs.size m7∧∀ h8,Heap.SameBut s3.heap.objs.size s7.heap h8→Inv X pins σ H7 { s7 with heap:=h8 })→R s3.heap.objs.size (.ok .next) s7)
 (body:∀ (LI:Nat→Shared→Prop) n i σ9 H9 s9 ps,Inv (blk X scope cl s3.heap.objs.size N s3 (upd H2 s2.heap.objs.size ac) fp) ps σ9 H9 s9→Kn i n σ9 H9→(∀ {s11:Shared} {σ11:St} {H11:Hp} {m':Nat},Inv (blk X scope cl s3.heap.objs.size N s3 (upd H2 s2.heap.objs.size ac) fp) ps σ11 H11 s11→m'<n→W (i+1) m' σ11 H11→∃ m,m<n∧LI m s11)→B LI n s9) :
 wpAny (model X.prog X.w) X.A (newFunctionEnv scope X.env.globals cl [] X.env.qual none .none (some X.env)) (fun cenv s4=>codeAny (model X.prog X.w) X.A (.compStart c 0 (.ref it) (.ref s2.heap.objs.size) { cenv with scope:=relabel scope X.env }) (R cenv.locals) s4) X.xe s3:=by
 have fplt:∀ b∈fp,b<s2.heap.objs.size:=fun b hb=>by
  obtain ⟨o,q,_⟩:=T.obj _ _ st2 b hb;exact n21_ q
 have k3:∀ b o,s2.heap.get? b=some o→s3.heap.get? b=some o:=fun b o e=>by rw [hs3];exact n7_ _ e
 have I3:Inv X pins σ (upd H2 s2.heap.objs.size ac) s3:=by rw [hs3];exact I2.laid (t':=s2.toks) (fun b o e=>n7_ _ e) (n9_ _) ok0
 have f3:∀ b∈fp,FpOk X pins (upd H2 s2.heap.objs.size ac) b:=fun b hb=>⟨by rw [Zp (n51_ (fplt b hb))];exact (f2 b hb).1,(f2 b hb).2⟩;have st3:tn 0 s3.heap:=T.keep _ _ _ st2 fun b hb o e=>k3 b o e
 have fplt3:∀ b∈fp,b<s3.heap.objs.size:=fun b hb=>by
  obtain ⟨o,q,_⟩:=T.obj _ _ st2 b hb;exact n21_ (k3 _ _ q)
 generalize upd H2 s2.heap.objs.size ac=H3 at *;refine Zla fun h1 hns1 k4 ok3=>?_;have I4:=Zm3 (t:=s3.toks) L I3 ok3 f3 fplt3 hns1 k4;have st4:tn 0 h1:=T.keep _ _ _ st3 fun b hb o e=>k4 b o e
 have fpB:∀ {H':Hp} (b:Addr),b∈fp→H' b=none→FpOk (blk X scope cl s3.heap.objs.size N s3 H3 fp) [] H' b:=fun b hb hn =>
  ⟨hn,n51_ (fplt3 b hb),fun z=>(Zng L I3 ok3 f3 fplt3).exfs b hb z,.inl hb,fun x c e=>((Zng L I3 ok3 f3 fplt3).exf b hb).2 x c e,fun p hp=>absurd (show p∈([]:List (Addr×Obj)) from hp) (by simp)⟩
 have lp:=loop (fun n s'=>∃ i σ' H',Inv (blk X scope cl s3.heap.objs.size N s3 H3 fp) [] σ' H' s'∧tn i s'.heap∧(∀ b∈fp,H' b=none)∧W i n σ' H') { s3 with heap:=h1 } (fun n s6=>?_) m0 ⟨0,_,_,I4,st4,fun b hb=>(f3 b hb).1,w0⟩
 · exact start _ _ lp fun E=>T.self _ 0 _ _ _ st4 lp
 · rintro ⟨i,σ6,H6,I6,st6,fr6,w6⟩
   unfold Zsc
   rcases turn i n σ6 H6 w6 with ⟨sp,qn⟩|⟨go,step⟩
   · refine thn (T.done (blk X scope cl s3.heap.objs.size N s3 H3 fp) rfl rfl rfl hc i [] s6 σ6 H6 (fun _ _=>False) I6 (fun b hb=>fpB b hb (fr6 b hb)) st6 sp) fun r s7 ⟨hr,I7⟩=>?_;subst hr;exact stop _ _ qn I3 I7.free (Zm8 I3 f3 I7)
   · refine thn (T.item (blk X scope cl s3.heap.objs.size N s3 H3 fp) rfl rfl rfl hc i [] s6 σ6 H6 (fun _ _=>False) I6 (fun b hb=>fpB b hb (fr6 b hb)) st6 go) fun r s7 ⟨u,hr,h7⟩=>?_;subst hr;refine thn h7 fun _ s8 ⟨x,H8,I8,r8,y8,st8,fr8⟩=>?_;have I8':=I8.pinned (fun b hb=>fpB b hb (fr8 b hb)) (T.obj _ _ st8);refine thn (hg _ _ _ _ _ s8 σ6 H8 x u _ I8' r8 (step x H8 y8)) fun _ s9 ⟨σ9,H9,I9,q9⟩=>?_;refine body _ n i σ9 H9 s9 _ I9 q9 fun {s11 σ11 H11 m'} I11 hm w11=>?_;refine ⟨m',hm,i+1,σ11,H11,I11.unpinned,T.keep _ _ _ st8 fun b hb o e=>(I11.pin (b,o) (n24_ _ (n24_ _ (Zah hb e)))).1,fun b hb=>?_,w11⟩;obtain ⟨o,e,d⟩:=T.obj _ _ st8 b hb;exact (I11.pin (b,o) (n24_ _ (n24_ _ (Zah hb e)))).2.1
theorem Zl2 {X:Cx} {scope:Scope} {cl:List (Str×Addr)} {N:List Str} {ifs:List Expr} {elt:Expr} {tt:TT} {te:TE} {D:Addr} {W:Nat→Nat→St→Hp→Prop} {C0:Addr} {s30:Shared} {H30:Hp} {fp0:List Addr}
 (ht:∀ C s3 H3 fp,PIfs (blk X scope cl C N s3 H3 fp) ifs tt) (he:∀ C s3 H3 fp,PE (blk X scope cl C N s3 H3 fp) elt te) (LI:Nat→Shared→Prop) (n i:Nat) (σ9:St) (H9:Hp) (s9:Shared) (ps:List (Addr×Obj)) (I9:Inv (blk X scope cl C0 N s30 H30 fp0) ps σ9 H9 s9)
 (q9:tt σ9 H9 fun b H5=>if b=true then te σ9 H5 fun y H6=>∃ ys,H6 D=some (.lst ys)∧ys.length<sizeLine∧∃ m',m'<n∧W (i+1) m' σ9 (upd H6 D (.lst (ys++[y]))) else ∃ m',m'<n∧W (i+1) m' σ9 H5)
 (again:∀ {s11:Shared} {σ11:St} {H11:Hp} {m':Nat},Inv (blk X scope cl C0 N s30 H30 fp0) ps σ11 H11 s11→m'<n→W (i+1) m' σ11 H11→∃ m,m<n∧LI m s11) :
 wpAny (model X.prog X.w) X.A (forIn ifs true fun c r=>if r=true then do let ok ← isTrue c (blk X scope cl C0 N s30 H30 fp0).env (eval c (blk X scope cl C0 N s30 H30 fp0).env);pure (ForInStep.yield ok) else pure (ForInStep.yield r)) (fun ok s₃ =>
  if ok=true then wpAny (model X.prog X.w) X.A (eval elt (blk X scope cl C0 N s30 H30 fp0).env) (fun x s₄ =>
   wpAny (model X.prog X.w) X.A (call (.builtin "list.append") [.ref D,x]) (fun _ s₅=>∃ m,m<n∧LI m s₅) (fun _ _=>False) s₄) (fun _ _=>False) s₃
  else ∃ m,m<n∧LI m s₃) (fun _ _=>False) s9:=by
 refine thn (ht _ _ _ _ ps s9 σ9 H9 _ I9 q9) fun b s10 ⟨H10,I10,q10⟩=>?_;cases b with
 | false =>
   obtain ⟨m',hm,w11⟩:=q10;exact again I10 hm w11
 | true =>
   refine thn (he _ _ _ _ ps s10 σ9 H10 _ I10 q10) fun y s11 ⟨yv,H11,I11,r11,ys,hys,hz,m',hm,w11⟩=>?_
   have ap:=Y0 (X:=blk X scope cl C0 N s30 H30 fp0) _ s11 σ9 H11 (.ref D) [yv] (.ref D) [y] (fun _ H'=>W (i+1) m' σ9 H') I11 rfl (.cons r11 .nil)
    ⟨_,ys,yv,rfl,rfl,hys,hz,w11⟩
   exact thn ap fun _ s12 ⟨_,H12,I12,_,q12⟩=>again I12 hm q12
theorem Zqz {X:Cx} {pins:List (Addr×Obj)} {σ:St} {Q:VK} {H7:Hp} {s7:Shared} {C D:Addr} (qn:Q (.ref D) H7) (c:∃ m7,s7.heap.Ns C m7∧∀ h8,Heap.SameBut C s7.heap h8→Inv X pins σ H7 { s7 with heap:=h8 }):compPost (model X.prog X.w) X.A X.xe none (EP X pins σ Q) (.ref D) C (.ok .next) s7 :=
 let ⟨m7,hn7,c7⟩:=c
 ⟨m7,hn7,fun h8 sb8=>⟨.ref _,H7,c7 h8 sb8,rfl,qn⟩⟩
theorem Xb {X:Cx} {tg elt iter:Expr} {ifs:List Expr} {scope:Scope} {cl:List (Str×Addr)} {N:List Str} {fr:List (Option Nat)} {pos:Pos} {wi:TI} {g:TG} {tt:TT} {te:TE}
 (hc:X.calm=true) (L:LcO X scope cl N fr) (hi:PI X tg iter wi) (hg:∀ C s3 H3 fp,PG (blk X scope cl C N s3 H3 fp) tg g)
 (ht:∀ C s3 H3 fp,PIfs (blk X scope cl C N s3 H3 fp) ifs tt) (he:∀ C s3 H3 fp,PE (blk X scope cl C N s3 H3 fp) elt te)
 (hs:∀ x,foldedSetIterable iter X.env x=pure x:=by intro _;rfl):PE X (.ListComp elt [⟨tg,iter,ifs,0⟩] scope pos) (tLC wi g tt te fr):=by
 intro pins s σ H Q I h;rw [eval_ListComp];refine wpAny_comprehension_free (use:=none) rfl hs L.clos L.kind L.names (thn (hi pins s σ H _ I h) fun v s1 h1=>thn h1 fun itv s2 h2=>?_);obtain ⟨it,fp,tn,J,H2,e,I2,T,st2,f2,h⟩:=h2;subst e;obtain ⟨W,⟨m0,w0⟩,turn⟩:=h s2.heap.objs.size (I2.hok.fresh (n9_ _));refine wpAny_newObj_type ?_;refine Zkb (ac:=.lst []) rfl hc L hg I2 T st2 f2 ⟨n60_ _,[],_,.nil,n17_ _ rfl⟩ w0 turn (fun _ _ a b=>codeAny_compStart_list a (b _)) (fun LI s4 t n h=>Zc3 LI t n h) (fun H7 s7 qn _ _ c=>Zqz qn c) (Zl2 ht he)
def LcN (n:Nat) (Pv:Nat→St→Hp→Prop) (i m:Nat) (σ:St) (H:Hp):Prop:=i≤n∧m=n-i∧Pv i σ H
section
variable {X:Cx}
def Zon (i j:Int):Prop:=j≠0∧j.natAbs<2^8999
theorem Zjn {a n:Nat} (h:a<2^n) (hn:0<n):a.log2<n:=by
 rcases Nat.eq_zero_or_pos a with rfl|hp
 · simpa using hn
 · exact (Nat.log2_lt (Nat.ne_of_gt hp)).mpr h
theorem Yc:OpR X (binaryOp .FloorDiv) (rI Zon fun i j=>.int (i.fdiv j)):=opI fun _ _ _ _ _ _ _ hc q=>floordiv_int hc.1 q (.inl (PyProof.noPylong_of_log2 (Nat.lt_trans (Zjn hc.2 (by decide)) (by decide))))
def CMulB (i j:Int):Prop:=i.natAbs<2^1000000∧j.natAbs<2^1000000
theorem Xn {i:Int} {n:Nat} (h:i.natAbs<2^n) (hn:0<n):Builtin.Int.intBits i≤n:=by
 unfold Builtin.Int.intBits;split
 · exact n60_ _
 · exact Zjn h hn
theorem CMulB.ok {i j:Int} (h:CMulB i j):IntMulOk i j:=by
 unfold IntMulOk;have h1:=Xn h.1 (by decide);have h2:=Xn h.2 (by decide)
 have:Builtin.Int.intTooBig (Builtin.Int.intBits i+Builtin.Int.intBits j:Nat)=false:=by
  unfold Builtin.Int.intTooBig bitsLine;refine n30_ ?_;omega
 intro z;rw [n54_] at z;rw [show ((Builtin.Int.intBits i:Int)+(Builtin.Int.intBits j:Int))=((Builtin.Int.intBits i+Builtin.Int.intBits j:Nat):Int) by omega,this] at z;exact absurd z.2 (by decide)
theorem Zx:OpR X (binaryOp .Mult) (rI CMulB fun i j=>.int (i*j)):=opI fun _ _ _ _ _ _ _ hc q=>mul_int q hc.ok
theorem Zf2:∀ {ns:List Int} {us:List Value},Vals (ns.map V.int) us→∀ j (h:j<us.length),∃ t,us[j]=Value.int (ns.getD j 0) t
 | [],_,.nil,j,h=>absurd h (by simp)
 | n :: ns,u :: us,.cons r t,0,h=>by
   obtain ⟨k,rfl⟩:=(show ∃ k,u=Value.int n k from r);exact ⟨k,rfl⟩
 | n :: ns,u :: us,.cons r t,j+1,h=>by
   obtain ⟨k,e⟩:=Zf2 t j (by simpa using h);exact ⟨k,by simpa using e⟩
def eqNs (ns ms:List Int):Bool:=(List.range (min ns.length ms.length)).all (fun j=>ns.getD j 0 == ms.getD j 0)&&ns.length == ms.length
theorem Zj2 {ns ms:List Int}:eqNs ns ms=decide (ns=ms):=by
 unfold eqNs
 by_cases h:ns=ms
 · subst h
   simp
 · rw [n30_ h];rw [Bool.and_eq_false_iff]
   by_cases hl:ns.length=ms.length
   · left
     rw [Bool.eq_false_iff];intro z;rw [n56_] at z;apply h
     apply List.ext_getElem hl
     intro i h1 h2
     have:=z i (by simp;omega)
     simpa [h1,h2] using this
   · right
     simpa using hl
def rEqT (K:PySem.W.Frag) (neg:Bool):R2:=fun x y H Q=>∃ (a b:Addr) (ns ms:List Int),x=.ref a∧y=.ref b∧SqT K H a (ns.map V.int)∧SqT K H b (ms.map V.int)∧Q (.bl (if neg then !decide (ns=ms) else decide (ns=ms))) H
theorem Zh0 {A:Around} {s:Shared} {ns ms:List Int} {us ws:List Value} (r1:Vals (ns.map V.int) us) (r2:Vals (ms.map V.int) ws) (j:Nat) (h1:j<us.toArray.size) (h2:j<ws.toArray.size):SeqAt.EqAt A s us.toArray[j] ws.toArray[j] (ns.getD j 0 == ms.getD j 0):=by
 simp only [n16_] at h1 h2;simp only [List.getElem_toArray];obtain ⟨t,e⟩:=Zf2 r1 j h1;obtain ⟨t',e'⟩:=Zf2 r2 j h2;rw [e,e'];exact SeqAt.EqAt.int_int _ _ _ _
theorem Zs4 (hu:X.A.units<cLine):OpR X (compareOp .Eq) (rEqT X.K false):=by
 intro pins s σ H x y v u Q I rx ry h;obtain ⟨a,b,ns,ms,rfl,rfl,h1,h2,q⟩:=h;cases rx;cases ry
 obtain ⟨us,r1,p1,_⟩:=I.tuple h1;obtain ⟨ws,r2,p2,_⟩:=I.tuple h2;refine SeqAt.eq_tupleAt (e:=fun j=>ns.getD j 0 == ms.getD j 0) p1 p2 hu (fun j h1 h2=>Zh0 r1 r2 j h1 h2) ⟨.bl _,H,I,rfl,?_⟩;have l1:=r1.length;have l2:=r2.length;rw [n2_] at l1 l2;rw [n16_,n16_,← l1,← l2];rw [show ((List.range (min ns.length ms.length)).all (fun j=>ns.getD j 0 == ms.getD j 0)&&ns.length == ms.length)=eqNs ns ms from rfl,Zj2];exact q
theorem Zr4 (hu:X.A.units<cLine):OpR X (compareOp .NotEq) (rEqT X.K true):=by
 intro pins s σ H x y v u Q I rx ry h;obtain ⟨a,b,ns,ms,rfl,rfl,h1,h2,q⟩:=h;cases rx;cases ry
 obtain ⟨us,r1,p1,_⟩:=I.tuple h1;obtain ⟨ws,r2,p2,_⟩:=I.tuple h2;refine SeqAt.RcNeAt.tuples (e:=fun j=>ns.getD j 0 == ms.getD j 0) p1 p2 hu (fun j h1 h2=>Zh0 r1 r2 j h1 h2) _ _ _ _ ⟨.bl _,H,I,rfl,?_⟩;have l1:=r1.length;have l2:=r2.length;rw [n2_] at l1 l2;rw [n16_,n16_,← l1,← l2];rw [show ((List.range (min ns.length ms.length)).all (fun j=>ns.getD j 0 == ms.getD j 0)&&ns.length == ms.length)=eqNs ns ms from rfl,Zj2];exact q
theorem Zaj:Zas X (.builtin "isinstance") (fun xs H Q=>∃ x T t b,xs=[x,.ty T]∧TyOf X.K H x t∧PySem.W.kitOne X.K t (.type T)=some b∧Q (.bl b) H):=by
 intro pins s σ H xs us Q I r h;obtain ⟨x,T,t,b,rfl,ty,e,q⟩:=h;cases r with
 | cons rx r =>
   cases r with
   | cons ry r =>
     cases r
     cases (show _=Value.type T from ry)
     exact Zmx I rx ty e fun tk=>⟨.bl b,H,I.tok _,rfl,q⟩
theorem Zce:∀ {bs:List Bool} {us:List Value} {i:Nat} {v:Value},Vals (bs.map V.bl) us→us[i]? = some v→∃ b,bs[i]? = some b∧v=Value.bool b
 | [],_,i,v,.nil,e=>by simp at e
 | b :: bs,u :: us,0,v,.cons r t,e=>by
   simp at e;subst e;exact ⟨b,rfl,r⟩
 | b :: bs,u :: us,i+1,v,.cons r t,e=>by
   obtain ⟨c,h1,h2⟩:=Zce t (by simpa using e);exact ⟨c,by simpa using h1,h2⟩
theorem Ze7:∀ (bs:List Bool),((List.range bs.length).all fun i=>(bs[i]?).getD true)=bs.all id
 | []=>rfl
 | b :: bs=>by
   rw [n33_,List.range_succ_eq_map,List.all_cons,List.all_map,List.all_cons,← Ze7 bs];rfl
theorem Zi8 {s:Shared} {h':Heap} {o:Obj} (hk:∀ b x,b∉[s.heap.objs.size]→(s.heap.push o).get? b=some x→h'.get? b=some x):∀ b x,s.heap.get? b=some x→h'.get? b=some x :=
 fun b x e=>hk b x (fun hm=>by rw [n15_.mp hm] at e;exact Zey _ (n21_ e)) (n7_ _ e)
theorem Zbv (hc:X.calm=true):Zas X (.builtin "all") (fun xs H Q=>∃ (p:Addr) (bs:List Bool),xs=[.ref p]∧SqL X.K H p (bs.map V.bl)∧Q (.bl (bs.all id)) H):=by
 intro pins s σ H xs us Q I r h;obtain ⟨p,bs,rfl,hq,q⟩:=h;cases r with
 | cons rx r =>
   cases r
   cases (show _=Value.ref p from rx)
   obtain ⟨its,rv,pl,hz⟩:=I.list hq;have hl:=pl.isList;have hlt:p<s.heap.objs.size:=by obtain ⟨_,e,_⟩:=hl;exact n21_ e
   have hh:X.A.handled=none:=I.ok.hd hc;refine call_all_walk (wpAny_pyIter_list hl ?_)
   refine ⟨s.heap.objs.size,[s.heap.objs.size,p],[s.heap.objs.size],its.toArray.size,_,_,fun i=>(bs[i]?).getD true,rfl,Walks.list (A:=X.A.in1) hh _ p (n51_ hlt) its.toArray,
    ⟨⟨_,n17_ _ rfl,rfl,rfl⟩,hl.push _⟩,fun i v s' Q' E' hP hQ=>?_,fun h' tk hk=>?_⟩
   · obtain ⟨b,e,rfl⟩:=Zce rv (show its[i]? = some v by simpa using hP);simp only [e,Option.getD_some] at hQ;exact wpAny_truthy_bool hQ
   · have e:((List.range its.toArray.size).all fun i=>(bs[i]?).getD true)=bs.all id:=by
      rw [n16_,← rv.length,n2_];exact Ze7 bs
     rw [e];exact ⟨.bl _,H,I.kept (Zi8 hk),rfl,q⟩
end
structure Cal (P:Program) (w:World) (K:PySem.W.Frag) (mg:Str→Option Value) (base:Heap) (x:Str) (k:Nat) (ps:List Str) (sp:Sp):Prop where
 ex:∃ (f:Addr) (fd:FuncData),FnOk P w K mg base CX0 k f fd ps sp∧mg x=some (.ref f)∧PySem.W.keepIn K (.ref f)=true∧Binds K fd ps []
theorem Zj {X:Cx} {x:Str} {k j:Nat} {ps:List Str} {sp:Sp} {p pos:Pos} {e:Expr} {es:List Expr} {t:TA} (C:Cal X.prog X.w X.K X.mg X.base x k ps sp) (hr:Room j X.A) (hj:k≤j) (hg:Gl X x) (ha:PA X (e :: es) t)
 (hdb:(x == ("__debug__" : Str))=false:=by decide) (he:starEach (e :: es) X.env=(false,eval e X.env) :: starEach es X.env:=by rfl) (hpl:(backTo pos (starEach es X.env)).any (·.1)=false:=by rfl) :
 PE X (.Call (.Name x p) (e :: es) [] pos) (fun σ H Q=>t σ H fun vs H1=>sp vs H1 Q E0):=by
 obtain ⟨f,fd,F,hm,hk,hb⟩:=C.ex;have h:=Zqo (dvs:=[]) (E:=E0) (p:=p) F (hr.mono hj) hg hm hk hb .nil Ztp ha hdb he hpl;intro pins s σ H Q I hw;refine h pins s σ H Q I ?_;unfold Zsh
 simpa only [List.append_nil] using hw
structure FunD (K:PySem.W.Frag) (x qual:Str) (st:Stmt) (f:Addr) (fd:FuncData):Prop where
 ex:∃ (oc:Value) (od:Option Addr) (dV kV doc pm:Value) (an:Option Addr) (cdv ct:Value) (osl:Array (Option Value)),
  fd=PySem.W.fnOf x qual (Xa st) (Yw st) (Zf st) dV kV doc pm an cdv ct∧K.lookup f=some ⟨oc,od,.func fd,osl⟩∧PySem.W.codeIn K cdv qual=true
 kp:PySem.W.keepIn K (.ref f)=true
section
variable {P:Program} {w:World} {K:PySem.W.Frag} {mg:Str→Option Value} {base:Heap}
theorem FunD.ok {x qual:Str} {st:Stmt} {f:Addr} {fd:FuncData} {N ps:List Str} {k:Nat} {sp:Sp} (F:FunD K x qual st f fd) (S:FnScope N ps (Zf st)) (len:∀ vs H Q E,sp vs H Q E→vs.length=ps.length)
 (hbody:∀ (cdv:Value) (A:Around) (outer:List Env) (s:Shared) (H:Hp) (vs:List V) (Q:VK) (E:XK),Room k (A.deeper (envOfC qual (Zf st) s.heap.objs.size f cdv))→sp vs H Q E →
   ∃ t,PSs (cxOf CX0 P w K mg base N qual (Zf st) f cdv A outer s H E).nox (Yw st) t∧t { nx:=fun _ H'=>Q .non H',rt:=Q } (start N vs) H):FnOk P w K mg base CX0 (k+1) f fd ps sp:=by
 obtain ⟨oc,od,dV,kV,doc,pm,an,cdv,ct,osl,rfl,lk,hcd⟩:=F.ex;refine Zra lk hcd S len fun A outer s H vs Q E hr hsp=>?_;obtain ⟨t,h,q⟩:=hbody cdv A outer s H vs Q E hr hsp;exact ⟨t,h.nox,q⟩
theorem Zq0 {x qual:Str} {st:Stmt} {f:Addr} {oc:Value} {od an:Option Addr} {osl:Array (Option Value)} {dV kV doc pm cdv ct:Value} (l:K.lookup f=some ⟨oc,od,.func (PySem.W.fnOf x qual (Xa st) (Yw st) (Zf st) dV kV doc pm an cdv ct),osl⟩)
 (c:PySem.W.codeIn K cdv qual=true) (k:PySem.W.keepIn K (.ref f)=true):FunD K x qual st f (PySem.W.fnOf x qual (Xa st) (Yw st) (Zf st) dV kV doc pm an cdv ct):=⟨⟨oc,od,dV,kV,doc,pm,an,cdv,ct,osl,rfl,l,c⟩,k⟩
end
def Keep (l:Addr) (H H':Hp):Prop:=∀ b o,b≠l→H b=some o→H' b=some o
theorem Keep.refl (l:Addr) (H:Hp):Keep l H H:=fun _ _ _ h=>h
theorem Keep.trans {l:Addr} {H H1 H2:Hp} (a:Keep l H H1) (b:Keep l H1 H2):Keep l H H2:=fun c o n h=>b c o n (a c o n h)
theorem Keep.new {l p:Addr} {H:Hp} {o:HO} (h:H p=none):Keep l H (upd H p o):=fun b u _ e=>by rw [Zp (Zl e h)];exact e
theorem Keep.upd {l:Addr} {H:Hp} {o:HO}:Keep l H (upd H l o):=fun b u n e=>by rw [Zp n];exact e
theorem Same.new {p:Addr} {H:Hp} {o:HO} (h:H p=none):Same H (upd H p o):=fun b u e=>by rw [Zp (Zl e h)];exact e
theorem Same.keep {l:Addr} {H H':Hp} (s:Same H H'):Keep l H H':=fun b o _ e=>s b o e
def Ztz (i j k:Nat) (ta:TA):TS:=fun D σ H=>ta σ H fun vs H1=>∃ v w x,vs=[v,w,x]∧D.nx (((σ.set i (some v)).set j (some w)).set k (some x)) H1
theorem Zob {X:Cx} {pos:Pos} {i j k:Nat} {x y z:Str} {a b c:Expr} {ta:TA} {px py pz pt:Pos} {kt k2 pt2} (hc:X.calm=true) (hN:X.N.Nodup) (hi:X.N[i]? = some x) (hj:X.N[j]? = some y) (hk:X.N[k]? = some z) (hij:i≠j) (hik:i≠k) (hjk:j≠k)
 (hx:X.env.scope.names.lookup x=some .local) (hy:X.env.scope.names.lookup y=some .local) (hz:X.env.scope.names.lookup z=some .local) (ha:PA X [a,b,c] ta)
 (hw:swappedStores [.Tuple [.Name x px,.Name y py,.Name z pz] kt pt] (.Tuple [a,b,c] k2 pt2) X.env=pure (some [x,y,z]))
 (hs:swapsWithSole [.Tuple [.Name x px,.Name y py,.Name z pz] kt pt] (.Tuple [a,b,c] k2 pt2) pos.line X.env=pure false:=by rfl) :
 PS X (.Assign [.Tuple [.Name x px,.Name y py,.Name z pz] kt pt] (.Tuple [a,b,c] k2 pt2) pos) (Ztz i j k ta):=by
 intro pins s σ H D I h;rw [exec_Assign_arm];refine n6_ (wpAny_standAt ?_);rw [hs];refine n6_ (n25_ ?_);rw [if_neg (by decide)];refine n6_ (Tuple_ (thn (ha _ pins s σ H _ I h) fun us s1 ⟨vs,H1,I1,r1,q1⟩=>?_));obtain ⟨v,w,x',e1,q1⟩:=q1;subst e1
 obtain ⟨u1,u2,u3,rfl,rv,rw',rx⟩:∃ u1 u2 u3,us=[u1,u2,u3]∧RelV v u1∧RelV w u2∧RelV x' u3:=by
  cases r1 with
  | cons p q =>
    cases q with
    | cons p' q' =>
      cases q' with
      | cons p'' q'' =>
        cases q''
        exact ⟨_,_,_,rfl,p,p',p''⟩
 refine wpAny_newObj_type ?_ (z3_);have I2:Inv X pins σ H1 { s1 with heap:=s1.heap.push { cls:=.type "tuple",data:=.seq [u1,u2,u3].toArray } }:=I1.kept (t':=s1.toks) fun b o e=>n7_ _ e;rw [hw];refine n6_ (n25_ ?_);show wpAny (model X.prog X.w) X.A (do rule "assign.swapped-stores";let items ← unpackItems (.ref s1.heap.objs.size) 3 none;assignInOrder [fun v=>bindName X.env z v,fun v=>bindName X.env y v,fun v=>bindName X.env x v] items.reverse;pure Flow.next) _ _ _
 refine n6_ (wpAny_rule (n6_ (unpackItems_tuple (items:=#[u1,u2,u3]) (I.ok.hd hc) (IsTup.new s1.heap _) fun h' hx'=>?_)));have I3:=I2.kept (h':=h') (t':=s1.toks) fun b o e=>hx' b o (n51_ (n21_ e)) e;show wpAny _ _ (assignInOrder [fun v=>bindName X.env z v,fun v=>bindName X.env y v,fun v=>bindName X.env x v] [u3,u2,u1] >>= fun _=>pure Flow.next) _ _ _
 refine n6_ (assignInOrder_cons (wpAny_bindName (X9 I3 hN hk (.inl hz) rx (fun s2 I4=>?_) (.inr hz))));refine assignInOrder_cons (wpAny_bindName (X9 I4 hN hj (.inl hy) rw' (fun s3 I5=>?_) (.inr hy)));refine assignInOrder_cons (wpAny_bindName (X9 I5 hN hi (.inl hx) rv (fun s4 I6=>assignInOrder_nil (n25_ ?_)) (.inr hx)))
 have e:(((σ.set k (some x')).set j (some w)).set i (some v))=(((σ.set i (some v)).set j (some w)).set k (some x')):=by
  rw [List.set_comm _ _ (Ne.symm hij),List.set_comm _ _ (Ne.symm hik),List.set_comm _ _ (Ne.symm hjk)]
 rw [e] at I6;exact ⟨_,H1,I6,q1⟩
theorem Zic:∀ (xs:List PyData),(PyData.shownAll xs).length=xs.length
 | []=>rfl
 | _ :: xs=>by simp only [PyData.shownAll,n33_,Zic xs]
section
variable {X:Cx}
end
structure CalS (P:Program) (w:World) (K:PySem.W.Frag) (mg:Str→Option Value) (base:Heap) (x:Str) (k:Nat) (p1 p2:Str) (sp:Sp):Prop where
 ex:∃ (f:Addr) (fd:FuncData),FnOk P w K mg base CX0 k f fd [p1,p2] sp∧mg x=some (.ref f)∧PySem.W.keepIn K (.ref f)=true ∧
  ∀ (s:Shared) (u v:Value),K.In s.heap→BindsTo s fd ⟨[],[(p2,v),(p1,u)]⟩ [(p1,u),(p2,v)]
theorem Zqt {X:Cx} {x p1 p2:Str} {k j:Nat} {sp:Sp} {p pos:Pos} {kws:List Keyword} {tk:TA} (C:CalS X.prog X.w X.K X.mg X.base x k p1 p2 sp) (hr:Room j X.A) (hj:k≤j) (hg:Gl X x) (hkw:PK X kws tk)
 (hks:(backToKw pos (keywordEach kws X.env)).filterMap (·.1)=[p2,p1]:=by rfl) (hall:(backToKw pos (keywordEach kws X.env)).all (·.1.isSome)=true:=by rfl)
 (hdb:(x == ("__debug__" : Str))=false:=by decide) (hpl:((backTo pos (starEach [] X.env)).any (·.1)||(backToKw pos (keywordEach kws X.env)).any (·.1.isNone))=false:=by rfl) :
 PE X (.Call (.Name x p) [] kws pos) (fun σ H Q=>tk σ H fun zs H1=>∃ v u,zs=[v,u]∧sp [u,v] H1 Q E0):=by
 intro pins s σ H Q I h;obtain ⟨f,fd,F,hm,hk,hb⟩:=C.ex;refine wpAny_Call_Name_kw (Ziv I hg hm ?_ hdb);refine PySem.W.callWith_KW0 (h₀:=X.base) I.ok.mod.kin hk hall (thn (hkw pos pins s σ H _ I h) fun ws s2 ⟨zs,H2,I2,rz,v,u,e,q2⟩=>⟨I2.kIn,?_⟩) hpl;subst e;obtain ⟨wv,wu,rfl,rv,ru⟩:=rz.two;rw [hks];refine wpAny_call (codeAny_mono (F.run X.A X.stack s2 H2 ⟨[],[(p2,wv),(p1,wu)]⟩ [wu,wv] [u,v] Q E0 (hr.mono hj) I2.env0 (hb s2 wu wv I2.kIn) (.cons ru (.cons rv .nil)) q2) fun r s' hq=>?_);cases r with
 | error e=>exact (show False from hq).elim
 | ok fl =>
   cases fl with
   | ret u=>exact I2.after hq
   | next=>exact False.elim hq
   | brk=>exact False.elim hq
   | cont=>exact False.elim hq
def Y9 (cells:List (Str×Addr)) (names:List (Str×NameKind)):List (Str×Addr):=((names.filter (fun y=>y.2 == .free)).map fun y=>(y.1,(cells.lookup y.1).getD 0)).reverse
theorem Zdb {env:Env}:∀ (names:List (Str×NameKind)) (acc:List (Str×Addr)),(∀ y∈names,y.2=.free→∃ c,env.cells.lookup y.1=some c) →
 (forIn names acc (fun (x:Str×NameKind) (r:List (Str×Addr))=>do
   if x.2 == .free then do
    let a ← cellOf env x.1
    pure (ForInStep.yield ((x.1,a) :: r))
   else pure (ForInStep.yield r)):Sem (List (Str×Addr)))=pure (Y9 env.cells names++acc)
 | [],acc,_=>rfl
 | (n,k) :: rest,acc,h=>by
   have ih:=fun acc=>Zdb rest acc fun y hy=>h y (n3_ _ hy);rw [List.forIn_cons]
   by_cases hk:k=.free
   · subst hk;obtain ⟨c,hc⟩:=h (n,.free) n5_ rfl;have e:cellOf env n=pure c:=by unfold cellOf;rw [hc]
     have e2:Y9 env.cells ((n,.free) :: rest)=Y9 env.cells rest++[(n,c)]:=by
      unfold Y9;rw [List.filter_cons_of_pos (by rfl),n71_,List.reverse_cons,hc];rfl
     simp only [beq_self_eq_true,if_true,e,pure_bind];rw [ih,e2,List.append_assoc];rfl
   · have b:(k == NameKind.free)=false:=by simpa using hk
     have e2:Y9 env.cells ((n,k) :: rest)=Y9 env.cells rest:=by
      unfold Y9;rw [List.filter_cons_of_neg (by simpa using hk)]
     simp only [b,Bool.false_eq_true,if_false,pure_bind];rw [ih,e2]
theorem Zde {scope:Scope} {env:Env} (h:∀ y∈scope.names,y.2=.free→∃ c,env.cells.lookup y.1=some c):closureFor scope env=pure (Y9 env.cells scope.names):=by
 have e:=Zdb scope.names [] h;rw [List.append_nil] at e;unfold closureFor
 first
  | (rw [← e];rfl)
  | (simp only [bind_pure];exact e)
  | simpa using e
mutual
inductive Dt (N:Addr→Prop) (H:Hp) (k:Nat):V→PyData→Prop
 | non:Dt N H k .non .none
 | bl (b:Bool):Dt N H k (.bl b) (.bool b)
 | int {i:Int}:i.natAbs<2^k→Dt N H k (.int i) (.int i)
 | str (x:Str):Dt N H k (.str x) (.str x)
 | tup {a:Addr} {xs:List V} {ds:List PyData}:H a=some (.tup xs)→Dts N H k xs ds→Dt N H k (.ref a) (.tuple ds)
 | lst {a:Addr} {xs:List V} {ds:List PyData}:H a=some (.lst xs)→¬ N a→a≠sysModules→Dts N H k xs ds→Dt N H k (.ref a) (.list ds)
 | dic {a:Addr}:H a=some (.dK [])→Dt N H k (.ref a) (.dict [])
inductive Dts (N:Addr→Prop) (H:Hp) (k:Nat):List V→List PyData→Prop
 | nil:Dts N H k [] []
 | cons {x:V} {xs:List V} {d:PyData} {ds:List PyData}:Dt N H k x d→Dts N H k xs ds→Dts N H k (x :: xs) (d :: ds)
end
variable {N:Addr→Prop} {k:Nat}
mutual
theorem Dt.reads {X:Cx} {pins:List (Addr×Obj)} {σ:St} {H:Hp} {s:Shared} (I:Inv X pins σ H s):∀ {v:V} {d:PyData} {u:Value},Dt N H k v d→RelV v u→∃ as,Reads s.heap u d as∧sysModules∉as
 | _,_,_,.non,r=>by cases r;exact ⟨_,.none,by simp⟩
 | _,_,_,.bl b,r=>by cases r;exact ⟨_,.bool b,by simp⟩
 | _,_,_,.int (i:=i) _,r=>by obtain ⟨t,rfl⟩:=r;exact ⟨_,.int i t,by simp⟩
 | _,_,_,.str x,r=>by obtain ⟨t,rfl⟩:=r;exact ⟨_,.str x t,by simp⟩
 | _,_,_,.tup (a:=a) (xs:=xs) h rs,r=>by
   cases r
   obtain ⟨_,its,rv,o,e,hc,n,hd⟩:=(show ObjOk X.prog X.w H s.heap a (.tup xs) from I.hok a _ h);obtain ⟨as,ra,na⟩:=Dts.reads I rs rv;exact ⟨_,.tuple e hc hd (by simpa using ra),na⟩
 | _,_,_,.lst (a:=a) (xs:=xs) h _ ns rs,r=>by
   cases r
   obtain ⟨_,its,n,rv,e⟩:=(show ObjOk X.prog X.w H s.heap a (.lst xs) from I.hok a _ h);obtain ⟨as,ra,na⟩:=Dts.reads I rs rv
   exact ⟨_,.list e rfl rfl (by simpa using ra),by
    intro hm
    rcases n34_.mp hm with e|e
    · exact ns e.symm
    · exact na e⟩
 | _,_,_,.dic (a:=a) h,r=>by
   cases r
   obtain ⟨_,hS,vs,rel,o,es,ep,e,ex,hd,_,he,_⟩:=(show ObjOk X.prog X.w H s.heap a (.dK []) from I.hok a _ h);cases rel
   have hes:es.toList=[]:=by
    generalize es.toList=z at he;cases he
    rfl
   refine ⟨_,.dict (kvs:=[]) (as:=[]) (bs:=[]) e ex.1 hd (by rw [hes];exact .nil) (by rw [hes];exact .nil),?_⟩;intro hm
   have:sysModules=a:=by simpa using hm
   rw [this] at hS;simp at hS
theorem Dts.reads {X:Cx} {pins:List (Addr×Obj)} {σ:St} {H:Hp} {s:Shared} (I:Inv X pins σ H s):∀ {vs:List V} {ds:List PyData} {us:List Value},Dts N H k vs ds→Vals vs us→∃ as,ReadsAll s.heap us ds as∧sysModules∉as
 | _,_,_,.nil,.nil=>⟨_,.nil,by simp⟩
 | _,_,_,.cons r rs,.cons q qs=>by
   obtain ⟨as,ra,na⟩:=Dt.reads I r q;obtain ⟨bs,rb,nb⟩:=Dts.reads I rs qs
   exact ⟨_,.cons ra rb,by
    intro hm
    rcases n46_.mp hm with e|e
    · exact na e
    · exact nb e⟩
end
mutual
theorem Dt.same {H H':Hp} (s:Same H H'):∀ {v:V} {d:PyData},Dt N H k v d→Dt N H' k v d
 | _,_,.non=>.non
 | _,_,.bl b=>.bl b
 | _,_,.int h=>.int h
 | _,_,.str x=>.str x
 | _,_,.tup h r=>.tup (s _ _ h) (Dts.same s r)
 | _,_,.lst h n m r=>.lst (s _ _ h) n m (Dts.same s r)
 | _,_,.dic h=>.dic (s _ _ h)
theorem Dts.same {H H':Hp} (s:Same H H'):∀ {vs:List V} {ds:List PyData},Dts N H k vs ds→Dts N H' k vs ds
 | _,_,.nil=>.nil
 | _,_,.cons r rs=>.cons (Dt.same s r) (Dts.same s rs)
end
theorem Dts.len {H:Hp}:∀ {xs:List V} {ds:List PyData},Dts N H k xs ds→xs.length=ds.length
 | _,_,.nil=>rfl
 | _,_,.cons _ rs=>by rw [n33_,n33_,Dts.len rs]
theorem Dts.get {H:Hp}:∀ {xs:List V} {ds:List PyData} {n:Nat} {v:V},Dts N H k xs ds→xs[n]? = some v→∃ d,ds[n]? = some d∧Dt N H k v d
 | _,_,_,_,.nil,h=>by simp at h
 | _,_,0,_,.cons r rs,h=>by simp at h;subst h;exact ⟨_,rfl,r⟩
 | _,_,n+1,_,.cons r rs,h=>by
   obtain ⟨d,e,q⟩:=Dts.get rs (by simpa using h);exact ⟨d,by simpa using e,q⟩
mutual
def nz:PyData→Nat
 | .none=>1
 | .bool _=>1
 | .int _=>1
 | .str x=>(reprText x).length
 | .list xs=>1+Xj xs
 | .tuple xs=>1+Xj xs
 | .dict _=>1
def Xj:List PyData→Nat
 | []=>0
 | x :: xs=>nz x+1+Xj xs
end
section
variable {X:Cx}
end
end L2
namespace HT
open PySem PyProof.Rows
section
variable {prog:Program} {w:World} {A:Around} {E:Value→Shared→Prop} {s:Shared}
end
end HT
namespace L2
open PySem PySem.Spec PyProof.Rows
section
variable {X:Cx} {e:Expr} {es:List Expr} {te:TE} {t:TA} {pos p2:Pos}
theorem Zk1:PE X e (fun _ _ _=>False):=fun _ _ _ _ _ _ h=>h.elim
theorem Zq7 {pins:List (Addr×Obj)} {σ:St} {H:Hp} {s:Shared} (I:Inv X pins σ H s):sysModules<s.heap.objs.size:=by
 have h:mainGlobals<s.heap.objs.size:=(I.mod.glob.keeps I.bk).lt;exact Nat.lt_trans (by decide) h
theorem Zfu:Zas X (.type "list") (fun xs H Q=>∃ p ys,xs=[.ref p]∧(SqL X.K H p ys∨SqT X.K H p ys)∧∀ l,H l=none→l≠sysModules→Q (.ref l) (upd H l (.lst ys))):=by
 intro pins s σ H xs us Q I r h;obtain ⟨p,ys,rfl,hq,q⟩:=h;obtain ⟨u,rfl,rx⟩:=Zli r;cases rx
 have fin:∀ (its:List Value),Vals ys its→ys.length≤sizeLine→∀ (h':Heap) (c':Nat),(∀ b o',s.heap.get? b=some o'→h'.get? b=some o') →
  h'.get? s.heap.objs.size=some { cls:=.type "list",dict:=none,data:=.seq its.toArray c',slots:=#[] }→EP X pins σ Q (.ref s.heap.objs.size) { s with heap:=h' }:=fun its r' hz h' c' kp e =>
  ⟨.ref s.heap.objs.size,_,I.laid (t':=s.toks) kp (n9_ _) (show ObjOk X.prog X.w _ h' _ (.lst ys) from ⟨hz,its,c',r',e⟩),rfl,q _ (I.hok.fresh (n9_ _)) (Nat.ne_of_gt (Zq7 I))⟩
 rcases hq with hq|hq
 · obtain ⟨its,r',pl,hz⟩:=I.list hq;have hlen:=r'.length;obtain ⟨o,ho,hc,n,hd⟩:=pl.isList;exact call_list_seq p (.inl rfl) ho hc hd (fun h' c' kp e=>fin its r' hz h' c' kp e) (by simp only [n16_]<;>omega)
 · obtain ⟨its,r',pl,hz⟩:=I.tuple hq;have hlen:=r'.length;obtain ⟨o,ho,hc,n,hd⟩:=pl;exact call_list_seq p (.inr rfl) ho hc hd (fun h' c' kp e=>fin its r' hz h' c' kp e) (by simp only [n16_]<;>omega)
end
def isI:PyData→Bool
 | .int _=>true
 | _=>false
def isT:PyData→Bool
 | .tuple _=>true
 | _=>false
def isFr:PyData→Bool
 | .tuple [.int a,.int b]=>decide (1≤b)&&decide (Int.gcd a b=1)
 | _=>false
section
variable {K:PySem.W.Frag} {N:Addr→Prop} {k:Nat} {H:Hp} {v:V} {d:PyData}
theorem Dt.isI (h:Dt N H k v d):(∃ i,v=.int i∧d=.int i∧i.natAbs<2^k)∨L2.isI d=false:=by
 cases h with
 | int hi=>exact .inl ⟨_,rfl,rfl,hi⟩
 | _=>exact .inr rfl
theorem Dt.isT (h:Dt N H k v d):(∃ a xs ds,v=.ref a∧d=.tuple ds∧H a=some (.tup xs)∧Dts N H k xs ds)∨L2.isT d=false:=by
 cases h with
 | tup h r=>exact .inl ⟨_,_,_,rfl,rfl,h,r⟩
 | _=>exact .inr rfl
theorem Dt.ty (h:Dt N H k v d):∃ t,TyOf K H v t∧PySem.W.kitOne K t (.type "tuple")=some (L2.isT d):=by
 cases h with
 | non=>exact ⟨_,TyOf.non,rfl⟩
 | bl b=>exact ⟨_,TyOf.bl b,rfl⟩
 | int hi=>exact ⟨_,TyOf.int _,rfl⟩
 | str x=>exact ⟨_,TyOf.str x,rfl⟩
 | tup h r=>exact ⟨_,TyOf.tup h,rfl⟩
 | lst h n m r=>exact ⟨_,TyOf.lst h,rfl⟩
 | dic h=>exact ⟨_,TyOf.dK h,rfl⟩
theorem Dts.len0 {xs:List V} {ds:List PyData} (h:Dts N H k xs ds) (hl:xs.length≠2):L2.isFr (.tuple ds)=false:=by
 have e:=h.len
 match ds,e with
 | [],_=>rfl
 | [d],_=>cases d<;>rfl
 | [_,_],e=>exact absurd e hl
 | d :: d2 :: _ :: _,_=>cases d<;>cases d2<;>rfl
theorem fr_1 {d e:PyData} (h:L2.isI d=false):L2.isFr (.tuple [d,e])=false:=by
 cases d<;>first|rfl|(cases h)
theorem fr_2 {d e:PyData} (h:L2.isI e=false):L2.isFr (.tuple [d,e])=false:=by
 cases d<;>cases e<;>first|rfl|(cases h)
variable {n m:Nat}
theorem Zof (xs:List V) (r:Nat):cutV xs none (some (r:Int))=xs.take r:=by
 unfold cutV;rw [HT.sIx_none,HT.sIx_nat,List.drop_zero,Nat.sub_zero]
 by_cases h:r≤xs.length
 · rw [Nat.min_eq_left h]
 · rw [Nat.min_eq_right (by omega),n61_,List.take_of_length_le (by omega)]
theorem Zgj (xs:List V) (r:Nat):cutV xs (some (r:Int)) none=xs.drop r:=by
 unfold cutV;rw [HT.sIx_none,HT.sIx_nat]
 by_cases h:r≤xs.length
 · rw [Nat.min_eq_left h,List.take_of_length_le (by rw [n69_];omega)]
 · rw [Nat.min_eq_right (by omega),List.drop_of_length_le (show xs.length≤r by omega)]
   simp
theorem Zij:∀ {ds:List PyData} {r:Nat} {d:PyData},ds[r]? = some d→Xj ds=Xj (ds.take r)+(nz d+1)+Xj (ds.drop (r+1))∧d.depth≤PyData.depthAll ds
 | [],_,_,h=>by simp at h
 | x :: xs,0,d,h=>by
   simp at h;subst h;refine ⟨by simp [Xj],?_⟩;simp only [PyData.depthAll];omega
 | x :: xs,r+1,d,h=>by
   obtain ⟨a,b⟩:=Zij (ds:=xs) (r:=r) (d:=d) (by simpa using h);refine ⟨?_,?_⟩
   · simp only [List.take_succ_cons,List.drop_succ_cons,Xj];omega
   · simp only [PyData.depthAll];omega
theorem Zn3:∀ (ds:List PyData),ds.length≤Xj ds
 | []=>n9_ _
 | x :: xs=>by have:=Zn3 xs;simp only [n33_,Xj];omega
end
section
variable {N:Addr→Prop} {k n m:Nat} {H:Hp} {p:Addr}
end
section
variable {X:Cx}
theorem X3:MtR X "int.bit_length" (fun x vs H Q=>∃ i:Int,x=.int i∧vs=[]∧Q (.int (Builtin.Int.intBits i)) H):=by
 intro pins s σ H x vs v us Q I rx rv h;obtain ⟨i,rfl,rfl,q⟩:=h;obtain ⟨t,rfl⟩:=rx;cases rv
 exact call_int_bit_length ⟨.int _,H,I.tok _,⟨_,rfl⟩,q⟩
theorem Zeg {x:Str} {i:Int} {pos:Pos} (h:∃ t,X.mg x=some (.int i t)) (hg:Gl X x) (hd:(x == ("__debug__" : Str))=false:=by decide):PE X (.Name x pos) (tC (.int i)):=by
 obtain ⟨t,h⟩:=h;exact Zdr hg h ⟨t,rfl⟩ hd
end
section
variable {X:Cx} {pins:List (Addr×Obj)} {σ:List (Option V)} {H:Hp} {s:Shared} {h':Heap}
theorem Inv.turnNew {t':Nat} {ch:List Addr} {a:Addr} {o:HO} (I:Inv X pins σ H s) (k:∀ b u,b∉ch→s.heap.get? b=some u→h'.get? b=some u) (hf:∀ b∈ch,FpOk X pins H b)
 (ha:s.heap.objs.size≤a) (new:ObjOk X.prog X.w (upd H a o) h' a o):Inv X pins σ (upd H a o) { s with heap:=h',toks:=t' }:=by
 have fa:H a=none:=I.hok.fresh ha;have na:∀ b u,H b=some u→b≠a:=fun b u e=>Zl e fa;have nc:∀ b u,H b=some u→b∉ch:=fun b u e z=>by rw [(hf b z).1] at e;cases e
 have la:∀ b u,s.heap.get? b=some u→b≠a:=fun b u e=>n51_ (n10_ (n21_ e) ha)
 refine I.step (g':=s.gens) (d':=s.drawn) (ch:=ch) (fun b hb=>?_) (fun b u _ _ hc e _=>k b u hc e) (fun b u _ _ hc e _=>⟨u.slots,k b u hc e⟩) (fun b u _ e n=>by rw [Zp (la b u e)];exact n)
  (fun b u hc e=>⟨u,k b u hc e⟩) (fun b xs e=>by rw [Zp (na b _ e)];exact e) (fun b u v e=>by rw [Zp (na b _ e)];exact e) (fun b ps e=>⟨#[],by rw [Zp (na b _ e),e];simp⟩) (fun m hm=>?_) (fun b u e=>?_) I.bare
 · obtain ⟨f0,f1,f2,f3,f4,f5⟩:=hf b hb;exact ⟨f3,f1,f4,f5⟩
 · obtain ⟨u,es,ep,hu,r⟩:=hm;exact ⟨u,es,ep,k _ u (fun z=>(hf _ z).2.1 rfl) hu,r⟩
 · by_cases hb:b=a
   · subst hb;rw [Ze] at e;cases e;exact new
   · rw [Zp hb] at e;refine (I.hok b u e).stay (fun c v hc q=>k c v ?_ q) (fun c q=>by rw [Zp (na c _ q)];exact q) fun c xs q=>by rw [Zp (na c _ q)];exact q
     rcases hc with z|z
     · rw [z];exact nc b u e
     · exact nc c _ z
theorem Inv.turnOnly {t':Nat} {ch:List Addr} (I:Inv X pins σ H s) (k:∀ b u,b∉ch→s.heap.get? b=some u→h'.get? b=some u) (hf:∀ b∈ch,FpOk X pins H b):Inv X pins σ H { s with heap:=h',toks:=t' }:=by
 have nc:∀ b u,H b=some u→b∉ch:=fun b u e z=>by rw [(hf b z).1] at e;cases e
 refine I.step (g':=s.gens) (d':=s.drawn) (ch:=ch) (fun b hb=>?_) (fun b u _ _ hc e _=>k b u hc e) (fun b u _ _ hc e _=>⟨u.slots,k b u hc e⟩) (fun _ _ _ _ n=>n)
  (fun b u hc e=>⟨u,k b u hc e⟩) (fun _ _ e=>e) (fun _ _ _ e=>e) (fun b ps e=>⟨#[],by rw [e];simp⟩) (fun m hm=>?_) (fun b u e=>?_) I.bare
 · obtain ⟨f0,f1,f2,f3,f4,f5⟩:=hf b hb;exact ⟨f3,f1,f4,f5⟩
 · obtain ⟨u,es,ep,hu,r⟩:=hm;exact ⟨u,es,ep,k _ u (fun z=>(hf _ z).2.1 rfl) hu,r⟩
 · refine (I.hok b u e).stay (fun c v hc q=>k c v ?_ q) (fun _ q=>q) fun _ _ q=>q
   rcases hc with z|z
   · rw [z];exact nc b u e
   · exact nc c _ z
end
inductive SK where
 | l
 | t
def SK.Sq (K:PySem.W.Frag) (H:Hp) (a:Addr) (xs:List V):SK→Prop
 | .l=>SqL K H a xs
 | .t=>SqT K H a xs
def SK.Is (h:Heap) (a:Addr) (vs:Array Value):SK→Prop
 | .l=>h.IsList a vs
 | .t=>h.IsTuple a vs
def SK.It (h:Heap) (it a:Addr) (i:Nat):SK→Prop
 | .l=>h.IsListIter it a i
 | .t=>h.IsTupleIter it a i
def SK.name:SK→String
 | .l => "list_iterator"
 | .t => "tuple_iterator"
abbrev SK.obj (k:SK) (a:Addr):Obj:={ cls:=.type k.name,data:=.fields #[.ref a,.int 0 0] }
theorem SK.It.ex {k:SK} {h:Heap} {it a:Addr} {i:Nat} (x:k.It h it a i):∃ o,h.get? it=some o∧o.cls=.type k.name∧o.data=.fields #[.ref a,.int i 0]:=by
 cases k<;>exact x
theorem SK.It.of {k:SK} {h:Heap} {it a:Addr} {i:Nat} (x:∃ o,h.get? it=some o∧o.cls=.type k.name∧o.data=.fields #[.ref a,.int i 0]):k.It h it a i:=by
 cases k<;>exact x
theorem SK.It.at {k:SK} {h h':Heap} {it a:Addr} {i:Nat} (x:k.It h it a i) (f:∀ o,h.get? it=some o→h'.get? it=some o):k.It h' it a i:=by
 obtain ⟨o,e,r⟩:=x.ex;exact .of ⟨o,f o e,r⟩
theorem SK.Is.ex {k:SK} {h:Heap} {a:Addr} {vs:Array Value} (x:k.Is h a vs):∃ o n,h.get? a=some o∧o.data=.seq vs n:=by
 cases k with
 | l=>obtain ⟨o,e,_,n,d⟩:=(show h.IsList a vs from x);exact ⟨o,n,e,d⟩
 | t=>obtain ⟨o,e,_,n,d⟩:=(show h.IsTuple a vs from x);exact ⟨o,n,e,d⟩
theorem SK.Is.at {k:SK} {h h':Heap} {a:Addr} {vs:Array Value} (x:k.Is h a vs) (f:∀ o,h.get? a=some o→h'.get? a=some o):k.Is h' a vs:=by
 cases k with
 | l=>obtain ⟨o,e,r⟩:=(show h.IsList a vs from x);exact (⟨o,f o e,r⟩:h'.IsList a vs)
 | t=>obtain ⟨o,e,r⟩:=(show h.IsTuple a vs from x);exact (⟨o,f o e,r⟩:h'.IsTuple a vs)
theorem SK.Sq.is {k:SK} {X:Cx} {pins:List (Addr×Obj)} {σ:St} {H:Hp} {s:Shared} {a:Addr} {xs:List V} (q:k.Sq X.K H a xs) (I:Inv X pins σ H s):∃ its,Vals xs its∧k.Is s.heap a its.toArray:=by
 cases k with
 | l=>obtain ⟨its,rv,p,_⟩:=I.list (show SqL X.K H a xs from q);exact ⟨its,rv,p.isList⟩
 | t=>obtain ⟨its,rv,p,_⟩:=I.tuple (show SqT X.K H a xs from q);exact ⟨its,rv,p⟩
theorem SK.Sq.inj {k:SK} {X:Cx} {pins:List (Addr×Obj)} {σ:St} {H:Hp} {s:Shared} {a:Addr} {xs ys:List V} (q:k.Sq X.K H a xs) (r:k.Sq X.K H a ys) (I:Inv X pins σ H s):xs=ys:=by
 cases k with
 | l=>exact I.list_inj q r
 | t=>exact I.tuple_inj q r
section
variable {prog:Program} {w:World} {A:Around} {E:Value→Shared→Prop} {s:Shared}
theorem SK.draw {k:SK} {it a:Addr} {i:Nat} {vs:Array Value} {x:Value} {Q:Value→Shared→Prop} (hi:k.It s.heap it a i) (ha:k.Is s.heap a vs) (hx:vs[i]? = some x)
 (q:∀ h1,k.It h1 it a (i+1)→Heap.SameBut it s.heap h1→Q x { s with heap:=h1 }):wpAny (model prog w) A (n64_ (.ref it)) Q E s:=by
 cases k with
 | l=>exact wpAny_nextOf_list_item hi ha hx q
 | t =>
   have hi':s.heap.IsTupleIter it a i:=hi;obtain ⟨o,e,c,d⟩:=id hi';obtain ⟨oa,ea,_,n,da⟩:=(show s.heap.IsTuple a vs from ha);unfold n64_;refine n6_ (wpAny_callSpecial?_slot (name:=Str.ofString "__next__") hi'.typeIs F.slot_tuple_iterator_next (wpAny_call_entry F.slot_tuple_iterator_next hi'.typeIs F.entry_tuple_iterator_next ?_ (F.args_tuple_iterator_next_1 _)));refine n6_ (m:=field (.ref it) 0) (wpAny_field e d (x:=.ref a) rfl ?_);show wpAny _ _ (if (Value.ref a == Value.none)=true then _ else _) _ _ s
   rw [if_neg (show ¬ ((Value.ref a == Value.none)=true) from n29_)];refine n6_ (m:=field (.ref it) 1) (wpAny_field e d (x:=.int i 0) rfl ?_);refine n6_ (m:=seqItems? (.ref a)) (wpAny_seqItems ea da ?_);simp only [n58_,hx];refine n6_ (wpAny_setField e d (by simp) (n25_ ⟨x,rfl,n25_ (q _ (SK.It.of ?_) (Heap.SameBut.update ..))⟩));exact ⟨_,Heap.get?_update_self _ e (Obj.isFreed_of_fields (Obj.data_mapFields d _)),(Obj.cls_mapFields ..).trans c,by rw [Obj.data_mapFields d];simp [rawInt]⟩
theorem SK.dry {k:SK} {it a:Addr} {i:Nat} {vs:Array Value} {Q:Value→Shared→Prop} (hh:A.handled=none) (hi:k.It s.heap it a i) (ha:k.Is s.heap a vs) (hx:vs[i]? = none)
 (q:∀ h1 e,Heap.ExtBut it s.heap h1→(∃ o,h1.get? e=some o∧o.cls=.type "StopIteration")→E (.ref e) { s with heap:=h1 }):wpAny (model prog w) A (n64_ (.ref it)) Q E s:=by
 cases k with
 | l=>exact wpAny_nextOf_list_end hh hi ha hx q
 | t =>
   have hi':s.heap.IsTupleIter it a i:=hi;obtain ⟨o,e,c,d⟩:=id hi';obtain ⟨oa,ea,_,n,da⟩:=(show s.heap.IsTuple a vs from ha);unfold n64_;refine n6_ (wpAny_callSpecial?_slot (name:=Str.ofString "__next__") hi'.typeIs F.slot_tuple_iterator_next (wpAny_call_entry F.slot_tuple_iterator_next hi'.typeIs F.entry_tuple_iterator_next ?_ (F.args_tuple_iterator_next_1 _)));refine n6_ (m:=field (.ref it) 0) (wpAny_field e d (x:=.ref a) rfl ?_);show wpAny _ _ (if (Value.ref a == Value.none)=true then _ else _) _ _ s
   rw [if_neg (show ¬ ((Value.ref a == Value.none)=true) from n29_)];refine n6_ (m:=field (.ref it) 1) (wpAny_field e d (x:=.int i 0) rfl ?_);refine n6_ (m:=seqItems? (.ref a)) (wpAny_seqItems ea da ?_);simp only [n58_,hx];refine n6_ (wpAny_rule (n6_ (wpAny_setField e d (by simp) ?_)));refine n6_ (m:=newExc (.type "StopIteration") []) ?_;simp only [newExc,newTuple];refine n6_ (wpAny_newObj_type (n6_ (m:=firstArgMember _ _) (wpAny_of_eq (a:=Value.none) (by first|rfl|(simp only [firstArgMember];rfl)) (wpAny_newObj_type ?_ (by size_fits)))) (by size_fits));simp only [raiseNew];refine n6_ (wpAny_handled ?_)
   first|rw [show A.in1.handled=none from hh]|rw [hh]
   refine n6_ (n25_ (wpAny_throw (q _ _ (((Heap.SameBut.update ..).extBut.push _).push _) ⟨_,n17_ _ rfl,rfl⟩)))
theorem SK.iter {k:SK} {a:Addr} {vs:Array Value} {Q:Value→Shared→Prop} (ha:k.Is s.heap a vs) (q:Q (.ref s.heap.objs.size) { s with heap:=s.heap.push (k.obj a) }):wpAny (model prog w) A (pyIter (.ref a)) Q E s:=by
 cases k with
 | l=>exact wpAny_pyIter_list ha q
 | t=>exact wpAny_pyIter_tuple ha q
end
structure ZP (z t o i j a b:Addr):Prop where
 tz:t≠z
 oz:o≠z
 iz:i≠z
 jz:j≠z
 to:t≠o
 ti:t≠i
 tj:t≠j
 oi:o≠i
 oj:o≠j
 ij:i≠j
 az:a≠z
 ao:a≠o
 ai:a≠i
 aj:a≠j
 bz:b≠z
 bo:b≠o
 bi:b≠i
 bj:b≠j
section
variable {prog:Program} {w:World} {A:Around} {E:Value→Shared→Prop} {s:Shared} {k l:SK}
theorem Zpb {z t o i j a b:Addr} {m n:Nat} {xs ys:Array Value} {x y c d:Value} {Q:Value→Shared→Prop} (D:ZP z t o i j a b)
 (hz:IsZip s.heap z t o .none) (ht:IsPair s.heap t (.ref i) (.ref j)) (ho:IsPair s.heap o c d)
 (hi:k.It s.heap i a m) (hj:l.It s.heap j b n) (ha:k.Is s.heap a xs) (hb:l.Is s.heap b ys) (hx:xs[m]? = some x) (hy:ys[n]? = some y)
 (q:∀ h1,IsZip h1 z t o (rawInt s.heap.objs.size)→IsPair h1 o x y→k.It h1 i a (m+1)→l.It h1 j b (n+1)→IsPair h1 s.heap.objs.size x y→h1.objs.size=s.heap.objs.size+1 →
   (∀ e u,e≠z→e≠o→e≠i→e≠j→s.heap.get? e=some u→h1.get? e=some u)→Q (.ref s.heap.objs.size) { s with heap:=h1 }) :
 wpAny (model prog w) A (Builtin.«zip.__next__» ⟨[.ref z],[]⟩) (fun fin s'=>∃ v,fin=.done (.ret v)∧Q v s') E s:=by
 refine n6_ (m:=field (.ref z) 2) (wpAny_field hz rfl (x:=.bool false) rfl ?_);refine n6_ (m:=field (.ref z) 3) (wpAny_field hz rfl (x:=.ref t) rfl (n6_ (wpAny_seqItems ht rfl ?_)));refine n6_ (m:=n87_ (.ref z)) ?_;unfold n87_;refine n6_ (wpAny_field hz rfl (x:=.none) rfl (n25_ ?_));simp only [if_true];refine n6_ (wpAny_rule (n6_ (wpAny_field hz rfl (x:=.ref o) rfl (n6_ (wpAny_setField_rec hz (by simp) fun h1 z1 s1=>?_)))));replace z1:IsZip h1 z t o .ellipsis:=z1;refine n6_ ?_;simp only [List.zipIdx_cons,List.zipIdx_nil,List.forIn_cons,List.forIn_nil];refine n6_ (n6_ (wpAny_onRaise (n6_ (m:=n64_ (.ref i)) ?_)));refine SK.draw (hi.at fun u e=>s1.extBut _ _ D.iz e) (ha.at fun u e=>s1.extBut _ _ D.az e) hx fun h2 i2 s2=>n25_ ?_;have o2:IsPair h2 o c d:=s2.extBut _ _ D.oi (s1.extBut _ _ D.oz ho);refine n6_ (wpAny_seqItems o2 rfl (n6_ (wpAny_updateSeq_pair o2 fun h3 o3 s3=>?_)));replace o3:IsPair h3 o x d:=o3;refine n6_ (wpAny_letGo (n25_ (n6_ (n6_ (wpAny_onRaise (n6_ (m:=n64_ (.ref j)) ?_))))));refine SK.draw (hj.at fun u e=>s3.extBut _ _ D.oj.symm (s2.extBut _ _ D.ij.symm (s1.extBut _ _ D.jz e))) (hb.at fun u e=>s3.extBut _ _ D.bo (s2.extBut _ _ D.bi (s1.extBut _ _ D.bz e))) hy fun h4 j4 s4=>n25_ ?_;have o4:IsPair h4 o x d:=s4.extBut _ _ D.oj o3;refine n6_ (wpAny_seqItems o4 rfl (n6_ (wpAny_updateSeq_pair o4 fun h5 o5 s5=>?_)));replace o5:IsPair h5 o x y:=o5;refine n6_ (wpAny_letGo (n25_ (n25_ (n6_ (wpAny_seqItems o5 rfl (n6_ (wpAny_newTuple ?_)))))));have sz:h5.objs.size=s.heap.objs.size:=by rw [s5.1,s4.1,s3.1,s2.1,s1.1]
 have z5:IsZip h5 z t o .ellipsis:=s5.extBut _ _ D.oz.symm (s4.extBut _ _ D.jz.symm (s3.extBut _ _ D.oz.symm (s2.extBut _ _ D.iz.symm z1)));have k5:∀ e u,e≠z→e≠o→e≠i→e≠j→s.heap.get? e=some u→h5.get? e=some u:=fun e u e1 e2 e3 e4 g=>s5.extBut _ _ e2 (s4.extBut _ _ e4 (s3.extBut _ _ e2 (s2.extBut _ _ e3 (s1.extBut _ _ e1 g))));have i5:k.It h5 i a (m+1):=i2.at fun u e=>s5.extBut _ _ D.oi.symm (s4.extBut _ _ D.ij (s3.extBut _ _ D.oi.symm e));have j5:l.It h5 j b (n+1):=j4.at fun u e=>s5.extBut _ _ D.oj.symm e;have zl:z<h5.objs.size:=n21_ z5;refine n6_ (m:=Builtin.SmallTypes.ownedTupleHandOut (.ref z) (.ref h5.objs.size)) ?_;unfold Builtin.SmallTypes.ownedTupleHandOut;have z6:IsZip (h5.push { cls:=.type "tuple",data:=.seq #[x,y] }) z t o .ellipsis:=n7_ _ z5;refine n6_ (wpAny_setField_rec z6 (by simp) fun h7 z7 s7=>?_);replace z7:IsZip h7 z t o (rawInt h5.objs.size):=z7;refine wpAny_setField_rec z7 (by simp) fun h8 z8 s8=>?_;replace z8:IsZip h8 z t o (rawInt h5.objs.size):=z8;have up:∀ e u,e≠z→h5.get? e=some u→h8.get? e=some u:=fun e u e1 g=>s8.extBut _ _ e1 (s7.extBut _ _ e1 (n7_ _ g));have T8:IsPair h8 h5.objs.size x y:=s8.extBut _ _ (Nat.ne_of_gt zl) (s7.extBut _ _ (Nat.ne_of_gt zl) (n17_ _ rfl));have l8:h8.objs.size=h5.objs.size+1:=by rw [s8.1,s7.1,n80_]
 rw [sz] at z8 T8 l8;refine n25_ ⟨_,rfl,?_⟩;show Q (.ref h5.objs.size) _
 rw [sz];exact q h8 z8 (up _ _ D.oz o5) (i5.at fun u e=>up _ u D.iz e) (j5.at fun u e=>up _ u D.jz e) T8 l8 fun e u e1 e2 e3 e4 g=>up e u e1 (k5 e u e1 e2 e3 e4 g)
theorem Zqr {z t o i j a b:Addr} {m n:Nat} {xs ys:Array Value} {c d:Value} {Q:Fin→Shared→Prop} (hh:A.handled=none) (D:ZP z t o i j a b)
 (hz:IsZip s.heap z t o .none) (ht:IsPair s.heap t (.ref i) (.ref j)) (ho:IsPair s.heap o c d)
 (hi:k.It s.heap i a m) (hj:l.It s.heap j b n) (ha:k.Is s.heap a xs) (hb:l.Is s.heap b ys) (hx:xs[m]? = none∨ys[n]? = none)
 (q:∀ h1 e,(∀ e u,e≠z→e≠o→e≠i→e≠j→s.heap.get? e=some u→h1.get? e=some u)→(∃ u,h1.get? e=some u∧u.cls=.type "StopIteration")→E (.ref e) { s with heap:=h1 }) :
 wpAny (model prog w) A (Builtin.«zip.__next__» ⟨[.ref z],[]⟩) Q E s:=by
 refine n6_ (m:=field (.ref z) 2) (wpAny_field hz rfl (x:=.bool false) rfl ?_);refine n6_ (m:=field (.ref z) 3) (wpAny_field hz rfl (x:=.ref t) rfl (n6_ (wpAny_seqItems ht rfl ?_)));refine n6_ (m:=n87_ (.ref z)) ?_;unfold n87_;refine n6_ (wpAny_field hz rfl (x:=.none) rfl (n25_ ?_));simp only [if_true];refine n6_ (wpAny_rule (n6_ (wpAny_field hz rfl (x:=.ref o) rfl (n6_ (wpAny_setField_rec hz (by simp) fun h1 z1 s1=>?_)))));replace z1:IsZip h1 z t o .ellipsis:=z1;refine n6_ ?_;simp only [List.zipIdx_cons,List.zipIdx_nil,List.forIn_cons,List.forIn_nil];refine n6_ (n6_ (wpAny_onRaise (n6_ (m:=n64_ (.ref i)) ?_)));cases hm:xs[m]? with
 | none =>
   refine SK.dry hh (hi.at fun u e=>s1.extBut _ _ D.iz e) (ha.at fun u e=>s1.extBut _ _ D.az e) hm fun h2 e s2 ⟨u,g,cu⟩=>?_;have z2:IsZip h2 z t o .ellipsis:=s2 _ _ D.iz.symm z1;have ez:e≠z:=fun r=>by subst r;rw [z2] at g;cases g;simp at cu
   exact wpAny_setField_rec z2 (by simp) fun h3 _ s3=>q h3 e (fun e' u' e1 _ e3 _ r=>s3.extBut _ _ e1 (s2 _ _ e3 (s1.extBut _ _ e1 r))) ⟨u,s3.extBut _ _ ez g,cu⟩
 | some x =>
   have hn:ys[n]? = none:=by rcases hx with r|r;(rw [hm] at r;cases r);exact r
   refine SK.draw (hi.at fun u e=>s1.extBut _ _ D.iz e) (ha.at fun u e=>s1.extBut _ _ D.az e) hm fun h2 i2 s2=>n25_ ?_;have o2:IsPair h2 o c d:=s2.extBut _ _ D.oi (s1.extBut _ _ D.oz ho);refine n6_ (wpAny_seqItems o2 rfl (n6_ (wpAny_updateSeq_pair o2 fun h3 o3 s3=>?_)));refine n6_ (wpAny_letGo (n25_ (n6_ (n6_ (wpAny_onRaise (n6_ (m:=n64_ (.ref j)) ?_))))));refine SK.dry hh (hj.at fun u e=>s3.extBut _ _ D.oj.symm (s2.extBut _ _ D.ij.symm (s1.extBut _ _ D.jz e))) (hb.at fun u e=>s3.extBut _ _ D.bo (s2.extBut _ _ D.bi (s1.extBut _ _ D.bz e))) hn fun h4 e s4 ⟨u,g,cu⟩=>?_;have z4:IsZip h4 z t o .ellipsis:=s4 _ _ D.jz.symm (s3.extBut _ _ D.oz.symm (s2.extBut _ _ D.iz.symm z1));have ez:e≠z:=fun r=>by subst r;rw [z4] at g;cases g;simp at cu
   exact wpAny_setField_rec z4 (by simp) fun h5 _ s5=>q h5 e (fun e' u' e1 e2 e3 e4 r=>s5.extBut _ _ e1 (s4 _ _ e4 (s3.extBut _ _ e2 (s2.extBut _ _ e3 (s1.extBut _ _ e1 r))))) ⟨u,s5.extBut _ _ ez g,cu⟩
theorem Zf9 {z t o i j a b:Addr} {m n:Nat} {xs ys:Array Value} {x y c d:Value} {Q:Option Value→Shared→Prop} (D:ZP z t o i j a b)
 (hz:IsZip s.heap z t o .none) (ht:IsPair s.heap t (.ref i) (.ref j)) (ho:IsPair s.heap o c d)
 (hi:k.It s.heap i a m) (hj:l.It s.heap j b n) (ha:k.Is s.heap a xs) (hb:l.Is s.heap b ys) (hx:xs[m]? = some x) (hy:ys[n]? = some y)
 (q:∀ h1,IsZip h1 z t o (rawInt s.heap.objs.size)→IsPair h1 o x y→k.It h1 i a (m+1)→l.It h1 j b (n+1)→IsPair h1 s.heap.objs.size x y→h1.objs.size=s.heap.objs.size+1 →
   (∀ e u,e≠z→e≠o→e≠i→e≠j→s.heap.get? e=some u→h1.get? e=some u)→Q (some (.ref s.heap.objs.size)) { s with heap:=h1 }) :
 wpAny (model prog w) A (pyNext (.ref z)) Q E s:=by
 have hT:s.TypeIs (.ref z) "zip" := ⟨_,hz,rfl⟩;unfold pyNext
 exact n6_ (wpAny_attempt (wpAny_callSpecial?_slot (name:=Str.ofString "__next__") hT F.slot_zip_next (wpAny_call_entry F.slot_zip_next hT F.entry_zip_next
  (Zpb D hz ht ho hi hj ha hb hx hy fun h1 r1 r2 r3 r4 r5 r6 r7=>n25_ (q h1 r1 r2 r3 r4 r5 r6 r7)) (F.args_zip_next_1 _))))
theorem Zg7 {z t o i j a b:Addr} {m n:Nat} {xs ys:Array Value} {c d:Value} {Q:Option Value→Shared→Prop} (hh:A.handled=none) (D:ZP z t o i j a b)
 (hz:IsZip s.heap z t o .none) (ht:IsPair s.heap t (.ref i) (.ref j)) (ho:IsPair s.heap o c d)
 (hi:k.It s.heap i a m) (hj:l.It s.heap j b n) (ha:k.Is s.heap a xs) (hb:l.Is s.heap b ys) (hx:xs[m]? = none∨ys[n]? = none)
 (q:∀ h1,(∀ e u,e≠z→e≠o→e≠i→e≠j→s.heap.get? e=some u→h1.get? e=some u)→Q none { s with heap:=h1 }) :
 wpAny (model prog w) A (pyNext (.ref z)) Q E s:=by
 have hT:s.TypeIs (.ref z) "zip" := ⟨_,hz,rfl⟩;unfold pyNext
 refine n6_ (wpAny_attempt (wpAny_callSpecial?_slot (name:=Str.ofString "__next__") hT F.slot_zip_next (wpAny_call_entry F.slot_zip_next hT F.entry_zip_next
  (Zqr hh D hz ht ho hi hj ha hb hx fun h1 e r1 ⟨u,g,cu⟩=>?_) (F.args_zip_next_1 _))))
 exact n6_ (wpAny_isInstance (T := "StopIteration") (b:=true) ⟨u,g,cu⟩ isSubtype_stop (n25_ (q _ r1)))
abbrev zp1 (k:SK) (h:Heap) (a:Addr):Heap:=h.push (k.obj a)
abbrev zp2 (k l:SK) (h:Heap) (a b:Addr):Heap:=(zp1 k h a).push (l.obj b)
abbrev zp3 (k l:SK) (h:Heap) (a b:Addr):Heap:=(zp2 k l h a b).push { cls:=.type "tuple",data:=.seq #[.ref h.objs.size,.ref (zp1 k h a).objs.size] }
abbrev zp4 (k l:SK) (h:Heap) (a b:Addr):Heap:=(zp3 k l h a b).push { cls:=.type "tuple",data:=.seq #[.none,.none] }
abbrev zp5 (k l:SK) (h:Heap) (a b:Addr):Heap:=(zp4 k l h a b).push { cls:=.type "zip",data:=.fields #[.none,.bool false,.bool false,.ref (zp2 k l h a b).objs.size,.ref (zp3 k l h a b).objs.size] }
theorem Znc (k l:SK) (a b:Addr) (xs ys:Array Value):Meets (Builtin.«zip.__new__» ⟨[.type "zip",.ref a,.ref b],[]⟩) (fun _ R s=>k.Is s.heap a xs∧l.Is s.heap b ys∧R (.ok (.ret (.ref (zp4 k l s.heap a b).objs.size))) { s with heap:=zp5 k l s.heap a b }) :=
 .of_wp fun prog w A R s h=>by
  obtain ⟨hp,g,d,tk,os⟩:=s;obtain ⟨h1,h2,h⟩:=h;have hsub:=sub_zip;have r1:k.Is (Shared.heap ⟨hp,g,d,tk,os⟩) a xs:=h1;have r2:l.Is (Shared.heap ⟨hp.push (k.obj a),g,d,tk,os⟩) b ys:=SK.Is.at h2 fun o e=>n7_ _ e
  wp_walk using SK.iter r1,SK.iter r2
  exact ⟨_,rfl,h⟩
theorem Zj8 {a b:Addr} {xs ys:Array Value} {Q:Value→Shared→Prop} (ha:k.Is s.heap a xs) (hb:l.Is s.heap b ys)
 (q:∀ h1,IsZip h1 (s.heap.objs.size+4) (s.heap.objs.size+2) (s.heap.objs.size+3) .none→IsPair h1 (s.heap.objs.size+2) (.ref s.heap.objs.size) (.ref (s.heap.objs.size+1)) →
   IsPair h1 (s.heap.objs.size+3) .none .none→k.It h1 s.heap.objs.size a 0→l.It h1 (s.heap.objs.size+1) b 0→h1.objs.size=s.heap.objs.size+5 →
   (∀ c o,s.heap.get? c=some o→h1.get? c=some o)→Q (.ref (s.heap.objs.size+4)) { s with heap:=h1 }) :
 wpAny (model prog w) A (call (.type "zip") [.ref a,.ref b]) Q E s:=by
 refine callType_new F.called_zip (by decide) (F.typeCall_zip_2 _ _) (F.newCall_zip_2 _ _) (fun obj=>F.args_object_init_3 obj _ _) F.entry_zip_new (Znc k l a b xs ys) ⟨ha,hb,?_⟩;have n1:(zp1 k s.heap a).objs.size=s.heap.objs.size+1:=n80_ ..;have n2:(zp2 k l s.heap a b).objs.size=s.heap.objs.size+2:=by rw [n80_,n1]
 have n3:(zp3 k l s.heap a b).objs.size=s.heap.objs.size+3:=by rw [n80_,n2]
 have n4:(zp4 k l s.heap a b).objs.size=s.heap.objs.size+4:=by rw [n80_,n3]
 have n5:(zp5 k l s.heap a b).objs.size=s.heap.objs.size+5:=by rw [n80_,n4]
 have m5:(zp5 k l s.heap a b).get? (zp4 k l s.heap a b).objs.size=some _:=n17_ _ rfl;have m4:(zp5 k l s.heap a b).get? (zp3 k l s.heap a b).objs.size=some _:=n7_ _ (n17_ _ rfl);have m3:(zp5 k l s.heap a b).get? (zp2 k l s.heap a b).objs.size=some _:=n7_ _ (n7_ _ (n17_ _ rfl));have m2:(zp5 k l s.heap a b).get? (zp1 k s.heap a).objs.size=some _:=n7_ _ (n7_ _ (n7_ _ (n17_ _ rfl)));have m1:(zp5 k l s.heap a b).get? s.heap.objs.size=some _:=n7_ _ (n7_ _ (n7_ _ (n7_ _ (n17_ _ rfl))));show _∧_
 rw [n2,n3,n4] at m5;rw [n1,n2] at m3;rw [n3] at m4;rw [n1] at m2;rw [n4];exact ⟨⟨_,m5,rfl⟩,q _ m5 m3 m4 (.of ⟨_,m1,rfl,rfl⟩) (.of ⟨_,m2,rfl,rfl⟩) n5 fun c o e=>n7_ _ (n7_ _ (n7_ _ (n7_ _ (n7_ _ e))))⟩
end
def Itz (k l:SK) (K:PySem.W.Frag) (a b:Addr):It :=
 ⟨fun i H=>∃ xs ys x y,k.Sq K H a xs∧l.Sq K H b ys∧xs[i]? = some x∧ys[i]? = some y,
  fun i H v H'=>∃ p x y,v=.ref p∧H p=none∧H'=upd H p (.tup [x,y])∧(∀ xs,k.Sq K H a xs→xs[i]? = some x)∧∀ ys,l.Sq K H b ys→ys[i]? = some y,
  fun i H=>∃ xs ys,k.Sq K H a xs∧l.Sq K H b ys∧(xs.length≤i∨ys.length≤i)⟩
theorem Zkr {P:Program} {w:World} {K:PySem.W.Frag} {es:List Expr} {x1:Nat} {tp:Pos} {k l:SK} {z t o i j a b:Addr} (D:ZP z t o i j a b) :
 Turn P w K (.Tuple es x1 tp) (Itz k l K a b) [z,t,o,i,j] z (fun n h=>IsZip h z t o .none∧IsPair h t (.ref i) (.ref j)∧(∃ c d,IsPair h o c d)∧k.It h i a n∧l.It h j b n) where
 mem:=by simp
 obj:=fun n h st e he=>by
  obtain ⟨h1,h2,⟨c,d,h3⟩,h4,h5⟩:=st;simp only [n34_,n48_,or_false] at he
  rcases he with rfl|rfl|rfl|rfl|rfl
  · exact ⟨_,h1,fun v q=>by cases (show Data.fields _=Data.cell v from q)⟩
  · exact ⟨_,h2,fun v q=>by cases (show Data.seq _ _=Data.cell v from q)⟩
  · exact ⟨_,h3,fun v q=>by cases (show Data.seq _ _=Data.cell v from q)⟩
  · obtain ⟨u,e,_,q⟩:=h4.ex;exact ⟨u,e,fun v r=>by rw [q] at r;cases r⟩
  · obtain ⟨u,e,_,q⟩:=h5.ex;exact ⟨u,e,fun v r=>by rw [q] at r;cases r⟩
 keep:=fun n h h' st f=>by
  obtain ⟨h1,h2,⟨c,d,h3⟩,h4,h5⟩:=st;exact ⟨f z (by simp) _ h1,f t (by simp) _ h2,⟨c,d,f o (by simp) _ h3⟩,h4.at fun u e=>f i (by simp) u e,h5.at fun u e=>f j (by simp) u e⟩
 item:=by
  intro X hP hw hK hc n pins s σ H E I hf st hg;subst hP hw hK;obtain ⟨h1,h2,⟨c,d,h3⟩,h4,h5⟩:=st;obtain ⟨xs,ys,x,y,q1,q2,hx,hy⟩:=hg;obtain ⟨us,ru,pu⟩:=q1.is I;obtain ⟨vs,rv,pv⟩:=q2.is I;obtain ⟨u,hu,ux⟩:=ru.get hx;obtain ⟨v,hv,vy⟩:=rv.get hy;have lt:∀ {e o'},s.heap.get? e=some o'→e≠s.heap.objs.size:=fun e=>n51_ (n21_ e);refine Zf9 D h1 h2 h3 h4 h5 pu pv (x:=u) (y:=v) (by simpa using hu) (by simpa using hv) fun g r1 r2 r3 r4 r5 r6 r7=>?_;refine ⟨_,rfl,wpAny_letOwnedTupleGo_zip r1 fun g2 z2 s2=>?_⟩;have hp:H s.heap.objs.size=none:=I.hok.fresh (n9_ _);have T2:IsPair g2 s.heap.objs.size u v:=s2.extBut _ _ (Ne.symm (lt h1)) r5
  have I2:Inv X pins σ (upd H s.heap.objs.size (.tup [x,y])) { s with heap:=g2,toks:=s.toks }:=by
   refine I.turnNew (ch:=[z,o,i,j]) (fun e o' ne q=>?_) (fun e he=>hf e ?_) (n9_ _) ⟨z2_,[u,v],.cons ux (.cons vy .nil),⟨_,T2,rfl,_,rfl⟩⟩
   · simp only [n34_,n48_,or_false,not_or] at ne;exact s2.extBut _ _ ne.1 (r7 e o' ne.1 ne.2.1 ne.2.2.1 ne.2.2.2 q)
   · simp only [n34_,n48_,or_false] at he ⊢
     rcases he with q|q|q|q<;>simp [q]
  refine ⟨.ref s.heap.objs.size,_,I2,rfl,⟨_,x,y,rfl,hp,rfl,fun xs' q=>by rw [q.inj q1 I];exact hx,fun ys' q=>by rw [q.inj q2 I];exact hy⟩,⟨z2,?_,⟨u,v,s2.extBut _ _ D.oz r2⟩,r3.at fun u' e=>s2.extBut _ _ D.iz e,r4.at fun u' e=>s2.extBut _ _ D.jz e⟩,fun e he=>?_⟩
  · exact s2.extBut _ _ D.tz (r7 _ _ D.tz D.to D.ti D.tj h2)
  · have ne:e≠s.heap.objs.size:=by
     simp only [n34_,n48_,or_false] at he
     rcases he with rfl|rfl|rfl|rfl|rfl
     · exact lt h1
     · exact lt h2
     · exact lt h3
     · obtain ⟨_,q,_⟩:=h4.ex;exact lt q
     · obtain ⟨_,q,_⟩:=h5.ex;exact lt q
    rw [Zp ne];exact (hf e he).1
 done:=by
  intro X hP hw hK hc n pins s σ H E I hf st hg;subst hP hw hK;obtain ⟨h1,h2,⟨c,d,h3⟩,h4,h5⟩:=st;obtain ⟨xs,ys,q1,q2,hl⟩:=hg;obtain ⟨us,ru,pu⟩:=q1.is I;obtain ⟨vs,rv,pv⟩:=q2.is I;have e1:=ru.length;have e2:=rv.length;refine Zg7 (I.ok.hd hc) D h1 h2 h3 h4 h5 pu pv ?_ fun g r=>⟨rfl,?_⟩
  · rcases hl with q|q
    · left;simp;omega
    · right;simp;omega
  · refine I.turnOnly (t':=s.toks) (ch:=[z,o,i,j]) (fun e o' ne q=>?_) (fun e he=>hf e ?_)
    · simp only [n34_,n48_,or_false,not_or] at ne;exact r e o' ne.1 ne.2.1 ne.2.2.1 ne.2.2.2 q
    · simp only [n34_,n48_,or_false] at he ⊢
      rcases he with q|q|q|q<;>simp [q]
 self:=fun _ _ _ _ _ st h=>wpAny_pyIter_zip st.1 h
theorem Zp4 {n a b:Addr} (la:a<n) (lb:b<n):ZP (n+4) (n+2) (n+3) n (n+1) a b:=by
 constructor<;>(intro h;have h':@Eq Nat _ _:=h;have la':@LT.lt Nat _ _ _:=la;have lb':@LT.lt Nat _ _ _:=lb;clear h la lb;omega)
theorem Zhr:bootBuiltins "zip" = some (.type "zip"):=by decide +kernel
section
variable {X:Cx} {es:List Expr} {x1:Nat} {tp:Pos}
def iZip (k l:SK) (K:PySem.W.Frag) (ta:TA):TI:=fun σ H R=>ta σ H fun vs H1=>∃ a b,vs=[.ref a,.ref b]∧(∃ xs,k.Sq K H1 a xs)∧(∃ ys,l.Sq K H1 b ys)∧R (Itz k l K a b) H1
theorem Inv.fps {pins:List (Addr×Obj)} {σ:St} {H:Hp} {s:Shared} (I:Inv X pins σ H s) {fp:List Addr} (h:∀ b∈fp,s.heap.objs.size≤b):∀ b∈fp,FpOk X pins H b:=fun b hb=>I.fpOk (h b hb) (I.hok.fresh (h b hb))
theorem Zia (k l:SK) {a b:Expr} {ta:TA} {p pos:Pos} (hg:Gl X "zip") (hm:X.mg "zip" = none) (ha:PA X [a,b] ta) (hs:starEach [a,b] X.env=[(false,eval a X.env),(false,eval b X.env)]:=by rfl) (hs2:starEach [b] X.env=[(false,eval b X.env)]:=by rfl) :
 PI X (.Tuple es x1 tp) (.Call (.Name "zip" p) [a,b] [] pos) (iZip k l X.K ta):=by
 intro pins s σ H R I h;refine Call_ (Zax I hg hm Zhr (n59_ (thn (ha pos pins s σ H _ I h) fun us s1 ⟨vs,H1,I1,r1,q1⟩=>?_) (by rw [hs,hs2]) (by rw [hs2];rfl)));obtain ⟨a,b,e,⟨xs,hx⟩,⟨ys,hy⟩,q⟩:=q1;subst e;cases r1 with
 | cons r rr =>
   cases rr with
   | cons r' rr =>
     cases rr
     cases r
     cases r'
     obtain ⟨us,ru,pu⟩:=hx.is I1;obtain ⟨ws,rw',pw⟩:=hy.is I1;have la:a<s1.heap.objs.size:=by obtain ⟨_,_,e,_⟩:=pu.ex;exact n21_ e
     have lb:b<s1.heap.objs.size:=by obtain ⟨_,_,e,_⟩:=pw.ex;exact n21_ e
     refine Zj8 pu pw fun h1 m1 m2 m3 m4 m5 m6 m7=>wpAny_pyIter_zip m1 ?_;have I2:Inv X pins σ H1 { s1 with heap:=h1,toks:=s1.toks }:=I1.kept m7;refine ⟨_,_,_,_,H1,rfl,I2,Zkr (z:=s1.heap.objs.size+4) (t:=s1.heap.objs.size+2) (o:=s1.heap.objs.size+3) (i:=s1.heap.objs.size) (j:=s1.heap.objs.size+1) (k:=k) (l:=l) (a:=a) (b:=b) ?_,⟨m1,m2,⟨_,_,m3⟩,m4,m5⟩,?_,q⟩
     · exact Zp4 la lb
     · have f1:=I1.fps (fp:=[s1.heap.objs.size+4,s1.heap.objs.size+2,s1.heap.objs.size+3,s1.heap.objs.size,s1.heap.objs.size+1]) (by
        intro e he;simp only [n34_,n48_,or_false] at he
        rcases he with rfl|rfl|rfl|rfl|rfl<;>omega)
       exact f1
end
def Ite (k:SK) (K:PySem.W.Frag) (a:Addr):It :=
 ⟨fun i H=>∃ xs x,k.Sq K H a xs∧xs[i]? = some x,
  fun i H v H'=>∃ p x,v=.ref p∧H p=none∧H'=upd H p (.tup [.int i,x])∧∀ xs,k.Sq K H a xs→xs[i]? = some x,
  fun i H=>∃ xs,k.Sq K H a xs∧xs.length=i⟩
theorem SK.draws {prog:Program} {w:World} {A:Around} {k:SK} (hh:A.handled=none) (it a:Addr) (ne:a≠it) (vs:Array Value):Draws prog w A it [it,a] vs.size (fun i v=>vs[i]? = some v) (fun i h=>k.It h it a i∧k.Is h a vs) where
 live:=fun _ _ st=>let ⟨o,e,_⟩:=st.1.ex;⟨o,e⟩
 frame:=fun _ _ _ st f=>⟨st.1.at fun o e=>f it (by simp) o e,st.2.at fun o e=>f a (by simp) o e⟩
 item:=fun i s Q E hi st q=>SK.draw st.1 st.2 (x:=vs[i]) (by simp [hi]) fun h1 r1 r2=>q _ h1 s.toks (by simp [hi]) ⟨r1,st.2.at fun o e=>r2.extBut _ _ ne e⟩ r2
 done:=fun s Q E st q=>SK.dry hh st.1 st.2 (by simp) q
theorem Zh5 {P:Program} {w:World} {K:PySem.W.Frag} {es:List Expr} {x1:Nat} {tp:Pos} {k:SK} {e it a:Addr} (n1:e≠it) (n2:a≠e) (n3:a≠it) :
 Turn P w K (.Tuple es x1 tp) (Ite k K a) [e,it] e (fun n h=>(∃ old,IsEnum h e it n old)∧k.It h it a n) where
 mem:=by simp
 obj:=fun n h st b hb=>by
  obtain ⟨⟨old,h1⟩,h2⟩:=st;simp only [n34_,n48_,or_false] at hb
  rcases hb with rfl|rfl
  · exact ⟨_,h1,fun v q=>by cases (show Data.fields _=Data.cell v from q)⟩
  · obtain ⟨u,e,_,q⟩:=h2.ex;exact ⟨u,e,fun v r=>by rw [q] at r;cases r⟩
 keep:=fun n h h' st f=>by
  obtain ⟨⟨old,h1⟩,h2⟩:=st;exact ⟨⟨old,f e (by simp) _ h1⟩,h2.at fun u q=>f it (by simp) u q⟩
 item:=by
  intro X hP hw hK hc n pins s σ H E I hf st hg;subst hP hw hK;obtain ⟨⟨old,h1⟩,h2⟩:=st;obtain ⟨xs,x,q1,hx⟩:=hg;obtain ⟨us,ru,pu⟩:=q1.is I;obtain ⟨u,hu,ux⟩:=ru.get hx;have lt:∀ {b o'},s.heap.get? b=some o'→b≠s.heap.objs.size:=fun e=>n51_ (n21_ e);have hlen:n<us.toArray.size:=by have:=(n11_.mp hu).1;simpa using this
  refine wpAny_pyNext_enum_itemD (SK.draws (k:=k) (show X.A.in1.handled=none from I.ok.hd hc) it a n3 us.toArray) h1 ⟨h2,pu⟩ hlen n1 (by simp [n1,n2.symm]) fun v g tk hv r1 r2 r3 r4 r5=>?_
  have ev:v=u:=by
   have:us[n]? = some v:=by simpa using hv
   rw [hu] at this;exact (Option.some.inj this).symm
  subst ev;refine ⟨_,rfl,wpAny_letOwnedTupleGo_enum r1 fun g2 z2 s2=>?_⟩;have hp:H s.heap.objs.size=none:=I.hok.fresh (n9_ _);have T2:g2.get? s.heap.objs.size=some { cls:=.type "tuple",data:=.seq #[.int n tk,v] }:=s2.extBut _ _ (Ne.symm (lt h1)) r3
  have I2:Inv X pins σ (upd H s.heap.objs.size (.tup [.int n,x])) { s with heap:=g2,toks:=tk+1 }:=by
   refine I.turnNew (ch:=[e,it]) (fun b o' ne q=>?_) (fun b hb=>hf b hb) (n9_ _) ⟨z2_,[.int n tk,v],.cons ⟨tk,rfl⟩ (.cons ux .nil),⟨_,T2,rfl,_,rfl⟩⟩;simp only [n34_,n48_,or_false,not_or] at ne;exact s2.extBut _ _ ne.1 (r5 b o' ne.1 ne.2 q)
  refine ⟨.ref s.heap.objs.size,_,I2,rfl,⟨_,x,rfl,hp,rfl,fun xs' q=>by rw [q.inj q1 I];exact hx⟩,⟨⟨v,by simpa using z2⟩,r2.1.at fun u' q=>s2.extBut _ _ n1.symm q⟩,fun b hb=>?_⟩
  have ne:b≠s.heap.objs.size:=by
   simp only [n34_,n48_,or_false] at hb
   rcases hb with rfl|rfl
   · exact lt h1
   · obtain ⟨_,q,_⟩:=h2.ex;exact lt q
  rw [Zp ne];exact (hf b hb).1
 done:=by
  intro X hP hw hK hc n pins s σ H E I hf st hg;subst hP hw hK;obtain ⟨⟨old,h1⟩,h2⟩:=st;obtain ⟨xs,q1,hl⟩:=hg;obtain ⟨us,ru,pu⟩:=q1.is I;have e1:=ru.length;have en:us.toArray.size=n:=by rw [n16_];omega
  subst en;have D:=SK.draws (prog:=X.prog) (w:=X.w) (k:=k) (show X.A.in1.handled=none from I.ok.hd hc) it a n3 us.toArray;refine wpAny_pyNext_enum_endD D h1 ⟨h2,pu⟩ fun g r=>⟨rfl,?_⟩;exact I.turnOnly (t':=s.toks) (ch:=[it]) (fun b o' ne q=>r b o' (by simpa using ne) q) (fun b hb=>hf b (by simp at hb;simp [hb]))
 self:=fun _ _ _ _ _ st h=>by obtain ⟨⟨old,h1⟩,_⟩:=st;exact wpAny_pyIter_enum h1 h
open AutoSeq1 (wpAny_loadPart')
abbrev Zgs (it:Addr):Obj:={ cls:=.type "enumerate",data:=.fields #[.none,.bool false,.ref it,rawInt 0,.none,.none] }
theorem Zk3 (k:SK) (a:Addr) (vs:Array Value) (o:Obj):Meets (Builtin.«enumerate.__new__» ⟨[.type "enumerate",.ref a],[]⟩) (fun _ R s=>s.heap.get? a=some o∧k.Is s.heap a vs ∧
 R (.ok (.ret (.ref (s.heap.push (k.obj a)).objs.size))) { s with heap:=(s.heap.push (k.obj a)).push (Zgs s.heap.objs.size) }) :=
 .of_wp fun prog w A R s h=>by
  obtain ⟨hp,g,d,tk,os⟩:=s;obtain ⟨ho,hk,h⟩:=h;have hsub:=sub_enumerate;have r1:k.Is (Shared.heap ⟨hp,g,d,tk,os⟩) a vs:=hk
  wp_walk using wpAny_loadPart' ho
  refine wpAny_stack_any fun st=>n25_ ?_;split
  · rename_i c _ _ _ _ _
    cases (c == Value.type "enumerate")
    · (wp_walk using wpAny_loadPart' ho,SK.iter r1);exact ⟨_,rfl,h⟩
    · (wp_walk using wpAny_loadPart' ho,SK.iter r1);exact ⟨_,rfl,h⟩
  · (wp_walk using wpAny_loadPart' ho,SK.iter r1);exact ⟨_,rfl,h⟩
section
variable {prog:Program} {w:World} {A:Around} {E:Value→Shared→Prop} {s:Shared} {k:SK}
theorem Zib {a:Addr} {vs:Array Value} {Q:Value→Shared→Prop} (ha:k.Is s.heap a vs)
 (q:∀ h1,IsEnum h1 (s.heap.objs.size+1) s.heap.objs.size 0 .none→k.It h1 s.heap.objs.size a 0→(∀ b o,s.heap.get? b=some o→h1.get? b=some o)→Q (.ref (s.heap.objs.size+1)) { s with heap:=h1 }) :
 wpAny (model prog w) A (call (.type "enumerate") [.ref a]) Q E s:=by
 obtain ⟨o,n,e,d⟩:=ha.ex;refine callType_new F.called_enumerate (by decide) (F.typeCall_enumerate_1 _) (F.newCall_enumerate_1 _) (fun obj=>F.args_object_init_2 obj _) F.entry_enumerate_new (Zk3 k a vs o) ⟨e,ha,?_⟩;have n1:(s.heap.push (k.obj a)).objs.size=s.heap.objs.size+1:=n80_ ..;have m2:((s.heap.push (k.obj a)).push (Zgs s.heap.objs.size)).get? (s.heap.push (k.obj a)).objs.size=some (Zgs s.heap.objs.size):=n17_ _ rfl;have m1:((s.heap.push (k.obj a)).push (Zgs s.heap.objs.size)).get? s.heap.objs.size=some (k.obj a):=n7_ _ (n17_ _ rfl);show _∧_
 rw [n1] at m2;rw [n1];exact ⟨⟨_,m2,rfl⟩,q _ m2 (.of ⟨_,m1,rfl,rfl⟩) fun b o' r=>n7_ _ (n7_ _ r)⟩
end
theorem Zfc:bootBuiltins "enumerate" = some (.type "enumerate"):=by decide +kernel
section
variable {X:Cx} {es:List Expr} {x1:Nat} {tp:Pos}
def Ztr (k:SK) (K:PySem.W.Frag) (ta:TA):TI:=fun σ H R=>ta σ H fun vs H1=>∃ a,vs=[.ref a]∧(∃ xs,k.Sq K H1 a xs)∧R (Ite k K a) H1
theorem ne3 {n a:Addr} (la:a<n):n+1≠n∧a≠n+1∧a≠n:=by
 have la':@LT.lt Nat _ a n:=la;refine ⟨fun h=>?_,fun h=>?_,fun h=>?_⟩<;>(have h':@Eq Nat _ _:=h;clear h la;omega)
theorem Ziy (k:SK) {a:Expr} {ta:TA} {p pos:Pos} (hg:Gl X "enumerate") (hm:X.mg "enumerate" = none) (ha:PA X [a] ta) (hs:starEach [a] X.env=[(false,eval a X.env)]:=by rfl) :
 PI X (.Tuple es x1 tp) (.Call (.Name "enumerate" p) [a] [] pos) (Ztr k X.K ta):=by
 intro pins s σ H R I h;refine Call_ (Zax I hg hm Zfc (n59_ (thn (ha pos pins s σ H _ I h) fun us s1 ⟨vs,H1,I1,r1,q1⟩=>?_) hs rfl));obtain ⟨a,e,⟨xs,hx⟩,q⟩:=q1;subst e;cases r1 with
 | cons r rr =>
   cases rr
   cases r
   obtain ⟨us,ru,pu⟩:=hx.is I1;have la:a<s1.heap.objs.size:=by obtain ⟨_,_,e,_⟩:=pu.ex;exact n21_ e
   refine Zib pu fun h1 m1 m4 m7=>wpAny_pyIter_enum m1 ?_;have I2:Inv X pins σ H1 { s1 with heap:=h1,toks:=s1.toks }:=I1.kept m7;obtain ⟨z1,z2,z3⟩:=ne3 la;refine ⟨_,_,_,_,H1,rfl,I2,Zh5 (e:=s1.heap.objs.size+1) (it:=s1.heap.objs.size) (k:=k) (a:=a) z1 z2 z3,⟨⟨_,m1⟩,m4⟩,?_,q⟩
   exact I1.fps (fp:=[s1.heap.objs.size+1,s1.heap.objs.size]) (by
    intro e he;simp only [n34_,n48_,or_false] at he
    rcases he with rfl|rfl
    · exact Nat.le_succ _
    · exact n9_ _)
end
theorem Znk {J:It} {n:Nat} {D:Addr} {g:TG} {tt:TT} {te:TE} {σ0:St} {H:Hp} {Q:VK} (Pv:Nat→St→Hp→Prop) (h0:Pv 0 σ0 (upd H D (.lst [])))
 (hx:∀ i σ H,i<n→Pv i σ H→J.go i H) (hz:∀ σ H,Pv n σ H→J.stop n H)
 (hs:∀ i x σ2 H2 H3,i<n→J.yld i H2 x H3→Pv i σ2 H2→g x σ2 H3 fun σ4 H4=>tt σ4 H4 fun b H5=>if b=true then te σ4 H5 fun y H6=>∃ ys,H6 D=some (.lst ys)∧ys.length<sizeLine ∧
   ∃ m',m'<n-i∧LcN n Pv (i+1) m' σ4 (upd H6 D (.lst (ys++[y]))) else ∃ m',m'<n-i∧LcN n Pv (i+1) m' σ4 H5)
 (hd:∀ σ2 H2,Pv n σ2 H2→Q (.ref D) H2):LcGo J g tt te σ0 H D Q:=by
 refine ⟨LcN n Pv,⟨_,n60_ _,rfl,h0⟩,?_⟩;rintro i m σ2 H2 ⟨hi,rfl,p⟩
 by_cases hlt:i<n
 · exact .inr ⟨hx i σ2 H2 hlt p,fun x H3 y=>hs i x σ2 H2 H3 hlt y p⟩
 · have e:i=n:=by omega
   subst e;exact .inl ⟨hz σ2 H2 p,hd σ2 H2 p⟩
theorem Xr {J:It} {n:Nat} {g:TG} {tb:TS} {D:Ends} {σ:St} {H:Hp} (Pv:Nat→St→Hp→Prop) (h0:Pv 0 σ H)
 (hx:∀ i σ H,i<n→Pv i σ H→J.go i H) (hz:∀ σ H,Pv n σ H→J.stop n H)
 (hs:∀ i x σ H H',i<n→J.yld i H x H'→Pv i σ H→g x σ H' fun σ2 H2=>tb { D with nx:=Pv (i+1),ct:=Pv (i+1),bk:=D.nx } σ2 H2) (hd:∀ σ H,Pv n σ H→D.nx σ H) :
 ∃ W:Nat→Nat→St→Hp→Prop,(∃ m,W 0 m σ H)∧∀ i m σ H,W i m σ H →
   (J.stop i H∧D.nx σ H)∨(J.go i H∧∃ N:St→Hp→Prop,(∀ σ' H',N σ' H'→∃ m',m'<m∧W (i+1) m' σ' H')∧∀ x H',J.yld i H x H'→g x σ H' fun σ2 H2=>tb { D with nx:=N,ct:=N,bk:=D.nx } σ2 H2):=by
 refine ⟨fun i m σ H=>m=n-i∧i≤n∧Pv i σ H,⟨n,by simp,n60_ _,h0⟩,?_⟩;rintro i m σ H ⟨rfl,hi,p⟩
 by_cases hlt:i<n
 · exact .inr ⟨hx i σ H hlt p,Pv (i+1),fun σ' H' p'=>⟨n-(i+1),by omega,rfl,hlt,p'⟩,fun x H' y=>hs i x σ H H' hlt y p⟩
 · have e:i=n:=by omega
   subst e;exact .inl ⟨hz σ H p,hd σ H p⟩
section
variable {X:Cx}
theorem Ze4:∀ (bs:List Bool),((List.range bs.length).any fun i=>(bs[i]?).getD true)=bs.any id
 | []=>rfl
 | b :: bs=>by
   rw [n33_,List.range_succ_eq_map,List.any_cons,List.any_map,List.any_cons,← Ze4 bs];rfl
theorem Znz (hc:X.calm=true):Zas X (.builtin "any") (fun xs H Q=>∃ (p:Addr) (bs:List Bool),xs=[.ref p]∧SqL X.K H p (bs.map V.bl)∧Q (.bl (bs.any id)) H):=by
 intro pins s σ H xs us Q I r h;obtain ⟨p,bs,rfl,hq,q⟩:=h;cases r with
 | cons rx r =>
   cases r
   cases (show _=Value.ref p from rx)
   obtain ⟨its,rv,pl,hz⟩:=I.list hq;have hl:=pl.isList;have hlt:p<s.heap.objs.size:=by obtain ⟨_,e,_⟩:=hl;exact n21_ e
   have hh:X.A.handled=none:=I.ok.hd hc;refine call_any_walk (wpAny_pyIter_list hl ⟨s.heap.objs.size,[s.heap.objs.size,p],[s.heap.objs.size],its.toArray.size,_,_,fun i=>(bs[i]?).getD true,rfl,Walks.list (A:=X.A.in1) hh _ p (n51_ hlt) its.toArray,⟨⟨_,n17_ _ rfl,rfl,rfl⟩,hl.push _⟩,fun i v s' Q' E' hP hQ=>?_,fun h' tk hk=>?_⟩)
   · obtain ⟨b,e,rfl⟩:=Zce rv (show its[i]? = some v by simpa using hP);simp only [e,Option.getD_some] at hQ;exact wpAny_truthy_bool hQ
   · have e:((List.range its.toArray.size).any fun i=>(bs[i]?).getD true)=bs.any id:=by
      rw [n16_,← rv.length,n2_];exact Ze4 bs
     rw [e];exact ⟨.bl _,H,I.kept (Zi8 hk),rfl,q⟩
theorem Zii:∀ {ns:List Int} {us:List Value} {i:Nat} {v:Value},Vals (ns.map V.int) us→us[i]? = some v→∃ t,v=.int (ns.getD i 0) t
 | [],_,i,v,.nil,e=>by simp at e
 | n :: ns,_,0,v,.cons r t,e=>by
   obtain ⟨k,rfl⟩:=r
   have:v=.int n k:=by simpa using e.symm
   exact ⟨k,this⟩
 | n :: ns,_,i+1,v,.cons r t,e=>by
   obtain ⟨k,h⟩:=Zii t (by simpa using e);exact ⟨k,by simpa using h⟩
theorem Ze6:∀ (ns:List Int) (acc:List Int),preSum (fun i=>(acc++ns).getD i 0) (acc.length+ns.length)=preSum (fun i=>(acc++ns).getD i 0) acc.length+ns.sum
 | [],acc=>by simp
 | n :: ns,acc=>by
   have:=Ze6 ns (acc++[n])
   rw [List.append_assoc] at this;simp only [n20_,n33_,n73_,List.singleton_append] at this ⊢;rw [show acc.length+(ns.length+1)=acc.length+(0+1)+ns.length by omega,this]
   have e:preSum (fun i=>(acc++n :: ns).getD i 0) (acc.length+(0+1))=preSum (fun i=>(acc++n :: ns).getD i 0) acc.length+n:=by
    show preSum (fun i=>(acc++n :: ns).getD i 0) acc.length+(acc++n :: ns).getD acc.length 0=_
    congr 1
    simp
   rw [e,n50_,Int.add_assoc]
theorem Zif (hc:X.calm=true):Zas X (.builtin "sum") (fun xs H Q=>∃ (p:Addr) (ns:List Int),xs=[.ref p]∧SqL X.K H p (ns.map V.int)∧Q (.int ns.sum) H):=by
 intro pins s σ H xs us Q I r h;obtain ⟨p,ns,rfl,hq,q⟩:=h;cases r with
 | cons rx r =>
   cases r
   cases (show _=Value.ref p from rx)
   obtain ⟨its,rv,pl,hz⟩:=I.list hq;have hl:=pl.isList;have hlt:p<s.heap.objs.size:=by obtain ⟨_,e,_⟩:=hl;exact n21_ e
   have hh:X.A.handled=none:=I.ok.hd hc;refine call_sum_walkG (wpAny_pyIter_list hl ⟨s.heap.objs.size,[s.heap.objs.size,p],[s.heap.objs.size],its.toArray.size,_,_,fun i=>ns.getD i 0,rfl,Walks.list (A:=X.A.in1) hh _ p (n51_ hlt) its.toArray,⟨⟨_,n17_ _ rfl,rfl,rfl⟩,hl.push _⟩,fun b hb=>?_,fun i v hP=>Zii rv (by simpa using hP),fun h' tk t' hk=>?_⟩)
   · simp only [n34_,n48_,or_false] at hb;show b<(s.heap.push _).objs.size
     rw [n80_]
     rcases hb with rfl|rfl
     · exact Nat.lt_succ_self _
     · exact Nat.lt_succ_of_lt hlt
   · have e:preSum (fun i=>ns.getD i 0) its.toArray.size=ns.sum:=by
      have:=Ze6 ns []
      simp only [List.nil_append,n73_,Nat.zero_add] at this;rw [n16_,← rv.length,n2_,this];show preSum _ 0+_=_
      simp [preSum]
     rw [e];exact ⟨.int _,H,I.kept (Zi8 hk),⟨_,rfl⟩,q⟩
end
open AutoSeq1 (wpAny_loadPart')
section
variable {X:Cx} {pins:List (Addr×Obj)} {σ:List (Option V)} {H H':Hp} {s:Shared} {h':Heap}
theorem Inv.turnGen {t':Nat} {ch:List Addr} (I:Inv X pins σ H s) (k:∀ b u,b∉ch→s.heap.get? b=some u→h'.get? b=some u) (hf:∀ b∈ch,FpOk X pins H b)
 (old:∀ b u,H b=some u→H' b=some u) (non:∀ b u,s.heap.get? b=some u→H b=none→H' b=none) (new:∀ b u,H b=none→H' b=some u→ObjOk X.prog X.w H' h' b u):Inv X pins σ H' { s with heap:=h',toks:=t' }:=by
 have nc:∀ b u,H b=some u→b∉ch:=fun b u e z=>by rw [(hf b z).1] at e;cases e
 refine I.step (g':=s.gens) (d':=s.drawn) (ch:=ch) (fun b hb=>?_) (fun b u _ _ hc e _=>k b u hc e) (fun b u _ _ hc e _=>⟨u.slots,k b u hc e⟩) (fun b u _ e n=>non b u e n)
  (fun b u hc e=>⟨u,k b u hc e⟩) (fun b xs e=>old b _ e) (fun b u v e=>old b _ e) (fun b ps e=>⟨#[],by rw [old b _ e];simp⟩) (fun m hm=>?_) (fun b u e=>?_) I.bare
 · obtain ⟨f0,f1,f2,f3,f4,f5⟩:=hf b hb;exact ⟨f3,f1,f4,f5⟩
 · obtain ⟨u,es,ep,hu,r⟩:=hm;exact ⟨u,es,ep,k _ u (fun z=>(hf _ z).2.1 rfl) hu,r⟩
 · cases hb:H b with
   | none=>exact new b u hb e
   | some v =>
     rw [old b v hb] at e;cases e
     refine (I.hok b _ hb).stay (fun c w hc q=>k c w ?_ q) (fun c q=>old c _ q) fun c xs q=>old c _ q
     rcases hc with z|z
     · rw [z];exact nc b _ hb
     · exact nc c _ z
end
section
variable {X:Cx} {es:List Expr} {x1:Nat} {tp:Pos}
end
def Tk (H H':Hp):Prop:=∀ a xs,H a=some (.tup xs)→H' a=some (.tup xs)
theorem Tk.trans {H H1 H2:Hp} (a:Tk H H1) (b:Tk H1 H2):Tk H H2:=fun p xs e=>b p xs (a p xs e)
theorem Same.tk {H H':Hp} (s:Same H H'):Tk H H':=fun a xs e=>s a _ e
theorem Tk.of_keep {H H':Hp} {l:Addr} {ys:List V} (k:Keep l H H') (e:H l=some (.lst ys)):Tk H H':=fun a xs q=>k a _ (Zr9 q e (by intro z;cases z)) q
theorem Tk.upd_lst {H:Hp} {D:Addr} {ys zs:List V} (e:H D=some (.lst ys)):Tk H (upd H D (.lst zs)):=fun a xs q=>by rw [Zp (Zr9 q e (by intro z;cases z))];exact q
def Al {α:Type} (R:V→α→Prop) (vs:List V) (xs:List α):Prop:=vs.length=xs.length∧∀ (i:Nat) (v:V) (x:α),vs[i]? = some v→xs[i]? = some x→R v x
theorem Al.nil {α:Type} {R:V→α→Prop}:Al R [] []:=⟨rfl,fun i v x e=>by simp at e⟩
theorem Al.snoc {α:Type} {R:V→α→Prop} {vs:List V} {xs:List α} {v:V} {x:α} (h:Al R vs xs) (r:R v x):Al R (vs++[v]) (xs++[x]):=by
 refine ⟨by simp [h.1],fun i w y e1 e2=>?_⟩
 by_cases hi:i<vs.length
 · rw [n40_ hi] at e1;rw [n40_ (by rw [← h.1];exact hi)] at e2;exact h.2 i w y e1 e2
 · have:i=vs.length:=by
    have:=(n11_.mp e1).1
    simp at this;omega
   subst this;rw [n35_ (n9_ _)] at e1;rw [h.1,n35_ (n9_ _)] at e2;simp at e1 e2;subst e1;subst e2;exact r
theorem Al.imp {α:Type} {R S:V→α→Prop} {vs:List V} {xs:List α} (h:Al R vs xs) (f:∀ v x,R v x→S v x):Al S vs xs:=⟨h.1,fun i v x e1 e2=>f v x (h.2 i v x e1 e2)⟩
theorem Al.get {α:Type} {R:V→α→Prop} {vs:List V} {xs:List α} {i:Nat} {v:V} (h:Al R vs xs) (e:vs[i]? = some v):∃ x,xs[i]? = some x∧R v x:=by
 have hi:i<xs.length:=by rw [← h.1];exact (n11_.mp e).1
 exact ⟨xs[i],n0_ hi,h.2 i v _ e (n0_ hi)⟩
theorem Al.got {α:Type} {R:V→α→Prop} {vs:List V} {xs:List α} {i:Nat} {x:α} (h:Al R vs xs) (e:xs[i]? = some x):∃ v,vs[i]? = some v∧R v x:=by
 have hi:i<vs.length:=by rw [h.1];exact (n11_.mp e).1
 exact ⟨vs[i],n0_ hi,h.2 i _ x (n0_ hi) e⟩
theorem Al.bls {vs:List V} {bs:List Bool} (h:Al (fun v b=>v=V.bl b) vs bs):vs=bs.map V.bl:=by
 refine List.ext_getElem? fun i=>?_;rw [n8_];cases e:bs[i]? with
 | none =>
   have:=List.getElem?_eq_none_iff.mp e
   rw [n57_ (by rw [h.1];exact this)];rfl
 | some b =>
   obtain ⟨v,ev,rfl⟩:=h.got e;rw [ev];rfl
theorem Al.ints {vs:List V} {ns:List Int} (h:Al (fun v n=>v=V.int n) vs ns):vs=ns.map V.int:=by
 refine List.ext_getElem? fun i=>?_;rw [n8_];cases e:ns[i]? with
 | none =>
   have:=List.getElem?_eq_none_iff.mp e
   rw [n57_ (by rw [h.1];exact this)];rfl
 | some b =>
   obtain ⟨v,ev,rfl⟩:=h.got e;rw [ev];rfl
theorem Zj1 {J:It} {n:Nat} {D:Addr} {g:TG} {te:TE} {σ0:St} {H:Hp} {Q:VK} {α:Type} (R:Hp→V→α→Prop) (hR:∀ H1 H2 v x,Tk H1 H2→R H1 v x→R H2 v x) (ys_:List α) (hn:ys_.length=n) (hz:n≤1000) (ok:St→Prop) (h0:ok σ0) (hD:H D=none)
 (hgo:∀ i H2,Same H H2→i<n→J.go i H2) (hstop:∀ H2,Same H H2→J.stop n H2)
 (hs:∀ i x σ2 H2 H3 (C:St→V→Hp→Prop),i<n→Same H H2→J.yld i H2 x H3→ok σ2→(∀ σ4 y H5 z,ok σ4→Same H2 H5→ys_[i]? = some z→R H5 y z→C σ4 y H5)→g x σ2 H3 fun σ4 H4=>te σ4 H4 (C σ4))
 (hd:∀ H2 vs,Same H H2→H2 D=some (.lst vs)→Al (R H2) vs ys_→Q (.ref D) H2):LcGo J g tYes te σ0 H D Q:=by
 refine Znk (n:=n) (fun i σ H2=>Same H H2∧ok σ∧∃ vs,H2 D=some (.lst vs)∧Al (R H2) vs (ys_.take i)) ⟨Same.new hD,h0,[],Ze,by rw [List.take_zero];exact .nil⟩ (fun i σ H2 hi p=>hgo i H2 p.1 hi) (fun σ H2 p=>hstop H2 p.1) (fun i x σ2 H2 H3 hi y p=>?_) (fun σ2 H2 p=>?_)
 · obtain ⟨s2,o2,vs,e2,a2⟩:=p
   have:=hs i x σ2 H2 H3 (fun σ4 y H6=>∃ ys,H6 D=some (.lst ys)∧ys.length<sizeLine∧∃ m',m'<n-i∧LcN n (fun i σ H2=>Same H H2∧ok σ∧∃ vs,H2 D=some (.lst vs)∧Al (R H2) vs (ys_.take i)) (i+1) m' σ4 (upd H6 D (.lst (ys++[y])))) hi s2 y o2 ?_
   · exact this
   · intro σ4 v H5 z o4 s5 ez rz;have e5:H5 D=some (.lst vs):=s5 _ _ e2;refine ⟨vs,e5,?_,n-(i+1),by omega,by omega,rfl,fun b o e=>?_,o4,vs++[v],Ze,?_⟩
     · rw [a2.1,n96_,sizeLine_eq];omega
     · rw [Zp (Zl e hD)];exact s5 _ _ (s2 _ _ e)
     · have tk:Tk H5 (upd H5 D (.lst (vs++[v]))):=Tk.upd_lst e5;have hi':i<ys_.length:=by omega
       rw [n36_ hi'];rw [n0_ hi'] at ez;cases ez
       exact (a2.imp fun v x r=>hR _ _ v x tk (hR _ _ v x s5.tk r)).snoc (hR _ _ _ _ tk rz)
 · obtain ⟨s2,_,vs,e2,a2⟩:=p;rw [List.take_of_length_le (by omega)] at a2;exact hd H2 vs s2 e2 a2
def SK.At (H:Hp) (a:Addr) (vs:List V):SK→Prop
 | .l=>H a=some (.lst vs)
 | .t=>H a=some (.tup vs)
theorem SK.At.sq {k:SK} {K:PySem.W.Frag} {H:Hp} {a:Addr} {vs:List V} (h:k.At H a vs):k.Sq K H a vs:=by
 cases k with
 | l=>exact SqL.of h
 | t=>exact SqT.of h
theorem SK.At.same {k:SK} {H H':Hp} {a:Addr} {vs:List V} (h:k.At H a vs) (s:Same H H'):k.At H' a vs:=by
 cases k with
 | l=>exact s _ _ h
 | t=>exact s _ _ h
def SK.Itk (K:PySem.W.Frag) (a:Addr):SK→L2.It
 | .l=>Itl K a
 | .t=>Itt K a
theorem Zar {k:SK} {K:PySem.W.Frag} {a:Addr} {H:Hp} {vs:List V} {i:Nat} (h:k.At H a vs) (hi:i<vs.length):(k.Itk K a).go i H:=by
 cases k with
 | l=>exact ⟨vs,vs[i],SqL.of h,n0_ hi⟩
 | t=>exact ⟨vs,vs[i],SqT.of h,n0_ hi⟩
theorem Y8 {k:SK} {K:PySem.W.Frag} {a:Addr} {H:Hp} {vs:List V} {i:Nat} (h:k.At H a vs) (hi:vs.length≤i):(k.Itk K a).stop i H:=by
 cases k with
 | l=>exact ⟨vs,SqL.of h,hi⟩
 | t=>exact ⟨vs,SqT.of h,hi⟩
theorem Xk {k:SK} {K:PySem.W.Frag} {a:Addr} {H H':Hp} {vs:List V} {i:Nat} {x:V} (h:k.At H a vs) (y:(k.Itk K a).yld i H x H'):H'=H∧vs[i]? = some x:=by
 cases k with
 | l=>exact ⟨y.1,y.2 vs (SqL.of h)⟩
 | t=>exact ⟨y.1,y.2 vs (SqT.of h)⟩
theorem lc_T {k:SK} {K:PySem.W.Frag} {a D:Addr} {vs:List V} {te:TE} {u0:Option V} {rest:St} {H:Hp} {Q:VK} {α:Type} (R:Hp→V→α→Prop) (hR:∀ H1 H2 v x,Tk H1 H2→R H1 v x→R H2 v x) (ys:List α) (hn:ys.length=vs.length) (hz:vs.length≤1000) (hD:H D=none) (ha:k.At H a vs)
 (hs:∀ (i:Nat) (w:V) (H2:Hp) (C:V→Hp→Prop),vs[i]? = some w→Same H H2→(∀ y H5 z,Same H2 H5→ys[i]? = some z→R H5 y z→C y H5)→te (some w :: rest) H2 C)
 (hd:∀ H2 us,Same H H2→H2 D=some (.lst us)→Al (R H2) us ys→Q (.ref D) H2):LcGo (k.Itk K a) (Z4 0) tYes te (u0 :: rest) H D Q:=by
 refine Zj1 R hR ys hn hz (fun σ=>∃ u,σ=u :: rest) ⟨_,rfl⟩ hD (fun i H2 s hi=>Zar (ha.same s) hi) (fun H2 s=>Y8 (ha.same s) (n9_ _)) (fun i x σ2 H2 H3 C hi s y o c=>?_) hd;obtain ⟨u,rfl⟩:=o;obtain ⟨rfl,e⟩:=Xk (ha.same s) y;exact hs i x H3 (C (some x :: rest)) e s fun y H5 z s5 ez rz=>c _ y H5 z ⟨_,rfl⟩ s5 ez rz
theorem lc_Z {k l:SK} {K:PySem.W.Frag} {a b D:Addr} {vs ws:List V} {te:TE} {u0 u1:Option V} {rest:St} {H:Hp} {Q:VK} {α:Type} (R:Hp→V→α→Prop) (hR:∀ H1 H2 v x,Tk H1 H2→R H1 v x→R H2 v x) (ys:List α) (hn:ys.length=min vs.length ws.length) (hz:min vs.length ws.length≤1000) (hD:H D=none) (ha:k.At H a vs) (hb:l.At H b ws)
 (hs:∀ (i:Nat) (v w:V) (H2:Hp) (C:V→Hp→Prop),vs[i]? = some v→ws[i]? = some w→Same H H2→(∀ y H5 z,Same H2 H5→ys[i]? = some z→R H5 y z→C y H5)→te (some v :: some w :: rest) H2 C)
 (hd:∀ H2 us,Same H H2→H2 D=some (.lst us)→Al (R H2) us ys→Q (.ref D) H2):LcGo (Itz k l K a b) (gTup K 2 (Yb (Z4 0) (Yb (Z4 1) gNil))) tYes te (u0 :: u1 :: rest) H D Q:=by
 refine Zj1 R hR ys hn hz (fun σ=>∃ u u',σ=u :: u' :: rest) ⟨_,_,rfl⟩ hD (fun i H2 s hi=>?_) (fun H2 s=>?_) (fun i x σ2 H2 H3 C hi s y o c=>?_) hd
 · have h1:i<vs.length:=by omega
   have h2:i<ws.length:=by omega
   exact ⟨vs,ws,vs[i],ws[i],(ha.same s).sq,(hb.same s).sq,n0_ h1,n0_ h2⟩
 · exact ⟨vs,ws,(ha.same s).sq,(hb.same s).sq,by omega⟩
 · obtain ⟨u,u',rfl⟩:=o;obtain ⟨p,v,w,rfl,hp,rfl,y1,y2⟩:=y;have s3:Same H2 (upd H2 p (.tup [v,w])):=Same.new hp;refine ⟨p,[v,w],rfl,SqT.of Ze,rfl,v,[w],rfl,w,[],rfl,rfl,?_⟩;exact hs i v w _ (C (some v :: some w :: rest)) (y1 vs (ha.same s).sq) (y2 ws (hb.same s).sq) (s.trans s3) fun y H5 z s5 ez rz=>c _ y H5 z ⟨_,_,rfl⟩ (s3.trans s5) ez rz
abbrev Nms:=List (Str×NameKind)
def relN (sc:Nms) (dn:Nms):Nms:=sc.map fun y=>if y.2 == .free&&dn.lookup y.1 == some .cell then (y.1,.cell) else y
def chk (sc dn:Nms) (N XN:List Str) (fr:List (Option Nat)):Bool :=
 sc.all (fun y=>y.2 != .free||dn.lookup y.1 == some .cell)&&sc.all (fun y=>y.2 != .local||sc.lookup y.1 == some .local)&&sc.all (fun y=>y.2 != .cell||sc.lookup y.1 == some .cell)&&(fr.length == N.length) &&
  (List.range fr.length).all fun i=>match fr[i]? with
    | some (some j)=>match N[i]? with
      | some x=>XN[j]? == some x&&dn.lookup x == some .cell&&(relN sc dn).lookup x == some .cell&&sc.all (fun y=>y.1 != x||y.2 != .cell)&&sc.any (fun y=>y.1 == x&&y.2 == .free)
      | none=>false
    | _=>true
theorem Zbk {cells:List (Str×Addr)} {sc:Nms} {x:Str} (key:(x,NameKind.free)∈sc):∃ c,(Y9 cells sc).lookup x=some c:=by
 have hm:(x,(cells.lookup x).getD 0)∈Y9 cells sc:=by
  unfold Y9;exact List.mem_reverse.mpr (n19_.mpr ⟨(x,.free),List.mem_filter.mpr ⟨key,rfl⟩,rfl⟩)
 cases q:(Y9 cells sc).lookup x with
 | some c'=>exact ⟨c',rfl⟩
 | none =>
   have z:=(List.lookup_eq_none_iff.mp q) _ hm;simp at z
theorem Zgp {sc dn:Nms} {x:Str} {k:NameKind} (hk:k=.cell∨k=.free) (h:(relN sc dn).lookup x=some k):(x,NameKind.free)∈sc∨(x,NameKind.cell)∈sc:=by
 have m:=n39_ h;obtain ⟨⟨n,k'⟩,hm,e⟩:=n19_.mp m
 by_cases hf:k'=.free
 · subst hf
   have:n=x:=by
    dsimp only at e;split at e<;>(injection e)
   subst this;exact .inl hm
 · have b:(k' == NameKind.free)=false:=by simpa using hf
   simp only [b,Bool.false_and,Bool.false_eq_true,if_false] at e;injection e with e1 e2
   subst e1 e2
   rcases hk with rfl|rfl
   · exact .inr hm
   · exact absurd rfl hf
theorem Zb2 {scope:Scope} {env:Env} {dn:Nms} (hn:env.scope.names=dn) (hk:env.scope.kind=.function):(relabel scope env).names=relN scope.names dn:=by
 unfold relabel relN;show scope.names.map _=scope.names.map _
 refine List.map_congr_left fun y _=>?_;obtain ⟨n,k⟩:=y;have e:(env.scope.kind == ScopeKind.function)=true:=by rw [hk];rfl
 have e2:env.kindOf n=dn.lookup n:=by rw [← hn];rfl
 simp only [e,e2,Bool.and_true]
theorem Z7 {X:Cx} {scope:Scope} {N XN:List Str} {fr:List (Option Nat)} (dn:Nms) (hn:X.env.scope.names=dn) (hk:X.env.scope.kind=.function) (hX:X.N=XN) (hc:∀ x,dn.lookup x=some .cell→∃ c,X.env.cells.lookup x=some c)
 (h:chk scope.names dn N XN fr=true) (hs:scope.kind=.function):LcO X scope (Y9 X.env.cells scope.names) N fr:=by
 unfold chk at h;simp only [n54_] at h;obtain ⟨⟨⟨⟨h1,h2⟩,h3⟩,h4⟩,h5⟩:=h
 have hf:∀ y∈scope.names,y.2=.free→∃ c,X.env.cells.lookup y.1=some c:=fun y hy e=>by
  have:=n56_.mp h1 y hy
  rw [e] at this;exact hc _ (by simpa using this)
 refine ⟨Zde hf,fun x c e=>?_,fun x e=>?_,hs,fun y hy e=>?_,by simpa using h4,fun i j e=>?_⟩
 · have m:=n39_ e;unfold Y9 at m;obtain ⟨⟨n,k⟩,hm,e2⟩:=n19_.mp (List.mem_reverse.mp m);obtain ⟨h1',h2'⟩:=List.mem_filter.mp hm;obtain ⟨c',hc'⟩:=hf _ h1' (by simpa using h2');injection e2 with e3 e4
   subst e3;rw [hc'] at e4;rw [hc',← e4];rfl
 · rw [Zb2 hn hk] at e
   have:(x,NameKind.free)∈scope.names∨(x,NameKind.cell)∈scope.names:=e.elim (Zgp (.inl rfl)) (Zgp (.inr rfl))
   rcases this with m|m
   · exact .inr (Zbk m)
   · have:=n56_.mp h3 _ m
     exact .inl (by simpa using this)
 · have:=n56_.mp h2 y hy
   rw [e] at this
   simpa using this
 · have hi:i<fr.length:=(n11_.mp e).1
   have:=n56_.mp h5 i (n90_.mpr hi)
   rw [e] at this;cases hx:N[i]? with
   | none=>rw [hx] at this;cases this
   | some x =>
     rw [hx] at this;simp only [n54_,beq_iff_eq] at this;obtain ⟨⟨⟨⟨t1,t2⟩,t3⟩,t4⟩,t5⟩:=this;obtain ⟨⟨z1,z2⟩,m1,m2⟩:=List.any_eq_true.mp t5;simp only [n54_,beq_iff_eq] at m2;obtain ⟨rfl,rfl⟩:=m2;refine ⟨z1,rfl,by rw [hX];exact t1,.inl (by rw [hn];exact t2),.inl (by rw [Zb2 hn hk];exact t3),Zbk m1,fun m=>?_⟩
     have:=n56_.mp t4 _ m
     simp at this
theorem Zhz {cells:List (Str×Addr)} {sc dn:Nms} {x:Str} {n:Nat} (hc:sc.all (fun y=>y.2 != .cell||sc.lookup y.1 == some .cell)=true) (h:(relN sc dn).lookup x=some .cell):∃ c,(cellsFrom n sc (Y9 cells sc)).lookup x=some c:=by
 refine Option.isSome_iff_exists.mp (PySem.W.cellsFrom_some sc n _ ?_)
 rcases Zgp (.inl rfl) h with m|m
 · obtain ⟨c,e⟩:=Zbk (cells:=cells) m;exact .inr (by rw [e];rfl)
 · have:=n56_.mp hc _ m
   exact .inl (by simpa using this)
theorem Z9 {X:Cx} {scope:Scope} {N:List Str} {fr:List (Option Nat)} (h:scope.names.all (fun y=>y.2 != .cell&&y.2 != .free)=true) (hk:scope.kind=.function)
 (hn:∀ y∈scope.names,y.2=.local→scope.names.lookup y.1=some .local) (hl:fr.length=N.length) (hf:fr.all (·.isNone)=true):LcO X scope [] N fr:=by
 have no:∀ y∈scope.names,y.2≠.cell∧y.2≠.free:=fun y hy=>by
  have:=n56_.mp h y hy
  rw [n54_] at this
  simpa using this
 refine ⟨closureFor_none fun x hx=>(no x hx).2,fun x c e=>by simp at e,fun x e=>?_,hk,hn,hl,fun i j e=>?_⟩
 · exfalso
   have key:∀ k,(relabel scope X.env).names.lookup x=some k→k≠.cell∧k≠.free:=fun k e=>by
    obtain ⟨⟨n,k'⟩,hm,e2⟩:=n19_.mp (n39_ e);have b:(k' == NameKind.free)=false:=by simpa using (no _ hm).2
    simp only [b,Bool.false_and,Bool.false_eq_true,if_false] at e2;cases e2
    exact no _ hm
   rcases e with e|e
   · exact (key _ e).1 rfl
   · exact (key _ e).2 rfl
 · have:=n56_.mp hf _ (n4_ e)
   cases this
def rNeL (K:PySem.W.Frag):R2:=fun x y H Q=>∃ a b xs,x=.ref a∧y=.ref b∧SqL K H a xs∧SqL K H b []∧Q (.bl (!decide (xs=[]))) H
theorem Zjq {X:Cx} (hu:X.A.units<cLine):OpR X (compareOp .NotEq) (rNeL X.K):=by
 intro pins s σ H x y v u Q I rx ry h;obtain ⟨a,b,xs,rfl,rfl,h1,h2,q⟩:=h;cases rx;cases ry
 obtain ⟨us,r1,p1,_⟩:=I.list h1;obtain ⟨ws,r2,p2,_⟩:=I.list h2;have l1:=r1.length;have e:ws=[]:=r2.nil_iff.mpr rfl;subst e;cases hx:xs with
 | nil =>
   subst hx;have e:us=[]:=r1.nil_iff.mpr rfl;subst e;exact SeqAt.RcNeAt.lists (e:=fun j=>true) p1.isList p2.isList rfl hu (fun j h1 h2=>absurd h2 (by simp)) _ _ _ _ ⟨.bl _,H,I,rfl,q⟩
 | cons y ys =>
   subst hx;exact SeqAt.RcNeAt.lists_lengths p1.isList p2.isList (by simp at l1;simp [← l1]) hu _ _ _ _ ⟨.bl _,H,I,rfl,q⟩
theorem Zaa (K:PySem.W.Frag) {X:Cx} (h:X.K=K):IxR X (rIxL K):=h ▸ Z2
theorem Zai (K:PySem.W.Frag) {X:Cx} (h:X.K=K):IxR X (rIxT K):=h ▸ Yp
theorem Zb0 (K:PySem.W.Frag) {X:Cx} (h:X.K=K):OpR X (compareOp .NotIn) (rIn K true):=h ▸ Zh7
theorem Zes (K:PySem.W.Frag) {X:Cx} (h:X.K=K):Zas X (.type "tuple") (fun xs H Q=>∃ p ys,xs=[.ref p]∧((SqL K H p ys∧∀ l,H l=none→Q (.ref l) (upd H l (.tup ys)))∨(SqT K H p ys∧Q (.ref p) H))):=h ▸ Yd
theorem Zou (K:PySem.W.Frag) {X:Cx} {tg l:Expr} {tl:TE} (h:X.K=K) (hl:PE X l tl):PI X tg l (Zr3 K tl):=h ▸ Yi hl
theorem Zrt {k:SK} {K:PySem.W.Frag} {a D:Addr} {vs:List V} {te:TE} {u0 u1:Option V} {rest:St} {H:Hp} {Q:VK} {α:Type} (R:Hp→V→α→Prop) (hR:∀ H1 H2 v x,Tk H1 H2→R H1 v x→R H2 v x) (ys:List α) (hn:ys.length=vs.length) (hz:vs.length≤1000) (hD:H D=none) (ha:k.At H a vs)
 (hp:∀ (i:Nat) (w:V),vs[i]? = some w→∃ p x y,w=.ref p∧H p=some (.tup [x,y]))
 (hs:∀ (i:Nat) (p:Addr) (x y:V) (H2:Hp) (C:V→Hp→Prop),vs[i]? = some (.ref p)→H p=some (.tup [x,y])→Same H H2→(∀ y H5 z,Same H2 H5→ys[i]? = some z→R H5 y z→C y H5)→te (some x :: some y :: rest) H2 C)
 (hd:∀ H2 us,Same H H2→H2 D=some (.lst us)→Al (R H2) us ys→Q (.ref D) H2):LcGo (k.Itk K a) (gTup K 2 (Yb (Z4 0) (Yb (Z4 1) gNil))) tYes te (u0 :: u1 :: rest) H D Q:=by
 refine Zj1 R hR ys hn hz (fun σ=>∃ u u',σ=u :: u' :: rest) ⟨_,_,rfl⟩ hD (fun i H2 s hi=>Zar (ha.same s) hi) (fun H2 s=>Y8 (ha.same s) (n9_ _)) (fun i x σ2 H2 H3 C hi s y o c=>?_) hd;obtain ⟨u,u',rfl⟩:=o;obtain ⟨rfl,e⟩:=Xk (ha.same s) y;obtain ⟨p,x1,y1,rfl,e2⟩:=hp i x e;exact ⟨p,[x1,y1],rfl,SqT.of (s _ _ e2),rfl,x1,[y1],rfl,y1,[],rfl,rfl,hs i p x1 y1 H3 (C (some x1 :: some y1 :: rest)) e e2 s fun y H5 z s5 ez rz=>c _ y H5 z ⟨_,_,rfl⟩ s5 ez rz⟩
theorem X0 {X:Cx} {x:Str} {pos' spos:Pos} {tg elt iter:Expr} {ifs:List Expr} {scope:Scope} {cl:List (Str×Addr)} {N:List Str} {fr:List (Option Nat)} {pos:Pos} {wi:TI} {g g':TG} {tt:TT} {te:TE}
 (hw:swapsWith (.ListComp elt [⟨tg,iter,ifs,0⟩] scope pos) (some (.Name x pos')) spos.line X.env=pure true)
 (hc:X.calm=true) (hg':PG X (.Name x pos') g') (L:LcO X scope cl N fr) (hi:PI X tg iter wi) (hg:∀ C s3 H3 fp,PG (blk X scope cl C N s3 H3 fp) tg g)
 (ht:∀ C s3 H3 fp,PIfs (blk X scope cl C N s3 H3 fp) ifs tt) (he:∀ C s3 H3 fp,PE (blk X scope cl C N s3 H3 fp) elt te)
 (hs:∀ x,foldedSetIterable iter X.env x=pure x:=by intro _;rfl):PS X (.Assign [.Name x pos'] (.ListComp elt [⟨tg,iter,ifs,0⟩] scope pos) spos) (tAsg (tLC wi g tt te fr) g'):=by
 intro pins s σ H D I h;rw [exec_Assign_Name_used _ _ _ _ hw];refine n6_ (wpAny_standAt (n6_ ?_));rw [arm_evalThenUse_ListComp];refine n6_ (wpAny_comprehension_free (Q:=fun _ s'=>wpAny (model X.prog X.w) X.A (pure ()) (fun _ s''=>wpAny (model X.prog X.w) X.A (pure Flow.next) (SP X pins D) X.xe s'') X.xe s') (use:=some (assign (.Name x pos') X.env)) rfl hs L.clos L.kind L.names (thn (hi pins s σ H _ I h) fun v s1 h1=>thn h1 fun itv s2 h2=>?_));obtain ⟨it,fp,tn,J,H2,e,I2,T,st2,f2,h⟩:=h2;subst e;obtain ⟨W,⟨m0,w0⟩,turn⟩:=h s2.heap.objs.size (I2.hok.fresh (n9_ _));refine wpAny_newObj_type ?_;generalize hs3:({ s2 with heap:=s2.heap.push { cls:=.type "list",dict:=none,data:=.seq ([]:List Value).toArray } }:Shared)=s3;refine Zkb (ac:=.lst []) hs3.symm hc L hg I2 T st2 f2 ⟨n60_ _,[],_,.nil,n17_ _ rfl⟩ w0 turn (fun _ _ a b=>codeAny_compStart_list a (b _)) (fun LI s4 t n h=>Zc3 LI t n h) (fun H6 s7 qn I3 fr7 c=>?_) (Zl2 ht he);obtain ⟨m7,hn7,c7⟩:=c;have I8:Inv X pins σ H6 s7:=c7 s7.heap (Heap.SameBut.refl ..)
 have fpC:∀ {H6:Hp},H6 s3.heap.objs.size=none→∀ b∈[s3.heap.objs.size],FpOk X pins H6 b:=fun fr b hb=>by
  rw [n15_] at hb;subst hb;exact I3.fpOk (n9_ _) fr
 obtain ⟨oC,esC,epC,geC,dC,skC,nfC⟩:=hn7
 have I9:=I8.pinned (fpC fr7) (fun b hb=>by
  rw [n15_] at hb;subst hb;exact ⟨oC,geC,fun v z=>by rw [dC] at z;cases z⟩)
 refine thn (hg' _ s7 σ H6 (.ref s2.heap.objs.size) (.ref s2.heap.objs.size) _ I9 rfl qn) fun _ s9 ⟨σ9,H9,I10,q9⟩=>?_;have pC:=I10.pin (s3.heap.objs.size,oC) (n24_ _ (n24_ _ (Zah (n15_.mpr rfl) geC)));refine ⟨m7,⟨oC,esC,epC,pC.1,dC,skC,nfC⟩,fun h' sb=>?_⟩;refine n25_ (n25_ ?_);exact ⟨σ9,H9,I10.unpinned.turnGen (t':=s9.toks) (ch:=[s3.heap.objs.size]) (fun b u nb e=>(sb.2 b (fun z=>nb (by rw [z];exact n15_.mpr rfl))).trans e) (fpC pC.2.1) (fun _ _ e=>e) (fun _ _ _ e=>e) (fun b u e1 e2=>by rw [e1] at e2;cases e2),q9⟩
end L2
namespace L2
open PySem PySem.Spec PyProof.Rows PySem.W
section
variable {prog:Program} {w:World} {A:Around} {R:Result→Shared→Prop} {I:Addr} {fp wr:List Addr} {n:Nat} {P:Nat→Value→Prop} {St:Nat→Heap→Prop}
theorem Zky:(toString "min" ++ toString ".loop" : String) = "min.loop" := by decide
end
section
variable {prog:Program} {w:World} {A:Around} {E:Value→Shared→Prop} {s:Shared}
end
section
variable {X:Cx}
end
end L2
namespace L2
open PySem PySem.Spec PyProof.Rows PySem.W
section
variable {X:Cx}
end
def KTu (K:PySem.W.Frag) (a:Addr) (us:List V):Prop:=∃ (o:Obj) (its:Array Value) (n:Nat),K.lookup a=some o∧o.cls=.type "tuple" ∧ o.data=.seq its n∧its.size≤sizeLine∧Vals us its.toList
theorem KTu.sq {K:PySem.W.Frag} {H:Hp} {a:Addr} {us:List V} (h:KTu K a us):SqT K H a us:=.inr h
end L2
namespace L2
open PySem PySem.Spec PyProof.Rows PySem.W
theorem fsc {N P:List Str} {sc:Scope} (h:sc.kind=.function∧sc.isCoroutine=false∧sc.isGenerator=false∧N.Nodup∧N.take P.length=P∧(∀ x∈P,sc.names.lookup x=some .local∨sc.names.lookup x=some .cell)∧∀ y∈sc.names,y.2≠.free):FnScope N P sc:=let ⟨a,b,c,d,e,f,g⟩:=h;⟨a,b,c,d,e,f,g⟩
end L2
namespace L2
open PySem PySem.Spec PyProof.Rows PySem.W
theorem Znw {X:Cx} (K:PySem.W.Frag) (hK:X.K=K):Zas X (.builtin "isinstance") (fun xs H Q=>∃ x T t b,xs=[x,.ty T]∧TyOf K H x t∧PySem.W.kitOne K t (.type T)=some b∧Q (.bl b) H):=hK ▸ Zaj
end L2
/- repr of tuples with ints of more than 640 figures: nobody has set the limit of figures -/
namespace L2
open PySem PySem.Spec PyProof.Rows
mutual
def shN:PyData→Bool
 | .none=>true
 | .bool _=>true
 | .str _=>true
 | .int i=>decide (i.natAbs.log2<3999)
 | .tuple xs=>shNs xs
 | .list _=>false
 | .dict _=>false
def shNs:List PyData→Bool
 | []=>true
 | x :: xs=>shN x&&shNs xs
end
section
variable {prog:Program} {w:World} {A:Around} {E:Value→Shared→Prop} {s:Shared}
theorem Zsw {a:Int} (h:a.natAbs.log2<3999):a.natAbs<10^4300 :=
 n10_ (lt_of_log2 (Nat.lt_trans h (by decide:3999<12900))) pow_lo
theorem Zew {a:Int} {t:Tok} {Q:Value→Shared→Prop} (hn:s.heap.NoDigits) (ha:a.natAbs.log2<3999) (h:Q (.str (toString a) s.toks) { s with toks:=s.toks+1 }):wpAny (model prog w) A (pyReprObj (.int a t)) Q E s:=by
 have hv:[Value.int a t].any Value.onHeap=false:=rfl;unfold pyReprObj;simp only [cRoomFor,hv,Bool.false_eq_true,if_false,pure_bind];refine n6_ (wpAny_specialOf (name:=Str.ofString "__repr__") (typeIs_int s a t) F.slot_int_repr.lookup ?_);refine n6_ (m:=callSpecialIfBound? (.int a t) (Str.ofString "__repr__")) (wpAny_callSpecialIfBound?_slot (name:=Str.ofString "__repr__") (typeIs_int s a t) F.slot_int_repr (wpAny_call_entry F.slot_int_repr (typeIs_int s a t) F.entry_int_repr ?_ (F.args_int_repr_1 _)));unfold Builtin.«int.__repr__»;show wpAny _ _ (do let r ← Builtin.overDigitLimit? a;_) _ _ s
 refine n6_ (overDigitLimit_any hn (fun hlt=>?_) (fun hge=>absurd (Zsw ha) (Nat.not_lt.mpr hge)));exact n6_ (wpAny_mkStr (n25_ ⟨_,rfl,n6_ (wpAny_isInstance (T := "str") (b:=true) rfl isSubtype_str_str (n25_ h))⟩) (int_text_fits10 hlt))
end
section
variable {prog:Program} {w:World} {h₀:Heap}
theorem Zlq {a:Int} (t:Tok) (hn:h₀.NoDigits) (ha:a.natAbs.log2<3999) (as:List Addr) (d:Nat):ReprK prog w as h₀ d (.int a t) (toString a):=by
 intro base hb A g E s Q hg hcl hu hk hQ;rw [pyReprUnder_leaf (v:=.int a t) (by omega) (fun _ e=>nomatch e)];unfold pyRepr;exact n6_ (Zew (hn.keeps hk) ha (n25_ (hQ s.heap _ fun _ _ e=>e)))
mutual
theorem Zme (hn:h₀.NoDigits):∀ {v:Value} {d:PyData} {as:List Addr},Reads h₀ v d as→shN d=true→d.shown.length≤sizeLine→∃ bs,ReadAtMost h₀ d.depth bs∧ReprK prog w bs h₀ d.depth v d.shown
 | _,_,_,.none,_,_=>⟨[],(fun _ h=>nomatch h),by simp only [PyData.shown];exact .of_is ReprIs.none _ _ _⟩
 | _,_,_,.bool b,_,_=>⟨[],(fun _ h=>nomatch h),by simp only [PyData.shown];exact .of_is (ReprIs.bool b) _ _ _⟩
 | _,_,_,.int i t,hs,_=>⟨[],(fun _ h=>nomatch h),by simp only [PyData.shown];exact Zlq t hn (n37_ hs) _ _⟩
 | _,_,_,.str x t,_,hz=>⟨[],(fun _ h=>nomatch h),by simp only [PyData.shown];exact .of_is (ReprIs.str x t (by simpa only [PyData.shown] using hz)) _ _ _⟩
 | _,_,_,.list (xs:=xs) h1 h2 h3 h4,hs,_=>absurd (show shN (.list xs)=true from hs) (fun z=>by cases (show false=true from z))
 | _,_,_,.tuple (a:=a) (xs:=xs) h1 h2 h3 h4,hs,hz=>by
   have hz':(tupleText (PyData.shownAll xs)).length≤sizeLine:=by simpa only [PyData.shown] using hz
   obtain ⟨bs,hb,hk⟩:=Za6 hn h4 (show shNs xs=true from hs) (fun t ht=>n28_ (tupleText_mem_le ht) hz');have r:Reads h₀ (.ref a) (.tuple xs) _:=.tuple h1 h2 h3 h4;have hna:a∉bs:=not_mem_of_deeper r (by simp only [PyData.depth];omega) hb;refine ⟨a :: bs,ReadAtMost.cons r (by simp only [PyData.depth];omega) hb,?_⟩;simp only [PyData.depth,PyData.shown];exact ReprK.tuple h1 h2 h3 hna hk
 | _,_,_,.dict (kvs:=kvs) h1 h2 h3 h4 h5,hs,_=>absurd (show shN (.dict kvs)=true from hs) (fun z=>by cases (show false=true from z))
theorem Za6 (hn:h₀.NoDigits):∀ {vs:List Value} {ds:List PyData} {as:List Addr},ReadsAll h₀ vs ds as→shNs ds=true→(∀ t∈PyData.shownAll ds,t.length≤sizeLine) →
 ∃ bs,ReadAtMost h₀ (PyData.depthAll ds) bs∧ReprAllK prog w bs h₀ (PyData.depthAll ds) vs (PyData.shownAll ds)
 | _,_,_,.nil,_,_=>⟨[],(fun _ h=>nomatch h),by simp only [PyData.shownAll];exact .nil⟩
 | _,_,_,.cons (d:=d) (ds:=ds) r rs,hs,hz=>by
   have hs':shN d=true∧shNs ds=true:=by
    have z:(shN d&&shNs ds)=true:=hs;exact ⟨(n54_ _ _ ▸ z).1,(n54_ _ _ ▸ z).2⟩
   obtain ⟨b1,hb1,k1⟩:=Zme hn r hs'.1 (hz _ (by simp only [PyData.shownAll];exact n5_ ..));obtain ⟨b2,hb2,k2⟩:=Za6 hn rs hs'.2 (fun t ht=>hz t (by simp only [PyData.shownAll];exact n3_ _ ht));refine ⟨b1++b2,?_,?_⟩
   · intro b hm;simp only [PyData.depthAll]
     rcases n46_.mp hm with hm|hm
     · obtain ⟨d',as',r',hd'⟩:=hb1 b hm;exact ⟨d',as',r',n28_ hd' (Nat.le_max_left _ _)⟩
     · obtain ⟨d',as',r',hd'⟩:=hb2 b hm;exact ⟨d',as',r',n28_ hd' (Nat.le_max_right _ _)⟩
   · simp only [PyData.depthAll,PyData.shownAll];exact .cons ((k1.more fun b hb=>n84_ _ hb).level_le (Nat.le_max_left _ _)) (k2.more_le (fun b hb=>n24_ _ hb) (Nat.le_max_right _ _))
end
theorem Zmp {A:Around} {E:Value→Shared→Prop} {s:Shared} {Q:Value→Shared→Prop} {a:Addr} {xs:List PyData} {as:List Addr} (hn:h₀.NoDigits) (r:Reads h₀ (.ref a) (.tuple xs) as) (hs:shNs xs=true) (hg:A.guards=some []) (hu:A.units+(PyData.depthAll xs+2)<cLine) (hk0:∀ b o,h₀.get? b=some o→s.heap.get? b=some o)
 (hQ:∀ h' u tk,(∀ b o,s.heap.get? b=some o→h'.get? b=some o)→Q (.str (PyData.tuple xs).shown u) { s with heap:=h',toks:=tk })
 (hsz:(PyData.tuple xs).shown.length≤sizeLine):wpAny (model prog w) A (call (.builtin "repr") [.ref a]) Q E s:=by
 cases r with
 | tuple h1 h2 h3 h4 =>
   have hz':(tupleText (PyData.shownAll xs)).length≤sizeLine:=by simpa only [PyData.shown] using hsz
   obtain ⟨bs,hb,hk⟩:=Za6 (prog:=prog) (w:=w) hn h4 hs (fun t ht=>n28_ (tupleText_mem_le ht) hz');have hna:a∉bs:=not_mem_of_deeper (.tuple h1 h2 h3 h4) (by simp only [PyData.depth];omega) hb;simp only [PyData.shown] at hQ;exact call_repr_slot (by omega) ⟨_,hk0 _ _ h1,h2⟩ F.slot_tuple_repr (call_tuple_reprK h1 h2 h3 hna hk hg (fun b _=>Clear.nil b) (by show A.units+1+(_+1)<cLine;omega) hk0 (fun h' u tk hk=>⟨_,_,rfl,hQ h' u tk hk⟩) hz')
end
mutual
def noL:PyData→Bool
 | .none=>true
 | .bool _=>true
 | .str _=>true
 | .int _=>true
 | .tuple xs=>noLs xs
 | .list _=>false
 | .dict _=>false
def noLs:List PyData→Bool
 | []=>true
 | x :: xs=>noL x&&noLs xs
end
theorem Zbe:∀ {xs:List PyData},noLs xs=true↔∀ x∈xs,noL x=true
 | []=>⟨fun _ _ h=>(by cases h),fun _=>rfl⟩
 | x :: xs=>by
   show (noL x&&noLs xs)=true↔_
   rw [n54_,Zbe,List.forall_mem_cons]
theorem Zd0 {i:Int} {n:Nat} (h:i.natAbs<2^n) (hn:n<3999):i.natAbs.log2<3999:=by
 by_cases h0:i.natAbs=0
 · rw [h0];decide
 · exact Nat.lt_trans ((Nat.log2_lt h0).mpr h) hn
variable {N:Addr→Prop} {k:Nat}
mutual
theorem Dt.shN {H:Hp} (hk:k<3999):∀ {v:V} {d:PyData},Dt N H k v d→noL d=true→L2.shN d=true∧d.shown.length≤4001*nz d
 | _,_,.non,_=>⟨rfl,by decide +kernel⟩
 | _,_,.bl true,_=>⟨rfl,by decide +kernel⟩
 | _,_,.bl false,_=>⟨rfl,by decide +kernel⟩
 | _,_,.int (i:=i) h,_=>⟨n32_ (Zd0 h hk),by
   have:=int_text_length_le (by decide) (Zd0 h hk)
   show (Str.ofString (toString i)).length≤4001*1
   rw [PySem.ofString_length];omega⟩
 | _,_,.str x,_=>⟨rfl,by
   show (reprText x).length≤4001*(reprText x).length
   omega⟩
 | _,_,.tup (ds:=ds) h r,n=>by
   obtain ⟨a,b⟩:=Dts.shN hk r n;have z:=tupleText_len_le (PyData.shownAll ds);rw [Zic] at z;refine ⟨a,?_⟩;show (tupleText (PyData.shownAll ds)).length≤4001*(1+Xj ds)
   omega
 | _,_,.lst (ds:=ds) h n m r,z=>by cases (show false=true from z)
 | _,_,.dic h,z=>by cases (show false=true from z)
theorem Dts.shN {H:Hp} (hk:k<3999):∀ {vs:List V} {ds:List PyData},Dts N H k vs ds→noLs ds=true→shNs ds=true∧((PyData.shownAll ds).map (·.length)).sum+2*ds.length≤4001*Xj ds
 | _,_,.nil,_=>⟨rfl,by simp [PyData.shownAll,Xj]⟩
 | _,_,.cons (d:=d) (ds:=ds) r rs,n=>by
   have n':(noL d&&noLs ds)=true:=n;rw [n54_] at n';obtain ⟨a1,a2⟩:=Dt.shN hk r n'.1;obtain ⟨b1,b2⟩:=Dts.shN hk rs n'.2;refine ⟨by show (_&&_)=true;rw [a1,b1];rfl,?_⟩;simp only [PyData.shownAll,Xj,n71_,n50_,n33_];omega
end
section
variable {X:Cx}
theorem Za8 {j:Nat} (hr:Room j X.A):Zas X (.builtin "repr") (fun xs H Q=>∃ N k v ds,xs=[v]∧Dt N H k v (.tuple ds)∧k<3999∧noLs ds=true∧(PyData.tuple ds).depth≤20∧nz (.tuple ds)≤4000∧Q (.str (PyData.tuple ds).shown) H):=by
 intro pins s σ H xs us Q I r h;obtain ⟨N,k,v,ds,rfl,rd,hk,hn,h3,h4,q⟩:=h;obtain ⟨h1,h2⟩:=rd.shN hk hn
 have hz:(PyData.tuple ds).shown.length≤sizeLine:=by
  have e:sizeLine=16777216:=sizeLine_eq;omega
 cases r with
 | cons rx r =>
   cases r
   have hu:=hr.un;cases rd with
   | tup h rs =>
     cases (show _=Value.ref _ from rx)
     obtain ⟨as,ra,na⟩:=Dt.reads I (.tup h rs) rx;have h3':PyData.depthAll ds+1≤20:=h3;exact Zmp I.digits ra h1 hr.gd (by omega) (fun _ _ e=>e) (fun h' u tk hk=>⟨.str _,H,I.kept hk,⟨_,rfl⟩,q⟩) hz
end
end L2
set_option maxHeartbeats 4000000
namespace L2
open PySem PySem.Spec PyProof.Rows
section
variable {M:Model} {A:Around} {E:Value→Shared→Prop} {s:Shared}
def FO (h:Heap) (a:Addr) (C:Value) (d:Option Addr) (vs:Array Value):Prop:=∃ o:Obj,h.get? a=some o∧o.cls=C∧o.dict=d∧o.data=.fields vs
def Fly (h:Heap) (G:Heap) (e T:Addr) (C:Value):Prop :=
 G.get? e=none∧G.get? T=none∧T≠e∧(∃ vs,FO h e C none vs∧vs[1]? = some (.ref T))∧∃ cT dT ts,FO h T cT dT ts∧ts[3]? = some .none
def CX1 (P:Program) (w:World):CXT:=fun outer H s E e s'=>∃ ea T C H',e=.ref ea∧s'.os=s.os∧AllBare s'.gens∧Un (frs outer) [] H H' s.heap s'.heap∧HOk P w H' s'.heap∧Fly s'.heap s.heap ea T (.ref C)∧H' ea=none∧H' T=none∧E (.ref C) none H'
end
section
variable {X:Cx} {E:XK} {pins:List (Addr×Obj)} {σ:St} {H:Hp} {s:Shared} {ea T C:Addr}
end
section
variable {P:Program} {w:World} {K:PySem.W.Frag} {mg:Str→Option Value} {base:Heap} {N:List Str} {qual:Str} {scope:Scope} {f:Addr} {cd:Value} {A:Around} {outer:List Env} {s₀:Shared} {H₀:Hp} {E:XK}
end
def fzO (o:Obj):HO:=.frz o (.own 0)
theorem Zpc {P:Program} {w:World} {H:Hp} {h:Heap} {a:Addr} {o:Obj} (e:h.get? a=some o):ObjOk P w H h a (fzO o):=⟨e,o,e⟩
def Zoj (H:Hp) (c:Addr) (v:V):Prop:=∃ (o:Obj) (u:Value),H c=some (fzO o)∧o.data=.cell (some u)∧RelV v u
def del (H:Hp) (c:Addr):Hp:=fun a=>if a=c then none else H a
theorem X2 {H:Hp} {c a:Addr} (h:a≠c):del H c a=H a:=if_neg h
theorem Zb4 {H:Hp} {c:Addr}:del H c c=none:=if_pos rfl
section
variable {X:Cx} {pins:List (Addr×Obj)} {σ:St} {H:Hp} {s:Shared}
abbrev Cx.fix (X:Cx) (x:Str):Cx:={ X with fn:=fun y=>X.fn y&&y != x }
theorem Cx.Ok.fix (ok:X.Ok) (x:Str):(X.fix x).Ok :=
 ⟨ok.mod,ok.kind,ok.glob,ok.blt,ok.above,ok.inj,ok.has,fun y c h e=>ok.cab y c (Bool.and_eq_true_iff.mp h).1 e,ok.hd,ok.frames,ok.stk,ok.exf,ok.bs,ok.bsz,ok.noex,ok.exfs,ok.funs,ok.frf⟩
def tFix (i:Nat) (c:Addr) (t:TE):TE:=fun σ H Q=>∃ v,σ[i]? = some (some v)∧∀ o u,o.data=.cell (some u)→RelV v u→H c=none→t σ (upd H c (fzO o)) fun w H'=>Q w (del H' c)
theorem Inv.fixOn {i:Nat} {x:Str} {c:Addr} {v:V} (I:Inv X pins σ H s) (hN:X.N[i]? = some x) (hk:X.env.scope.names.lookup x=some .cell) (hc:X.env.cells.lookup x=some c) (hf:X.fn x=true) (hv:σ[i]? = some (some v)) :
 H c=none∧(∀ o u,X.H₀ c≠some (.frz o u))∧∃ o u,o.data=.cell (some u)∧RelV v u∧Inv (X.fix x) pins σ (upd H c (fzO o)) s:=by
 obtain ⟨m,hn,hl⟩:=id I.loc;obtain ⟨u,ru,lk⟩:=hl i x v hN hv (.inr (.inl hk));have hH:H c=none:=(I.freeC x c hc).elim id fun z=>by rw [hf] at z;cases z.1
 obtain ⟨o,ho,hd⟩:s.heap.IsCell c (some u):=by
  rcases lk with ⟨k,_⟩|⟨_,c',e,z⟩
  · rw [show X.env.kindOf x=some .cell from hk] at k;cases k
  · rw [hc] at e;cases e;exact z
 have hcs:X.s₀.heap.objs.size≤c:=I.ok.cab x c hf hc;have un:∀ b,b≠c→(upd H c (fzO o)) b=H b:=fun b hb=>Zp hb;have ne:∀ b q,H b=some q→b≠c:=fun b q e z=>by rw [z,hH] at e;cases e
 refine ⟨hH,fun o' u' z=>(by have:=I.base.frzs c o' u' z;rw [hH] at this;cases this),o,u,hd,ru,?_⟩;refine ⟨I.ok.fix x,I.os,I.bare,⟨I.base.keep,I.base.slot,fun b q e n hx=>?_,I.base.there,fun b xs e=>?_,fun b w' q e=>?_,fun b ps e=>?_⟩,I.loc,I.cell,?_,fun y c' e=>?_,fun p hp=>?_,fun b q e=>?_,I.len⟩
 · rw [un b fun z=>absurd (n21_ e) (Nat.not_lt.mpr (by rw [z];exact hcs))];exact I.base.free b q e n hx
 · have q:=I.base.tups b xs e;rw [un b (ne b _ q)];exact q
 · have q':=I.base.frzs b w' q e;rw [un b (ne b _ q')];exact q'
 · obtain ⟨m,q⟩:=I.base.tbls b ps e;exact ⟨m,by rw [un b (ne b _ q)];exact q⟩
 · rw [un _ (Ne.symm (I.cne x c hc))];exact I.free
 · by_cases hcc:c'=c
   · have hy:y=x:=I.ok.inj y x c (hcc ▸ e) hc;exact .inr ⟨by show (X.fn y&&y != x)=false;rw [hy];simp,o,_,by rw [hcc,Ze];rfl⟩
   · rw [un c' hcc];exact (I.freeC y c' e).imp id fun ⟨z,q⟩=>⟨by show (X.fn y&&y != x)=false;rw [z];rfl,q⟩
 · obtain ⟨e,n,r1,r2,d⟩:=I.pin p hp
   have nc:p.1≠c:=fun z=>by
    rw [z,ho] at e;exact d (some u) (by rw [← Option.some.inj e];exact hd)
   exact ⟨e,(un _ nc).trans n,r1,r2,d⟩
 · by_cases hb:b=c
   · subst hb;rw [Ze] at e;cases e;exact Zpc ho
   · rw [un b hb] at e;refine (I.hok b q e).stay (fun _ _ _ z=>z) (fun d z=>?_) fun d xs z=>?_
     · rw [un d (ne d _ z)];exact z
     · rw [un d (ne d _ z)];exact z
theorem Inv.fixOff {x:Str} {c:Addr} (ok:X.Ok) (hc:X.env.cells.lookup x=some c) (n0:∀ o u,X.H₀ c≠some (.frz o u)) (I2:Inv (X.fix x) pins σ H s):Inv X pins σ (del H c) s:=by
 have kind:H c=none∨∃ o u,H c=some (.frz o u):=(I2.freeC x c hc).imp id fun z=>z.2
 have nt:∀ b q,H b=some q→(∀ o u,q≠.frz o u)→b≠c:=fun b q e n z=>by
  rw [z] at e
  rcases kind with k|⟨o,u,k⟩
  · rw [k] at e;cases e
  · rw [k] at e;cases e;exact n _ _ rfl
 refine ⟨ok,I2.os,I2.bare,⟨I2.base.keep,I2.base.slot,fun b q e n hx=>?_,I2.base.there,fun b xs e=>?_,fun b w' q e=>?_,fun b ps e=>?_⟩,I2.loc,I2.cell,?_,fun y c' e=>?_,fun p hp=>?_,fun b q e=>?_,I2.len⟩
 · by_cases hb:b=c
   · rw [hb];exact Zb4
   · rw [X2 hb];exact I2.base.free b q e n hx
 · have q:=I2.base.tups b xs e;rw [X2 (nt b _ q (by intro _ _ z;cases z))];exact q
 · have q':=I2.base.frzs b w' q e;have nb:b≠c:=fun z=>n0 w' q (by rw [← z];exact e);rw [X2 nb];exact q'
 · obtain ⟨m,q⟩:=I2.base.tbls b ps e;exact ⟨m,by rw [X2 (nt b _ q (by intro _ _ z;cases z))];exact q⟩
 · by_cases hb:X.env.locals=c
   · rw [hb];exact Zb4
   · rw [X2 hb];exact I2.free
 · by_cases hcc:c'=c
   · rw [hcc];exact .inl Zb4
   · rw [X2 hcc];refine (I2.freeC y c' e).imp id fun ⟨z,q⟩=>⟨?_,q⟩;have hy:y≠x:=fun w=>hcc (Option.some.inj ((w ▸ e).symm.trans hc));have z':(X.fn y&&y != x)=false:=z;rw [Bool.and_eq_false_iff] at z';exact z'.elim id fun t=>absurd (bne_eq_false_iff_eq.mp t) hy
 · obtain ⟨e,n,r⟩:=I2.pin p hp;refine ⟨e,?_,r⟩
   by_cases hb:p.1=c
   · rw [hb];exact Zb4
   · rw [X2 hb];exact n
 · have hb:b≠c:=fun z=>by rw [z,Zb4] at e;cases e
   rw [X2 hb] at e;refine (I2.hok b q e).stay (fun _ _ _ z=>z) (fun d z=>?_) fun d xs z=>?_
   · rw [X2 (nt d _ z (by intro _ _ t;cases t))];exact z
   · rw [X2 (nt d _ z (by intro _ _ t;cases t))];exact z
theorem Zpt {i:Nat} {x:Str} {c:Addr} {e:Expr} {t:TE} (hN:X.N[i]? = some x) (hk:X.env.scope.names.lookup x=some .cell) (hc:X.env.cells.lookup x=some c) (hf:X.fn x=true) (he:PE (X.fix x) e t):PE X e (tFix i c t):=by
 intro pins s σ H Q I h;obtain ⟨v,hv,h⟩:=h;obtain ⟨hH,n0,o,u,hd,ru,I1⟩:=I.fixOn hN hk hc hf hv;refine wpAny_mono (he pins s σ _ _ I1 (h o u hd ru hH)) (fun r s' q=>?_) fun _ _ z=>z;obtain ⟨w',H',I2,rw',q⟩:=q;exact ⟨w',del H' c,I2.fixOff I.ok hc n0,rw',q⟩
def CodeF (H:Hp) (c:Addr) (q:Str):Prop:=∃ (o:Obj) (vs:Array Value) (t:Tok),H c=some (fzO o)∧o.data=.fields vs∧vs[1]? = some (.str q t)
def TabF (H:Hp) (P:Addr) (q:Str):Prop:=∃ ps:Array Value,H P=some (.tbl ps)∧TriplesOk ps.toList∧∀ pos cv,codeAmong pos ps.toList=some cv→∃ c,cv=.ref c∧CodeF H c q
def BltK (K:PySem.W.Frag) (mg:Str→Option Value):Prop:=∃ (bm:Addr) (o:Obj),mg "__builtins__" = some (.ref bm)∧bm≠builtinsNs∧bm≠mainGlobals∧K.lookup bm=some o∧o.cls=.type "module" ∧ o.dict=some builtinsNs∧o.data=.plain
def LamF (H:Hp) (a:Addr) (q:Str) (params:Arguments) (body:Expr) (scope:Scope) (clos:List (Str×Addr)) (pm:Value):Prop :=
 ∃ (c:Addr) (ct:Value),H a=some (fzO { cls:=.type "function",data:=.func (PySem.W.kla_fn "<lambda>" q params body scope clos pm (.ref c) ct) })∧CodeF H c q
def Xp (P:Addr) (H H':Hp):Prop:=∀ b o,b≠P→H b=some o→H' b=some o
theorem CodeF.keep {P c:Addr} {H':Hp} {q:Str} (x:CodeF H c q) (k:Xp P H H') (n:c≠P):CodeF H' c q:=let ⟨o,vs,t,e,r⟩:=x;⟨o,vs,t,k _ _ n e,r⟩
theorem CodeF.neP {P c:Addr} {q:Str} {ps:Array Value} (x:CodeF H c q) (e:H P=some (.tbl ps)):c≠P:=fun z=>by
 obtain ⟨o,vs,t,e',_⟩:=x;rw [z,e] at e';cases e'
theorem Zfb {p:Pos} {a b:Int} {c v:Value}:∀ l:List Value,TriplesOk l→codeAmong p (l++[rawInt a,rawInt b,c])=some v→codeAmong p l=some v∨v=c
 | [],_,h=>by
   right
   simp only [List.nil_append,rawInt,codeAmong] at h;split at h
   · exact (Option.some.inj h).symm
   · cases h
 | .int x t :: .int y u :: z :: r,ht,h=>by
   simp only [n85_,codeAmong] at h ⊢;split at h
   · rename_i q;left;rw [if_pos q];exact h
   · rename_i q;rw [if_neg q];exact Zfb r ht h
def tLam (mg:Str→Option Value) (P:Addr) (q:Str) (params:Arguments) (body:Expr) (scope:Scope) (clos:List (Str×Addr)):TE:=fun _ H Q=>TabF H P q∧∀ a H',Xp P H H'→TabF H' P q→H a=none→a≠P→LamF H' a q params body scope clos ((mg "__name__").getD .none)→Q (.ref a) H'
theorem Zs2 {params:Arguments} {body:Expr} {scope:Scope} {pos:Pos} {clos:List (Str×Addr)} {cc P:Addr} {q:Str} (hdef:defaultsOf params X.env=([],[])) (hcl:closureFor scope X.env=pure clos) (hcode:X.env.code=.ref cc)
 (hq:X.env.qual ++ "<lambda>" = q) (CK:∀ h,X.K.In h→PySem.W.CodeHd h cc P) (BK:BltK X.K X.mg):PE X (.Lambda params body scope pos) (tLam X.mg P q params body scope clos):=by
 intro pins s σ H Q I h;obtain ⟨⟨ps,hP,ht,hcs⟩,k⟩:=h;have tab:s.heap.get? P=some (PySem.W.tabObj ps):=I.hok P _ hP;have g:s.heap.Ns mainGlobals X.mg:=I.mod.glob.keeps I.bk
 have nB:∀ b o,X.base.get? b=some o→b≠P:=fun b o e z=>by
  have:=(I.bs b o e).2
  rw [z,hP] at this;cases this
 have gP:mainGlobals≠P:=by
  obtain ⟨o,_,_,e,_⟩:=I.mod.glob;exact nB _ o e
 have bat:s.heap.BuiltinsAt X.mg P:=by
  obtain ⟨bm,o,h1,h2,h3,h4,h5⟩:=BK;exact ⟨bm,o,h1,h2,h3,nB _ o (I.mod.kin _ _ h4),I.kIn _ _ h4,h5⟩
 refine PySem.W.kla_eval hdef ?_;rw [hq];cases hc:codeAmong pos ps.toList with
 | some cv =>
   obtain ⟨c,rfl,cf⟩:=hcs pos cv hc;refine PySem.W.kla_makeFunctionHit (mg:=X.mg) hcl I.ok.glob g hcode (CK _ I.kIn) tab ht hc bat fun ctv h' tk kp sz=>?_;have na:H h'.objs.size=none:=I.hok.fresh sz;have un:∀ b o,H b=some o→b≠h'.objs.size:=fun b o e z=>by rw [z,na] at e;cases e
   refine ⟨.ref h'.objs.size,upd H h'.objs.size (fzO _),I.laid (t':=tk) (fun b u e=>n7_ _ (kp b u e)) sz (Zpc (n17_ h' rfl)),rfl,?_⟩;have kk:Xp P H (upd H h'.objs.size (fzO { cls:=.type "function",data:=.func (PySem.W.kla_fn "<lambda>" q params body scope clos ((X.mg "__name__").getD .none) (.ref c) ctv) })):=fun b o _ e=>by rw [Zp (un b o e)];exact e
   have cf':∀ {d:Addr},CodeF H d q→CodeF (upd H h'.objs.size (fzO { cls:=.type "function",data:=.func (PySem.W.kla_fn "<lambda>" q params body scope clos ((X.mg "__name__").getD .none) (.ref c) ctv) })) d q:=fun x=>x.keep kk (x.neP hP);refine k _ _ kk ⟨ps,by rw [Zp (un _ _ hP)];exact hP,ht,fun p v e=>?_⟩ na (fun z=>un _ _ hP z.symm) ⟨c,ctv,Ze,cf' cf⟩;obtain ⟨d,e1,e2⟩:=hcs p v e;exact ⟨d,e1,cf' e2⟩
 | none =>
   refine PySem.W.kla_makeFunction (mg:=X.mg) hcl I.ok.glob g hcode (CK _ I.kIn) tab ht hc gP bat fun c ctv h' tk ext hge hlt hrec htab=>?_;obtain ⟨c0,oc,vs,tq,ec,hoc,hdc,hqc⟩:=hrec;cases ec
   generalize hfo:({ cls:=.type "function",data:=.func (PySem.W.kla_fn "<lambda>" q params body scope clos ((X.mg "__name__").getD .none) (.ref c) ctv) }:Obj)=fo;have ff:fo.isFreed=false:=by rw [← hfo];rfl
   have nc:H c=none:=I.hok.fresh hge;have sz:s.heap.objs.size≤h'.objs.size:=n28_ hge (Nat.le_of_lt hlt);have na:H h'.objs.size=none:=I.hok.fresh sz;have cP:c≠P:=fun z=>by rw [z,hP] at nc;cases nc
   have aP:h'.objs.size≠P:=fun z=>by rw [z,hP] at na;cases na
   have ac:h'.objs.size≠c:=Nat.ne_of_gt hlt;have kp:∀ b o,b≠P→s.heap.get? b=some o→(h'.push fo).get? b=some o:=fun b o n e=>n7_ _ (ext b o n e);have nP:∀ b,H b=none→b≠P:=fun b n z=>by rw [z,hP] at n;cases n
   generalize hps:ps++#[rawInt pos.line,rawInt pos.col,.ref c]=ps' at htab;generalize hH':upd (upd (upd H P (.tbl ps')) c (fzO oc)) h'.objs.size (fzO fo)=H';have atP:H' P=some (.tbl ps'):=by rw [← hH',Zp (Ne.symm aP),Zp (Ne.symm cP)];exact Ze
   have atc:H' c=some (fzO oc):=by rw [← hH',Zp (Ne.symm ac)];exact Ze
   have ata:H' h'.objs.size=some (fzO fo):=by rw [← hH'];exact Ze
   have oth:∀ b,b≠P→b≠c→b≠h'.objs.size→H' b=H b:=fun b h1 h2 h3=>by rw [← hH',Zp h3,Zp h2,Zp h1]
   have tr:∀ b o,b≠P→H b=some o→H' b=some o:=fun b o n e=>by
    rw [oth b n (fun z=>by rw [z,nc] at e;cases e) (fun z=>by rw [z,na] at e;cases e)];exact e
   have I1:Inv X pins σ H' { s with heap:=h'.push fo,toks:=tk }:=by
    refine I.step (g':=s.gens) (d':=s.drawn) (ch:=[]) (fun _ z=>nomatch z) (fun b o _ _ _ e n=>kp b o (nP b n) e) (fun b o _ _ _ e n=>⟨o.slots,kp b o (nP b n) e⟩) (fun b o _ e n=>?_) (fun b o _ e=>?_) (fun b xs e=>tr b _ ?_ e) (fun b o u e=>tr b _ ?_ e)
     (fun b qs e=>?_) (fun m hm=>?_) (fun b u e=>?_) I.bare
    · have lb:=n21_ e;rw [oth b (nP b n) (n51_ (n10_ lb hge)) (n51_ (n10_ lb sz))];exact n
    · by_cases hb:b=P
      · exact ⟨_,hb ▸ n7_ _ htab⟩
      · exact ⟨o,kp b o hb e⟩
    · intro z;rw [z,hP] at e;cases e
    · intro z;rw [z,hP] at e;cases e
    · by_cases hb:b=P
      · subst hb;rw [hP] at e;cases e;exact ⟨_,by rw [hps];exact atP⟩
      · exact ⟨#[],by rw [Array.append_empty];exact tr b _ hb e⟩
    · obtain ⟨o,es,ep,ho,r⟩:=hm;exact ⟨o,es,ep,kp _ o (nP _ I.free) ho,r⟩
    · by_cases h1:b=P
      · subst h1;rw [atP] at e;cases e;exact n7_ _ htab
      · by_cases h2:b=c
        · subst h2;rw [atc] at e;cases e;exact Zpc (n7_ _ hoc)
        · by_cases h3:b=h'.objs.size
          · subst h3;rw [ata] at e;cases e;exact Zpc (n17_ h' ff)
          · rw [oth b h1 h2 h3] at e;refine (I.hok b u e).stay (fun d v hd z=>kp d v ?_ z) (fun d z=>tr d _ ?_ z) fun d xs z=>tr d _ ?_ z
            · rcases hd with r|r
              · rw [r];exact h1
              · intro z';rw [z',hP] at r;cases r
            · intro z';rw [z',hP] at z;cases z
            · intro z';rw [z',hP] at z;cases z
   have cfc:CodeF H' c q:=⟨oc,vs,tq,atc,hdc,hqc⟩;subst hfo;refine ⟨.ref h'.objs.size,H',I1,rfl,k _ _ tr ⟨ps',atP,?_,fun p v e=>?_⟩ na aP ⟨c,ctv,ata,cfc⟩⟩
   · rw [← hps,Array.toList_append];exact TriplesOk_snoc _ _ _ _ ht
   · rw [← hps,Array.toList_append] at e
     rcases Zfb ps.toList ht e with e'|e'
     · obtain ⟨d,e1,e2⟩:=hcs p v e';exact ⟨d,e1,e2.keep tr (e2.neP hP)⟩
     · exact ⟨c,e',cfc⟩
end
section
variable {P:Program} {w:World} {K:PySem.W.Frag} {mg:Str→Option Value} {base:Heap}
abbrev Znj (scope:Scope) (L:Addr) (clos:List (Str×Addr)) (q:Str) (a:Addr) (cd:Value):Env:=newEnv scope L mainGlobals clos (q ++ ".<locals>.") (some a) cd none builtinsNs
def cxL (P:Program) (w:World) (K:PySem.W.Frag) (mg:Str→Option Value) (base:Heap) (N:List Str) (env:Env) (A:Around) (outer:List Env) (s:Shared) (H:Hp) (E:XK):Cx where
 prog:=P
 w:=w
 K:=K
 mg:=mg
 base:=base
 A:=A.deeper env
 N:=N
 s₀:=s
 H₀:=H
 env:=env
 outer:=outer
 stack:=env :: outer
 ex:=[]
 calm:=true
 fn:=fun _=>false
 pn:=[]
 xe:=fun e s'=>wpAny (model P w) (A.deeper env) (leaving env e) (fun _ s''=>CX1 P w outer H s E e s'') (fun e' s''=>CX1 P w outer H s E e' s'') s'
end
section
variable {X:Cx}
end
section
variable {P:Program} {w:World} {K:PySem.W.Frag} {mg:Str→Option Value} {base:Heap}
theorem Fun.okC {x qual:Str} {st:Stmt} {f:Addr} {fd:FuncData} {N ps:List Str} {k:Nat} {sp:Sp} (F:Fun K x qual st f fd) (S:FnScope N ps (Zf st)) (len:∀ vs H Q E,sp vs H Q E→vs.length=ps.length)
 (hbody:∀ (cdv:Value),fd.code=cdv→∀ (A:Around) (outer:List Env) (s:Shared) (H:Hp) (vs:List V) (Q:VK) (E:XK),Room k (A.deeper (envOfC qual (Zf st) s.heap.objs.size f cdv))→sp vs H Q E →
   ∃ t,PSs (cxOf CX0 P w K mg base N qual (Zf st) f cdv A outer s H E).nox (Yw st) t∧t { nx:=fun _ H'=>Q .non H',rt:=Q } (start N vs) H):FnOk P w K mg base CX0 (k+1) f fd ps sp:=by
 obtain ⟨oc,od,kV,doc,pm,an,cdv,ct,osl,rfl,lk,hcd⟩:=F.ex;refine Zra lk hcd S len fun A outer s H vs Q E hr hsp=>?_;obtain ⟨t,h,q⟩:=hbody cdv rfl A outer s H vs Q E hr hsp;exact ⟨t,h.nox,q⟩
end
section
variable {X:Cx}
end
variable {N:Addr→Prop} {k:Nat}
section
variable {H H':Hp} {P c c1:Addr} {q:Str}
theorem CodeF.mv (x:CodeF H c q) (k:∀ o,H c=some (fzO o)→H' c=some (fzO o)):CodeF H' c q:=let ⟨o,vs,t,e,r⟩:=x;⟨o,vs,t,k o e,r⟩
theorem CodeF.neC (x:CodeF H c q) {o1:Obj} {u:Option Value} (e:H c1=some (fzO o1)) (hd:o1.data=.cell u):c≠c1:=fun z=>by
 obtain ⟨o,vs,t,e',hv,_⟩:=x;rw [z,e] at e';cases e';rw [hd] at hv;cases hv
theorem CodeF.neL (x:CodeF H c q) {L:Addr} {xs:List V} (e:H L=some (.lst xs)):c≠L:=fun z=>by
 obtain ⟨o,vs,t,e',_⟩:=x;rw [z,e] at e';cases e'
theorem TabF.mv (x:TabF H P q) (k0:∀ ps,H P=some (.tbl ps)→H' P=some (.tbl ps)) (k:∀ c,CodeF H c q→CodeF H' c q):TabF H' P q :=
 let ⟨ps,e,t,h⟩:=x
 ⟨ps,k0 _ e,t,fun p v z=>let ⟨d,e1,e2⟩:=h p v z;⟨d,e1,k _ e2⟩⟩
theorem TabF.same (x:TabF H P q) (s:Same H H'):TabF H' P q:=x.mv (fun _ e=>s _ _ e) fun _ c=>c.mv fun _ e=>s _ _ e
theorem TabF.keepL (x:TabF H P q) {L:Addr} {xs:List V} (e:H L=some (.lst xs)) (s:Keep L H H'):TabF H' P q :=
 x.mv (fun _ z=>s _ _ (fun w=>by rw [w,e] at z;cases z) z) fun _ c=>c.mv fun _ z=>s _ _ (c.neL e) z
theorem TabF.del (x:TabF H P q) {o1:Obj} {u:Option Value} (e:H c1=some (fzO o1)) (hd:o1.data=.cell u):TabF (del H c1) P q :=
 x.mv (fun _ z=>by rw [X2 fun w=>by rw [w,e] at z;cases z];exact z) fun _ c=>c.mv fun _ z=>by rw [X2 (c.neC e hd)];exact z
variable {a:Addr} {params:Arguments} {body:Expr} {scope:Scope} {clos:List (Str×Addr)} {pm:Value}
end
variable {N:Addr→Prop} {k:Nat}
section
variable {P1 P2:Addr} {H H1 H2:Hp} {q:Str}
end
theorem Zpp {H:Hp} {P:Addr} {q:Str} (e:H P=some (.tbl #[])):TabF H P q:=⟨#[],e,by first|trivial|exact .nil|simp [TriplesOk],fun p v z=>by have z':codeAmong p []=some v:=z;first|(cases z';done)|simp [codeAmong] at z'⟩
theorem Zni {P:Program} {w:World} {K:PySem.W.Frag} {mg mb:Str→Option Value} {k:Nat} {fa a:Addr} {fd:FuncData} {x:Str} {sp:Sp} {s₁:Shared} {vs:List Value} {ns:List Int} {c1 c2 P1 P2:Addr}
 (KX:K.In s₁.heap) (hns:s₁.heap.Ns mainGlobals mg) (hb:s₁.heap.Ns builtinsNs mb) (hbb:∀ x:Str,x ≠ "__name__" → mb x=bootBuiltins x) (hlim:s₁.heap.NoLimit) (hsr:s₁.heap.NoSeer) (hdg:s₁.heap.NoDigits) (hg:s₁.gens=#[])
 (ha:s₁.heap.get? a=some { cls:=.type "list",data:=.seq vs.toArray }) (hi:IntsAre vs ns) (hl:ns.length≤sizeLine) (hr:Room k callerA)
 (C1:PySem.W.CodeHd s₁.heap c1 P1) (C2:PySem.W.CodeHd s₁.heap c2 P2) (T1:s₁.heap.get? P1=some (PySem.W.tabObj #[])) (T2:s₁.heap.get? P2=some (PySem.W.tabObj #[])) (k1:K.lookup P1=none) (k2:K.lookup P2=none)
 (F:∀ base:Heap,K.In base→base.Ns mainGlobals mg→FnOk P w K mg base CX0 k fa fd [x] sp) (hbind:∀ (s:Shared) (u:Value),BindsTo s fd ⟨[u],[]⟩ [(x,u)])
 (hsp:∀ H:Hp,SqL K H a (ns.map V.int)→H P1=some (.tbl #[])→H P2=some (.tbl #[])→sp [.ref a] H (fun v _=>v=.bl true) fun _ _ _=>False) :
 codeAny (model P w) callerA (.call (.ref fa) ⟨[.ref a],[]⟩) (fun r s'=>r=.ok (.ret (.bool true))∧OldK s₁.heap s'.heap∧s'.os=s₁.os∧AllBare s'.gens) s₁:=by
 have rv:=Zhd hi;have lenV:=hi.length;have a1:a≠P1:=fun z=>by rw [z,T1] at ha;cases ha
 have a2:a≠P2:=fun z=>by rw [z,T2] at ha;cases ha
 have core:∀ H:Hp,SqL K H a (ns.map V.int)→HOk P w H s₁.heap→(∀ b u,H b=some u→(b=a∧(∃ o xs,u=.frz o (.lst xs))∧K.lookup a=none)∨((b=P1∨b=P2)∧u=.tbl #[]))→H P1=some (.tbl #[])→H P2=some (.tbl #[]) →
  codeAny (model P w) callerA (.call (.ref fa) ⟨[.ref a],[]⟩) (fun r s'=>r=.ok (.ret (.bool true))∧OldK s₁.heap s'.heap∧s'.os=s₁.os∧AllBare s'.gens) s₁:=by
  intro H hS hok hA h1 h2;have base_of:∀ {b:Addr} {o:Obj},s₁.heap.get? b=some o→H b=none→(hidT s₁.heap H).get? b=some o:=fun e n=>Zpo e n
  have noA:∀ {b:Addr} {o:Obj} {es:Array DictEntry} {ep:Nat},s₁.heap.get? b=some o→o.data=.dict es ep→H b=none:=fun {b o es ep} e d=>by
   cases q:H b with
   | none=>rfl
   | some u =>
     rcases hA b u q with ⟨rfl,_⟩|⟨rfl|rfl,_⟩
     · rw [ha] at e;cases e;cases d
     · rw [T1] at e;cases e;cases d
     · rw [T2] at e;cases e;cases d
  have nsK:∀ {b:Addr} {m:Str→Option Value},s₁.heap.Ns b m→(hidT s₁.heap H).Ns b m:=fun {b m} ⟨o,es,ep,e,d,r⟩=>⟨o,es,ep,base_of e (noA e d),d,r⟩
  have hKb:K.In (hidT s₁.heap H):=fun b o e=>base_of (KX b o e) (by
   cases q:H b with
   | none=>rfl
   | some u =>
     rcases hA b u q with ⟨rfl,_,z⟩|⟨rfl|rfl,_⟩
     · rw [z] at e;cases e
     · rw [k1] at e;cases e
     · rw [k2] at e;cases e)
  have sK:(hidT s₁.heap H).NoSeer:=⟨let ⟨mc,a,b⟩:=hsr.statics;⟨mc,nsK a,b⟩,let ⟨mc,a,b⟩:=hsr.mods;⟨mc,nsK a,b⟩,let ⟨mb,a,b⟩:=hsr.imp;⟨mb,nsK a,b⟩,let ⟨mg',bm,ob,a,b,c,d,e⟩:=hsr.main;⟨mg',bm,ob,nsK a,b,base_of c (by
   cases q:H bm with
   | none=>rfl
   | some u =>
     rcases hA bm u q with ⟨rfl,_⟩|⟨rfl|rfl,_⟩
     · rw [ha] at c;cases c;exact absurd d (by simp)
     · rw [T1] at c;cases c;exact absurd d (by simp [PySem.W.tabObj])
     · rw [T2] at c;cases c;exact absurd d (by simp [PySem.W.tabObj])),d,e⟩⟩
  have hM:Mod K mg (hidT s₁.heap H):=⟨hKb,nsK hns,⟨mb,nsK hb,hbb⟩,(let ⟨mc,h1,h2⟩:=hlim;⟨mc,nsK h1,h2⟩),sK,(let ⟨mc,h1,h2⟩:=hdg;⟨mc,nsK h1,h2⟩)⟩;have e0:Env0 P w K mg (hidT s₁.heap H) callerA [] s₁ H:=⟨rfl,hM,fun b o e=>Zrk e,Nat.le_of_eq (Zn2 _ _),trivial,fun b hb=>absurd (show b∈([]:List Addr) from hb) (by simp),hok,.of_eq hg⟩;refine codeAny_mono ((F _ hKb (nsK hns)).run callerA [] s₁ H ⟨[.ref a],[]⟩ [.ref a] [.ref a] _ _ hr e0 (hbind s₁ (.ref a)) (.cons rfl .nil) (hsp H hS h1 h2)) fun r s' h=>?_;cases r with
  | error e=>exact False.elim h
  | ok fl =>
    cases fl with
    | next=>exact False.elim h
    | brk=>exact False.elim h
    | cont=>exact False.elim h
    | ret u =>
      obtain ⟨v,H',os,bare,un,hok',r',q⟩:=h;have q':v=.bl true:=q;subst q';obtain rfl:u=Value.bool true:=r'
      have tb:∀ (c b:Addr) (o:Obj),PySem.W.CodeHd s₁.heap c b→s₁.heap.get? b=some (PySem.W.tabObj #[])→H b=some (.tbl #[])→s₁.heap.get? b=some o→asItWas s₁.heap s'.heap b o∧∃ o',s'.heap.get? b=some o':=fun c b o hc ht hb e=>by
       obtain ⟨more,e'⟩:=un.tbls b _ hb;have z:s'.heap.get? b=some { cls:=.none,data:=.fields (#[]++more) }:=hok' b _ e';rw [ht] at e;cases e
       exact ⟨.inr (.inl ⟨(hc.tab ht).isCodeTable,rfl,#[],more,rfl,z⟩),_,z⟩
      have all:∀ b o,s₁.heap.get? b=some o→asItWas s₁.heap s'.heap b o∧∃ o',s'.heap.get? b=some o':=fun b o e=>by
       cases q:H b with
       | none =>
         have z:=un.keep b o e q (by intro z;exact absurd (show b∈([]:List Addr) from z) (by simp)) (by simp);exact ⟨.inl z,_,z⟩
       | some u =>
         rcases hA b u q with ⟨rfl,⟨ob,xs,rfl⟩,_⟩|⟨rfl|rfl,rfl⟩
         · have z2:=un.frzs _ ob _ q;obtain ⟨e1,_⟩:=hok _ _ q;obtain ⟨e2,_⟩:=hok' _ _ z2;rw [e] at e1;cases e1;exact ⟨.inl e2,_,e2⟩
         · exact tb c1 _ _ C1 T1 h1 e
         · exact tb c2 _ _ C2 T2 h2 e
      exact ⟨rfl,⟨fun b o e=>(all b o e).1,fun b o e=>(all b o e).2⟩,os,bare⟩
 have kT:∀ (H:Hp) b,s₁.heap.get? b=some (PySem.W.tabObj #[])→ObjOk P w H s₁.heap b (.tbl #[]):=fun H b e=>e;cases hk:K.lookup a with
 | some o =>
   have e:=KX a o hk;rw [ha] at e;cases e
   refine core (fun b=>if b=P1∨b=P2 then some (.tbl #[]) else none) (.inr ⟨_,vs.toArray,_,hk,rfl,rfl,rfl,by rw [n16_,lenV];exact hl,by simpa using rv⟩) (fun b u z=>?_) (fun b u z=>?_) (if_pos (.inl rfl)) (if_pos (.inr rfl))
   · by_cases hb:b=P1∨b=P2
     · have z':=(if_pos hb).symm.trans z;cases z'
       rcases hb with rfl|rfl
       · exact T1
       · exact T2
     · have z':=(if_neg hb).symm.trans z;cases z'
   · by_cases hb:b=P1∨b=P2
     · have z':=(if_pos hb).symm.trans z;cases z'
       exact .inr ⟨hb,rfl⟩
     · have z':=(if_neg hb).symm.trans z;cases z'
 | none =>
   refine core (fun b=>if b=a then some (.frz { cls:=.type "list",data:=.seq vs.toArray } (.lst (ns.map V.int))) else if b=P1∨b=P2 then some (.tbl #[]) else none) (.inl (.inr ⟨{ cls:=.type "list",data:=.seq vs.toArray },if_pos rfl⟩)) (fun b u z=>?_) (fun b u z=>?_) ((if_neg (Ne.symm a1)).trans (if_pos (.inl rfl))) ((if_neg (Ne.symm a2)).trans (if_pos (.inr rfl)))
   · by_cases ha':b=a
     · have z':=(if_pos ha').symm.trans z;cases z'
       subst ha';exact ⟨ha,by rw [n2_];exact hl,vs,_,rv,ha⟩
     · have z:=(if_neg ha').symm.trans z
       by_cases hb:b=P1∨b=P2
       · have z':=(if_pos hb).symm.trans z;cases z'
         rcases hb with rfl|rfl
         · exact T1
         · exact T2
       · have z':=(if_neg hb).symm.trans z;cases z'
   · by_cases ha':b=a
     · have z':=(if_pos ha').symm.trans z;cases z'
       exact .inl ⟨ha',⟨_,_,rfl⟩,hk⟩
     · have z:=(if_neg ha').symm.trans z
       by_cases hb:b=P1∨b=P2
       · have z':=(if_pos hb).symm.trans z;cases z'
         exact .inr ⟨hb,rfl⟩
       · have z':=(if_neg hb).symm.trans z;cases z'
theorem Zor {l:PySem.W.OpenLaw} {n k:Nat} {q:Program} {loose:List Str} {XP:(Str→Option Value)→Heap→Prop} {YP:World→Heap→Prop} {d:DefRec} {K:Params→PySem.W.Frag} {sp:World→Sp} {x:Str} {c1 c2 P1 P2:Addr}
 (hn:l.most=some n) (hn2:n≤sizeLine) (hdf:d.params.defaults=[]) (hr:Room k callerA)
 (hY:∀ (w:World) (h:Heap),YP w h→(K w.params).In h∧h.get? P1=some (PySem.W.tabObj #[])∧h.get? P2=some (PySem.W.tabObj #[]))
 (hc:∀ P,PySem.W.codeHdIn (K P) c1 P1=true∧PySem.W.codeHdIn (K P) c2 P2=true∧(K P).lookup P1=none∧(K P).lookup P2=none)
 (F:∀ (w:World) (mg:Str→Option Value) (fa:Addr) (h:Heap),(K w.params).In h→h.Ns mainGlobals mg→mg d.name=some (.ref fa) →
   ∃ fd:FuncData,(∀ (s:Shared) (u:Value),BindsTo s fd ⟨[u],[]⟩ [(x,u)]) ∧
     ∀ base:Heap,(K w.params).In base→base.Ns mainGlobals mg→FnOk l.prog w (K w.params) mg base CX0 k fa fd [x] (sp w))
 (hsp:∀ (w:World) (H:Hp) (a:Addr) (ns:List Int),ns.length≤n→SqL (K w.params) H a (ns.map V.int)→H P1=some (.tbl #[])→H P2=some (.tbl #[])→sp w [.ref a] H (fun v _=>v=.bl true) fun _ _ _=>False) (him:importsNone q=true:=by decide +kernel) :
 PySem.W.WalkO q loose XP YP l.row.toRowW d [] (fun f vs=>PySem.call f vs):=by
 refine Att.attach_call hn hdf fun w s₀ s₁ mg mb fa o pm cd doc a vs ns G Y ho hd hcd hmg hobj hints hlen hg=>?_;obtain ⟨KX,T1,T2⟩:=hY w _ Y;obtain ⟨q1,q2,q3,q4⟩:=hc w.params;obtain ⟨fd,hb,hF⟩:=F w mg fa _ KX G.T.g hmg;exact Zni KX G.T.g G.T.b G.T.builtins G.T.nolimit (G.T.seer him) G.T.nodigits hg hobj hints (n28_ hlen hn2) hr (PySem.W.codeHd_of_K KX q1) (PySem.W.codeHd_of_K KX q2) T1 T2 q3 q4 hF hb (fun H hS=>hsp w H a ns hlen hS)
section
variable {P:Program} {w:World} {K:PySem.W.Frag} {mg:Str→Option Value} {base:Heap}
def Zha (P:Program) (w:World) (K:PySem.W.Frag) (mg:Str→Option Value) (base:Heap) (k:Nat) (a:Addr) (sp:V→Hp→VK→XK→Prop):Prop :=
 ∀ (A:Around) (outer:List Env) (s:Shared) (H:Hp) (Q:VK) (E:XK) (v:V) (u:Value),RelV v u→Room k A→Env0 P w K mg base A outer s H→sp v H Q E→codeAny (model P w) A (.call (.ref a) ⟨[u],[]⟩) (CR (CX1 P w) outer P w H s Q E) s
theorem Zqq {q:Str} {params:Arguments} {body:Expr} {scope:Scope} {clos:List (Str×Addr)} {pm:Value} {N:List Str} {k:Nat} {a:Addr} {p1:Str} {sp:V→Hp→VK→XK→Prop} (hk:scope.kind=.function) (hco:scope.isCoroutine=false) (hgen:scope.isGenerator=false)
 (hnc:∀ x∈scope.names,x.2≠.cell) (hb:∀ cd ct u,bindArgs (PySem.W.kla_fn "<lambda>" q params body scope clos pm cd ct) ⟨[u],[]⟩=pure [(p1,u)]) (hp1:scope.names.lookup p1=some .local) (inj:∀ x y c,clos.lookup x=some c→clos.lookup y=some c→x=y)
 (has:∀ x,scope.names.lookup x=some .free→∃ c,clos.lookup x=some c) (hN0:N[0]? = some p1) (hfree:∀ (i:Nat) x,N[i+1]? = some x→scope.names.lookup x=some .free)
 (hf:∀ v H Q E,sp v H Q E→LamF H a q params body scope clos pm∧∀ x c,clos.lookup x=some c→∃ o v,H c=some (fzO o)∧o.data=.cell v)
 (h:∀ (A:Around) (outer:List Env) (s:Shared) (H:Hp) (Q:VK) (E:XK) (cd:Value) (v:V),Room k (A.deeper (Znj scope s.heap.objs.size clos q a cd))→sp v H Q E →
   ∃ (σ:St) (t:TE),σ.length+1=N.length∧(∀ (i:Nat) x v,N[i+1]? = some x→σ[i]? = some (some v)→∃ c,clos.lookup x=some c∧Zoj H c v)∧PE (cxL P w K mg base N (Znj scope s.heap.objs.size clos q a cd) A outer s H E) body t∧t (some v :: σ) H Q) :
 Zha P w K mg base (k+1) a sp:=by
 intro A outer s H Q E v u rv hr e0 hs;obtain ⟨⟨c,ct,hA,oc,vs,tq,hc,hdc,hqc⟩,hcl⟩:=hf v H Q E hs;obtain ⟨σ,t,hσ,hloc,pe,ht⟩:=h A outer s H Q E (.ref c) v (hr.deeper _) hs;have lim:s.heap.NoLimit:=e0.mod.nolimit.keeps fun b o e=>(e0.bs b o e).1;refine PySem.W.kla_callFunE hr.depth (e0.hok a _ hA).1 rfl hco hgen rfl ⟨c,oc,vs,tq,rfl,(e0.hok c _ hc).1,hdc,hqc⟩ ?_;rw [hb];refine n25_ (wpAny_newFunctionEnv hnc (fun x hx=>by rw [n15_.mp hx];exact hp1) (fun h1 hn sb=>?_) hk);have kp:∀ b o,s.heap.get? b=some o→h1.get? b=some o:=fun b o e=>(sb.2 b (n51_ (n21_ e))).trans (n7_ _ e)
 have cel:∀ {x:Str} {d:Addr},clos.lookup x=some d→∃ v,h1.IsCell d v:=fun {x d} e=>by
  obtain ⟨o,v,h1',h2⟩:=hcl x d e;exact ⟨v,o,kp _ _ (e0.hok d _ h1').1,h2⟩
 have nil:∀ b:Addr,b∉([]:List Addr):=fun b z=>by simp at z
 have I:Inv (cxL P w K mg base N (Znj scope s.heap.objs.size clos q a (.ref c)) A outer s H E) [] (some v :: σ) H { s with heap:=h1,toks:=s.toks+([(p1,u)]:List (Str×Value)).length }:=by
  refine ⟨⟨e0.mod,hk,rfl,rfl,n9_ _,inj,fun x hx=>?_,fun x d z _=>(nomatch z),fun _=>hr.hd,Around.frames_deeper e0.frames,.inr ⟨rfl,rfl⟩,fun b z=>absurd z (nil b),e0.bs,e0.bsz,fun b _ _=>nil b,fun b z=>absurd z (nil b),e0.funs,e0.frf⟩,
   rfl,e0.bare,Un.kept kp,⟨_,hn,fun i x v' e1 e2 _=>?_⟩,fun x d e=>cel e,e0.hok.fresh (n9_ _),fun x d e=>?_,fun p hp=>absurd (show p∈([]:List (Addr×Obj)) from hp) (by simp),e0.hok.kept kp,hσ⟩
  · rcases hx with z|z
    · exact absurd rfl (hnc _ (n39_ (show scope.names.lookup x=some .cell from z)))
    · exact has x z
  · cases i with
    | zero =>
      have ex:p1=x:=Option.some.inj (hN0.symm.trans e1);subst ex;cases e2
      exact ⟨u,rv,.inl ⟨hp1,by simp⟩⟩
    | succ i =>
      obtain ⟨d,e3,o,u',e4,e5,r⟩:=hloc i x v' e1 (by simpa using e2);exact ⟨u',r,.inr ⟨.inr (hfree i x e1),d,e3,o,kp _ _ (e0.hok d _ e4).1,e5⟩⟩
  · obtain ⟨o,v,e1,_⟩:=hcl x d e;exact .inr ⟨rfl,o,_,e1⟩
 refine ⟨lim.keeps kp,PySem.W.kla_codeExpr ?_⟩;refine wpAny_mono (pe [] _ _ H _ I ht) (fun u s' hq=>?_) fun e s' hq=>hq;obtain ⟨v,H',J,r,q'⟩:=hq;exact ⟨v,H',J.os,J.bare,J.base,J.hok,r,q'⟩
end
def mk (kf:Int→Int) (x:Int) (xs:List Int):Int:=xs.foldl (fun b y=>if kf y<kf b then y else b) x
theorem Zq3 {kf:Int→Int} {x y:Int} {xs:List Int}:mk kf x (xs++[y])=if kf y<kf (mk kf x xs) then y else mk kf x xs:=by
 unfold mk;rw [n74_];rfl
theorem Zqf {kf:Int→Int} {x:Int}:∀ (xs:List Int),mk kf x xs∈x :: xs:=fun xs=>by
 induction xs generalizing x with
 | nil=>exact n5_
 | cons y ys ih =>
   have h:=ih (x:=if kf y<kf x then y else x);show mk kf (if kf y<kf x then y else x) ys∈_
   rcases n34_.mp h with h|h
   · rw [h];split
     · exact n3_ _ n5_
     · exact n5_
   · exact n3_ _ (n3_ _ h)
abbrev sO (a b:Value) (c:Nat):Obj:={ cls:=.type "list",dict:=none,data:=.seq #[a,b] c,slots:=#[] }
abbrev XF:XK:=fun _ _ _=>False
structure MinK (X:Cx) (pins:List (Addr×Obj)) (H:Hp) (l q I S:Addr) (x0:Int) (xs:List Int) (kf:Int→Int) (k:Nat) (sp:V→Hp→VK→XK→Prop):Prop where
 hc:X.calm=true
 hr:Room (k+1) X.A
 L:Zha X.prog X.w X.K X.mg X.base k q sp
 hs:∀ i∈x0 :: xs,sp (.int i) H (fun v H'=>v=.int (kf i)∧H'=H) XF
 hl:SqL X.K H l ((x0 :: xs).map V.int)
 fI:FpOk X pins H I
 fS:FpOk X pins H S
 nI:l≠I
 nS:S≠I
section
variable {X:Cx} {pins:List (Addr×Obj)} {σ:St} {H:Hp} {l q I S:Addr} {x0:Int} {xs:List Int} {kf:Int→Int} {k:Nat} {sp:V→Hp→VK→XK→Prop}
theorem MinK.key (M:MinK X pins H l q I S x0 xs kf k sp) {s:Shared} {oI oS:Obj} {i:Int} {v:Value} (J:Inv X pins σ H s) (hi:i∈x0 :: xs) (rv:RelV (.int i) v) (gI:s.heap.get? I=some oI) (gS:s.heap.get? S=some oS) (dI:∀ v,oI.data≠.cell v) (dS:∀ v,oS.data≠.cell v) {Q:Value→Shared→Prop} {E:Value→Shared→Prop}
 (h:∀ t s',Inv X pins σ H s'→s'.heap.get? I=some oI→s'.heap.get? S=some oS→Q (.int (kf i) t) s'):wpAny (model X.prog X.w) X.A.in1 (call (.ref q) [v]) Q E s:=by
 have Jp:Inv X ((I,oI) :: (S,oS) :: pins) σ H s:=J.pins_of fun p hp=>by
  rcases n34_.mp hp with rfl|hp
  · exact ⟨gI,M.fI.1,M.fI.2.1,M.fI.2.2.1,dI⟩
  · rcases n34_.mp hp with rfl|hp
    · exact ⟨gS,M.fS.1,M.fS.2.1,M.fS.2.2.1,dS⟩
    · exact J.pin p (n24_ _ hp)
 have e:=J.env0;refine wpAny_call (codeAny_mono (M.L X.A.in1 X.stack s H _ _ (.int i) v rv M.hr.in1 ⟨e.frames,e.mod,e.bs,e.bsz,e.funs,e.frf,e.hok,e.bare⟩ (M.hs i hi)) fun r s' hq=>?_);cases r with
 | error e=>obtain ⟨ea,T,C,H',_,_,_,_,_,_,_,_,z⟩:=hq;exact z.elim
 | ok fl =>
   cases fl with
   | ret u =>
     obtain ⟨v',H',J',r',rfl,rfl⟩:=Jp.after hq;obtain ⟨t,rfl⟩:=r';refine h t s' (J'.pins_of fun p hp=>J'.pin p (n24_ _ (n3_ _ (n3_ _ hp)))) ?_ ?_
     · exact (J'.pin (I,oI) (n24_ _ n5_)).1
     · exact (J'.pin (S,oS) (n24_ _ (n3_ _ n5_))).1
   | next=>exact False.elim hq
   | brk=>exact False.elim hq
   | cont=>exact False.elim hq
theorem Zhg {h:Heap} {I l:Addr} {n:Nat} (x:h.IsListIter I l n):∃ o,h.get? I=some o∧(∀ v,o.data≠.cell v)∧∀ h':Heap,h'.get? I=some o→h'.IsListIter I l n:=by
 obtain ⟨o,e,c,d⟩:=x;exact ⟨o,e,fun v z=>(by rw [d] at z;cases z),fun h' e'=>⟨o,e',c,d⟩⟩
theorem Zri {a b:Value} {c:Nat}:∀ v,(sO a b c).data≠.cell v:=fun v z=>by cases (show Data.seq _ _=Data.cell v from z)
theorem Zq9 {R:Result→Shared→Prop} {d:Value} (M:MinK X pins H l q I S x0 xs kf k sp)
 (hR:∀ t s',Inv X pins σ H s'→R (.ok (.ret (.int (mk kf x0 xs) t))) s') :
 ∀ (r j:Nat) (s:Shared) (ti tb:Tok) (c:Nat),xs.length-j=r→j≤xs.length→Inv X pins σ H s→s.heap.IsListIter I l (j+1)→s.heap.get? S=some (sO (.int (mk kf x0 (xs.take j)) ti) (.int (kf (mk kf x0 (xs.take j))) tb) c) →
   codeAny (model X.prog X.w) X.A (.builtin "min.loop" ⟨[.ref I,.ref q,.ref S],[("default",d)]⟩) R s:=by
 have hh:X.A.in1.handled=none:=M.hr.hd;intro r
 induction r with
 | zero =>
   intro j s ti tb c hr hj J hit gS;have ej:j=xs.length:=by omega
   obtain ⟨its,rv,pl,_⟩:=J.list M.hl;have hln:its.toArray.size=xs.length+1:=by have:=rv.length;simpa using this.symm
   have W:=Walks.list (prog:=X.prog) (w:=X.w) hh I l M.nI its.toArray;refine codeAny_builtin PySem.F.entry_min_loop ?_;rw [Around.under_plainId PySem.F.plain_min_loop _];show wpAny _ X.A.in1 (seqItems? (.ref S) >>= _) _ _ _
   refine n6_ (wpAny_seqItems gS rfl ?_);show wpAny _ X.A.in1 (tryCatch (pyNext (.ref I)) _ >>= _) _ _ _
   refine n6_ (wpAny_tryCatch (W.done _ _ _ ⟨by rw [hln,← ej];exact hit,pl.isList⟩ fun h' tk' hk'=>?_));have gS':=hk' S _ (by simpa using M.nS) gS;show wpAny _ X.A.in1 (updateSeq S (fun _=>#[]) >>= _) _ _ _
   refine n6_ ?_;refine wpAny_updateSeq gS' rfl (n6_ (wpAny_letGo (n25_ ?_)));rw [ej,n61_];have J1:Inv X pins σ H { s with heap:=h',toks:=tk' }:=J.turnOnly (ch:=[I]) (fun b u hb e=>hk' b u hb e) fun b hb=>by rw [n15_.mp hb];exact M.fI
   exact hR ti _ (J1.turnOnly (ch:=[S]) (fun b u hb e=>(n78_ _ _ (by simpa [eq_comm] using hb)).trans e) fun b hb=>by rw [n15_.mp hb];exact M.fS)
 | succ r ih =>
   intro j s ti tb c hr hj J hit gS;have hlt:j<xs.length:=by omega
   obtain ⟨its,rv,pl,_⟩:=J.list M.hl;have hln:its.toArray.size=xs.length+1:=by have:=rv.length;simpa using this.symm
   have W:=Walks.list (prog:=X.prog) (w:=X.w) hh I l M.nI its.toArray;refine codeAny_builtin PySem.F.entry_min_loop ?_;rw [Around.under_plainId PySem.F.plain_min_loop _];show wpAny _ X.A.in1 (seqItems? (.ref S) >>= _) _ _ _
   refine n6_ (wpAny_seqItems gS rfl ?_);show wpAny _ X.A.in1 (tryCatch (pyNext (.ref I)) _ >>= _) _ _ _
   refine n6_ (wpAny_tryCatch (W.item (j+1) _ _ _ (by rw [hln];omega) ⟨hit,pl.isList⟩ fun v h' tk' hP hst' hk'=>?_));have hv:its[j+1]? = some v:=by simpa using hP
   have hi:((x0 :: xs).map V.int)[j+1]? = some (.int xs[j]):=by simp [hlt]
   obtain ⟨u,eu,ru⟩:=rv.get hi;rw [hv] at eu;cases eu
   have gS':=hk' S _ (by simpa using M.nS) gS;have J1:Inv X pins σ H { s with heap:=h',toks:=tk' }:=J.turnOnly (ch:=[I]) (fun b u hb e=>hk' b u hb e) fun b hb=>by rw [n15_.mp hb];exact M.fI
   obtain ⟨oI,gI,dI,kI⟩:=Zhg hst'.1;show wpAny _ X.A.in1 (tryCatch (holding [v] (call (.ref q) [v])) _ >>= _) _ _ _
   refine n6_ (wpAny_tryCatch (n99_ (M.key J1 (n3_ _ (n13_ hlt)) ru gI gS' dI Zri fun t2 s2 J2 gI2 gS2=>?_)));obtain ⟨t1,rfl⟩:=ru;show wpAny _ X.A.in1 (tryCatch (holding [_,.int (kf xs[j]) t2] (richCompare .Lt (.int (kf xs[j]) t2) (.int (kf (mk kf x0 (xs.take j))) tb) >>= _)) _ >>= _) _ _ _
   refine n6_ (wpAny_tryCatch (n99_ (n6_ (CmpOf.ints_lt (prog:=X.prog) (w:=X.w) (A:=X.A.in1) (P:=fun i v=>∃ t,v=.int ([kf xs[j],kf (mk kf x0 (xs.take j))].getD i 0) t) (fun i=>[kf xs[j],kf (mk kf x0 (xs.take j))].getD i 0) (fun i v h=>h) 0 1 _ _ _ _ _ ⟨t2,rfl⟩ ⟨tb,rfl⟩ ?_))));refine n6_ (n99_ (wpAny_truthy_bool ?_));refine n6_ (wpAny_letGo (n25_ ?_))
   have stp:mk kf x0 (xs.take (j+1))=if kf xs[j]<kf (mk kf x0 (xs.take j)) then xs[j] else mk kf x0 (xs.take j):=by
    rw [n36_ hlt,Zq3]
   show wpAny _ X.A.in1 (if decide (kf xs[j]<kf (mk kf x0 (xs.take j)))=true then _ else _) _ _ _
   by_cases hb:kf xs[j]<kf (mk kf x0 (xs.take j))
   · rw [if_pos hb] at stp;rw [if_pos (n32_ hb)];obtain ⟨c2,hc2⟩:∃ c2,(s2.heap.update S (Obj.mapSeq fun _=>#[.int xs[j] t1,.int (kf xs[j]) t2])).get? S=some (sO (.int xs[j] t1) (.int (kf xs[j]) t2) c2):=⟨_,get?_update_seq gS2 fun _=>#[.int xs[j] t1,.int (kf xs[j]) t2]⟩;refine n6_ ?_;refine wpAny_updateSeq gS2 rfl (n6_ (wpAny_letGo ?_));rw [Zky];refine n25_ ⟨plainId_quiet PySem.F.plain_min_loop _,ih (j+1) _ t1 t2 c2 (by omega) hlt (J2.turnOnly (ch:=[S]) (fun b u hb e=>(n78_ _ _ (by simpa [eq_comm] using hb)).trans e) fun b hb=>by rw [n15_.mp hb];exact M.fS) (kI _ ((n78_ _ _ M.nS).trans gI2)) ?_⟩;rw [stp];exact hc2
   · rw [if_neg hb] at stp;rw [if_neg (by rw [n30_ hb];decide)];refine n6_ (wpAny_letGo ?_);rw [Zky];refine n25_ ⟨plainId_quiet PySem.F.plain_min_loop _,ih (j+1) _ ti tb c (by omega) hlt J2 (kI _ gI2) ?_⟩;rw [stp];exact gS2
theorem Zlo (a v d:Value):argsOk "min" ⟨[a],[("key",v),("default",d)]⟩:=by unfold argsOk;kernel_rfl
def minV (kf:Int→Int):List Int→V
 | []=>.non
 | x :: xs=>.int (mk kf x xs)
theorem Zl6 {s:Shared} {ns:List Int} {Q:Value→Shared→Prop} {E:Value→Shared→Prop} (J:Inv X pins σ H s) (hc:X.calm=true) (hr:Room (k+1) X.A) (L:Zha X.prog X.w X.K X.mg X.base k q sp)
 (hs:∀ i∈ns,sp (.int i) H (fun v H'=>v=.int (kf i)∧H'=H) XF) (hl:SqL X.K H l (ns.map V.int)) (hQ:∀ v s',RelV (minV kf ns) v→Inv X pins σ H s'→Q v s') :
 wpAny (model X.prog X.w) X.A (call (.builtin "min") [.ref l] [("key",.ref q),("default",.none)]) Q E s:=by
 have hh:X.A.in1.handled=none:=hr.hd;obtain ⟨its,rv,pl,_⟩:=J.list hl;have ll:l<s.heap.objs.size:=let ⟨o,_,e,_⟩:=pl;n21_ e;refine kmk_tree PySem.F.kind_min PySem.F.plain_min PySem.F.entry_min (Zlo _ _ _) ?_;show wpAny _ X.A.in1 (Builtin.Builtins.bindParams "min" ["key","default"] 0 ⟨[],[("key",.ref q),("default",.none)]⟩ >>= _) _ _ s
 refine n6_ (wpAny_of_eq (show Builtin.Builtins.bindParams "min" ["key","default"] 0 ⟨[],[("key",.ref q),("default",.none)]⟩=pure [some (.ref q),some .none] from rfl) ?_);refine n6_ (n25_ ?_);refine n6_ (wpAny_pyIter_list pl.isList ?_);refine n6_ (wpAny_newList ?_ (n60_ _));rw [Zky];generalize hI:s.heap.objs.size=I;have sS:(s.heap.push { cls:=.type "list_iterator",data:=.fields #[.ref l,.int 0 0] }).objs.size=I+1:=by rw [← hI];exact size_push' ..
 generalize hh1:((s.heap.push { cls:=.type "list_iterator",data:=.fields #[.ref l,.int 0 0] }).push { cls:=.type "list",data:=.seq [].toArray:Obj })=h1;refine n25_ ⟨plainId_quiet PySem.F.plain_min_loop _,?_⟩;have kp:∀ b o,s.heap.get? b=some o→h1.get? b=some o:=fun b o e=>by rw [← hh1];exact n7_ _ (n7_ _ e)
 have J1:Inv X pins σ H { s with heap:=h1 }:=J.kept (t':=s.toks) kp;have fI:FpOk X pins H I:=J.fpOk (Nat.le_of_eq hI) (J.hok.fresh (Nat.le_of_eq hI));have fS:FpOk X pins H (I+1):=J.fpOk (by omega) (J.hok.fresh (by omega));have gI:h1.IsListIter I l 0:=⟨_,by rw [← hh1,← hI];exact n7_ _ (n17_ _ rfl),rfl,rfl⟩;have gS:h1.get? (I+1)=some { cls:=.type "list",dict:=none,data:=.seq #[] 0,slots:=#[] }:=by rw [← hh1,← sS];exact n17_ _ rfl
 have pl1:h1.IsList l its.toArray:=by obtain ⟨o,n,e,r⟩:=pl;exact PlainL.isList ⟨o,n,kp _ _ e,r⟩
 have nI:l≠I:=by rw [← hI];exact n51_ ll
 have nS:I+1≠I:=by omega
 have W:=Walks.list (prog:=X.prog) (w:=X.w) hh I l nI its.toArray;have hln:=rv.length;refine codeAny_builtin PySem.F.entry_min_loop ?_;rw [Around.under_plainId PySem.F.plain_min_loop _];rw [sS];show wpAny _ X.A.in1 (seqItems? (.ref (I+1)) >>= _) _ _ _
 refine n6_ (wpAny_seqItems gS rfl ?_);show wpAny _ X.A.in1 (tryCatch (pyNext (.ref I)) _ >>= _) _ _ _
 cases ns with
 | nil =>
   have e0:its.toArray.size=0:=by simpa using hln.symm
   refine n6_ (wpAny_tryCatch (W.done _ _ _ ⟨by rw [e0];exact gI,pl1⟩ fun h' tk' hk'=>?_));have J2:=J1.turnOnly (h':=h') (t':=tk') (ch:=[I]) (fun b u hb e=>hk' b u hb e) fun b hb=>by rw [n15_.mp hb];exact fI
   have fin:=hQ .none _ rfl J2;dsimp only
   repeat (any_goals (first|assumption|wp_step))
 | cons x0 xs =>
   have M:MinK X pins H l q I (I+1) x0 xs kf k sp:=⟨hc,hr,L,hs,hl,fI,fS,nI,nS⟩
   have e0:0<its.toArray.size:=by
    have:(x0 :: xs).length=its.length:=by simpa using hln
    rw [n16_,← this];simp
   refine n6_ (wpAny_tryCatch (W.item 0 _ _ _ e0 ⟨gI,pl1⟩ fun v h' tk' hP hst' hk'=>?_));have hv:its[0]? = some v:=by simpa using hP
   have hi:((x0 :: xs).map V.int)[0]? = some (.int x0):=rfl;obtain ⟨u,eu,ru⟩:=rv.get hi;rw [hv] at eu;cases eu
   have gS':=hk' (I+1) _ (by simp) gS;have J2:=J1.turnOnly (h':=h') (t':=tk') (ch:=[I]) (fun b u hb e=>hk' b u hb e) fun b hb=>by rw [n15_.mp hb];exact fI
   obtain ⟨oI,gI',dI,kI⟩:=Zhg hst'.1;show wpAny _ X.A.in1 (tryCatch (holding [v] (call (.ref q) [v])) _ >>= _) _ _ _
   refine n6_ (wpAny_tryCatch (n99_ (M.key J2 n5_ ru gI' gS' dI (fun v z=>by cases (show Data.seq _ _=Data.cell v from z)) fun t2 s2 J3 gI2 gS2=>?_)));obtain ⟨t1,rfl⟩:=ru;obtain ⟨c2,hc2⟩:∃ c2,(s2.heap.update (I+1) (Obj.mapSeq fun _=>#[.int x0 t1,.int (kf x0) t2])).get? (I+1)=some (sO (.int x0 t1) (.int (kf x0) t2) c2):=⟨_,get?_update_seq gS2 fun _=>#[.int x0 t1,.int (kf x0) t2]⟩;show wpAny _ X.A.in1 (updateSeq (I+1) (fun _=>#[.int x0 t1,.int (kf x0) t2]) >>= _) _ _ _
   refine n6_ ?_;refine wpAny_updateSeq gS2 rfl ?_;rw [Zky];refine n25_ ⟨plainId_quiet PySem.F.plain_min_loop _,Zq9 M (fun t s' J'=>hQ _ s' ⟨t,rfl⟩ J') _ 0 _ t1 t2 c2 rfl (n60_ _) (J3.turnOnly (ch:=[I+1]) (fun b u hb e=>(n78_ _ _ (by simpa [eq_comm] using hb)).trans e) fun b hb=>by rw [n15_.mp hb];exact fS) (kI _ ((n78_ _ _ nS).trans gI2)) hc2⟩
end
section
variable {M:Model} {A:Around} {E:Value→Shared→Prop} {s:Shared}
theorem Ztk {pos:Pos} {T:String} {xs:List (Bool×Sem Value)} {kw:List (Option Str×Sem Value)} {Q:Value→Shared→Prop} (h1:xs.any (·.1)=false) (h2:kw.any (·.1.isNone)=false)
 (h:wpAny M A (evalArgs (.builtin T) true xs kw) (fun z s₁=>wpAny M A (call (.builtin T) ([]++z.pos) z.kw) Q E s₁) E s):wpAny M A (callWith pos (.builtin T) [] xs kw) Q E s:=by
 unfold callWith;refine n6_ (n99_ (thn h fun z s₁ q=>n6_ (wpAny_standAt ?_)));simp only [h1,h2,Bool.or_false];refine n6_ (n25_ ?_);exact n6_ (thn q fun r s₂ hr=>n6_ (n99_ (wpAny_point (n25_ hr))))
end
section
variable {X:Cx}
def Ztj (P:Program) (w:World) (K:PySem.W.Frag) (mg:Str→Option Value) (base:Heap) (k:Nat) (te:TA) (tl:TE):TE:=fun σ H Q=>te σ H fun xs H1=>tl σ H1 fun y H2=>∃ (l q:Addr) (ns:List Int) (sp:V→Hp→VK→XK→Prop) (kf:Int→Int),xs=[.ref l]∧y=.ref q∧SqL K H2 l (ns.map V.int)∧Zha P w K mg base k q sp∧(∀ i∈ns,sp (.int i) H2 (fun v H'=>v=.int (kf i)∧H'=H2) XF)∧Q (minV kf ns) H2
theorem Zqh {e le:Expr} {te:TA} {tl:TE} {p pos kp kp2 cp:Pos} {i j k:Nat} (P:Program) (w:World) (K:PySem.W.Frag) (mg:Str→Option Value) (base:Heap) (hp:X.prog=P∧X.w=w∧X.K=K∧X.mg=mg∧X.base=base) (hc:X.calm=true) (hr:Room j X.A) (hj:k+1≤j) (hg:Gl X "min") (hm:X.mg "min" = none) (hv:bootBuiltins "min" = some (.builtin "min"))
 (ha:PA X [e] te) (hl:PE X le tl) (hs:starEach [e] X.env=[(false,eval e X.env)]:=by rfl) :
 PE X (.Call (.Name "min" p) [e] [⟨some "key",le,kp⟩,⟨some "default",.Constant .none i cp,kp2⟩] pos) (Ztj P w K mg base k te tl):=by
 obtain ⟨rfl,rfl,rfl,rfl,rfl⟩:=hp;intro pins s σ H Q I h;refine wpAny_Call_Name_kw (Zax I hg hm hv ?_);refine Ztk (by rw [hs];rfl) rfl ?_;rw [hs];refine evalArgs_kwB rfl ?_;have h2:=ha pos pins s σ H _ I h;rw [hs] at h2;refine thn h2 fun us s1 ⟨vs,H1,I1,r1,q1⟩=>?_;refine kws_cons (thn (hl pins s1 σ H1 _ I1 q1) fun v s2 ⟨y,H2,I2,ry,l,q,ns,sp,kf,e1,e2,sq,L,hk,hq⟩=>?_);subst e1 e2;obtain rfl:v=.ref q:=ry;cases r1 with
 | cons r rr =>
   cases rr
   cases r
   refine kws_cons (Zc6 pins s2 σ H2 (fun v H'=>v=.non∧H'=H2) I2 ⟨rfl,rfl⟩ |> fun z=>thn z fun v3 s3 ⟨x3,H3,I3,rx,ex,eH⟩=>?_);subst ex eH;obtain rfl:v3=.none:=rx;refine kws_nil ?_;exact Zl6 I3 hc (hr.mono hj) L hk sq fun v s' rv J=>⟨_,H3,J,rv,hq⟩
end
theorem Zat {J:It} {n:Nat} {D:Addr} {g:TG} {tt:TT} {te:TE} {σ0:St} {H:Hp} {Q:VK} {α:Type} (R:Hp→V→α→Prop) (hR:∀ H1 H2 v x,Keep D H1 H2→(∃ ws,H1 D=some (.lst ws))→R H1 v x→R H2 v x) (f:Nat→Option α) (hz:n≤1000) (Ok:St→Prop) (h0:Ok σ0) (hD:H D=none)
 (hgo:∀ i H2,Same H H2→i<n→J.go i H2) (hst:∀ H2,Same H H2→J.stop n H2)
 (hs:∀ (i:Nat) (x:V) (σ2:St) (H2 H3:Hp) (C:St→V→Hp→Prop) (N:St→Hp→Prop),i<n→Same H H2→(∃ ws,H2 D=some (.lst ws))→J.yld i H2 x H3→Ok σ2→(∀ σ4 y H5 z,Ok σ4→Same H2 H5→f i=some z→R H5 y z→C σ4 y H5)→(∀ σ4 H5,Ok σ4→Same H2 H5→f i=none→N σ4 H5) →
   g x σ2 H3 fun σ4 H4=>tt σ4 H4 fun b H5=>if b=true then te σ4 H5 (C σ4) else N σ4 H5)
 (hd:∀ H2 us,Same H H2→H2 D=some (.lst us)→Al (R H2) us ((List.range n).filterMap f)→Q (.ref D) H2):LcGo J g tt te σ0 H D Q:=by
 refine Znk (n:=n) (fun i σ H2=>Same H H2∧Ok σ∧∃ us,H2 D=some (.lst us)∧us.length≤i∧Al (R H2) us ((List.range i).filterMap f)) ⟨Same.new hD,h0,[],Ze,n9_ _,.nil⟩
  (fun i σ H2 hi p=>hgo i H2 p.1 hi) (fun σ H2 p=>hst H2 p.1) (fun i x σ2 H2 H3 hi y p=>?_) (fun σ2 H2 p=>?_)
 · obtain ⟨s2,ok,us,e2,l2,a2⟩:=p
   have rg:(List.range (i+1)).filterMap f=(List.range i).filterMap f++(f i).toList:=by
    rw [n92_,List.filterMap_append];cases e:f i<;>simp [e]
   refine hs i x σ2 H2 H3 _ _ hi s2 ⟨us,e2⟩ y ok (fun σ4 v H5 z ok4 s5 ez rz=>?_) (fun σ4 H5 ok4 s5 ez=>?_)
   · have e5:H5 D=some (.lst us):=s5 _ _ e2;refine ⟨us,e5,by rw [sizeLine_eq];omega,n-(i+1),by omega,by omega,rfl,fun b o e=>?_,ok4,us++[v],Ze,by simp;omega,?_⟩
     · rw [Zp (Zl e hD)];exact s5 _ _ (s2 _ _ e)
     · rw [rg,ez];exact (a2.imp fun v x r=>hR _ _ v x Keep.upd ⟨_,e5⟩ (hR _ _ v x s5.keep ⟨_,e2⟩ r)).snoc (hR _ _ _ _ Keep.upd ⟨_,e5⟩ rz)
   · refine ⟨n-(i+1),by omega,by omega,rfl,s2.trans s5,ok4,us,s5 _ _ e2,by omega,?_⟩;rw [rg,ez];simp only [Option.toList,List.append_nil];exact a2.imp fun v x r=>hR _ _ v x s5.keep ⟨_,e2⟩ r
 · obtain ⟨s2,_,us,e2,_,a2⟩:=p;exact hd H2 us s2 e2 a2
section
variable {X:Cx} {tg:Expr}
def iAny (K:PySem.W.Frag) (tl:TE):TI:=fun σ H R=>tl σ H fun x H1=>∃ (a:Addr) (k:SK),x=.ref a∧(∃ xs,k.Sq K H1 a xs)∧R (k.Itk K a) H1
theorem Zbs (K:PySem.W.Frag) {l:Expr} {tl:TE} (h:X.K=K) (hl:PE X l tl):PI X tg l (iAny K tl):=by
 subst h;intro pins s σ H R I h;refine thn (hl pins s σ H _ I h) fun v s1 ⟨x,H1,I1,r1,q1⟩=>?_;obtain ⟨a,k,e,⟨xs,hq⟩,q⟩:=q1;subst e;cases r1
 have fp:∀ b∈[s1.heap.objs.size],FpOk X pins H1 b:=fun b hb=>by
  have e:b=s1.heap.objs.size:=by simpa using hb
  subst e;exact I1.fpOk (n9_ _) (I1.hok.fresh (n9_ _))
 cases k with
 | l =>
   obtain ⟨its,rv,p,hz⟩:=I1.list (show SqL X.K H1 a xs from hq);refine wpAny_pyIter_list p.isList ?_;exact ⟨s1.heap.objs.size,[s1.heap.objs.size],_,_,H1,rfl,I1.kept (t':=s1.toks) fun b o e=>n7_ _ e,Zih a _,⟨_,n17_ _ rfl,rfl,rfl⟩,fp,q⟩
 | t =>
   obtain ⟨its,rv,p,hz⟩:=I1.tuple (show SqT X.K H1 a xs from hq);refine wpAny_pyIter_tuple (show s1.heap.IsTuple a its.toArray from p) ?_;exact ⟨s1.heap.objs.size,[s1.heap.objs.size],_,_,H1,rfl,I1.kept (t':=s1.toks) fun b o e=>n7_ _ e,Zfa a _,⟨_,n17_ _ rfl,rfl,rfl⟩,fp,q⟩
end
section
variable {X:Cx} {es:List Expr} {x1:Nat} {tp:Pos}
def Zta (K:PySem.W.Frag) (ta:TA):TI:=fun σ H R=>ta σ H fun vs H1=>∃ (a b:Addr) (k l:SK),vs=[.ref a,.ref b]∧(∃ xs,k.Sq K H1 a xs)∧(∃ ys,l.Sq K H1 b ys)∧R (Itz k l K a b) H1
theorem Zi1 {a b:Expr} {ta:TA} {p pos:Pos} (hg:Gl X "zip") (hm:X.mg "zip" = none) (ha:PA X [a,b] ta) (hs:starEach [a,b] X.env=[(false,eval a X.env),(false,eval b X.env)]:=by rfl) (hs2:starEach [b] X.env=[(false,eval b X.env)]:=by rfl) :
 PI X (.Tuple es x1 tp) (.Call (.Name "zip" p) [a,b] [] pos) (Zta X.K ta):=by
 intro pins s σ H R I h;refine Call_ (Zax I hg hm Zhr (n59_ (thn (ha pos pins s σ H _ I h) fun us s1 ⟨vs,H1,I1,r1,q1⟩=>?_) (by rw [hs,hs2]) (by rw [hs2];rfl)));obtain ⟨a,b,k,l,e,⟨xs,hx⟩,⟨ys,hy⟩,q⟩:=q1;subst e;cases r1 with
 | cons r rr =>
   cases rr with
   | cons r' rr =>
     cases rr
     cases r
     cases r'
     obtain ⟨us,ru,pu⟩:=hx.is I1;obtain ⟨ws,rw',pw⟩:=hy.is I1;have la:a<s1.heap.objs.size:=by obtain ⟨_,_,e,_⟩:=pu.ex;exact n21_ e
     have lb:b<s1.heap.objs.size:=by obtain ⟨_,_,e,_⟩:=pw.ex;exact n21_ e
     refine Zj8 pu pw fun h1 m1 m2 m3 m4 m5 m6 m7=>wpAny_pyIter_zip m1 ?_;have I2:Inv X pins σ H1 { s1 with heap:=h1,toks:=s1.toks }:=I1.kept m7;refine ⟨_,_,_,_,H1,rfl,I2,Zkr (z:=s1.heap.objs.size+4) (t:=s1.heap.objs.size+2) (o:=s1.heap.objs.size+3) (i:=s1.heap.objs.size) (j:=s1.heap.objs.size+1) (k:=k) (l:=l) (a:=a) (b:=b) ?_,⟨m1,m2,⟨_,_,m3⟩,m4,m5⟩,?_,q⟩
     · exact Zp4 la lb
     · have f1:=I1.fps (fp:=[s1.heap.objs.size+4,s1.heap.objs.size+2,s1.heap.objs.size+3,s1.heap.objs.size,s1.heap.objs.size+1]) (by
        intro e he;simp only [n34_,n48_,or_false] at he
        rcases he with rfl|rfl|rfl|rfl|rfl<;>omega)
       exact f1
def Zs8 (K:PySem.W.Frag) (ta:TA):TI:=fun σ H R=>ta σ H fun vs H1=>∃ (a:Addr) (k:SK),vs=[.ref a]∧(∃ xs,k.Sq K H1 a xs)∧R (Ite k K a) H1
theorem Zkt {a:Expr} {ta:TA} {p pos:Pos} (hg:Gl X "enumerate") (hm:X.mg "enumerate" = none) (ha:PA X [a] ta) (hs:starEach [a] X.env=[(false,eval a X.env)]:=by rfl) :
 PI X (.Tuple es x1 tp) (.Call (.Name "enumerate" p) [a] [] pos) (Zs8 X.K ta):=by
 intro pins s σ H R I h;refine Call_ (Zax I hg hm Zfc (n59_ (thn (ha pos pins s σ H _ I h) fun us s1 ⟨vs,H1,I1,r1,q1⟩=>?_) hs rfl));obtain ⟨a,k,e,⟨xs,hx⟩,q⟩:=q1;subst e;cases r1 with
 | cons r rr =>
   cases rr
   cases r
   obtain ⟨us,ru,pu⟩:=hx.is I1;have la:a<s1.heap.objs.size:=by obtain ⟨_,_,e,_⟩:=pu.ex;exact n21_ e
   refine Zib pu fun h1 m1 m4 m7=>wpAny_pyIter_enum m1 ?_;have I2:Inv X pins σ H1 { s1 with heap:=h1,toks:=s1.toks }:=I1.kept m7;obtain ⟨z1,z2,z3⟩:=ne3 la;refine ⟨_,_,_,_,H1,rfl,I2,Zh5 (e:=s1.heap.objs.size+1) (it:=s1.heap.objs.size) (k:=k) (a:=a) z1 z2 z3,⟨⟨_,m1⟩,m4⟩,?_,q⟩
   exact I1.fps (fp:=[s1.heap.objs.size+1,s1.heap.objs.size]) (by
    intro e he;simp only [n34_,n48_,or_false] at he
    rcases he with rfl|rfl
    · exact Nat.le_succ _
    · exact n9_ _)
end
def rIxA (K:PySem.W.Frag):R2:=fun x y H Q=>∃ (p:Addr) (xs:List V) (i:Int) (v:V) (k:SK),x=.ref p∧y=.int i∧k.Sq K H p xs∧atI xs i=some v∧Q v H
theorem Zl0 (K:PySem.W.Frag) {X:Cx} (h:X.K=K):IxR X (rIxA K):=by
 subst h;intro value slice pins s σ H x y v u Q I rx ry q hs;obtain ⟨p,xs,i,w,k,e1,e2,hq,he,q⟩:=q;cases k with
 | l=>exact Z2 value slice pins s σ H x y v u Q I rx ry ⟨p,xs,i,w,e1,e2,hq,he,q⟩ hs
 | t=>exact Yp value slice pins s σ H x y v u Q I rx ry ⟨p,xs,i,w,e1,e2,hq,he,q⟩ hs
def Itv (K:PySem.W.Frag) (a:Addr) (n:Nat):It :=
 ⟨fun i H=>∃ xs x,SqL K H a xs∧i<n∧xs[n-1-i]? = some x,fun i H v H'=>H'=H∧∀ xs,SqL K H a xs→xs[n-1-i]? = some v,fun i _=>i=n⟩
theorem Zov {P:Program} {w:World} {K:PySem.W.Frag} {tg:Expr} (a it:Addr) (n:Nat):Turn P w K tg (Itv K a n) [it] it (fun i h=>h.IsRevIter it a ((n:Int)-1-i)) where
 mem:=by simp
 obj:=fun i h st b hb=>by
  have e:b=it:=by simpa using hb
  subst e;obtain ⟨o,e,c,d⟩:=st;exact ⟨o,e,fun v z=>by rw [d] at z;cases z⟩
 keep:=fun i h h' st k=>st.at fun o e=>k it (by simp) o e
 item:=by
  intro X hP hw hK hc i pins s σ H E I hf st hg;subst hP hw hK;obtain ⟨xs,x,hq,hi,hx⟩:=hg;obtain ⟨its,rv,p,hz⟩:=I.list hq;obtain ⟨u,hu,ru⟩:=rv.get hx;obtain ⟨f0,f1,f2,f3,f4,f5⟩:=hf it (by simp);have ej:(n:Int)-1-i=((n-1-i:Nat):Int):=by omega
  rw [ej] at st;refine wpAny_pyNext_rev_item st p.isList (x:=u) (by simpa using hu) fun h' st' sb=>?_;have I1:Inv X pins σ H { s with heap:=h' }:=I.turned (t':=s.toks) (fun b o hb e=>(sb.2 b hb).trans e) f0 f1 f3 f4 f5;obtain ⟨o,e,c,d⟩:=id st';exact ⟨u,rfl,Zox (s:={ s with heap:=h' }) e c d (by decide) ⟨x,H,I1,ru,⟨rfl,fun ys hy=>by rw [I.list_inj hy hq];exact hx⟩,by rw [show (n:Int)-1-((i+1:Nat):Int)=((n-1-i:Nat):Int)-1 by omega];exact st',fun b hb=>(hf b hb).1⟩⟩
 done:=by
  intro X hP hw hK hc i pins s σ H E I hf st hg;subst hP hw hK;obtain ⟨f0,f1,f2,f3,f4,f5⟩:=hf it (by simp);have e:i=n:=hg;rw [show (n:Int)-1-(i:Int) = -1 by omega] at st;exact wpAny_pyNext_rev_end (I.ok.hd hc) st fun h' eb=>⟨rfl,I.turned (t':=s.toks) (fun b o hb e=>eb b o hb e) f0 f1 f3 f4 f5⟩
 self:=fun _ _ _ _ _ st h=>wpAny_pyIter_revIter st h
section
variable {X:Cx} {tg:Expr}
def iRev (K:PySem.W.Frag) (ta:TA):TI:=fun σ H R=>ta σ H fun vs H1=>∃ (a:Addr) (xs:List V),vs=[.ref a]∧SqL K H1 a xs∧R (Itv K a xs.length) H1
theorem Zsg {a:Expr} {ta:TA} {p pos:Pos} (hg:Gl X "reversed") (hm:X.mg "reversed" = none) (hb:bootBuiltins "reversed" = some (.type "reversed")) (ha:PA X [a] ta) (hs:starEach [a] X.env=[(false,eval a X.env)]:=by rfl) :
 PI X tg (.Call (.Name "reversed" p) [a] [] pos) (iRev X.K ta):=by
 intro pins s σ H R I h;refine Call_ (Zax I hg hm hb (n59_ (thn (ha pos pins s σ H _ I h) fun us s1 ⟨vs,H1,I1,r1,q1⟩=>?_) hs rfl));obtain ⟨a,xs,e,hx,q⟩:=q1;subst e;cases r1 with
 | cons r rr =>
   cases rr
   cases r
   obtain ⟨its,rv,pl,hz⟩:=I1.list hx;refine call_reversed_list pl.isList ?_;have en:(its.toArray.size:Int)-1=(xs.length:Int)-1-((0:Nat):Int):=by rw [n16_,rv.length];omega
   refine wpAny_pyIter_revIter (i:=(its.toArray.size:Int)-1) ⟨_,n17_ _ rfl,rfl,rfl⟩ ?_;refine ⟨s1.heap.objs.size,[s1.heap.objs.size],_,_,H1,rfl,I1.kept (t':=s1.toks) fun b o e=>n7_ _ e,Zov a _ xs.length,?_,fun b hb=>?_,q⟩
   · rw [← en];exact ⟨_,n17_ _ rfl,rfl,rfl⟩
   · have e:b=s1.heap.objs.size:=by simpa using hb
     subst e;exact I1.fpOk (n9_ _) (I1.hok.fresh (n9_ _))
end
section
variable {X:Cx}
theorem Zkj:OpR X (inplaceOp .Mult) (rI CMulB fun i j=>.int (i*j)):=opI fun _ _ _ _ _ _ _ hc q=>imul_int q hc.ok
theorem Zmb:OpR X (inplaceOp .FloorDiv) (rI Zon fun i j=>.int (i.fdiv j)):=opI fun _ _ _ _ _ _ _ hc q=>ifloordiv_int hc.1 q (.inl (PyProof.noPylong_of_log2 (Nat.lt_trans (Zjn hc.2 (by decide)) (by decide))))
end
theorem Zo0 (K:PySem.W.Frag) {X:Cx} (h:X.K=K):SlR X (rSlL K):=h ▸ Zf3
end L2
namespace L2
def gl (k:Int) (ps:List Int):Nat:=ps.foldl (fun c p=>Int.gcd p c) k.natAbs
theorem Zp8:∀ ps:List Int,ps.foldl (fun c p=>Int.gcd p (c:Int)) 1=1
 | []=>rfl
 | p :: ps=>by rw [List.foldl_cons,show Int.gcd p ((1:Nat):Int)=1 from Int.gcd_one_right ..];exact Zp8 ps
theorem Znp {k p:Int} {ps:List Int}:gl k (ps++[p])=Int.gcd p (gl k ps):=by unfold gl;rw [n74_];rfl
theorem Zea {k:Int} {ps:List Int} {i:Nat} (h:gl k (ps.take i)=1):gl k ps=1:=by
 have:gl k ps=(ps.drop i).foldl (fun c p=>Int.gcd p (c:Int)) (gl k (ps.take i)):=by
  unfold gl;rw [← n74_,List.take_append_drop]
 rw [this,h];exact Zp8 _
theorem Zj3 {k:Int} (hk:k≠0):∀ ps:List Int,0<gl k ps∧gl k ps≤k.natAbs:=fun ps=>by
 have:∀ (ps:List Int) (c:Nat),0<c→0<ps.foldl (fun c p=>Int.gcd p (c:Int)) c∧ps.foldl (fun c p=>Int.gcd p (c:Int)) c≤c:=by
  intro ps
  induction ps with
  | nil=>intro c h;exact ⟨h,n9_ _⟩
  | cons p ps ih =>
    intro c h;have h1:0<Int.gcd p (c:Int):=Nat.gcd_pos_of_pos_right _ (by simpa using h);have h2:Int.gcd p (c:Int)≤c:=Nat.le_of_dvd h (Nat.gcd_dvd_right p.natAbs (c:Int).natAbs);rw [List.foldl_cons];exact ⟨(ih _ h1).1,n28_ (ih _ h1).2 h2⟩
 exact this ps _ (Int.natAbs_pos.mpr hk)
theorem Zkn (k:Int):∀ (ps:List Int),((gl k ps:Nat):Int)∣k∧∀ p∈ps,((gl k ps:Nat):Int)∣p:=fun ps=>by
 have:∀ (ps:List Int) (c:Nat),(ps.foldl (fun c p=>Int.gcd p (c:Int)) c∣c)∧∀ p∈ps,((ps.foldl (fun c p=>Int.gcd p (c:Int)) c:Nat):Int)∣p:=by
  intro ps
  induction ps with
  | nil=>intro c;exact ⟨Nat.dvd_refl _,fun p hp=>nomatch hp⟩
  | cons p ps ih =>
    intro c;obtain ⟨h1,h2⟩:=ih (Int.gcd p (c:Int));refine ⟨Nat.dvd_trans h1 (Nat.gcd_dvd_right p.natAbs (c:Int).natAbs),fun q hq=>?_⟩
    rcases n34_.mp hq with rfl|hq
    · exact Int.dvd_trans (Int.ofNat_dvd.mpr h1) (Int.gcd_dvd_left ..)
    · exact h2 q hq
 obtain ⟨h1,h2⟩:=this ps k.natAbs;exact ⟨Int.dvd_trans (Int.ofNat_dvd.mpr h1) (Int.natAbs_dvd.mpr (Int.dvd_refl k)),h2⟩
theorem Zmd {ps:List Int} {n:Nat} (h:∀ p∈ps,p.natAbs<2^n):gl 0 ps<2^n:=by
 have:∀ (ps:List Int) (c:Nat),c<2^n→(∀ p∈ps,p.natAbs<2^n)→ps.foldl (fun c p=>Int.gcd p (c:Int)) c<2^n:=by
  intro ps
  induction ps with
  | nil=>intro c hc _;exact hc
  | cons p ps ih =>
    intro c hc hp;rw [List.foldl_cons];refine ih _ ?_ fun q hq=>hp q (n3_ _ hq)
    by_cases h0:p=0
    · subst h0;rw [Int.gcd_zero_left];simpa using hc
    · exact n12_ (Nat.le_of_dvd (Int.natAbs_pos.mpr h0) (Nat.gcd_dvd_left ..)) (hp p n5_)
 exact this ps 0 (n62_ n) h
theorem Zo1 {ps:List Int}:gl 0 ps=0↔∀ p∈ps,p=0:=by
 constructor
 · intro h p hp
   have:=(Zkn 0 ps).2 p hp
   rw [h] at this;exact Int.zero_dvd.mp this
 · intro h
   have:∀ (ps:List Int),(∀ p∈ps,p=0)→ps.foldl (fun c p=>Int.gcd p (c:Int)) 0=0:=by
    intro ps
    induction ps with
    | nil=>intro _;rfl
    | cons p ps ih =>
      intro hp;rw [List.foldl_cons,hp p n5_];exact ih fun q hq=>hp q (n3_ _ hq)
   exact this ps h
def lcmL (ds:List Int):Int:=ds.foldl (fun m b=>m.fdiv (Int.gcd m b:Int)*b) 1
theorem Zee {ds:List Int} {b:Int}:lcmL (ds++[b])=(lcmL ds).fdiv (Int.gcd (lcmL ds) b:Int)*b:=by unfold lcmL;rw [n74_];rfl
theorem Yy {g k:Int} (h:g≠0):(g*k).fdiv g=k:=by rw [n42_];exact FM.fdiv_mul h
theorem Zed {m b:Int} (hm:0<m) (hb:0<b):0<m.fdiv (Int.gcd m b:Int)*b∧m∣m.fdiv (Int.gcd m b:Int)*b∧b∣m.fdiv (Int.gcd m b:Int)*b∧(m.fdiv (Int.gcd m b:Int)).natAbs≤m.natAbs∧∀ c:Int,m∣c→b∣c→m.fdiv (Int.gcd m b:Int)*b∣c:=by
 have hg:(0:Int)<Int.gcd m b:=by have:=FM.gcd_ne (t:=m) (b:=b) (by omega);omega
 have h4:Int.gcd m b*Int.lcm m b=(m*b).natAbs:=(Int.gcd_mul_lcm m b).trans (n38_ m b).symm;have l0:∀ c:Int,m∣c→b∣c→(Int.lcm m b:Int)∣c:=fun c h1 h2=>Int.coe_lcm_dvd h1 h2;obtain ⟨k,hk⟩:=Int.gcd_dvd_left m b;obtain ⟨j,hj⟩:=n79_ m b
 have e2:((Int.gcd m b:Int))*(Int.lcm m b:Int)=m*b:=by
  have:((Int.gcd m b*Int.lcm m b:Nat):Int)=m*b:=by
   rw [h4];exact Int.natAbs_of_nonneg (Int.le_of_lt (Int.mul_pos hm hb))
  rwa [Int.natCast_mul] at this
 generalize (Int.gcd m b:Int)=g at *;have e:m.fdiv g=k:=by rw [hk];exact Yy (by omega)
 rw [e]
 have kp:0<k:=by
  refine Int.pos_of_mul_pos_left (b:=g) ?_ hg;rw [n42_,← hk];exact hm
 refine ⟨Int.mul_pos kp hb,⟨j,?_⟩,⟨k,n42_ _ _⟩,?_,fun c h1 h2=>?_⟩
 · rw [hj,hk];grind
 · rw [hk,n38_];exact Nat.le_mul_of_pos_left _ (by omega)
 · have e3:g*(Int.lcm m b:Int)=g*(k*b):=by rw [e2,← n77_,← hk]
   rw [← Int.eq_of_mul_eq_mul_left (by omega) e3];exact l0 c h1 h2
theorem Xd:∀ (ds:List Int),(∀ x∈ds,0<x)→0<lcmL ds∧(∀ x∈ds,x∣lcmL ds)∧∀ c:Int,(∀ x∈ds,x∣c)→lcmL ds∣c:=fun ds=>by
 have:∀ (ds:List Int) (m:Int),0<m→(∀ x∈ds,0<x)→0<ds.foldl (fun m b=>m.fdiv (Int.gcd m b:Int)*b) m∧m∣ds.foldl (fun m b=>m.fdiv (Int.gcd m b:Int)*b) m∧(∀ x∈ds,x∣ds.foldl (fun m b=>m.fdiv (Int.gcd m b:Int)*b) m)∧∀ c:Int,m∣c→(∀ x∈ds,x∣c)→ds.foldl (fun m b=>m.fdiv (Int.gcd m b:Int)*b) m∣c:=by
  intro ds
  induction ds with
  | nil=>intro m hm _;exact ⟨hm,Int.dvd_refl m,fun x hx=>(nomatch hx),fun c h _=>h⟩
  | cons b ds ih =>
    intro m hm hd;obtain ⟨l1,l2,l3,_,l5⟩:=Zed hm (hd b n5_);obtain ⟨i1,i2,i3,i4⟩:=ih _ l1 fun x hx=>hd x (n3_ _ hx);rw [List.foldl_cons];refine ⟨i1,Int.dvd_trans l2 i2,fun x hx=>?_,fun c h1 h2=>i4 c (l5 c h1 (h2 b n5_)) fun x hx=>h2 x (n3_ _ hx)⟩
    rcases n34_.mp hx with rfl|hx
    · exact Int.dvd_trans l3 i2
    · exact i3 x hx
 intro h;obtain ⟨a,_,b,c⟩:=this ds 1 (by decide) h;exact ⟨a,b,fun z hz=>c z (Int.one_dvd z) hz⟩
theorem Zcx {k:Nat}:∀ (ds:List Int),(∀ x∈ds,0<x∧x.natAbs<2^k)→(lcmL ds).natAbs<2^(k*ds.length+1):=fun ds h=>by
 have:∀ (i:Nat),i≤ds.length→(lcmL (ds.take i)).natAbs<2^(k*i+1):=by
  intro i
  induction i with
  | zero=>intro _;rw [Nat.mul_zero,List.take_zero];decide
  | succ i ih =>
    intro hi;have hm:=(Xd (ds.take i) fun x hx=>(h x (n67_ hx)).1).1;have hb:=h ds[i] (n13_ hi);rw [n36_ hi,Zee];refine n10_ (FM.natAbs_mul_lt (n12_ (Zed hm hb.1).2.2.2.1 (ih (by omega))) hb.2) (n23_ (by decide) (by rw [Nat.mul_add];omega))
 have:=this ds.length (n9_ _)
 rwa [n61_] at this
abbrev tops (qs:List Rat):List Int:=qs.map fun q=>q.num
abbrev bots (qs:List Rat):List Int:=qs.map fun q=>(q.den:Int)
def scl (qs:List Rat):Int×Int:=if gl 0 (tops qs)=0 then (1,1) else (lcmL (bots qs),(gl 0 (tops qs):Int))
def wh (qs:List Rat):List Int:=qs.map fun q=>q.num.fdiv (scl qs).2*(scl qs).1.fdiv q.den
def prt (t m:Int) (own its:List Int):List Int:=List.zipWith (fun o i=>t*o-m*i) own its
def clr (pl:Nat) (hd:List Int) (x:Int×List Int):Int×List Int :=
 if x.2.getD pl 0=0 then x else (hd.getD pl 0,(prt (hd.getD pl 0) (x.2.getD pl 0) x.2 hd).map fun p=>p.fdiv (gl x.1 (prt (hd.getD pl 0) (x.2.getD pl 0) x.2 hd):Int))
abbrev abV (x:Int):Int:=if x<0 then -x else x
def hds (ls:List (Int×List Int)) (pl:Nat):List Int:=(List.range ls.length).filterMap fun i=>if (ls.getD i (0,[])).2.getD pl 0=0 then none else some (i:Int)
def hkf (ls:List (Int×List Int)) (pl:Nat) (i:Int):Int:=abV ((ls.getD i.toNat (0,[])).2.getD pl 0)
theorem Ziw {ls:List (Int×List Int)} {pl:Nat} {i:Int} (h:i∈hds ls pl):∃ n:Nat,i=n∧n<ls.length∧(ls.getD n (0,[])).2.getD pl 0≠0:=by
 obtain ⟨n,hn,e⟩:=List.mem_filterMap.mp h;split at e
 · cases e
 · cases e;exact ⟨n,rfl,n90_.mp hn,by assumption⟩
def Xy (ls:List (Int×List Int)) (pl:Nat):Option Nat:=match hds ls pl with
 | []=>none
 | x :: xs=>some (mk (hkf ls pl) x xs).toNat
theorem X4 {ls:List (Int×List Int)} {pl n:Nat} (h:Xy ls pl=some n):n<ls.length∧(ls.getD n (0,[])).2.getD pl 0≠0:=by
 unfold Xy at h;split at h
 · cases h
 · rename_i x xs e
   have hm:mk (hkf ls pl) x xs∈hds ls pl:=by rw [e];exact Zqf xs
   obtain ⟨m,hm,h1,h2⟩:=Ziw hm;cases h
   rw [hm];exact ⟨h1,h2⟩
theorem Zjc {ls:List (Int×List Int)} {pl:Nat} (h:Xy ls pl=none):∀ x∈ls,x.2.getD pl 0=0:=by
 unfold Xy at h;split at h
 · rename_i e
   intro x hx;obtain ⟨i,hi,rfl⟩:=n55_ hx
   by_cases z:ls[i].2.getD pl 0=0
   · exact z
   · exfalso
     have gd:ls.getD i (0,[])=ls[i]:=by rw [n1_,n0_ hi];rfl
     have:(i:Int)∈hds ls pl:=by
      unfold hds;refine List.mem_filterMap.mpr ⟨i,n90_.mpr hi,?_⟩;rw [gd,if_neg z]
     rw [e] at this;cases this
 · cases h
theorem Zmv (ls:List (Int×List Int)) (pl:Nat):(Xy ls pl=none∧minV (hkf ls pl) (hds ls pl)=.non)∨∃ n:Nat,Xy ls pl=some n∧minV (hkf ls pl) (hds ls pl)=.int n:=by
 unfold Xy;split
 · rename_i e;left;rw [e];exact ⟨rfl,rfl⟩
 · rename_i x xs e
   right
   have hm:mk (hkf ls pl) x xs∈hds ls pl:=by rw [e];exact Zqf xs
   obtain ⟨m,hm,_⟩:=Ziw hm;refine ⟨_,rfl,?_⟩;rw [e];show V.int (mk (hkf ls pl) x xs)=_
   rw [hm];rfl
abbrev Stt:=List (Nat×List Int)×List (Int×List Int)
def stp1 (st:Stt) (pl:Nat):Stt:=match Xy st.2 pl with
 | none=>st
 | some at_=>(st.1++[(pl,(st.2.getD at_ (0,[])).2)],(st.2.eraseIdx at_).map (clr pl (st.2.getD at_ (0,[])).2))
def stp (lines:List (List Int)) (n:Nat):Stt:=(List.range n).foldl stp1 ([],lines.map fun l=>(1,l))
theorem Zjy {lines:List (List Int)} {n:Nat}:stp lines (n+1)=stp1 (stp lines n) n:=by unfold stp;rw [n92_,n74_];rfl
theorem Zaq {lines:List (List Int)} {n:Nat} (h:Xy (stp lines n).2 n=none):stp lines (n+1)=stp lines n:=by rw [Zjy];unfold stp1;rw [h]
theorem Zbb {lines:List (List Int)} {n a:Nat} (h:Xy (stp lines n).2 n=some a):stp lines (n+1)=((stp lines n).1++[(n,((stp lines n).2.getD a (0,[])).2)],((stp lines n).2.eraseIdx a).map (clr n ((stp lines n).2.getD a (0,[])).2)):=by rw [Zjy];unfold stp1;rw [h]
def levI (m:Int) (q:Rat):Int:=q.num*m.fdiv q.den
def lvd (qs:List Rat):List Int:=qs.map (levI (lcmL (bots qs)))
theorem Zch (q:Rat):q=(q.num:Rat)/(q.den:Rat):=by
 have:=Rat.mkRat_self q
 rw [Rat.mkRat_eq_div] at this;exact this.symm
theorem Zfq (q:Rat):(q.den:Rat)≠0:=fun z=>q.den_nz (by exact_mod_cast z)
theorem Zi9 {m:Int} {q:Rat} (h:(q.den:Int)∣m):(levI m q:Rat)=q*m:=by
 obtain ⟨k,rfl⟩:=h;unfold levI;rw [n42_ (q.den:Int),FM.fdiv_mul (FM.den_ne q)];have e:=Zch q;have hd:=Zfq q;rw [n27_,n27_];generalize (q.num:Rat)=n at *;have hd2:((q.den:Int):Rat)=(q.den:Rat):=by first|rfl|exact Rat.intCast_natCast _
 rw [hd2];generalize (q.den:Rat)=dd at *;rw [e]
 grind
theorem Y3 (qs:List Rat):∀ x∈bots qs,0<x:=fun x hx=>by
 obtain ⟨q,hq,rfl⟩:=n19_.mp hx;exact FM.den_pos q
theorem Zf8 {qs:List Rat} {q:Rat} (h:q∈qs):(q.den:Int)∣lcmL (bots qs):=(Xd _ (Y3 qs)).2.1 _ (n19_.mpr ⟨q,h,rfl⟩)
theorem Zro {qs:List Rat} {q:Rat} (h:q∈qs):(levI (lcmL (bots qs)) q:Rat)=q*(lcmL (bots qs):Rat):=Zi9 (Zf8 h)
theorem Ye {a:Int} (h:a≠0):(a:Rat)≠0:=fun z=>h (by exact_mod_cast z)
theorem Zep (a b:Int):Rat.divInt a b=(a:Rat)/(b:Rat):=by rw [Rat.divInt_eq_div]
def dotQ (ws:List Int) (qs:List Rat):Rat:=(List.zipWith (fun (w:Int) (q:Rat)=>(w:Rat)*q) ws qs).sum
theorem Zn5 {m:Int}:∀ (ws:List Int) (qs:List Rat),(∀ q∈qs,(q.den:Int)∣m)→(((List.zipWith (fun w q=>w*levI m q) ws qs).sum:Int):Rat)=dotQ ws qs*m
 | [],_,_=>by simp [dotQ,Rat.zero_mul]
 | _ :: _,[],_=>by simp [dotQ,Rat.zero_mul]
 | w :: ws,q :: qs,h=>by
   have ih:=Zn5 ws qs fun x hx=>h x (n3_ _ hx);have e:=Zi9 (h q n5_);unfold dotQ at *;simp only [n31_,n50_];rw [Rat.intCast_add,ih,n27_,e]
   grind
def mxd (ws:List Int) (qs:List Rat) (b:Int):Rat:=dotQ ws qs/(b:Rat)
theorem Zsm {ws:List Int} {qs:List Rat} {b:Int} (hb:b≠0):Rat.divInt (List.zipWith (fun w t=>w*t) ws (lvd qs)).sum (lcmL (bots qs)*b)=mxd ws qs b:=by
 have h0:=(Xd _ (Y3 qs)).1
 have e:(List.zipWith (fun w t=>w*t) ws (lvd qs))=List.zipWith (fun w q=>w*levI (lcmL (bots qs)) q) ws qs:=by
  unfold lvd;rw [List.zipWith_map_right]
 rw [e,Zep,Zn5 ws qs fun q hq=>Zf8 hq,n27_];unfold mxd;have h1:=Ye (show lcmL (bots qs)≠0 by omega);have h2:=Ye hb;generalize dotQ ws qs=x;generalize (lcmL (bots qs):Rat)=m at *;generalize (b:Rat)=c at *
 grind
def trm (pl:Nat) (line:List Int) (xs:List Rat):List (Int×Rat):=((line.drop (pl+1)).zip (xs.drop (pl+1))).filter fun p=>p.1 != 0&&p.2.num != 0
def sumT (ts:List (Int×Rat)):Rat:=(ts.map fun p=>(p.1:Rat)*p.2).sum
def putQ (pl:Nat) (line:List Int) (xs:List Rat):Rat:=((line.getLastD 0:Int)-sumT ((line.drop (pl+1)).zip (xs.drop (pl+1))))/(line.getD pl 0:Int)
theorem Zo8 (l:List (Int×Rat)):sumT (l.filter fun p=>p.1 != 0&&p.2.num != 0)=sumT l:=by
 induction l with
 | nil=>rfl
 | cons p l ih =>
   unfold sumT at *;rw [List.filter_cons];split
   · simp only [n71_,n50_,ih]
   · rename_i h
     rw [ih,n71_,n50_]
     have z:(p.1:Rat)*p.2=0:=by
      by_cases h1:p.1=0
      · rw [h1];simp
      · have h2:p.2.num=0:=by
         have:¬ (p.1 != 0&&p.2.num != 0)=true:=h
         simp only [n54_,bne_iff_ne,ne_eq,not_and,Classical.not_not] at this;exact this h1
        rw [Rat.num_eq_zero.mp h2];simp
     rw [z,Rat.zero_add]
theorem Zn6 {m:Int}:∀ (ts:List (Int×Rat)),(∀ p∈ts,(p.2.den:Int)∣m)→(((ts.map fun p=>p.1*p.2.num*m.fdiv p.2.den).sum:Int):Rat)=sumT ts*m
 | [],_=>by simp [sumT,Rat.zero_mul]
 | p :: ts,h=>by
   have ih:=Zn6 ts fun x hx=>h x (n3_ _ hx);have e:=Zi9 (h p n5_);unfold sumT at *;unfold levI at e;simp only [n71_,n50_];rw [Rat.intCast_add,ih,n77_,n27_,e]
   grind
theorem Zrj {pl:Nat} {line:List Int} {xs:List Rat} {B:Int} (hB:B=lcmL (bots ((trm pl line xs).map Prod.snd))) (h:line.getD pl 0≠0) :
 Rat.divInt (B*line.getLastD 0-((trm pl line xs).map fun p=>p.1*p.2.num*B.fdiv p.2.den).sum) (B*line.getD pl 0)=putQ pl line xs:=by
 have h0:0<B:=by rw [hB];exact (Xd _ (Y3 _)).1
 have hd:∀ p∈trm pl line xs,(p.2.den:Int)∣B:=fun p hp=>by rw [hB];exact Zf8 (n19_.mpr ⟨p,hp,rfl⟩)
 rw [Zep,Rat.intCast_sub,Zn6 _ hd,n27_,n27_];unfold putQ;rw [show sumT (trm pl line xs)=sumT ((line.drop (pl+1)).zip (xs.drop (pl+1))) from Zo8 _];have h1:=Ye (show B≠0 by omega);have h2:=Ye h;generalize sumT _=x;generalize (B:Rat)=m at *;generalize ((line.getD pl 0:Int):Rat)=c at *;generalize ((line.getLastD 0:Int):Rat)=d at *
 grind
def fil (steps:List (Nat×List Int)) (xs:List Rat):List Rat:=steps.foldr (fun st xs=>xs.set st.1 (putQ st.1 st.2 xs)) xs
def fct (ds:List Int):Int×List Int:=ds.foldl (fun p b=>if 1<b.fdiv (Int.gcd p.1 b:Int) then (p.1*b.fdiv (Int.gcd p.1 b:Int),p.2++[b.fdiv (Int.gcd p.1 b:Int)]) else p) (1,[])
def Zcc (fs:List Int):Int:=fs.foldl (·*·) 1
theorem Zfl {fs:List Int} {f:Int}:Zcc (fs++[f])=Zcc fs*f:=by unfold Zcc;rw [n74_];rfl
theorem Zkc:∀ (ds:List Int),(∀ x∈ds,0<x)→(fct ds).1=lcmL ds∧Zcc (fct ds).2=lcmL ds∧∀ f∈(fct ds).2,0<f∧∃ d∈ds,f∣d:=fun ds=>by
 suffices H:∀ i,i≤ds.length→(∀ x∈ds,0<x)→(fct (ds.take i)).1=lcmL (ds.take i)∧Zcc (fct (ds.take i)).2=lcmL (ds.take i)∧∀ f∈(fct (ds.take i)).2,0<f∧∃ d∈ds,f∣d by
  intro h;have:=H ds.length (n9_ _) h;rwa [n61_] at this
 intro i
 induction i with
 | zero=>intro _ _;exact ⟨rfl,rfl,fun f hf=>nomatch hf⟩
 | succ i ih =>
   intro hi h;obtain ⟨i1,i2,i3⟩:=ih (by omega) h;have hb:=h ds[i] (n13_ hi);have hm:=(Xd (ds.take i) fun x hx=>h x (n67_ hx)).1
   have e:fct (ds.take i++[ds[i]])=if 1<ds[i].fdiv (Int.gcd (fct (ds.take i)).1 ds[i]:Int) then ((fct (ds.take i)).1*ds[i].fdiv (Int.gcd (fct (ds.take i)).1 ds[i]:Int),(fct (ds.take i)).2++[ds[i].fdiv (Int.gcd (fct (ds.take i)).1 ds[i]:Int)]) else fct (ds.take i):=by
    unfold fct;rw [n74_];rfl
   rw [n36_ hi,e,i1,Zee];generalize lcmL (ds.take i)=m at *;generalize hbb:ds[i]=b at *;have hg:(0:Int)<Int.gcd m b:=by have:=FM.gcd_ne (t:=m) (b:=b) (by omega);omega
   obtain ⟨k,hk⟩:=Int.gcd_dvd_left m b;obtain ⟨j,hj⟩:=n79_ m b;have mem:b∈ds:=by rw [← hbb];exact n13_ hi
   generalize (Int.gcd m b:Int)=g at *;have e1:m.fdiv g=k:=by rw [hk];exact Yy (by omega)
   have e2:b.fdiv g=j:=by rw [hj];exact Yy (by omega)
   rw [e1,e2]
   have jp:0<j:=by
    refine Int.pos_of_mul_pos_left (b:=g) ?_ hg;rw [n42_,← hj];exact hb
   have eq:m*j=k*b:=by rw [hk,hj];grind
   split
   · refine ⟨eq,by rw [Zfl,i2,eq],fun f hf=>?_⟩
     rcases n46_.mp hf with hf|hf
     · exact i3 f hf
     · rw [n15_.mp hf];exact ⟨jp,b,mem,⟨g,by rw [hj];grind⟩⟩
   · have:j=1:=by omega
     subst this;rw [Int.mul_one] at eq;rw [← eq];exact ⟨i1,i2,i3⟩
theorem Zow {q:Rat} {f:Int} (hf:0<f):(q/(f:Rat)).num=q.num.fdiv (Int.gcd q.num f:Int)∧((q/(f:Rat)).den:Int)=q.den*f.fdiv (Int.gcd q.num f:Int):=by
 have hg:(0:Int)<Int.gcd q.num f:=by have:=FM.gcd_ne (t:=q.num) (b:=f) (by omega);omega
 obtain ⟨k,hk⟩:=Int.gcd_dvd_left q.num f;obtain ⟨j,hj⟩:=n79_ q.num f
 have cop:Int.gcd k j=1:=by
  have h:=Int.gcd_mul_left (Int.gcd q.num f:Int) k j;rw [← hk,← hj] at h;have hn:(Int.gcd q.num f:Int).natAbs=Int.gcd q.num f:=by simp
  rw [hn] at h;have h0:0<Int.gcd q.num f:=by omega
  exact Nat.eq_of_mul_eq_mul_left h0 (by rw [Nat.mul_one];exact h.symm)
 have cop2:Int.gcd k (q.den:Int)=1:=by
  have h:=FM.gcd_one q
  have hd:Int.gcd k (q.den:Int)∣Int.gcd q.num (q.den:Int):=by
   refine Int.dvd_gcd ?_ (n79_ ..);rw [hk];exact Int.dvd_trans (Int.gcd_dvd_left ..) ⟨(Int.gcd q.num f:Int),by rw [n42_]⟩
  rw [h] at hd;exact Nat.dvd_one.mp hd
 generalize hgg:(Int.gcd q.num f:Int)=g at *;have e1:q.num.fdiv g=k:=by rw [hk];exact Yy (by omega)
 have e2:f.fdiv g=j:=by rw [hj];exact Yy (by omega)
 rw [e1,e2]
 have jp:0<j:=by
  refine Int.pos_of_mul_pos_left (b:=g) ?_ hg;rw [n42_,← hj];exact hf
 have dp:=FM.den_pos q
 have cop3:Int.gcd k (q.den*j)=1:=by
  have h1:Nat.Coprime k.natAbs (q.den:Int).natAbs:=cop2;have h2:Nat.Coprime k.natAbs j.natAbs:=cop;show Nat.gcd k.natAbs ((q.den:Int)*j).natAbs=1
  rw [n38_];exact Nat.Coprime.mul_right h1 h2
 have eq:q/(f:Rat)=Rat.divInt k (q.den*j):=by
  rw [Zep,n27_];have e:=Zch q;have hd:=Zfq q;have hd2:((q.den:Int):Rat)=(q.den:Rat):=by first|rfl|exact Rat.intCast_natCast _
  rw [hd2];have hgq:(g:Rat)≠0:=Ye (by omega);have hjq:(j:Rat)≠0:=Ye (by omega);have n1:(q.num:Rat)=(g:Rat)*(k:Rat):=by rw [hk,n27_]
  have f1:(f:Rat)=(g:Rat)*(j:Rat):=by rw [hj,n27_]
  rw [f1];rw [n1] at e;generalize (q.den:Rat)=dd at *;rw [e];generalize (g:Rat)=G at *;generalize (k:Rat)=K at *;generalize (j:Rat)=J at *
  grind
 have mk:=FM.fdiv_num (t:=k) (b:=q.den*j) (Int.ne_of_gt (Int.mul_pos dp jp));have md:=FM.fdiv_den (t:=k) (b:=q.den*j) (Int.ne_of_gt (Int.mul_pos dp jp))
 have sg:FM.sg k (q.den*j)=1:=by
  unfold FM.sg;rw [if_neg (by have:=Int.mul_pos dp jp;omega),cop3];rfl
 rw [sg] at mk md;rw [eq];exact ⟨by rw [← mk];exact Int.fdiv_one _,by rw [← md];exact Int.fdiv_one _⟩
theorem Zom {q:Rat} {fs:List Int} {f:Int} (h:∀ x∈fs++[f],0<x):q/(Zcc (fs++[f]):Rat)=q/(Zcc fs:Rat)/(f:Rat):=by
 rw [Zfl,n27_];generalize (Zcc fs:Rat)=a;generalize (f:Rat)=b
 grind
def wid (rows:List (List Rat)):Nat:=match rows with
 | []=>0
 | r :: _=>r.length
def rtv (rows:List (List Rat)) (rights:List Rat):List Rat:=List.zipWith (fun row r=>mxd [(scl row).1] [r] (scl row).2) rows rights
def lns (rows:List (List Rat)) (rights:List Rat):List (List Int):=List.zipWith (fun row t=>wh row++[t]) rows (lvd (rtv rows rights))
def stF (rows:List (List Rat)) (rights:List Rat):Stt:=stp (lns rows rights) (wid rows)
def slv (rows:List (List Rat)) (rights:List Rat):Option (List Rat):=if (stF rows rights).2.any (fun x=>x.2.getD (wid rows) 0 != 0) then none else some ((fil (stF rows rights).1 (List.replicate (wid rows) 0)).map fun x=>x/(Zcc (fct (bots (rtv rows rights))).2:Rat))
def tkn (rows:List (List Rat)) (rights:List Rat):List Nat:=(stF rows rights).1.map Prod.fst
def cols (rows:List (List Rat)) (taken:List Nat):List (List Rat):=taken.map fun p=>rows.map fun r=>r.getD p 0
def mixM (rows:List (List Rat)) (rights:List Rat) (taken:List Nat):Option (List Rat):=slv (cols rows taken++[rights]) (List.replicate taken.length 0++[1])
theorem Zal (qs:List Rat):(wh qs).length=qs.length:=by simp [wh]
end L2
namespace L2
theorem php:∀ (b a:Nat) (f:Nat→Nat),(∀ i,i<a→f i<b)→b<a→∃ i j,i<j∧j<a∧f i=f j
 | 0,a,f,h,l=>absurd (h 0 l) (Nat.not_lt_zero _)
 | b+1,a,f,h,l=>by
   by_cases e:∃ i,i<a-1∧f i=f (a-1)
   · obtain ⟨i,hi,e⟩:=e;exact ⟨i,a-1,hi,by omega,e⟩
   · have ne:∀ i,i<a-1→f i≠f (a-1):=fun i hi z=>e ⟨i,hi,z⟩
     obtain ⟨i,j,hij,hj,q⟩:=php b (a-1) (fun i=>if f i=b then f (a-1) else f i) (fun i hi=>by
      have h1:=h i (by omega);have h2:=h (a-1) (by omega);have h3:=ne i hi;show (if f i=b then f (a-1) else f i)<b
      split<;>omega) (by omega)
     refine ⟨i,j,hij,by omega,?_⟩;have n1:=ne i (by omega);have n2:=ne j hj;have q':(if f i=b then f (a-1) else f i)=if f j=b then f (a-1) else f j:=q
     split at q'<;>split at q'<;>omega
def dg (K k i:Nat):Nat:=i/K^k % K
theorem Zqc {K:Nat} (hK:0<K):∀ (n i j:Nat),i<K^n→j<K^n→(∀ k,k<n→dg K k i=dg K k j)→i=j
 | 0,i,j,hi,hj,_=>by rw [Nat.pow_zero] at hi hj;omega
 | n+1,i,j,hi,hj,h=>by
   have h0:=h 0 (by omega);unfold dg at h0;rw [Nat.pow_zero,Nat.div_one,Nat.div_one] at h0
   have sh:∀ k x,dg K k (x/K)=dg K (k+1) x:=fun k x=>by
    unfold dg;rw [Nat.div_div_eq_div_mul,Nat.pow_succ,n83_ K]
   have:=Zqc hK n (i/K) (j/K) (by rw [Nat.div_lt_iff_lt_mul hK,← Nat.pow_succ];exact hi) (by rw [Nat.div_lt_iff_lt_mul hK,← Nat.pow_succ];exact hj) fun k hk=>by
    rw [sh,sh];exact h (k+1) (by omega)
   rw [← Nat.div_add_mod i K,← Nat.div_add_mod j K,this,h0]
def enc (R:Nat) (vs:List Nat):Nat:=vs.foldr (fun v a=>v+R*a) 0
theorem Zqe {R:Nat}:∀ (vs:List Nat),(∀ v∈vs,v<R)→enc R vs<R^vs.length
 | [],_=>by show 0<1;decide
 | v :: vs,h=>by
   have ih:=Zqe vs fun x hx=>h x (n3_ _ hx);have hv:=h v n5_;show v+R*enc R vs<R^(vs.length+1)
   rw [Nat.pow_succ,n83_ _ R]
   have:R*(enc R vs+1)≤R*R^vs.length:=n53_ R ih
   rw [Nat.mul_add] at this;omega
theorem Zms {R:Nat}:∀ (vs ws:List Nat),vs.length=ws.length→(∀ v∈vs,v<R)→(∀ v∈ws,v<R)→enc R vs=enc R ws→vs=ws
 | [],[],_,_,_,_=>rfl
 | [],_ :: _,l,_,_,_=>by cases l
 | _ :: _,[],l,_,_,_=>by cases l
 | v :: vs,w :: ws,l,h1,h2,e=>by
   have e':v+R*enc R vs=w+R*enc R ws:=e;have hv:=h1 v n5_;have hw:=h2 w n5_
   have m:v=w:=by
    have:=congrArg (· % R) e'
    simp only [Nat.add_mul_mod_self_left] at this
    rwa [Nat.mod_eq_of_lt hv,Nat.mod_eq_of_lt hw] at this
   subst m;have q:R*enc R vs=R*enc R ws:=by omega
   rw [Zms vs ws (Nat.succ.inj l) (fun x hx=>h1 x (n3_ _ hx)) (fun x hx=>h2 x (n3_ _ hx)) (Nat.eq_of_mul_eq_mul_left (by omega) q)]
def dotI (r u:List Int):Int:=(List.zipWith (·*·) r u).sum
theorem Zlz {M K:Nat}:∀ (r u:List Int),(∀ x∈r,x.natAbs≤M)→(∀ x∈u,x.natAbs≤K)→(dotI r u).natAbs≤u.length*(M*K)
 | [],u,_,_=>by show (0:Int).natAbs≤_;exact n60_ _
 | _ :: _,[],_,_=>by show (0:Int).natAbs≤_;exact n60_ _
 | x :: r,y :: u,h1,h2=>by
   have ih:=Zlz r u (fun z hz=>h1 z (n3_ _ hz)) fun z hz=>h2 z (n3_ _ hz);show (x*y+dotI r u).natAbs≤(u.length+1)*(M*K)
   have:=Int.natAbs_add_le (x*y) (dotI r u)
   have m:(x*y).natAbs≤M*K:=by rw [n38_];exact Nat.mul_le_mul (h1 x n5_) (h2 y n5_)
   rw [Nat.add_mul,Nat.one_mul];omega
theorem Zjm:∀ (r u v:List Int),u.length=v.length→dotI r (List.zipWith (·-·) u v)=dotI r u-dotI r v
 | [],u,v,_=>by show (0:Int)=0-0;rfl
 | x :: r,[],[],_=>by show (0:Int)=0-0;rfl
 | x :: r,y :: u,z :: v,l=>by
   have ih:=Zjm r u v (Nat.succ.inj l);show x*(y-z)+dotI r (List.zipWith (·-·) u v)=(x*y+dotI r u)-(x*z+dotI r v)
   rw [ih,Int.mul_sub];omega
 | x :: r,[],_ :: _,l=>by cases l
 | x :: r,_ :: _,[],l=>by cases l
theorem Zrm {M s:Nat} (rows:List (List Int)) (hs:rows.length=s) (hM:∀ r∈rows,∀ x∈r,x.natAbs≤M) :
 ∃ v:List Int,v.length=s+1∧(∃ x∈v,x≠0)∧(∀ x∈v,x.natAbs≤(2*(s+1)*M+1)^s)∧∀ r∈rows,dotI r v=0:=by
 obtain ⟨K,hK⟩:∃ K,K=(2*(s+1)*M+1)^s+1:=⟨_,rfl⟩;have K0:0<K:=by omega
 obtain ⟨B,hB⟩:∃ B,B=(s+1)*(M*(K-1)):=⟨_,rfl⟩;obtain ⟨u,hu⟩:∃ u:Nat→List Int,u=fun i=>(List.range (s+1)).map fun k=>(dg K k i:Int):=⟨_,rfl⟩;have ul:∀ i,(u i).length=s+1:=fun i=>by rw [hu];simp
 have ub:∀ i,∀ x∈u i,x.natAbs≤K-1:=fun i x hx=>by
  rw [hu] at hx;obtain ⟨k,_,rfl⟩:=n19_.mp hx
  have:dg K k i<K:=Nat.mod_lt _ K0
  show dg K k i≤_
  omega
 have db:∀ i,∀ r∈rows,(dotI r (u i)).natAbs≤B:=fun i r hr=>by
  have:=Zlz r (u i) (hM r hr) (ub i)
  rw [ul] at this;rw [hB];exact this
 obtain ⟨f,hf⟩:∃ f:Nat→Nat,f=fun i=>enc (2*B+1) (rows.map fun r=>(dotI r (u i)+B).toNat):=⟨_,rfl⟩
 have inR:∀ i,∀ v∈rows.map (fun r=>(dotI r (u i)+B).toNat),v<2*B+1:=fun i v hv=>by
  obtain ⟨r,hr,rfl⟩:=n19_.mp hv
  have:=db i r hr
  omega
 have lt:(2*B+1)^s<K^(s+1):=by
  have h1:2*B+1≤(2*(s+1)*M+1)*K:=by
   have e:2*B=2*(s+1)*M*(K-1):=by rw [hB];rw [← Nat.mul_assoc,← Nat.mul_assoc,Nat.mul_assoc 2]
   have:2*(s+1)*M*(K-1)≤2*(s+1)*M*K:=n53_ _ (by omega)
   rw [Nat.add_mul,Nat.one_mul];omega
  have h2:=Nat.pow_le_pow_left h1 s;rw [Nat.mul_pow] at h2;have h3:(2*(s+1)*M+1)^s*K^s<K*K^s:=Nat.mul_lt_mul_of_pos_right (by omega) (Nat.pow_pos K0);rw [Nat.pow_succ,n83_ _ K];omega
 obtain ⟨i,j,hij,hj,e⟩:=php ((2*B+1)^s) (K^(s+1)) f (fun i _=>by
  rw [hf]
  have:=Zqe _ (inR i)
  rw [n2_,hs] at this;exact this) lt
 rw [hf] at e;have e:=Zms _ _ (by rw [n2_,n2_]) (inR i) (inR j) e;refine ⟨List.zipWith (·-·) (u i) (u j),by rw [n22_,ul,ul];exact n65_ _,?_,fun x hx=>?_,fun r hr=>?_⟩
 · refine Classical.byContradiction fun no=>?_
   have z:∀ k,k<s+1→dg K k i=dg K k j:=fun k hk=>by
    refine Classical.byContradiction fun ne=>no ⟨(dg K k i:Int)-dg K k j,?_,by omega⟩;refine n45_.mpr ⟨k,?_⟩;rw [n18_,hu];simp [hk]
   have:=Zqc K0 (s+1) i j (by omega) hj z
   omega
 · obtain ⟨k,hk⟩:=n45_.mp hx;rw [n18_] at hk;split at hk
   · rename_i a b ea eb
     cases hk
     rw [hu] at ea eb;have ma:=n4_ ea;have mb:=n4_ eb;obtain ⟨k1,_,rfl⟩:=n19_.mp ma;obtain ⟨k2,_,rfl⟩:=n19_.mp mb;have h1:dg K k1 i<K:=Nat.mod_lt _ K0;have h2:dg K k2 j<K:=Nat.mod_lt _ K0;omega
   · cases hk
 · rw [Zjm _ _ _ (by rw [ul,ul])];have m:(dotI r (u i)+B).toNat=(dotI r (u j)+B).toNat:=List.map_inj_left.mp e r hr
   have:=db i r hr
   have:=db j r hr
   omega
end L2
namespace L2
def ort (z:List Rat) (l:List Int):Prop:=dotQ l z=0
theorem Zz {a:Int} {l:List Int} {b:Rat} {z:List Rat}:dotQ (a :: l) (b :: z)=(a:Rat)*b+dotQ l z:=by
 unfold dotQ;rw [n31_,n50_]
theorem Xf {z:List Rat}:dotQ [] z=0:=by unfold dotQ;rfl
theorem Yu {l:List Int}:dotQ l []=0:=by unfold dotQ;cases l<;>rfl
theorem Zgk {t m:Int}:∀ (own its:List Int) (z:List Rat),own.length=its.length→dotQ (prt t m own its) z=(t:Rat)*dotQ own z-(m:Rat)*dotQ its z
 | [],[],z,_=>by rw [show prt t m [] []=[] from rfl,Xf];grind
 | [],_ :: _,z,l=>by cases l
 | _ :: _,[],z,l=>by cases l
 | a :: own,b :: its,[],_=>by rw [Yu,Yu,Yu];grind
 | a :: own,b :: its,c :: z,l=>by
   have ih:=Zgk (t:=t) (m:=m) own its z (Nat.succ.inj l);rw [show prt t m (a :: own) (b :: its)=(t*a-m*b) :: prt t m own its from rfl,Zz,Zz,Zz,ih,Rat.intCast_sub,n27_,n27_]
   grind
theorem Zgu {g:Int} (hg:g≠0):∀ (ps:List Int) (z:List Rat),(∀ p∈ps,g∣p)→(g:Rat)*dotQ (ps.map fun p=>p.fdiv g) z=dotQ ps z
 | [],z,_=>by rw [List.map_nil,Xf];grind
 | _ :: _,[],_=>by rw [Yu,Yu];grind
 | p :: ps,c :: z,h=>by
   have ih:=Zgu hg ps z fun q hq=>h q (n3_ _ hq);obtain ⟨k,rfl⟩:=h p n5_;rw [n71_,Zz,Zz,Yy hg,← ih,n27_]
   grind
theorem Zn1 {pl:Nat} {hd:List Int} {x:Int×List Int} (nz:x.1≠0) (hl:x.2.length=hd.length):∃ α β γ:Rat,γ≠0∧∀ z,γ*dotQ (clr pl hd x).2 z=α*dotQ x.2 z+β*dotQ hd z:=by
 by_cases h0:x.2.getD pl 0=0
 · refine ⟨1,0,1,by decide,fun z=>?_⟩
   have:clr pl hd x=x:=by unfold clr;rw [if_pos h0]
   rw [this];grind
 · have e:(clr pl hd x).2=(prt (hd.getD pl 0) (x.2.getD pl 0) x.2 hd).map fun p=>p.fdiv (gl x.1 (prt (hd.getD pl 0) (x.2.getD pl 0) x.2 hd):Int):=by unfold clr;rw [if_neg h0]
   generalize hP:prt (hd.getD pl 0) (x.2.getD pl 0) x.2 hd=P at *;have g0:=(Zj3 nz P).1;have gz:((gl x.1 P:Nat):Int)≠0:=by omega
   refine ⟨(hd.getD pl 0:Int),-((x.2.getD pl 0:Int):Rat),((gl x.1 P:Nat):Int),Ye gz,fun z=>?_⟩;rw [e,Zgu gz P z fun p hp=>(Zkn x.1 P).2 p hp,← hP,Zgk _ _ _ hl]
   grind
theorem Zpj {pl:Nat} {hd:List Int} {x:Int×List Int} (nz:x.1≠0) (hl:x.2.length=hd.length) {p:Nat} (h1:x.2.getD p 0=0) (h2:hd.getD p 0=0):(clr pl hd x).2.getD p 0=0:=by
 unfold clr;split
 · exact h1
 · show ((prt _ _ x.2 hd).map _).getD p 0=0
   rw [n1_,n8_];unfold prt;rw [n18_]
   by_cases hp:p<x.2.length
   · rw [n0_ hp,n0_ (by omega)];rw [n1_,n0_ hp] at h1;rw [n1_,n0_ (by omega)] at h2;simp only [Option.getD_some] at h1 h2;simp only [h1,h2,Int.mul_zero,Int.sub_self,Option.map_some,Option.getD_some];exact Int.zero_fdiv _
   · rw [n57_ (by omega)];rfl
theorem Zq4 {pl:Nat} {hd:List Int} {x:Int×List Int} (nz:x.1≠0) (hl:x.2.length=hd.length):(clr pl hd x).2.getD pl 0=0:=by
 unfold clr;split
 · assumption
 · show ((prt _ _ x.2 hd).map _).getD pl 0=0
   rw [n1_,n8_];unfold prt;rw [n18_]
   by_cases hp:pl<x.2.length
   · rw [n0_ hp,n0_ (by omega)];rw [n1_,n1_,n0_ hp,n0_ (by omega)];simp only [Option.getD_some,Option.map_some];rw [show hd[pl]*x.2[pl]-x.2[pl]*hd[pl]=0 by rw [n42_];omega];exact Int.zero_fdiv _
   · rw [n57_ (by omega)];rfl
structure Ech (lines:List (List Int)) (n i:Nat) (S:Stt):Prop where
 len:∀ x∈S.1,x.2.length=n+1
 zl:∀ x∈S.2,∀ p,p<i→x.2.getD p 0=0
 st:∀ x∈S.1,x.1<i∧x.2.getD x.1 0≠0∧∀ p,p<x.1→x.2.getD p 0=0
 asc:(S.1.map Prod.fst).Pairwise (·<·)
 pv:∃ pv:List (List Int),pv.length=S.1.length∧(∀ r∈pv,r∈lines)∧(∀ z,(∀ r∈pv,ort z r)→∀ x∈S.1,ort z x.2)∧∀ x∈S.2,∃ o∈lines,∀ z,(∀ r∈pv,ort z r)→ort z o→ort z x.2
 mixL:∀ x∈S.2,∃ c:List Rat,c.length=lines.length∧∀ z,dotQ x.2 z=(List.zipWith (fun (a:Rat) l=>a*dotQ l z) c lines).sum
theorem Zm0 (α β:Rat) (z:List Rat):∀ (c d:List Rat) (lines:List (List Int)),c.length=lines.length→d.length=lines.length →
 (List.zipWith (fun (a:Rat) l=>a*dotQ l z) (List.zipWith (fun x y=>α*x+β*y) c d) lines).sum=α*(List.zipWith (fun (a:Rat) l=>a*dotQ l z) c lines).sum+β*(List.zipWith (fun (a:Rat) l=>a*dotQ l z) d lines).sum
 | [],[],[],_,_=>by simp;grind
 | [],_ :: _,[],_,h=>by cases h
 | _ :: _,_,[],h,_=>by cases h
 | [],_,_ :: _,h,_=>by cases h
 | _ :: _,[],_ :: _,_,h=>by cases h
 | a :: c,b :: d,l :: ls,h1,h2=>by
   have ih:=Zm0 α β z c d ls (Nat.succ.inj h1) (Nat.succ.inj h2);simp only [n31_,n50_];rw [ih]
   grind
theorem Zj7 (z:List Rat):∀ (lines:List (List Int)) (i:Nat) (h:i<lines.length),(List.zipWith (fun (a:Rat) l=>a*dotQ l z) ((List.replicate lines.length (0:Rat)).set i 1) lines).sum=dotQ lines[i] z
 | [],i,h=>by cases h
 | l :: ls,0,_=>by
   rw [n33_,n49_,List.set_cons_zero,n31_,n50_]
   have:∀ ls:List (List Int),(List.zipWith (fun (a:Rat) l=>a*dotQ l z) (List.replicate ls.length (0:Rat)) ls).sum=0:=fun ls=>by
    induction ls with
    | nil=>rfl
    | cons l ls ih=>rw [n33_,n49_,n31_,n50_,ih];grind
   rw [this,List.getElem_cons_zero];grind
 | l :: ls,i+1,h=>by
   have ih:=Zj7 z ls i (n70_ h);rw [n33_,n49_,List.set_cons_succ,n31_,n50_,ih,List.getElem_cons_succ];grind
theorem ech {lines:List (List Int)} {n:Nat} (ok:∀ i,i≤n→∀ x∈(stp lines i).2,x.1≠0∧x.2.length=n+1):∀ i,i≤n→Ech lines n i (stp lines i)
 | 0,_=>by
   have mem:∀ x∈(stp lines 0).2,∃ l∈lines,x=(1,l):=fun x hx=>by
    change x∈lines.map _ at hx;obtain ⟨l,hl,rfl⟩:=n19_.mp hx;exact ⟨l,hl,rfl⟩
   refine ⟨fun x hx=>(nomatch hx),fun x hx p hp=>by omega,fun x hx=>(nomatch hx),.nil,⟨[],rfl,fun r hr=>(nomatch hr),fun z _ x hx=>(nomatch hx),fun x hx=>?_⟩,fun x hx=>?_⟩
   · obtain ⟨l,hl,rfl⟩:=mem x hx;exact ⟨l,hl,fun z _ h=>h⟩
   · obtain ⟨l,hl,rfl⟩:=mem x hx;obtain ⟨k,hk,rfl⟩:=n55_ hl;exact ⟨(List.replicate lines.length (0:Rat)).set k 1,by simp,fun z=>(Zj7 z lines k hk).symm⟩
 | i+1,hi=>by
   have ih:=ech ok i (by omega);have OK:=ok i (by omega);cases e:Xy (stp lines i).2 i with
   | none =>
     have hn:=Zjc e;rw [Zaq e];refine ⟨ih.len,fun x hx p hp=>?_,fun x hx=>⟨by have:=(ih.st x hx).1;omega,(ih.st x hx).2⟩,ih.asc,ih.pv,ih.mixL⟩
     by_cases hpi:p<i
     · exact ih.zl x hx p hpi
     · have:p=i:=by omega
       rw [this];exact hn x hx
   | some a =>
     obtain ⟨ha,hz⟩:=X4 e;rw [Zbb e];have gd:(stp lines i).2.getD a (0,[])=(stp lines i).2[a]:=by rw [n1_,n0_ ha];rfl
     rw [gd] at hz ⊢;have hm:=n13_ ha;generalize hS:stp lines i=S at *;generalize S.2[a]=hd at *;have hh:=OK hd hm;have er:∀ y∈S.2.eraseIdx a,y∈S.2:=fun y hy=>List.mem_of_mem_eraseIdx hy;refine ⟨fun x hx=>?_,fun x hx p hp=>?_,fun x hx=>?_,?_,?_,fun x hx=>?_⟩
     · rcases n46_.mp hx with hx|hx
       · exact ih.len x hx
       · rw [n15_.mp hx];exact hh.2
     · obtain ⟨y,hy,rfl⟩:=n19_.mp hx;have hy':=OK y (er y hy)
       by_cases hpi:p<i
       · exact Zpj hy'.1 (by rw [hy'.2,hh.2]) (ih.zl y (er y hy) p hpi) (ih.zl hd hm p hpi)
       · have:p=i:=by omega
         rw [this];exact Zq4 hy'.1 (by rw [hy'.2,hh.2])
     · rcases n46_.mp hx with hx|hx
       · exact ⟨by have:=(ih.st x hx).1;omega,(ih.st x hx).2⟩
       · rw [n15_.mp hx];exact ⟨Nat.lt_succ_self i,hz,fun p hp=>ih.zl hd hm p hp⟩
     · show ((S.1++[(i,hd.2)]).map Prod.fst).Pairwise _
       rw [n72_,List.pairwise_append];refine ⟨ih.asc,List.pairwise_singleton _ _,fun p hp q hq=>?_⟩;obtain ⟨x,hx,rfl⟩:=n19_.mp hp;rw [n15_.mp hq];exact (ih.st x hx).1
     · obtain ⟨pv,l1,l2,l3,l4⟩:=ih.pv;obtain ⟨o,ho,hoz⟩:=l4 hd hm;refine ⟨pv++[o],by simp [l1],fun r hr=>?_,fun z hz' x hx=>?_,fun x hx=>?_⟩
       · rcases n46_.mp hr with hr|hr
         · exact l2 r hr
         · rw [n15_.mp hr];exact ho
       · have z1:∀ r∈pv,ort z r:=fun r hr=>hz' r (n84_ _ hr)
         rcases n46_.mp hx with hx|hx
         · exact l3 z z1 x hx
         · rw [n15_.mp hx];exact hoz z z1 (hz' o (n24_ _ n5_))
       · obtain ⟨y,hy,rfl⟩:=n19_.mp hx;obtain ⟨oy,hoy,hyz⟩:=l4 y (er y hy);refine ⟨oy,hoy,fun z hz' hzo=>?_⟩;have z1:∀ r∈pv,ort z r:=fun r hr=>hz' r (n84_ _ hr);have y1:=hyz z z1 hzo;have h1:=hoz z z1 (hz' o (n24_ _ n5_));obtain ⟨α,β,γ,g0,mx⟩:=Zn1 (pl:=i) (hd:=hd.2) (OK y (er y hy)).1 (by rw [(OK y (er y hy)).2,hh.2]);have m:=mx z;unfold ort at y1 h1 ⊢;rw [y1,h1] at m
         grind
     · obtain ⟨y,hy,rfl⟩:=n19_.mp hx;obtain ⟨c,lc,hc⟩:=ih.mixL y (er y hy);obtain ⟨d,ld,hd'⟩:=ih.mixL hd hm;obtain ⟨α,β,γ,g0,mx⟩:=Zn1 (pl:=i) (hd:=hd.2) (OK y (er y hy)).1 (by rw [(OK y (er y hy)).2,hh.2]);refine ⟨List.zipWith (fun x y=>(α/γ)*x+(β/γ)*y) c d,by rw [n22_,lc,ld];exact n65_ _,fun z=>?_⟩;rw [Zm0 _ _ z c d lines lc ld,← hc,← hd'];have m:=mx z;generalize dotQ (clr i hd.2 y).2 z=A at *;generalize dotQ y.2 z=B at *;generalize dotQ hd.2 z=C at *
       grind
end L2
namespace L2
theorem Zan {a:Int} {l:List Int} (h:l≠[]):(a :: l).getLastD 0=l.getLastD 0:=by
 cases l with
 | nil=>exact absurd rfl h
 | cons b l=>rfl
theorem Znl {D:Rat}:∀ (v Y:List Rat) (l:List Int),l.length=v.length+1→Y.length=v.length→(∀ q,q<v.length→v.getD q 0=D*Y.getD q 0)→dotQ l (v++[-D])=D*sumT (l.zip Y)-D*(l.getLastD 0:Int)
 | [],[],[a],_,_,_=>by
   rw [List.nil_append,Zz,Xf];show (a:Rat) * -D+0=D*0-D*(a:Rat)
   grind
 | [],[],[],h,_,_=>by cases h
 | [],[],_ :: _ :: _,h,_,_=>by cases h
 | [],_ :: _,_,_,h,_=>by cases h
 | _ :: _,[],_,_,h,_=>by cases h
 | _ :: _,_ :: _,[],h,_,_=>by cases h
 | b :: v,c :: Y,a :: l,h1,h2,h3=>by
   have ih:=Znl (D:=D) v Y l (Nat.succ.inj h1) (Nat.succ.inj h2) fun q hq=>h3 (q+1) (n81_ hq);have h0:b=D*c:=h3 0 (Nat.succ_pos _);have ln:l≠[]:=fun z=>by rw [z] at h1;simp at h1
   rw [n85_,Zz,ih,Zan ln,h0];show _=D*sumT ((a,c) :: l.zip Y)-_
   unfold sumT;rw [n71_,n50_];generalize (List.map (fun p:Int×Rat=>(p.1:Rat)*p.2) (l.zip Y)).sum=S
   grind
theorem Zdp {D:Rat}:∀ (pl:Nat) (line:List Int) (w X:List Rat),line.length=w.length+1→X.length=w.length→pl<w.length→(∀ q,q<pl→line.getD q 0=0)→(∀ q,pl<q→q<w.length→w.getD q 0=D*X.getD q 0) →
 dotQ line (w++[-D])=(line.getD pl 0:Int)*w.getD pl 0+D*sumT ((line.drop (pl+1)).zip (X.drop (pl+1)))-D*(line.getLastD 0:Int)
 | _,[],_,_,h,_,_,_,_=>by cases h
 | _,_ :: _,[],_,_,_,h,_,_=>by cases h
 | _,_ :: _,_ :: _,[],_,h,_,_,_=>by cases h
 | 0,a :: l,b :: v,c :: Y,h1,h2,_,_,h5=>by
   have ih:=Znl (D:=D) v Y l (Nat.succ.inj h1) (Nat.succ.inj h2) fun q hq=>h5 (q+1) (Nat.succ_pos _) (n81_ hq);have ln:l≠[]:=fun z=>by rw [z] at h1;simp at h1
   rw [n85_,Zz,ih,Zan ln];show _=(a:Rat)*b+D*sumT (l.zip Y)-_
   grind
 | pl+1,a :: l,b :: v,c :: Y,h1,h2,h3,h4,h5=>by
   have ih:=Zdp (D:=D) pl l v Y (Nat.succ.inj h1) (Nat.succ.inj h2) (n70_ h3) (fun q hq=>h4 (q+1) (n81_ hq)) fun q q1 q2=>h5 (q+1) (n81_ q1) (n81_ q2);have h0:a=0:=h4 0 (Nat.succ_pos _);have ln:l≠[]:=fun z=>by rw [z] at h1;simp at h1
   rw [n85_,Zz,ih,Zan ln,h0];show ((0:Int):Rat)*b+_=(l.getD pl 0:Int)*v.getD pl 0+D*sumT ((l.drop (pl+1)).zip (Y.drop (pl+1)))-_
   have:((0:Int):Rat)=0:=rfl
   rw [this]
   grind
theorem Xe (L:List (Nat×List Int)) (xs:List Rat):(fil L xs).length=xs.length:=by
 induction L with
 | nil=>rfl
 | cons x L ih=>show ((fil L xs).set _ _).length=_;rw [n47_,ih]
theorem Yl {xs:List Rat} {i j:Nat} {v:Rat} (h:i<xs.length):(xs.set i v).getD j 0=if i=j then v else xs.getD j 0:=by
 rw [n1_,List.getElem?_set];split
 · rename_i e;subst e;first|rfl|(rw [if_pos h];rfl)
 · rw [n1_]
theorem Zf4 {n:Nat} {T:List Nat} {w:List Rat} {D:Rat} (hw:w.length=n):∀ (L:List (Nat×List Int)),(L.map Prod.fst).Pairwise (·<·)→(∀ x∈L,x.1<n∧x.2.length=n+1∧x.2.getD x.1 0≠0∧∀ p,p<x.1→x.2.getD p 0=0)→(∀ x∈L,ort (w++[-D]) x.2)→(∀ p∈T,p∉L.map Prod.fst→∀ x∈L,p<x.1)→(∀ p,p<n→p∉T→w.getD p 0=0) →
 ∀ p,p<n→(p∈L.map Prod.fst∨p∉T)→w.getD p 0=D*(fil L (List.replicate n 0)).getD p 0
 | [],_,_,_,_,h0,p,hp,h=>by
   rcases h with h|h
   · cases h
   · rw [h0 p hp h];show 0=D*(List.replicate n (0:Rat)).getD p 0
     rw [n1_,n26_,if_pos hp];show 0=D*0
     grind
 | x :: L,asc,st,or,below,h0,p,hp,h=>by
   have asc':x.1 :: L.map Prod.fst=(x :: L).map Prod.fst:=rfl;rw [← asc',n95_] at asc;have hx:=st x n5_
   have ih:=Zf4 hw L asc.2 (fun y hy=>st y (n3_ _ hy)) (fun y hy=>or y (n3_ _ hy)) (fun p hp hn y hy=>by
    by_cases e:p=x.1
    · rw [e];exact asc.1 y.1 (List.mem_map_of_mem hy)
    · exact below p hp (fun z=>by
       rcases n34_.mp z with z|z
       · exact e z
       · exact hn z) y (n3_ _ hy)) h0
   have fl:(fil L (List.replicate n 0)).length=n:=by rw [Xe,n14_]
   show w.getD p 0=D*((fil L (List.replicate n 0)).set x.1 (putQ x.1 x.2 (fil L (List.replicate n 0)))).getD p 0
   rw [Yl (by rw [fl];exact hx.1)];split
   · rename_i e
     subst e
     have dt:=Zdp (D:=D) x.1 x.2 w (fil L (List.replicate n 0)) (by rw [hw];exact hx.2.1) (by rw [fl,hw]) (by rw [hw];exact hx.1) hx.2.2.2 (fun q q1 q2=>by
      refine ih q (by omega) ?_
      by_cases hq:q∈T
      · left
        by_cases hq2:q∈L.map Prod.fst
        · exact hq2
        · exfalso
          have:=below q hq (fun z=>by
           rcases n34_.mp z with z|z
           · omega
           · exact hq2 z) x n5_
          omega
      · right;exact hq)
     have o:=or x n5_;unfold ort at o;rw [o] at dt;unfold putQ;have nz:=Ye hx.2.2.1;generalize ((x.2.getD x.1 0:Int):Rat)=c at *;generalize ((x.2.getLastD 0:Int):Rat)=d at *;generalize sumT _=S at *;generalize w.getD x.1 0=W at *
     grind
   · rename_i e
     refine ih p hp ?_
     rcases h with h|h
     · rcases n34_.mp h with h|h
       · exact absurd h.symm e
       · exact .inl h
     · exact .inr h
def putA (ps:List Nat) (xs:List Int) (z:List Rat):List Rat:=match ps,xs with
 | p :: ps,x :: xs=>(putA ps xs z).set p (x:Rat)
 | _,_=>z
theorem Zab:∀ (ps:List Nat) (xs:List Int) (z:List Rat),(putA ps xs z).length=z.length
 | [],_,_=>rfl
 | _ :: _,[],_=>rfl
 | p :: ps,x :: xs,z=>by show ((putA ps xs z).set _ _).length=_;rw [n47_,Zab]
theorem Zdo {z:List Rat} {q:Nat}:∀ (ps:List Nat) (xs:List Int),(∀ p∈ps,p<z.length)→q∉ps→(putA ps xs z).getD q 0=z.getD q 0
 | [],_,_,_=>rfl
 | _ :: _,[],_,_=>rfl
 | p :: ps,x :: xs,h,hq=>by
   show ((putA ps xs z).set p (x:Rat)).getD q 0=_
   rw [Yl (by rw [Zab];exact h p n5_),if_neg fun e=>hq (by rw [e];exact n5_)];exact Zdo ps xs (fun p hp=>h p (n3_ _ hp)) fun z=>hq (n3_ _ z)
theorem Zmt {z:List Rat}:∀ (ps:List Nat) (xs:List Int),(∀ p∈ps,p<z.length)→ps.Pairwise (·<·)→xs.length=ps.length→∀ (k:Nat) (p:Nat) (x:Int),ps[k]? = some p→xs[k]? = some x→(putA ps xs z).getD p 0=(x:Rat)
 | [],_,_,_,_,k,p,x,h,_=>by simp at h
 | _ :: _,[],_,_,h,_,_,_,_,_=>by cases h
 | p0 :: ps,x0 :: xs,h,asc,hl,k,p,x,e1,e2=>by
   show ((putA ps xs z).set p0 (x0:Rat)).getD p 0=_
   rw [Yl (by rw [Zab];exact h p0 n5_)];rw [n95_] at asc
   match k,e1,e2 with
   | 0,e1,e2=>cases e1;cases e2;rw [if_pos rfl]
   | k+1,e1,e2 =>
     have m:p∈ps:=n4_ (by simpa using e1);rw [if_neg (by have:=asc.1 p m;omega)];exact Zmt ps xs (fun p hp=>h p (n3_ _ hp)) asc.2 (Nat.succ.inj hl) k p x (by simpa using e1) (by simpa using e2)
theorem Zgz:∀ (l:List Int) (z:List Rat) (p:Nat) (x:Rat),p<z.length→z.length≤l.length→dotQ l (z.set p x)=dotQ l z+(l.getD p 0:Int)*(x-z.getD p 0)
 | [],[],_,_,h,_=>by cases h
 | [],_ :: _,_,_,_,h=>by cases h
 | a :: l,[],_,_,h,_=>by cases h
 | a :: l,b :: z,0,x,_,_=>by
   rw [List.set_cons_zero,Zz,Zz];show _=_+(a:Rat)*(x-b)
   grind
 | a :: l,b :: z,p+1,x,h1,h2=>by
   have ih:=Zgz l z p x (n70_ h1) (Nat.le_of_succ_le_succ h2);rw [List.set_cons_succ,Zz,Zz,ih];show _=_+(l.getD p 0:Int)*(x-z.getD p 0)
   grind
theorem Zft:∀ (l:List Int) (n:Nat),dotQ l (List.replicate n 0)=0
 | [],_=>Xf
 | _ :: _,0=>Yu
 | a :: l,n+1=>by rw [n49_,Zz,Zft l n];grind
theorem Zhs {l:List Int} {n:Nat} (hl:n≤l.length):∀ (ps:List Nat) (xs:List Int),(∀ p∈ps,p<n)→ps.Pairwise (·<·)→xs.length=ps.length→dotQ l (putA ps xs (List.replicate n 0))=((dotI (ps.map fun p=>l.getD p 0) xs:Int):Rat)
 | [],[],_,_,_=>by show dotQ l (List.replicate n 0)=((0:Int):Rat);rw [Zft];rfl
 | [],_ :: _,_,_,h=>by cases h
 | _ :: _,[],_,_,h=>by cases h
 | p :: ps,x :: xs,h,asc,hl'=>by
   rw [n95_] at asc;have ih:=Zhs hl ps xs (fun p hp=>h p (n3_ _ hp)) asc.2 (Nat.succ.inj hl');have hp:=h p n5_;show dotQ l ((putA ps xs (List.replicate n 0)).set p (x:Rat))=_
   rw [Zgz _ _ _ _ (by rw [Zab,n14_];exact hp) (by rw [Zab,n14_];exact hl),ih,Zdo ps xs (fun p hp=>by rw [n14_];exact h p (n3_ _ hp)) fun z=>by have:=asc.1 p z;omega];have z0:(List.replicate n (0:Rat)).getD p 0=0:=by rw [n1_,n26_,if_pos hp];rfl
   rw [z0];show _=((l.getD p 0*x+dotI (ps.map fun p=>l.getD p 0) xs:Int):Rat)
   rw [Rat.intCast_add,n27_]
   grind
theorem Zdk:∀ (l:List Int) (z:List Rat) (c:Rat),l.length=z.length+1→dotQ l (z++[c])=dotQ l z+(l.getD z.length 0:Int)*c
 | [],_,_,h=>by cases h
 | [a],[],c,_=>by rw [List.nil_append,Zz,Xf,Yu];show (a:Rat)*c+0=0+(a:Rat)*c;grind
 | _ :: _ :: _,[],_,h=>by cases h
 | a :: l,b :: z,c,h=>by
   have ih:=Zdk l z c (Nat.succ.inj h);rw [n85_,Zz,Zz,ih];show _=_+(l.getD z.length 0:Int)*c
   grind
theorem Zqp {x:Rat} {P Z:Int} (hP:P≠0) (h:x*(P:Rat)=(Z:Rat)):(x.den:Int)∣P∧x.num.natAbs≤Z.natAbs:=by
 have e:=Zch x;have hd:=Zfq x
 have q:x.num*P=Z*x.den:=by
  have:((x.num*P:Int):Rat)=((Z*x.den:Int):Rat):=by
   rw [n27_,n27_,← h];have hd2:((x.den:Int):Rat)=(x.den:Rat):=by first|rfl|exact Rat.intCast_natCast _
   rw [hd2];have key:∀ y n dd p:Rat,dd≠0→y=n/dd→n*p=y*p*dd:=fun y n dd p h1 h2=>by rw [h2];grind
   exact key _ _ _ _ hd e
  exact_mod_cast this
 have c:=FM.gcd_one x
 have dv:(x.den:Int)∣P:=by
  have h1:(x.den:Int)∣x.num*P:=⟨Z,by rw [q,n42_]⟩
  have h2:x.den∣x.num.natAbs*P.natAbs:=by
   have:=Int.natAbs_dvd_natAbs.mpr h1
   rwa [n38_] at this
  have h3:Nat.Coprime x.den x.num.natAbs:=by
   have:Nat.gcd x.num.natAbs x.den=1:=c
   rw [Nat.gcd_comm] at this;exact this
  exact Int.ofNat_dvd_left.mpr (h3.dvd_of_dvd_mul_left h2)
 refine ⟨dv,?_⟩;obtain ⟨k,rfl⟩:=dv;have k0:k≠0:=fun z=>hP (by rw [z,Int.mul_zero])
 have q2:Z=x.num*k:=by
  have:(x.den:Int)*Z=(x.den:Int)*(x.num*k):=by rw [n42_ _ Z,← q];grind
  exact Int.eq_of_mul_eq_mul_left (FM.den_ne x) this
 rw [q2,n38_];exact Nat.le_mul_of_pos_right _ (by omega)
end L2
namespace L2
def rdot (a b:List Rat):Rat:=(List.zipWith (·*·) a b).sum
theorem Zo {a b:Rat} {x y:List Rat}:rdot (a :: x) (b :: y)=a*b+rdot x y:=by unfold rdot;rw [n31_,n50_]
theorem Z6 {y:List Rat}:rdot [] y=0:=by unfold rdot;rfl
theorem Z8 {x:List Rat}:rdot x []=0:=by unfold rdot;cases x<;>rfl
def lam (qs:List Rat):Rat:=((scl qs).1:Rat)/((scl qs).2:Rat)
theorem Zrb (qs:List Rat):0<(scl qs).1∧0<(scl qs).2:=by
 unfold scl;split
 · exact ⟨(by decide:(0:Int)<1),(by decide:(0:Int)<1)⟩
 · rename_i h
   exact ⟨(Xd _ (Y3 qs)).1,by show (0:Int)<(gl 0 (tops qs):Int);omega⟩
theorem Zns (qs:List Rat):lam qs≠0:=by
 obtain ⟨h1,h2⟩:=Zrb qs;have n1:=Ye (show (scl qs).1≠0 by omega);have n2:=Ye (show (scl qs).2≠0 by omega);unfold lam;intro z;generalize ((scl qs).1:Rat)=a at *;generalize ((scl qs).2:Rat)=b at *
 have:a=a/b*b:=by grind
 rw [z,Rat.zero_mul] at this;exact n1 this
theorem Zpv {qs:List Rat} {q:Rat} (h:q∈qs):((q.num.fdiv (scl qs).2*(scl qs).1.fdiv q.den:Int):Rat)=lam qs*q:=by
 by_cases hz:gl 0 (tops qs)=0
 · have n0:q.num=0:=Zo1.mp hz _ (n19_.mpr ⟨q,h,rfl⟩);have q0:q=0:=Rat.num_eq_zero.mp n0;rw [n0,Int.zero_fdiv,Int.zero_mul,q0];show (0:Rat)=lam qs*0
   grind
 · have e:scl qs=(lcmL (bots qs),(gl 0 (tops qs):Int)):=by unfold scl;rw [if_neg hz]
   unfold lam;rw [e];obtain ⟨k,hk⟩:=(Zkn 0 (tops qs)).2 q.num (n19_.mpr ⟨q,h,rfl⟩);obtain ⟨j,hj⟩:=Zf8 h;have gz:((gl 0 (tops qs):Nat):Int)≠0:=by omega
   show ((q.num.fdiv ((gl 0 (tops qs):Nat):Int)*(lcmL (bots qs)).fdiv q.den:Int):Rat)=((lcmL (bots qs):Int):Rat)/(((gl 0 (tops qs):Nat):Int):Rat)*q
   have e1:q.num.fdiv ((gl 0 (tops qs):Nat):Int)=k:=by rw [hk];exact Yy gz
   have e2:(lcmL (bots qs)).fdiv q.den=j:=by rw [hj];exact Yy (FM.den_ne q)
   rw [e1,e2];have hd:=Zfq q;have en:=Zch q;have g0:=Ye gz;have hd2:((q.den:Int):Rat)=(q.den:Rat):=by first|rfl|exact Rat.intCast_natCast _
   have n1:(q.num:Rat)=(((gl 0 (tops qs):Nat):Int):Rat)*(k:Rat):=by rw [← n27_,← hk]
   have l1:((lcmL (bots qs):Int):Rat)=(q.den:Rat)*(j:Rat):=by rw [← hd2,← n27_,← hj]
   rw [l1,n27_];rw [n1] at en;generalize (q.den:Rat)=dd at *;generalize ((((gl 0 (tops qs):Nat):Int)):Rat)=G at *;generalize (k:Rat)=k' at *;generalize (j:Rat)=j' at *;rw [en]
   grind
theorem Zp3 (Q:List Rat):∀ (qs z:List Rat),(∀ q∈qs,q∈Q)→dotQ (qs.map fun q=>q.num.fdiv (scl Q).2*(scl Q).1.fdiv q.den) z=lam Q*rdot qs z
 | [],z,_=>by rw [List.map_nil,Xf,Z6];grind
 | _ :: _,[],_=>by rw [Yu,Z8];grind
 | q :: qs,b :: z,h=>by
   have ih:=Zp3 Q qs z fun x hx=>h x (n3_ _ hx);rw [n71_,Zz,Zo,ih,Zpv (h q n5_)]
   grind
theorem Zmu (qs z:List Rat):dotQ (wh qs) z=lam qs*rdot qs z:=Zp3 qs qs z fun _ h=>h
theorem Zr7 {rows:List (List Rat)} {rights:List Rat} {row:List Rat} {r:Rat}:mxd [(scl row).1] [r] (scl row).2=lam row*r:=by
 unfold mxd;rw [Zz,Xf];unfold lam;generalize ((scl row).1:Rat)=a;generalize ((scl row).2:Rat)=b
 grind
theorem Zdj {row:List Rat} {t:Int} {z:List Rat} {ζ:Rat} (hl:z.length=row.length):dotQ (wh row++[t]) (z++[ζ])=lam row*rdot row z+(t:Rat)*ζ:=by
 rw [Zdk _ _ _ (by rw [n20_,Zal,hl];rfl)]
 have e1:dotQ (wh row++[t]) z=dotQ (wh row) z:=by
  have:∀ (a:List Int) (z:List Rat) (t:Int),z.length=a.length→dotQ (a++[t]) z=dotQ a z:=fun a=>by
   induction a with
   | nil=>intro z t h;cases z with|nil=>rw [Yu,Yu]|cons _ _=>cases h
   | cons x a ih=>intro z t h;cases z with
     | nil=>cases h
     | cons b z=>rw [n85_,Zz,Zz,ih z t (Nat.succ.inj h)]
  exact this _ _ _ (by rw [hl,Zal])
 have e2:(wh row++[t]).getD z.length 0=t:=by
  rw [n1_,n35_ (by rw [Zal];omega),Zal,hl,Nat.sub_self];rfl
 rw [e1,e2,Zmu]
theorem Zht {n:Nat} {L:Rat} {z:List Rat} {ζ:Rat} (hz:z.length=n):∀ (c:List Rat) (rows:List (List Rat)) (rs:List Rat) (ts:List Int),(∀ r∈rows,r.length=n)→rs.length=rows.length→ts.length=rows.length→(∀ (i:Nat) row r t,rows[i]? = some row→rs[i]? = some r→ts[i]? = some t→((t:Int):Rat)=lam row*r*L) →
 (List.zipWith (fun (a:Rat) l=>a*dotQ l (z++[ζ])) c (List.zipWith (fun row t=>wh row++[t]) rows ts)).sum=(List.zipWith (fun (y:Rat) row=>y*rdot row z) (List.zipWith (fun (a:Rat) row=>a*lam row) c rows) rows).sum+L*ζ*rdot (List.zipWith (fun (a:Rat) row=>a*lam row) c rows) rs
 | [],_,_,_,_,_,_,_=>by rw [n44_,n44_,n44_,Z6];simp;grind
 | _ :: _,[],_,_,_,_,_,_=>by rw [n44_,n66_,n66_,n66_,Z6];simp;grind
 | _ :: _,_ :: _,[],_,_,h,_,_=>by cases h
 | _ :: _,_ :: _,_ :: _,[],_,_,h,_=>by cases h
 | a :: c,row :: rows,r :: rs,t :: ts,h1,h2,h3,h4=>by
   have ih:=Zht (L:=L) (ζ:=ζ) hz c rows rs ts (fun x hx=>h1 x (n3_ _ hx)) (Nat.succ.inj h2) (Nat.succ.inj h3) fun i row r t e1 e2 e3=>h4 (i+1) row r t (by simpa using e1) (by simpa using e2) (by simpa using e3);have t0:=h4 0 row r t rfl rfl rfl;simp only [n31_,n50_];rw [ih,Zo,Zdj (by rw [hz,h1 row n5_]),t0];generalize (List.zipWith (fun (y:Rat) row=>y*rdot row z) (List.zipWith (fun (a:Rat) row=>a*lam row) c rows) rows).sum=S;generalize rdot (List.zipWith (fun (a:Rat) row=>a*lam row) c rows) rs=R;generalize lam row=l;generalize rdot row z=d
   grind
theorem Zg1:∀ (row:List Rat) (n p:Nat),row.length=n→p<n→rdot row ((List.replicate n (0:Rat)).set p 1)=row.getD p 0
 | [],n,p,h,hp=>by simp at h;omega
 | a :: row,0,p,h,_=>by cases h
 | a :: row,n+1,0,h,_=>by
   rw [n49_,List.set_cons_zero,Zo]
   have:∀ (r:List Rat) (n:Nat),rdot r (List.replicate n 0)=0:=fun r=>by
    induction r with
    | nil=>intro n;exact Z6
    | cons x r ih=>intro n;cases n with
      | zero=>exact Z8
      | succ n=>rw [n49_,Zo,ih n];grind
   rw [this];show a*1+0=a
   grind
 | a :: row,n+1,p+1,h,hp=>by
   rw [n49_,List.set_cons_succ,Zo,Zg1 row n p (Nat.succ.inj h) (n70_ hp)];show a*0+row.getD p 0=row.getD p 0
   grind
theorem Znr {n p:Nat} (hp:p<n):∀ (y:List Rat) (rows:List (List Rat)),(∀ r∈rows,r.length=n)→(List.zipWith (fun (y:Rat) row=>y*rdot row ((List.replicate n (0:Rat)).set p 1)) y rows).sum=rdot (rows.map fun r=>r.getD p 0) y
 | [],rows,_=>by rw [n44_,Z8];rfl
 | _ :: _,[],_=>by rw [n66_,List.map_nil,Z6];rfl
 | a :: y,r :: rows,h=>by
   rw [n31_,n50_,Znr hp y rows fun x hx=>h x (n3_ _ hx),Zg1 r n p (h r n5_) hp,n71_,Zo]
   grind
theorem Zj5 {n:Nat}:∀ (y:List Rat) (rows:List (List Rat)),(List.zipWith (fun (y:Rat) row=>y*rdot row (List.replicate n (0:Rat))) y rows).sum=0
 | [],rows=>by rw [n44_];rfl
 | _ :: _,[]=>by rw [n66_];rfl
 | a :: y,r :: rows=>by
   have:∀ (r:List Rat) (n:Nat),rdot r (List.replicate n 0)=0:=fun r=>by
    induction r with
    | nil=>intro n;exact Z6
    | cons x r ih=>intro n;cases n with
      | zero=>exact Z8
      | succ n=>rw [n49_,Zo,ih n];grind
   rw [n31_,n50_,Zj5 y rows,this];grind
theorem Zcw (k:Rat):∀ (a b:List Rat),rdot a (b.map fun x=>x*k)=rdot a b*k
 | [],b=>by rw [Z6,Z6];grind
 | _ :: _,[]=>by rw [List.map_nil,Z8];grind
 | x :: a,y :: b=>by rw [n71_,Zo,Zo,Zcw k a b];grind
theorem Zb3:∀ (a b:List Rat),rdot a b=rdot b a
 | [],b=>by rw [Z6,Z8]
 | _ :: _,[]=>by rw [Z6,Z8]
 | x :: a,y :: b=>by rw [Zo,Zo,Zb3 a b];grind
theorem Zik {rows:List (List Rat)} {rights:List Rat} (i:Nat) {row:List Rat} {r:Rat} {t:Int} (e1:rows[i]? = some row) (e2:rights[i]? = some r) (e3:(lvd (rtv rows rights))[i]? = some t):((t:Int):Rat)=lam row*r*((lcmL (bots (rtv rows rights)):Int):Rat):=by
 have er:(rtv rows rights)[i]? = some (lam row*r):=by unfold rtv;rw [n18_,e1,e2];exact congrArg some (Zr7 (rows:=rows) (rights:=rights))
 unfold lvd at e3;rw [n8_,er] at e3;cases e3
 exact Zro (n4_ er)
theorem Zbh {n:Nat}:∀ (x:List Int) (z:List Rat) (ζ:Rat),x.length=n+1→z.length=n→(∀ p,p<n→x.getD p 0=0)→dotQ x (z++[ζ])=(x.getD n 0:Int)*ζ:=fun x z ζ h1 h2 h3=>by
 rw [Zdk x z ζ (by rw [h1,h2]),h2]
 have:∀ (x:List Int) (z:List Rat),(∀ p,p<z.length→x.getD p 0=0)→dotQ x z=0:=fun x=>by
  induction x with
  | nil=>intro z _;exact Xf
  | cons a x ih=>intro z h;cases z with
    | nil=>exact Yu
    | cons b z =>
      have a0:a=0:=h 0 (Nat.succ_pos _);rw [Zz,ih z fun p hp=>h (p+1) (n81_ hp),a0]
      have:((0:Int):Rat)=0:=rfl
      rw [this];grind
 rw [this x z (by rw [h2];exact h3)]
 grind
theorem Zpi {rows:List (List Rat)} {rights:List Rat} (hw:∀ r∈rows,r.length=wid rows) (hr:rights.length=rows.length)
 (ok1:∀ i,i≤wid rows→∀ x∈(stp (lns rows rights) i).2,x.1≠0∧x.2.length=wid rows+1)
 (ok2:∀ i,i≤rows.length→∀ x∈(stp (lns (cols rows (tkn rows rights)++[rights]) (List.replicate (tkn rows rights).length 0++[1])) i).2,x.1≠0∧x.2.length=rows.length+1)
 (hs:slv rows rights=none):∃ ys,mixM rows rights (tkn rows rights)=some ys:=by
 have lrt:(rtv rows rights).length=rows.length:=by unfold rtv;rw [n22_,hr];exact n65_ _
 have llv:(lvd (rtv rows rights)).length=rows.length:=by unfold lvd;rw [n2_,lrt]
 have E:=ech ok1 (wid rows) (n9_ _)
 obtain ⟨x,hx,xn⟩:∃ x∈(stF rows rights).2,x.2.getD (wid rows) 0≠0:=by
  unfold slv at hs;split at hs
  · rename_i h
    obtain ⟨x,hx,h⟩:=List.any_eq_true.mp h;exact ⟨x,hx,by simpa using h⟩
  · cases hs
 obtain ⟨c,lc,hc⟩:=E.mixL x hx;have zl:=E.zl x hx;have xl:=(ok1 (wid rows) (n9_ _) x hx).2;have SL:=fun (z:List Rat) (ζ:Rat) (hz:z.length=wid rows)=>(hc (z++[ζ])).trans (Zht (L:=((lcmL (bots (rtv rows rights)):Int):Rat)) (ζ:=ζ) hz c rows rights (lvd (rtv rows rights)) hw hr llv fun i row r t e1 e2 e3=>Zik i e1 e2 e3);obtain ⟨y,hy⟩:∃ y,y=List.zipWith (fun (a:Rat) row=>a*lam row) c rows:=⟨_,rfl⟩;rw [← hy] at SL
 have ly:y.length=rows.length:=by
  have:c.length=rows.length:=by rw [lc];unfold lns;rw [n22_,llv];exact n65_ _
  rw [hy,n22_,this];exact n65_ _
 have ycol:∀ p,p<wid rows→rdot (rows.map fun r=>r.getD p 0) y=0:=fun p hp=>by
  have s:=SL ((List.replicate (wid rows) (0:Rat)).set p 1) 0 (by simp);rw [Znr hp y rows hw,Zbh x.2 _ 0 xl (by simp) zl] at s;generalize rdot (rows.map fun r=>r.getD p 0) y=A at *
  grind
 have yr:rdot y rights≠0:=fun z=>by
  have s:=SL (List.replicate (wid rows) (0:Rat)) 1 (by simp);rw [Zj5,Zbh x.2 _ 1 xl (by simp) zl,z] at s
  have:((x.2.getD (wid rows) 0:Int):Rat)=0:=by
   generalize ((x.2.getD (wid rows) 0:Int):Rat)=A at *
   grind
  exact Ye xn this
 obtain ⟨R,hR⟩:∃ R,R=cols rows (tkn rows rights)++[rights]:=⟨_,rfl⟩;obtain ⟨G,hG⟩:∃ G:List Rat,G=List.replicate (tkn rows rights).length 0++[1]:=⟨_,rfl⟩
 have tk:∀ p∈tkn rows rights,p<wid rows:=fun p hp=>by
  obtain ⟨s,hs',rfl⟩:=n19_.mp hp;exact (E.st s hs').1
 have lcs:(cols rows (tkn rows rights)).length=(tkn rows rights).length:=by unfold cols;rw [n2_]
 have Rl:∀ r∈R,r.length=rows.length:=fun r h=>by
  rw [hR] at h
  rcases n46_.mp h with h|h
  · obtain ⟨p,_,rfl⟩:=n19_.mp h;rw [n2_]
  · rw [n15_.mp h];exact hr
 have GR:G.length=R.length:=by rw [hR,hG,n20_,n20_,lcs,n14_];rfl
 have wR:wid R=rows.length:=by
  cases e:R with
  | nil=>rw [hR] at e;simp at e
  | cons r rs=>exact Rl r (by rw [e];exact n5_)
 obtain ⟨y',hy'⟩:∃ y',y'=y.map fun v=>v*(rdot y rights)⁻¹:=⟨_,rfl⟩
 have sat:∀ (i:Nat) r g,R[i]? = some r→G[i]? = some g→rdot r y'=g:=fun i r g e1 e2=>by
  rw [hR] at e1;rw [hG] at e2;rw [hy',Zcw]
  by_cases hi:i<(tkn rows rights).length
  · rw [n40_ (by rw [lcs];exact hi)] at e1;rw [n40_ (by rw [n14_];exact hi),n26_,if_pos hi] at e2;cases e2
    unfold cols at e1;rw [n8_,n0_ hi] at e1;cases e1
    rw [ycol _ (tk _ (n13_ hi))];grind
  · rw [n35_ (by rw [lcs];omega),lcs] at e1;rw [n35_ (by rw [n14_];omega),n14_] at e2
    have i0:i-(tkn rows rights).length=0:=by
     cases z:i-(tkn rows rights).length with
     | zero=>rfl
     | succ z'=>rw [z] at e1;simp at e1
    rw [i0] at e1 e2;cases e1;cases e2
    rw [Zb3]
    grind
 rw [← hR,← hG] at ok2;have E2:=ech (lines:=lns R G) (n:=rows.length) ok2 rows.length (n9_ _);have lrt2:(rtv R G).length=R.length:=by unfold rtv;rw [n22_,GR];exact n65_ _
 have llv2:(lvd (rtv R G)).length=R.length:=by unfold lvd;rw [n2_,lrt2]
 have ly':y'.length=rows.length:=by rw [hy',n2_,ly]
 have L0:((lcmL (bots (rtv R G)):Int):Rat)≠0:=Ye (by have:=(Xd _ (Y3 (rtv R G))).1;omega)
 have orl:∀ l∈lns R G,dotQ l (y'++[-(((lcmL (bots (rtv R G)):Int):Rat))⁻¹])=0:=fun l hl=>by
  obtain ⟨i,hi,e⟩:=n55_ hl;have e':(lns R G)[i]? = some l:=by rw [← e];exact n0_ hi
  unfold lns at e';rw [n18_] at e';split at e'
  · rename_i row t er et
    cases e'
    have hi':i<G.length:=by rw [GR];exact (n11_.mp er).1
    have tv:=Zik i er (n0_ hi') et;rw [Zdj (by rw [ly',Rl row (n4_ er)]),sat i row _ er (n0_ hi'),tv];generalize ((lcmL (bots (rtv R G)):Int):Rat)=A at *;generalize lam row=B at *;generalize G[i]=C at *
    grind
  · cases e'
 show ∃ ys,slv (cols rows (tkn rows rights)++[rights]) (List.replicate (tkn rows rights).length 0++[1])=some ys
 rw [← hR,← hG];unfold slv;rw [if_neg ?_]
 · exact ⟨_,rfl⟩
 · intro h;obtain ⟨u,hu,h⟩:=List.any_eq_true.mp h;rw [wR] at h;have hu':u∈(stp (lns R G) rows.length).2:=by have:stF R G=stp (lns R G) (wid R):=rfl;rw [this,wR] at hu;exact hu
   obtain ⟨c2,lc2,hc2⟩:=E2.mixL u hu';have ul:=(ok2 rows.length (n9_ _) u hu').2;have z0:=hc2 (y'++[-(((lcmL (bots (rtv R G)):Int):Rat))⁻¹])
   have sz:∀ (c:List Rat) (ls:List (List Int)),(∀ l∈ls,dotQ l (y'++[-(((lcmL (bots (rtv R G)):Int):Rat))⁻¹])=0)→(List.zipWith (fun (a:Rat) l=>a*dotQ l (y'++[-(((lcmL (bots (rtv R G)):Int):Rat))⁻¹])) c ls).sum=0:=fun c=>by
    induction c with
    | nil=>intro ls _;rw [n44_];rfl
    | cons a c ih=>intro ls h;cases ls with
      | nil=>rw [n66_];rfl
      | cons l ls=>rw [n31_,n50_,ih ls fun l hl=>h l (n3_ _ hl),h l n5_];grind
   rw [sz c2 _ orl,Zbh u.2 y' _ ul ly' (E2.zl u hu')] at z0;have nz:u.2.getD rows.length 0≠0:=by simpa using h
   have nz':=Ye nz;generalize ((u.2.getD rows.length 0:Int):Rat)=A at *;generalize ((lcmL (bots (rtv R G)):Int):Rat)=B at *
   grind
structure Pro (n M:Nat) (ρ:Rat) (l l':List Int):Prop where
 len:l'.length=n+1
 bd:∀ x∈l',x.natAbs≤M
 pr:∃ κ:Rat,κ≠0∧(∀ p,p<n→((l'.getD p 0:Int):Rat)=κ*((l.getD p 0:Int):Rat))∧((l'.getD n 0:Int):Rat)=κ*ρ*((l.getD n 0:Int):Rat)
theorem Zfm {f f':Nat→Int} {κ:Rat}:∀ (T:List Nat) (X:List Int),(∀ p∈T,((f' p:Int):Rat)=κ*((f p:Int):Rat))→((dotI (T.map f') X:Int):Rat)=κ*((dotI (T.map f) X:Int):Rat)
 | [],X,_=>by
   show ((0:Int):Rat)=κ*((0:Int):Rat)
   have:((0:Int):Rat)=0:=rfl
   rw [this];grind
 | t :: T,[],_=>by
   show ((0:Int):Rat)=κ*((0:Int):Rat)
   have:((0:Int):Rat)=0:=rfl
   rw [this];grind
 | t :: T,x :: X,h=>by
   have ih:=Zfm T X fun p hp=>h p (n3_ _ hp);have h0:=h t n5_;have e:∀ g:Nat→Int,dotI ((t :: T).map g) (x :: X)=g t*x+dotI (T.map g) X:=fun g=>rfl;rw [e,e,Rat.intCast_add,Rat.intCast_add,n27_,n27_,ih,h0]
   grind
theorem Zk8 {lines:List (List Int)} {n M:Nat} {ρ:Rat} (hρ:ρ≠0) (ok:∀ i,i≤n→∀ x∈(stp lines i).2,x.1≠0∧x.2.length=n+1) (hl:∀ l∈lines,l.length=n+1) (hM:∀ l∈lines,∃ l':List Int,Pro n M ρ l l') :
 ∃ D:Int,D≠0∧D.natAbs≤(2*((stp lines n).1.length+1)*M+1)^(stp lines n).1.length∧∀ x∈fil (stp lines n).1 (List.replicate n 0),∃ Z:Int,x*(ρ*(D:Rat))=(Z:Rat)∧Z.natAbs≤(2*((stp lines n).1.length+1)*M+1)^(stp lines n).1.length:=by
 obtain ⟨g,hg⟩:∃ g:List Int→List Int,∀ l∈lines,Pro n M ρ l (g l):=⟨fun l=>if h:l∈lines then Classical.choose (hM l h) else [],fun l h=>by simp only [h,dite_true];exact Classical.choose_spec (hM l h)⟩;have E:=ech ok n (n9_ _);generalize stp lines n=S at *;obtain ⟨pv,l1,l2,l3,_⟩:=E.pv
 have T1:∀ p∈S.1.map Prod.fst,p<n:=fun p hp=>by
  obtain ⟨x,hx,rfl⟩:=n19_.mp hp;exact (E.st x hx).1
 obtain ⟨v,lv,⟨x0,hx0,x0z⟩,vb,vr⟩:=Zrm (M:=M) (s:=S.1.length) (pv.map fun r=>(S.1.map Prod.fst).map (fun p=>(g r).getD p 0)++[(g r).getD n 0]) (by rw [n2_,l1]) (fun r hr x hx=>by
  obtain ⟨r',hr',rfl⟩:=n19_.mp hr
  have gd:∀ p,p<n+1→((g r').getD p 0).natAbs≤M:=fun p hp=>by
   rw [n1_,n0_ (by rw [(hg r' (l2 r' hr')).len];exact hp)];exact (hg r' (l2 r' hr')).bd _ (n13_ _)
  rcases n46_.mp hx with hx|hx
  · obtain ⟨p,hp,rfl⟩:=n19_.mp hx;exact gd p (by have:=T1 p hp;omega)
  · rw [n15_.mp hx];exact gd n (by omega))
 have vn:v≠[]:=fun z=>by rw [z] at lv;cases lv
 obtain ⟨X,d,rfl⟩:∃ X d,v=X++[d]:=⟨v.dropLast,v.getLast vn,(List.dropLast_concat_getLast vn).symm⟩;have lX:X.length=S.1.length:=by rw [n20_] at lv;exact Nat.succ.inj lv
 have W:∀ r∈pv,ort (putA (S.1.map Prod.fst) X (List.replicate n 0)++[-(-(ρ*(d:Rat)))]) r:=fun r hr=>by
  have q:=vr _ (List.mem_map_of_mem hr);have lr:=hl r (l2 r hr);unfold ort;rw [Zdk _ _ _ (by rw [Zab,n14_];exact lr),Zhs (by omega) _ _ T1 E.asc (by rw [lX,n2_]),Zab,n14_]
  have sp:dotI ((S.1.map Prod.fst).map (fun p=>(g r).getD p 0)++[(g r).getD n 0]) (X++[d])=dotI ((S.1.map Prod.fst).map fun p=>(g r).getD p 0) X+(g r).getD n 0*d:=by
   unfold dotI;rw [List.zipWith_append (by rw [n2_,n2_,lX]),List.sum_append];show _+((g r).getD n 0*d+0)=_
   rw [Int.add_zero]
  rw [sp] at q;have q':((dotI ((S.1.map Prod.fst).map fun p=>(g r).getD p 0) X+(g r).getD n 0*d:Int):Rat)=0:=by rw [q];rfl
  obtain ⟨κ,κ0,k1,k2⟩:=(hg r (l2 r hr)).pr;rw [Rat.intCast_add,n27_,Zfm _ X (fun p hp=>k1 p (T1 p hp)),k2] at q';generalize ((dotI ((S.1.map Prod.fst).map fun p=>r.getD p 0) X:Int):Rat)=A at *;generalize ((r.getD n 0:Int):Rat)=B at *;generalize (d:Rat)=C at *
  have:κ*(A+B*(ρ*C))=0:=by grind
  have:A+B*(ρ*C)=0:=by grind
  grind
 have lw:(putA (S.1.map Prod.fst) X (List.replicate n 0)).length=n:=by rw [Zab,n14_]
 have U:=Zf4 (n:=n) (T:=S.1.map Prod.fst) (w:=putA (S.1.map Prod.fst) X (List.replicate n 0)) (D:=-(ρ*(d:Rat))) lw S.1 E.asc (fun x hx=>⟨(E.st x hx).1,E.len x hx,(E.st x hx).2.1,(E.st x hx).2.2⟩) (fun x hx=>l3 _ W x hx) (fun p hp hn=>absurd hp hn) (fun p hp hT=>by
  rw [Zdo _ _ (fun q hq=>by rw [n14_];exact T1 q hq) hT,n1_,n26_,if_pos hp];rfl)
 have U':∀ p,p<n→(putA (S.1.map Prod.fst) X (List.replicate n 0)).getD p 0 = -(ρ*(d:Rat))*(fil S.1 (List.replicate n 0)).getD p 0:=fun p hp=>U p hp (by
  by_cases h:p∈S.1.map Prod.fst
  · exact .inl h
  · exact .inr h)
 have inn:∀ (k:Nat) (p:Nat) (x:Int),(S.1.map Prod.fst)[k]? = some p→X[k]? = some x→(putA (S.1.map Prod.fst) X (List.replicate n 0)).getD p 0=(x:Rat):=Zmt _ _ (fun q hq=>by rw [n14_];exact T1 q hq) E.asc (by rw [lX,n2_])
 have dz:d≠0:=fun z=>by
  have:∀ x∈X,x=0:=fun x hx=>by
   obtain ⟨k,hk⟩:=n45_.mp hx;have hk':k<(S.1.map Prod.fst).length:=by rw [n2_,← lX];exact (n11_.mp hk).1
   have e:=inn k _ x (n0_ hk') hk;rw [U' _ (T1 _ (n13_ hk')),z] at e
   have z0:-(ρ*((0:Int):Rat))=0:=by
    have:((0:Int):Rat)=0:=rfl
    rw [this];grind
   rw [z0,Rat.zero_mul] at e
   exact_mod_cast e.symm
  rcases n46_.mp hx0 with h|h
  · exact x0z (this x0 h)
  · rw [n15_.mp h] at x0z;exact x0z z
 refine ⟨-d,by omega,by rw [Int.natAbs_neg];exact vb d (n24_ _ n5_),fun x hx=>?_⟩;obtain ⟨p,hp,rfl⟩:=n55_ hx;have hp':p<n:=by rw [Xe,n14_] at hp;exact hp
 have u:=U' p hp';have gx:(fil S.1 (List.replicate n 0)).getD p 0=(fil S.1 (List.replicate n 0))[p]:=by rw [n1_,n0_ hp];rfl
 rw [gx] at u
 obtain ⟨Z,eZ,bZ⟩:∃ Z:Int,(putA (S.1.map Prod.fst) X (List.replicate n 0)).getD p 0=(Z:Rat)∧Z.natAbs≤(2*(S.1.length+1)*M+1)^S.1.length:=by
  by_cases h:p∈S.1.map Prod.fst
  · obtain ⟨k,hk⟩:=n45_.mp h;have hk':k<X.length:=by rw [lX];have:=(n11_.mp hk).1;rwa [n2_] at this
    exact ⟨X[k],inn k p _ hk (n0_ hk'),vb _ (n84_ _ (n13_ hk'))⟩
  · refine ⟨0,?_,n60_ _⟩;rw [Zdo _ _ (fun q hq=>by rw [n14_];exact T1 q hq) h,n1_,n26_,if_pos hp'];rfl
 rw [eZ] at u;refine ⟨Z,?_,bZ⟩;rw [u,Rat.intCast_neg];generalize (d:Rat)=C;generalize (fil S.1 (List.replicate n 0))[p]=y
 grind
theorem Zpd {pl:Nat} {hd:List Int} {x:Int×List Int} (nz:x.1≠0) (hl:x.2.length=hd.length) (hz:hd.getD pl 0≠0):∃ α β γ:Rat,α≠0∧∀ z,γ*dotQ (clr pl hd x).2 z=α*dotQ x.2 z+β*dotQ hd z:=by
 by_cases h0:x.2.getD pl 0=0
 · refine ⟨1,0,1,by decide,fun z=>?_⟩
   have:clr pl hd x=x:=by unfold clr;rw [if_pos h0]
   rw [this];grind
 · have e:(clr pl hd x).2=(prt (hd.getD pl 0) (x.2.getD pl 0) x.2 hd).map fun p=>p.fdiv (gl x.1 (prt (hd.getD pl 0) (x.2.getD pl 0) x.2 hd):Int):=by unfold clr;rw [if_neg h0]
   generalize hP:prt (hd.getD pl 0) (x.2.getD pl 0) x.2 hd=P at *;have g0:=(Zj3 nz P).1;have gz:((gl x.1 P:Nat):Int)≠0:=by omega
   refine ⟨(hd.getD pl 0:Int),-((x.2.getD pl 0:Int):Rat),((gl x.1 P:Nat):Int),Ye hz,fun z=>?_⟩;rw [e,Zgu gz P z fun p hp=>(Zkn x.1 P).2 p hp,← hP,Zgk _ _ _ hl]
   grind
theorem back {lines:List (List Int)} {n:Nat} {z:List Rat} (ok:∀ i,i≤n→∀ x∈(stp lines i).2,x.1≠0∧x.2.length=n+1):∀ i,i≤n→(∀ x∈(stp lines i).1,ort z x.2)→(∀ x∈(stp lines i).2,ort z x.2)→∀ l∈lines,ort z l
 | 0,_,_,h2,l,hl=>h2 (1,l) (List.mem_map_of_mem (f:=fun l=>((1:Int),l)) hl)
 | i+1,hi,h1,h2,l,hl=>by
   have OK:=ok i (by omega);cases e:Xy (stp lines i).2 i with
   | none =>
     rw [Zaq e] at h1 h2;exact back ok i (by omega) h1 h2 l hl
   | some a =>
     obtain ⟨ha,hz⟩:=X4 e;rw [Zbb e] at h1 h2;have gd:(stp lines i).2.getD a (0,[])=(stp lines i).2[a]:=by rw [n1_,n0_ ha];rfl
     rw [gd] at hz h1 h2;have hm:=n13_ ha;have ho:ort z (stp lines i).2[a].2:=h1 (i,(stp lines i).2[a].2) (n24_ _ n5_);refine back ok i (by omega) (fun x hx=>h1 x (n84_ _ hx)) (fun x hx=>?_) l hl;obtain ⟨k,hk,rfl⟩:=n55_ hx
     by_cases ka:k=a
     · subst ka;exact ho
     · have hx':(stp lines i).2[k]∈(stp lines i).2.eraseIdx a:=List.mem_eraseIdx_iff_getElem.mpr ⟨k,hk,ka,rfl⟩;obtain ⟨α,β,γ,g0,mx⟩:=Zpd (pl:=i) (hd:=(stp lines i).2[a].2) (x:=(stp lines i).2[k]) (OK _ (n13_ hk)).1 (by rw [(OK _ (n13_ hk)).2,(OK _ hm).2]) hz;have m:=mx z;have c:=h2 _ (List.mem_map_of_mem (f:=clr i (stp lines i).2[a].2) hx');unfold ort at c ho ⊢;rw [c,ho] at m
       grind
theorem Zgg {n:Nat} {xs:List Rat} (hx:xs.length=n):∀ (L:List (Nat×List Int)),(L.map Prod.fst).Pairwise (·<·)→(∀ x∈L,x.1<n∧x.2.length=n+1∧x.2.getD x.1 0≠0∧∀ p,p<x.1→x.2.getD p 0=0)→(∀ x∈L,ort (fil L xs++[-1]) x.2)∧∀ q,q∉L.map Prod.fst→(fil L xs).getD q 0=xs.getD q 0
 | [],_,_=>⟨fun x hx=>(nomatch hx),fun q _=>rfl⟩
 | x :: L,asc,st=>by
   have asc':(x.1 :: L.map Prod.fst).Pairwise (·<·):=asc;rw [n95_] at asc';obtain ⟨h1,h2⟩:=Zgg hx L asc'.2 fun y hy=>st y (n3_ _ hy);obtain ⟨s1,s2,s3,s4⟩:=st x n5_;have e:fil (x :: L) xs=(fil L xs).set x.1 (putQ x.1 x.2 (fil L xs)):=rfl;have ln:(fil L xs).length=n:=by rw [Xe,hx]
   rw [e];generalize fil L xs=X at *;refine ⟨fun y hy=>?_,fun q hq=>?_⟩
   · rcases n34_.mp hy with rfl|hy
     · unfold ort;have t:=Zdp (D:=1) y.1 y.2 (X.set y.1 (putQ y.1 y.2 X)) X (by rw [n47_,ln];exact s2) (by rw [n47_]) (by rw [n47_,ln];exact s1) s4 (fun q q1 q2=>by rw [Yl (by rw [ln];exact s1),if_neg (by omega)];grind);rw [t,Yl (by rw [ln];exact s1),if_pos rfl];unfold putQ;have hz:=Ye s3;generalize sumT _=S;generalize ((y.2.getD y.1 0:Int):Rat)=a at *;generalize ((y.2.getLastD 0:Int):Rat)=b at *
       grind
     · have o:=h1 y hy;have lt:x.1<y.1:=asc'.1 y.1 (List.mem_map_of_mem hy);obtain ⟨t1,t2,t3,t4⟩:=st y (n3_ _ hy);unfold ort at o ⊢;rw [← List.set_append_left _ _ (by rw [ln];exact s1),Zgz _ _ _ _ (by rw [n20_,ln];show _<_+1;omega) (by rw [n20_,ln,t2];exact n9_ _),o,t4 _ lt]
       have:((0:Int):Rat)=0:=rfl
       rw [this];grind
   · have h3:q≠x.1:=fun z=>hq (by rw [z];exact n5_);rw [Yl (by rw [ln];exact s1),if_neg (fun z=>h3 z.symm)];exact h2 q fun z=>hq (n3_ _ z)
theorem Zq1 {A B:List Rat} (hl:A.length=B.length) {m:Nat} (h:∀ q,m<q→A.getD q 0=B.getD q 0):A.drop (m+1)=B.drop (m+1):=by
 refine List.ext_getElem (by rw [n69_,n69_,hl]) fun i h1 h2=>?_;rw [List.getElem_drop,List.getElem_drop];rw [n69_] at h1 h2
 have:=h (m+1+i) (by omega)
 rwa [n1_,n1_,n0_ (by omega),n0_ (by omega)] at this
theorem Ze3 {n p:Nat} {xs ys:List Rat} (hx:xs.length=n) (hy:ys.length=n) (h:∀ q,p<q→xs.getD q 0=ys.getD q 0):∀ (L:List (Nat×List Int)),(∀ x∈L,x.1<n)→∀ q,p<q→(fil L xs).getD q 0=(fil L ys).getD q 0
 | [],_,q,hq=>h q hq
 | x :: L,st,q,hq=>by
   have ih:=Ze3 hx hy h L fun y hy=>st y (n3_ _ hy);have e1:fil (x :: L) xs=(fil L xs).set x.1 (putQ x.1 x.2 (fil L xs)):=rfl;have e2:fil (x :: L) ys=(fil L ys).set x.1 (putQ x.1 x.2 (fil L ys)):=rfl;have l1:(fil L xs).length=n:=by rw [Xe,hx]
   have l2:(fil L ys).length=n:=by rw [Xe,hy]
   have s:=st x n5_;rw [e1,e2,Yl (by omega),Yl (by omega)];split
   · rename_i z
     subst z;unfold putQ;rw [Zq1 (by omega) fun q' hq'=>ih q' (by omega)]
   · exact ih q hq
theorem Zkx:∀ (l:List Int) (a b:List Rat),a.length=b.length→dotQ l (List.zipWith (·-·) a b)=dotQ l a-dotQ l b
 | [],a,b,_=>by rw [Xf,Xf,Xf];grind
 | _ :: _,[],[],_=>by rw [n44_,Yu];grind
 | _ :: _,[],_ :: _,h=>by cases h
 | _ :: _,_ :: _,[],h=>by cases h
 | x :: l,p :: a,q :: b,h=>by rw [n31_,Zz,Zz,Zz,Zkx l a b (Nat.succ.inj h)];grind
theorem Zca {a b:List Rat} (h:a.length=b.length) (q:Nat):(List.zipWith (·-·) a b).getD q 0=a.getD q 0-b.getD q 0:=by
 rw [n1_,n1_,n1_,n18_]
 by_cases hq:q<a.length
 · rw [n0_ hq,n0_ (by omega)];rfl
 · rw [n57_ (by omega),n57_ (by omega)];show (0:Rat)=0-0;grind
def Sol (rows:List (List Rat)) (rights:List Rat) (x:List Rat):Prop:=x.length=wid rows∧∀ (i:Nat) row r,rows[i]? = some row→rights[i]? = some r→rdot row x=r
def Ker (rows:List (List Rat)) (v:List Rat):Prop:=v.length=wid rows∧∀ row∈rows,rdot row v=0
structure RG (rows:List (List Rat)) (rights:List Rat):Prop where
 wd:∀ r∈rows,r.length=wid rows
 rl:rights.length=rows.length
 ok:∀ i,i≤wid rows→∀ x∈(stp (lns rows rights) i).2,x.1≠0∧x.2.length=wid rows+1
abbrev LC (rows:List (List Rat)) (rights:List Rat):Rat:=((lcmL (bots (rtv rows rights)):Int):Rat)
theorem Zlg (rows:List (List Rat)) (rights:List Rat):LC rows rights≠0:=Ye (by have:=(Xd _ (Y3 (rtv rows rights))).1;omega)
variable {rows:List (List Rat)} {rights:List Rat}
theorem RG.lv (G:RG rows rights):(lvd (rtv rows rights)).length=rows.length:=by unfold lvd rtv;rw [n2_,n22_,G.rl];exact n65_ _
theorem Zn4 {l:List Int} (hl:l∈lns rows rights):∃ (i:Nat) (row:List Rat) (t:Int),rows[i]? = some row∧(lvd (rtv rows rights))[i]? = some t∧l=wh row++[t]:=by
 obtain ⟨i,hi,e⟩:=n55_ hl;have e':(lns rows rights)[i]? = some l:=by rw [← e];exact n0_ hi
 unfold lns at e';rw [n18_] at e';split at e'
 · rename_i row t er et
   cases e'
   exact ⟨i,row,t,er,et,rfl⟩
 · cases e'
theorem RG.dot (G:RG rows rights) {l:List Int} (hl:l∈lns rows rights):∃ (i:Nat) (row:List Rat) (r:Rat),rows[i]? = some row∧rights[i]? = some r∧∀ (z:List Rat) (ζ:Rat),z.length=wid rows→dotQ l (z++[ζ])=lam row*(rdot row z+r*LC rows rights*ζ):=by
 obtain ⟨i,row,t,er,et,rfl⟩:=Zn4 hl;have hi:i<rights.length:=by rw [G.rl];exact (n11_.mp er).1
 have eg:=n0_ hi;refine ⟨i,row,_,er,eg,fun z ζ hz=>?_⟩;rw [Zdj (by rw [hz,G.wd row (n4_ er)]),Zik i er eg et]
 grind
theorem RG.line (G:RG rows rights) {i:Nat} {row:List Rat} {r:Rat} (er:rows[i]? = some row) (eg:rights[i]? = some r):∃ l∈lns rows rights,∀ (z:List Rat) (ζ:Rat),z.length=wid rows→dotQ l (z++[ζ])=lam row*(rdot row z+r*LC rows rights*ζ):=by
 have hi:i<(lvd (rtv rows rights)).length:=by rw [G.lv];exact (n11_.mp er).1
 have et:=n0_ hi;refine ⟨wh row++[_],n4_ (i:=i) (by unfold lns;rw [n18_,er,et]),fun z ζ hz=>?_⟩;rw [Zdj (by rw [hz,G.wd row (n4_ er)]),Zik i er eg et]
 grind
theorem RG.ech (G:RG rows rights):Ech (lns rows rights) (wid rows) (wid rows) (stF rows rights):=L2.ech G.ok (wid rows) (n9_ _)
theorem RG.st (G:RG rows rights):∀ x∈(stF rows rights).1,x.1<wid rows∧x.2.length=wid rows+1∧x.2.getD x.1 0≠0∧∀ p,p<x.1→x.2.getD p 0=0:=fun x hx=>⟨(G.ech.st x hx).1,G.ech.len x hx,(G.ech.st x hx).2.1,(G.ech.st x hx).2.2⟩
theorem RG.tk (G:RG rows rights):∀ p∈tkn rows rights,p<wid rows:=fun p hp=>by
 obtain ⟨x,hx,rfl⟩:=n19_.mp hp;exact (G.ech.st x hx).1
theorem RG.sol (G:RG rows rights) {xs:List Rat} (h:slv rows rights=some xs):Sol rows rights xs∧∀ p,p∉tkn rows rights→xs.getD p 0=0:=by
 have E:=G.ech;have fo:=Zkc (bots (rtv rows rights)) (Y3 _);have L0:=Zlg rows rights;unfold slv at h;split at h
 · cases h
 rename_i hn
 cases h
 rw [fo.2.1];obtain ⟨h1,h2⟩:=Zgg (n:=wid rows) (xs:=List.replicate (wid rows) 0) (by simp) (stF rows rights).1 E.asc G.st;have lf:(fil (stF rows rights).1 (List.replicate (wid rows) 0)).length=wid rows:=by rw [Xe];simp
 have lz:∀ x∈(stF rows rights).2,ort (fil (stF rows rights).1 (List.replicate (wid rows) 0)++[-1]) x.2:=fun x hx=>by
  unfold ort;rw [Zbh (n:=wid rows) x.2 _ _ (G.ok _ (n9_ _) x hx).2 lf (E.zl x hx)]
  have:x.2.getD (wid rows) 0=0:=by
   have:=List.any_eq_false.mp (Bool.eq_false_iff.mpr hn) x hx
   simpa using this
  rw [this]
  have:((0:Int):Rat)=0:=rfl
  rw [this];grind
 have B:=back (z:=fil (stF rows rights).1 (List.replicate (wid rows) 0)++[-1]) G.ok (wid rows) (n9_ _) h1 lz;generalize fil (stF rows rights).1 (List.replicate (wid rows) 0)=X at *;refine ⟨⟨by rw [n2_,lf],fun i row r er eg=>?_⟩,fun p hp=>?_⟩
 · obtain ⟨l,hl,e⟩:=G.line er eg;have o:=B l hl;unfold ort at o;rw [e X (-1) lf] at o
   have e2:rdot row (X.map fun x=>x/LC rows rights)=rdot row X*(LC rows rights)⁻¹:=by
    rw [← Zcw];first|(congr 1;done)|(congr 1;refine List.map_congr_left fun x _=>?_;grind)
   show rdot row (X.map fun x=>x/LC rows rights)=r
   rw [e2];have l0:=Zns row;generalize lam row=a at *;generalize LC rows rights=b at *;generalize rdot row X=c at *
   have:c+r*b * -1=0:=by grind
   grind
 · have:=h2 p hp
   rw [n1_,n8_]
   by_cases hq:p<X.length
   · rw [n1_,n0_ hq,n1_,n26_,if_pos (by omega)] at this;rw [n0_ hq];show X[p]/_=0
     have z:X[p]=0:=this;rw [z];grind
   · rw [n57_ (by omega)];rfl
theorem RG.none (G:RG rows rights) (h:slv rows rights=none) (x:List Rat):¬ Sol rows rights x:=fun ⟨lx,hx⟩=>by
 have E:=G.ech
 obtain ⟨y,hy,yn⟩:∃ x∈(stF rows rights).2,x.2.getD (wid rows) 0≠0:=by
  unfold slv at h;split at h
  · rename_i hc
    obtain ⟨x,hx,hc⟩:=List.any_eq_true.mp hc;exact ⟨x,hx,by simpa using hc⟩
  · cases h
 obtain ⟨c,lc,hc⟩:=E.mixL y hy;have h0:=hc (x++[-(LC rows rights)⁻¹]);rw [Zbh (n:=wid rows) y.2 _ _ (G.ok _ (n9_ _) y hy).2 lx (E.zl y hy)] at h0
 have:(List.zipWith (fun (a:Rat) l=>a*dotQ l (x++[-(LC rows rights)⁻¹])) c (lns rows rights)).sum=0:=by
  have:∀ (c:List Rat) (ls:List (List Int)),(∀ l∈ls,dotQ l (x++[-(LC rows rights)⁻¹])=0)→(List.zipWith (fun (a:Rat) l=>a*dotQ l (x++[-(LC rows rights)⁻¹])) c ls).sum=0:=fun c=>by
   induction c with
   | nil=>intro ls _;rw [n44_];rfl
   | cons a c ih=>intro ls hl;cases ls with
     | nil=>rw [n66_];rfl
     | cons l ls =>
       rw [n31_,n50_,ih ls fun m hm=>hl m (n3_ _ hm),hl l n5_];grind
  refine this _ _ fun l hl=>?_;obtain ⟨i,row,r,er,eg,e⟩:=G.dot hl;rw [e x _ lx,hx i row r er eg];have L0:=Zlg rows rights;generalize LC rows rights=b at *
  grind
 rw [this] at h0;have L0:=Zlg rows rights;have c0:=Ye yn;generalize LC rows rights=b at *;generalize ((y.2.getD (wid rows) 0:Int):Rat)=a at *
 have:a*b⁻¹=0:=by grind
 have:a=0:=by
  have:a*b⁻¹*b=0:=by rw [this];grind
  grind
 exact c0 this
theorem RG.free (G:RG rows rights) {p:Nat} (hp:p<wid rows) (h:p∉tkn rows rights):∃ v,Ker rows v∧v.getD p 0=1∧(∀ q,p<q→v.getD q 0=0)∧∀ q,q∉tkn rows rights→q≠p→v.getD q 0=0:=by
 have E:=G.ech;have l0:(List.replicate (wid rows) (0:Rat)).length=wid rows:=by simp
 have l1:((List.replicate (wid rows) (0:Rat)).set p 1).length=wid rows:=by simp
 obtain ⟨a1,a2⟩:=Zgg l0 (stF rows rights).1 E.asc G.st;obtain ⟨b1,b2⟩:=Zgg l1 (stF rows rights).1 E.asc G.st;have bey:=Ze3 (p:=p) l1 l0 (fun q hq=>by rw [Yl (by rw [l0];exact hp),if_neg (by omega)]) (stF rows rights).1 fun x hx=>(E.st x hx).1;have la:(fil (stF rows rights).1 (List.replicate (wid rows) 0)).length=wid rows:=by rw [Xe,l0]
 have lb:(fil (stF rows rights).1 ((List.replicate (wid rows) 0).set p 1)).length=wid rows:=by rw [Xe,l1]
 generalize fil (stF rows rights).1 (List.replicate (wid rows) 0)=A at *;generalize fil (stF rows rights).1 ((List.replicate (wid rows) 0).set p 1)=B at *;have lv:(List.zipWith (·-·) B A).length=wid rows:=by rw [n22_,la,lb];exact n65_ _
 have ev:List.zipWith (·-·) (B++[-1]) (A++[-1])=List.zipWith (·-·) B A++[(0:Rat)]:=by
  rw [List.zipWith_append (by rw [la,lb])]
  congr 1
  show [(-1:Rat) - -1]=[0]
  congr 1;grind
 have o1:∀ x∈(stF rows rights).1,ort (List.zipWith (·-·) B A++[0]) x.2:=fun x hx=>by
  unfold ort;rw [← ev,Zkx _ _ _ (by simp [la,lb])];have h1:=a1 x hx;have h2:=b1 x hx;unfold ort at h1 h2;rw [h1,h2];grind
 have o2:∀ x∈(stF rows rights).2,ort (List.zipWith (·-·) B A++[0]) x.2:=fun x hx=>by
  unfold ort;rw [Zbh (n:=wid rows) x.2 _ _ (G.ok _ (n9_ _) x hx).2 lv (E.zl x hx)];grind
 have K:=back (z:=List.zipWith (·-·) B A++[0]) G.ok (wid rows) (n9_ _) o1 o2;refine ⟨List.zipWith (·-·) B A,⟨lv,fun row hr=>?_⟩,?_,fun q hq=>?_,fun q hq hn=>?_⟩
 · obtain ⟨i,hi⟩:=n45_.mp hr;have hi':i<rights.length:=by rw [G.rl];exact (n11_.mp hi).1
   obtain ⟨l,hl,e⟩:=G.line hi (n0_ hi');have o:=K l hl;unfold ort at o;rw [e _ 0 lv] at o;have l0:=Zns row;generalize lam row=a at *
   grind
 · rw [Zca (by rw [la,lb]),a2 p h,b2 p h,Yl (by rw [l0];exact hp),if_pos rfl,n1_,n26_,if_pos hp];show (1:Rat)-0=1
   grind
 · rw [Zca (by rw [la,lb]),bey q hq];grind
 · rw [Zca (by rw [la,lb]),a2 q hq,b2 q hq,Yl (by rw [l0];exact hp),if_neg (fun z=>hn z.symm)];grind
theorem RG.unq (G:RG rows rights) {v:List Rat} (K:Ker rows v) (h:∀ p,p<wid rows→p∉tkn rows rights→v.getD p 0=0):∀ p,p<wid rows→v.getD p 0=0:=fun p hp=>by
 have E:=G.ech;obtain ⟨pv,_,l2,l3,_⟩:=E.pv
 have W:∀ r∈pv,ort (v++[-(0:Rat)]) r:=fun r hr=>by
  obtain ⟨i,row,g,er,eg,e⟩:=G.dot (l2 r hr);unfold ort;rw [e v _ K.1,K.2 row (n4_ er)];grind
 have U:=Zf4 (n:=wid rows) (T:=tkn rows rights) (w:=v) (D:=0) K.1 (stF rows rights).1 E.asc G.st (fun x hx=>l3 _ W x hx) (fun p hp hn=>absurd hp hn) h p hp (by
  by_cases h:p∈(stF rows rights).1.map Prod.fst
  · exact .inl h
  · exact .inr h)
 rw [U];grind
theorem RG.pin (G:RG rows rights) {v:List Rat} {p:Nat} (K:Ker rows v) (hp:p∈tkn rows rights) (h:∀ q,p<q→v.getD q 0=0):v.getD p 0=0:=by
 have E:=G.ech;obtain ⟨pv,_,l2,l3,_⟩:=E.pv
 have W:∀ r∈pv,ort (v++[-(0:Rat)]) r:=fun r hr=>by
  obtain ⟨i,row,g,er,eg,e⟩:=G.dot (l2 r hr);unfold ort;rw [e v _ K.1,K.2 row (n4_ er)];grind
 obtain ⟨x,hx,rfl⟩:=n19_.mp hp;have o:=l3 _ W x hx;obtain ⟨s1,s2,s3,s4⟩:=G.st x hx;have t:=Zdp (D:=0) x.1 x.2 v (List.replicate (wid rows) 0) (by rw [K.1];exact s2) (by rw [K.1];simp) (by rw [K.1];exact s1) s4 (fun q q1 q2=>by rw [h q q1];grind);unfold ort at o;rw [o] at t;have c0:=Ye s3;generalize ((x.2.getD x.1 0:Int):Rat)=a at *;generalize v.getD x.1 0=b at *
 have:a*b=0:=by grind
 grind
theorem Zpl {a b:List Rat} {n:Nat} (ha:a.length=n) (hb:b.length=n) (h:∀ p,p<n→a.getD p 0=b.getD p 0):a=b:=by
 refine List.ext_getElem (by rw [ha,hb]) fun i h1 h2=>?_
 have:=h i (by omega)
 rwa [n1_,n1_,n0_ h1,n0_ h2] at this
theorem Zjo:∀ (l a b:List Rat),a.length=b.length→rdot l (List.zipWith (·-·) a b)=rdot l a-rdot l b
 | [],a,b,_=>by rw [Z6,Z6,Z6];grind
 | _ :: _,[],[],_=>by rw [n44_,Z8];grind
 | _ :: _,[],_ :: _,h=>by cases h
 | _ :: _,_ :: _,[],h=>by cases h
 | x :: l,p :: a,q :: b,h=>by rw [n31_,Zo,Zo,Zo,Zjo l a b (Nat.succ.inj h)];grind
theorem RG.one (G:RG rows rights) {x y:List Rat} (hx:Sol rows rights x) (hy:Sol rows rights y) (zx:∀ p,p<wid rows→p∉tkn rows rights→x.getD p 0=0) (zy:∀ p,p<wid rows→p∉tkn rows rights→y.getD p 0=0):x=y:=by
 have hl:x.length=y.length:=by rw [hx.1,hy.1]
 have K:Ker rows (List.zipWith (·-·) x y):=⟨by rw [n22_,hl,hy.1];exact n65_ _,fun row hr=>by
  obtain ⟨i,hi⟩:=n45_.mp hr;have hi':i<rights.length:=by rw [G.rl];exact (n11_.mp hi).1
  rw [Zjo _ _ _ hl,hx.2 i row _ hi (n0_ hi'),hy.2 i row _ hi (n0_ hi')];grind⟩
 refine Zpl hx.1 hy.1 fun p hp=>?_
 have:=G.unq K (fun q hq hn=>by rw [Zca hl,zx q hq hn,zy q hq hn];grind) p hp
 rw [Zca hl] at this
 grind
theorem Zqm {n:Nat} (f g:Nat→Rat):((List.range n).map fun q=>f q+g q).sum=((List.range n).map f).sum+((List.range n).map g).sum:=by
 induction n with
 | zero=>show (0:Rat)=0+0;grind
 | succ n ih =>
   rw [n92_,n72_,n72_,n72_,List.sum_append,List.sum_append,List.sum_append,ih];show _+(f n+g n+0)=_+(f n+0)+(_+(g n+0))
   grind
theorem Zfp:∀ (row v:List Rat) (y:Rat),row.length=v.length→y*rdot row v=((List.range v.length).map fun q=>v.getD q 0*(row.getD q 0*y)).sum
 | [],[],y,_=>by rw [Z6];show y*0=0;grind
 | [],_ :: _,_,h=>by cases h
 | _ :: _,[],_,h=>by cases h
 | a :: row,b :: v,y,h=>by
   rw [Zo,n33_,List.range_succ_eq_map,n71_,n50_,List.map_map];have ih:=Zfp row v y (Nat.succ.inj h);show _=b*(a*y)+((List.range v.length).map fun q=>v.getD q 0*(row.getD q 0*y)).sum
   rw [← ih];grind
theorem swap {v:List Rat}:∀ (y:List Rat) (rows:List (List Rat)),(∀ r∈rows,r.length=v.length)→y.length=rows.length→(List.zipWith (fun (a:Rat) row=>a*rdot row v) y rows).sum=((List.range v.length).map fun q=>v.getD q 0*rdot (rows.map fun r=>r.getD q 0) y).sum
 | [],[],_,_=>by
   rw [n44_]
   have:∀ n:Nat,((List.range n).map fun q=>v.getD q 0*rdot (([]:List (List Rat)).map fun r=>r.getD q 0) []).sum=0:=fun n=>by
    induction n with
    | zero=>rfl
    | succ n ih =>
      rw [n92_,n72_,List.sum_append,ih];show (0:Rat)+(v.getD n 0*0+0)=0
      grind
   rw [this];rfl
 | [],_ :: _,_,h=>by cases h
 | _ :: _,[],_,h=>by cases h
 | a :: y,row :: rows,h1,h2=>by
   have ih:=swap y rows (fun r hr=>h1 r (n3_ _ hr)) (Nat.succ.inj h2);rw [n31_,n50_,ih,Zfp row v a (h1 row n5_),← Zqm]
   congr 1
   refine List.map_congr_left fun q _=>?_;rw [n71_,Zo];grind
theorem Znn (f:Nat→Rat) (n:Nat) (h:∀ q,q<n→f q=0):((List.range n).map f).sum=0:=by
 induction n with
 | zero=>rfl
 | succ n ih =>
   rw [n92_,n72_,List.sum_append,ih fun q hq=>h q (by omega)];show (0:Rat)+(f n+0)=0
   rw [h n (by omega)];grind
def Mix (rows:List (List Rat)) (rights:List Rat) (y:List Rat):Prop:=y.length=rows.length∧rdot y rights≠0∧∀ p,p<wid rows→rdot (rows.map fun r=>r.getD p 0) y=0
theorem RG.mix (G:RG rows rights) {ys:List Rat} (G2:RG (cols rows (tkn rows rights)++[rights]) (List.replicate (tkn rows rights).length 0++[1])) (h:mixM rows rights (tkn rows rights)=some ys):Mix rows rights ys:=by
 obtain ⟨⟨l1,s⟩,_⟩:=G2.sol h;have lc:(cols rows (tkn rows rights)).length=(tkn rows rights).length:=by unfold cols;rw [n2_]
 have wC:wid (cols rows (tkn rows rights)++[rights])=rows.length:=by
  have:=G2.wd rights (n24_ _ n5_)
  rw [← this];exact G.rl
 have ly:ys.length=rows.length:=by rw [l1,wC]
 have tk:∀ p∈tkn rows rights,rdot (rows.map fun r=>r.getD p 0) ys=0:=fun p hp=>by
  obtain ⟨i,hi⟩:=n45_.mp hp;have hi':=(n11_.mp hi).1;refine s i _ _ ?_ ?_
  · rw [n40_ (by rw [lc];exact hi')];unfold cols;rw [n8_,hi];rfl
  · rw [n40_ (by simpa using hi'),n26_,if_pos hi']
 have one:rdot rights ys=1:=s (tkn rows rights).length _ _ (by rw [n35_ (by rw [lc];exact n9_ _),lc,Nat.sub_self];rfl) (by rw [n35_ (by simp)];simp);refine ⟨ly,by rw [Zb3,one];decide,fun p hp=>?_⟩
 by_cases h:p∈tkn rows rights
 · exact tk p h
 obtain ⟨v,K,v1,_,v3⟩:=G.free hp h;have sw:=swap (v:=v) ys rows (fun r hr=>by rw [K.1];exact G.wd r hr) ly
 have z:(List.zipWith (fun (a:Rat) row=>a*rdot row v) ys rows).sum=0:=by
  have:∀ (y:List Rat) (rows:List (List Rat)),(∀ row∈rows,rdot row v=0)→(List.zipWith (fun (a:Rat) row=>a*rdot row v) y rows).sum=0:=fun y=>by
   induction y with
   | nil=>intro rows _;rw [n44_];rfl
   | cons a y ih=>intro rows h;cases rows with
     | nil=>rw [n66_];rfl
     | cons row rows=>rw [n31_,n50_,ih rows fun r hr=>h r (n3_ _ hr),h row n5_];grind
  exact this _ _ K.2
 rw [z,K.1] at sw
 have only:∀ (f:Nat→Rat) (n:Nat),p<n→(∀ q,q<n→q≠p→f q=0)→((List.range n).map f).sum=f p:=fun f n=>by
  induction n with
  | zero=>intro h;omega
  | succ n ih =>
    intro hp hf;rw [n92_,n72_,List.sum_append];show _+(f n+0)=f p
    by_cases e:p=n
    · subst e;rw [Znn f p fun q hq=>hf q (by omega) (by omega)];grind
    · rw [ih (by omega) fun q hq hn=>hf q (by omega) hn,hf n (by omega) (fun z=>e z.symm)];grind
 rw [only _ _ hp fun q hq hn=>?_,v1] at sw
 · grind
 · by_cases hq':q∈tkn rows rights
   · rw [tk q hq'];grind
   · rw [v3 q hq' hn];grind
abbrev Tb:=List (List Rat)
def rwT (T:Tb) (k:Nat):List Rat:=T.getD k []
def owT (T:Tb) (d p:Nat):List Rat:=(rwT T d).map fun x=>x/(rwT T d).getD p 0
def clr1 (own:List Rat) (p:Nat) (row:List Rat):List Rat:=List.zipWith (fun x y=>x+(-(row.getD p 0))*y) row own
def gcl (T:Tb) (d p:Nat):Tb:=(List.range T.length).map fun k=>if k=d then owT T d p else clr1 (owT T d p) p (rwT T k)
def swp (T:Tb) (d k:Nat):Tb:=(T.set d (rwT T k)).set k (rwT T d)
def Zkd (T:Tb) (d p:Nat):List Nat:=(List.range (T.length-d)).filterMap fun j=>if (rwT T (d+j)).getD p 0=0 then none else some (d+j)
def Zgx (T:Tb) (d p:Nat):Option Nat:=(Zkd T d p).head?
def gj1 (S:Tb×List Nat) (p:Nat):Tb×List Nat:=match Zgx S.1 S.2.length p with
 | none=>S
 | some k=>(gcl (swp S.1 S.2.length k) S.2.length p,S.2++[p])
def gj (T:Tb) (n:Nat):Tb×List Nat:=(List.range n).foldl gj1 (T,[])
theorem Zi0 {T:Tb} {n:Nat}:gj T (n+1)=gj1 (gj T n) n:=by unfold gj;rw [n92_,n74_];rfl
def Ort (T:Tb) (z:List Rat):Prop:=∀ k,k<T.length→rdot (rwT T k) z=0
theorem Zgn {n k:Nat} {f:Nat→List Rat} (h:k<n):rwT ((List.range n).map f) k=f k:=by
 unfold rwT;rw [n1_,n8_,List.getElem?_range h];rfl
theorem Zl1 {T:Tb} {d k:Nat} {r:List Rat} (h:d<T.length):rwT (T.set d r) k=if d=k then r else rwT T k:=by
 unfold rwT;rw [n1_,List.getElem?_set,n1_];split
 · first|rfl|(rw [if_pos h];rfl)
 · rfl
theorem Za4 {T:Tb} {d k:Nat}:(swp T d k).length=T.length:=by unfold swp;rw [n47_,n47_]
theorem Zbp {T:Tb} {d p:Nat}:(gcl T d p).length=T.length:=by unfold gcl;rw [n2_,List.length_range]
theorem Zav {T:Tb} {d k j:Nat} (hd:d<T.length) (hk:k<T.length):rwT (swp T d k) j=if k=j then rwT T d else if d=j then rwT T k else rwT T j:=by
 unfold swp;rw [Zl1 (by rw [n47_];exact hk),Zl1 hd]
theorem Zqj {T:Tb} {d k:Nat} (hd:d<T.length) (hk:k<T.length) (z:List Rat):Ort (swp T d k) z↔Ort T z:=by
 unfold Ort;rw [Za4];constructor
 · intro h j hj
   by_cases e1:j=d
   · have:=h k hk
     rw [Zav hd hk,if_pos rfl] at this;rw [e1];exact this
   · by_cases e2:j=k
     · have:=h d hd
       rw [Zav hd hk] at this
       by_cases e3:k=d
       · exact absurd (e2.trans e3) e1
       · rw [if_neg e3,if_pos rfl] at this;rw [e2];exact this
     · have:=h j hj
       rw [Zav hd hk,if_neg (fun z=>e2 z.symm),if_neg (fun z=>e1 z.symm)] at this;exact this
 · intro h j hj;rw [Zav hd hk];split
   · exact h d hd
   · split
     · exact h k hk
     · exact h j hj
theorem Zg8 (c:Rat):∀ (a b:List Rat),rdot (a.map fun x=>x/c) b=rdot a b/c
 | [],b=>by rw [List.map_nil,Z6];grind
 | _ :: _,[]=>by rw [Z8,Z8];grind
 | x :: a,y :: b=>by rw [n71_,Zo,Zo,Zg8 c a b];grind
theorem Zjs (c:Rat):∀ (a b z:List Rat),a.length=b.length→rdot (List.zipWith (fun x y=>x+c*y) a b) z=rdot a z+c*rdot b z
 | [],[],z,_=>by rw [n44_,Z6];grind
 | [],_ :: _,_,h=>by cases h
 | _ :: _,[],_,h=>by cases h
 | _ :: _,_ :: _,[],_=>by rw [Z8,Z8,Z8];grind
 | p :: a,q :: b,y :: z,h=>by rw [n31_,Zo,Zo,Zo,Zjs c a b z (Nat.succ.inj h)];grind
theorem Zop {c:Rat} {a b:List Rat} (h:a.length=b.length) (q:Nat):(List.zipWith (fun x y=>x+c*y) a b).getD q 0=a.getD q 0+c*b.getD q 0:=by
 rw [n1_,n1_,n1_,n18_]
 by_cases hq:q<a.length
 · rw [n0_ hq,n0_ (by omega)];rfl
 · rw [n57_ (by omega),n57_ (by omega)];show (0:Rat)=0+c*0;grind
theorem Zo3 {c:Rat} {a:List Rat} (q:Nat):(a.map fun x=>x/c).getD q 0=a.getD q 0/c:=by
 rw [n1_,n1_,n8_]
 by_cases hq:q<a.length
 · rw [n0_ hq];rfl
 · rw [n57_ (by omega)];show (0:Rat)=0/c;grind
theorem Zrh {T:Tb} {d p m:Nat} (hd:d<T.length) (hl:∀ k,k<T.length→(rwT T k).length=m) (hz:(rwT T d).getD p 0≠0) (z:List Rat):Ort (gcl T d p) z↔Ort T z:=by
 have own:rdot (owT T d p) z=rdot (rwT T d) z/(rwT T d).getD p 0:=Zg8 _ _ _;have lo:(owT T d p).length=m:=by unfold owT;rw [n2_];exact hl d hd
 have g:∀ k,k<T.length→rdot (rwT (gcl T d p) k) z=if k=d then rdot (rwT T d) z/(rwT T d).getD p 0 else rdot (rwT T k) z+(-((rwT T k).getD p 0))*(rdot (rwT T d) z/(rwT T d).getD p 0):=fun k hk=>by
  unfold gcl;rw [Zgn hk];split
  · exact own
  · unfold clr1;rw [Zjs _ _ _ _ (by rw [hl k hk,lo]),own]
 unfold Ort;rw [Zbp];constructor
 · intro h;have h0:=h d hd;rw [g d hd,if_pos rfl] at h0
   have z0:rdot (rwT T d) z=0:=by
    generalize rdot (rwT T d) z=a at *;generalize (rwT T d).getD p 0=b at *
    grind
   intro k hk
   by_cases e:k=d
   · rw [e];exact z0
   · have h1:=h k hk;rw [g k hk,if_neg e,z0] at h1
     grind
 · intro h k hk;rw [g k hk,h d hd];split
   · grind
   · rw [h k hk];grind
structure Gj (T0:Tb) (w i:Nat) (S:Tb×List Nat):Prop where
 len:S.1.length=T0.length
 rl:∀ k,k<S.1.length→(rwT S.1 k).length=w+1
 or:∀ z,Ort S.1 z↔Ort T0 z
 asc:S.2.Pairwise (·<·)
 lt:∀ p∈S.2,p<i
 ls:S.2.length≤S.1.length
 one:∀ j p,S.2[j]? = some p→∀ k,k<S.1.length→(rwT S.1 k).getD p 0=if k=j then 1 else 0
 led:∀ j p,S.2[j]? = some p→∀ q,q<p→(rwT S.1 j).getD q 0=0
 low:∀ k,S.2.length≤k→k<S.1.length→∀ q,q<i→(rwT S.1 k).getD q 0=0
theorem Zcv {T:Tb} {d p k:Nat} (h:Zgx T d p=some k):d≤k∧k<T.length∧(rwT T k).getD p 0≠0:=by
 unfold Zgx at h;have m:=List.mem_of_mem_head? (by rw [h];rfl:k∈(Zkd T d p).head?);obtain ⟨j,hj,e⟩:=List.mem_filterMap.mp m
 have:=n90_.mp hj
 split at e
 · cases e
 · rename_i hn
   cases e
   exact ⟨by omega,by omega,hn⟩
theorem Zld {T:Tb} {d p:Nat} (h:Zgx T d p=none):∀ k,d≤k→k<T.length→(rwT T k).getD p 0=0:=fun k h1 h2=>by
 unfold Zgx at h;have e:=List.head?_eq_none_iff.mp h;unfold Zkd at e
 have:=List.filterMap_eq_nil_iff.mp e (k-d) (n90_.mpr (by omega))
 rw [show d+(k-d)=k by omega] at this;split at this
 · assumption
 · cases this
theorem Zoq {T0:Tb} {w:Nat} (hl:∀ k,k<T0.length→(rwT T0 k).length=w+1):∀ i,i≤w→Gj T0 w i (gj T0 i)
 | 0,_=>⟨rfl,hl,fun z=>Iff.rfl,.nil,fun p hp=>(nomatch hp),n60_ _,fun j p e=>(nomatch e),fun j p e=>(nomatch e),fun k _ _ q hq=>absurd hq (Nat.not_lt_zero _)⟩
 | i+1,hi=>by
   have ih:=Zoq hl i (by omega);rw [Zi0];unfold gj1;generalize gj T0 i=S at *;cases e:Zgx S.1 S.2.length i with
   | none =>
     have hn:=Zld e
     exact ⟨ih.len,ih.rl,ih.or,ih.asc,fun p hp=>Nat.lt_succ_of_lt (ih.lt p hp),ih.ls,ih.one,ih.led,fun k h1 h2 q hq=>by
      by_cases hqi:q<i
      · exact ih.low k h1 h2 q hqi
      · have:q=i:=by omega
        rw [this];exact hn k h1 h2⟩
   | some k =>
     obtain ⟨hdk,hk,hz⟩:=Zcv e;have hd:S.2.length<S.1.length:=by omega
     generalize hdd:S.2.length=d at *;have rS:∀ j,j<S.1.length→rwT (swp S.1 d k) j=if k=j then rwT S.1 d else if d=j then rwT S.1 k else rwT S.1 j:=fun j _=>Zav hd hk
     have lS:∀ j,j<(swp S.1 d k).length→(rwT (swp S.1 d k) j).length=w+1:=fun j hj=>by
      rw [Za4] at hj;rw [rS j hj];split
      · exact ih.rl d hd
      · split
        · exact ih.rl k hk
        · exact ih.rl j hj
     have dS:rwT (swp S.1 d k) d=rwT S.1 k:=by
      rw [rS d hd];split
      · rename_i z;rw [z]
      · rw [if_pos rfl]
     have oneS:∀ j p,S.2[j]? = some p→∀ m,m<S.1.length→(rwT (swp S.1 d k) m).getD p 0=if m=j then 1 else 0:=fun j p ep m hm=>by
      have hj:j<d:=by rw [← hdd];exact (n11_.mp ep).1
      rw [rS m hm];split
      · rename_i z
        rw [ih.one j p ep d hd,if_neg (by omega),if_neg (by omega)]
      · split
        · rw [ih.one j p ep k hk,if_neg (by omega),if_neg (by omega)]
        · exact ih.one j p ep m hm
     have lowS:∀ m,d≤m→m<S.1.length→∀ q,q<i→(rwT (swp S.1 d k) m).getD q 0=0:=fun m h1 h2 q hq=>by
      rw [rS m h2];split
      · exact ih.low d (by omega) hd q hq
      · split
        · exact ih.low k (by omega) hk q hq
        · exact ih.low m (by omega) h2 q hq
     have ledS:∀ j p,S.2[j]? = some p→∀ q,q<p→(rwT (swp S.1 d k) j).getD q 0=0:=fun j p ep q hq=>by
      have hj:j<d:=by rw [← hdd];exact (n11_.mp ep).1
      rw [rS j (by omega),if_neg (by omega),if_neg (by omega)];exact ih.led j p ep q hq
     have orS:∀ z,Ort (swp S.1 d k) z↔Ort T0 z:=fun z=>(Zqj hd hk z).trans (ih.or z);have hz':(rwT (swp S.1 d k) d).getD i 0≠0:=by rw [dS];exact hz
     have hd':d<(swp S.1 d k).length:=by rw [Za4];exact hd
     have len':(swp S.1 d k).length=S.1.length:=Za4;show Gj T0 w (i+1) (gcl (swp S.1 d k) d i,S.2++[i])
     generalize swp S.1 d k=T at *;have lo:(owT T d i).length=w+1:=by unfold owT;rw [n2_];exact lS d hd'
     have ow:∀ q,(owT T d i).getD q 0=(rwT T d).getD q 0/(rwT T d).getD i 0:=fun q=>Zo3 q
     have gg:∀ m,m<T.length→∀ q,(rwT (gcl T d i) m).getD q 0=if m=d then (rwT T d).getD q 0/(rwT T d).getD i 0 else (rwT T m).getD q 0+(-((rwT T m).getD i 0))*((rwT T d).getD q 0/(rwT T d).getD i 0):=fun m hm q=>by
      unfold gcl;rw [Zgn hm];split
      · exact ow q
      · unfold clr1;rw [Zop (by rw [lS m hm,lo]),ow]
     have own0:∀ q,q<i→(rwT T d).getD q 0=0:=fun q hq=>lowS d (n9_ _) hd q hq;refine ⟨by show (gcl T d i).length=_;rw [Zbp,len',ih.len],fun m hm=>?_,fun z=>(Zrh hd' lS hz' z).trans (orS z),?_,fun p hp=>?_,?_,fun j p ep m hm=>?_,fun j p ep q hq=>?_,fun m h1 h2 q hq=>?_⟩
     · have hm:m<(gcl T d i).length:=hm;rw [Zbp] at hm;show (rwT (gcl T d i) m).length=_
       unfold gcl;rw [Zgn hm];split
       · exact lo
       · unfold clr1;rw [n22_,lS m hm,lo];exact n65_ _
     · show (S.2++[i]).Pairwise _
       rw [List.pairwise_append];exact ⟨ih.asc,List.pairwise_singleton _ _,fun p hp q hq=>by rw [n15_.mp hq];exact ih.lt p hp⟩
     · rcases n46_.mp (show p∈S.2++[i] from hp) with hp|hp
       · exact Nat.lt_succ_of_lt (ih.lt p hp)
       · rw [n15_.mp hp];exact Nat.lt_succ_self i
     · show (S.2++[i]).length≤(gcl T d i).length
       rw [n20_,Zbp,hdd];show d+1≤_;omega
     · have hm:m<(gcl T d i).length:=hm;rw [Zbp] at hm;change (S.2++[i])[j]? = some p at ep;show (rwT (gcl T d i) m).getD p 0=_
       rw [gg m hm p]
       by_cases hj:j<d
       · rw [n40_ (by omega)] at ep;have a1:=oneS j p ep m (by omega);have a2:=oneS j p ep d hd;rw [if_neg (by omega)] at a2;rw [a2,a1];split
         · rename_i z;rw [if_neg (by omega)];grind
         · grind
       · have hl':=(n11_.mp ep).1;rw [n20_,hdd] at hl'
         have:j=d:=by have:j<d+1:=hl';omega
         subst this;rw [n35_ (by omega),show j-S.2.length=0 by omega] at ep;cases ep
         generalize (rwT T j).getD i 0=b at *;split
         · grind
         · generalize (rwT T m).getD i 0=c at *
           grind
     · change (S.2++[i])[j]? = some p at ep;show (rwT (gcl T d i) j).getD q 0=0
       by_cases hj:j<d
       · rw [n40_ (by omega)] at ep;have pi:p<i:=ih.lt p (n4_ ep);rw [gg j (by omega) q,if_neg (by omega),own0 q (by omega),ledS j p ep q hq];grind
       · have hl':=(n11_.mp ep).1;rw [n20_,hdd] at hl'
         have:j=d:=by have:j<d+1:=hl';omega
         subst this;rw [n35_ (by omega),show j-S.2.length=0 by omega] at ep;cases ep
         rw [gg j (by omega) q,if_pos rfl,own0 q hq];grind
     · have h1:(S.2++[i]).length≤m:=h1;have h2:m<(gcl T d i).length:=h2;rw [Zbp] at h2;rw [n20_,hdd] at h1;have h1:d+1≤m:=h1;show (rwT (gcl T d i) m).getD q 0=0
       rw [gg m h2 q,if_neg (by omega)]
       by_cases hqi:q<i
       · rw [own0 q hqi,lowS m (by omega) (by omega) q hqi];grind
       · have:q=i:=by omega
         subst this;generalize (rwT T d).getD q 0=b at *;generalize (rwT T m).getD q 0=c at *
         grind
def tab (ms:List (List Rat)) (qs:List Rat):Tb:=List.zipWith (fun row r=>row++[r]) ms qs
theorem Zhq:∀ (row v:List Rat) (c:Rat),row.length=v.length+1→rdot row (v++[c])=rdot row v+row.getD v.length 0*c
 | [a],[],c,_=>by rw [List.nil_append,Zo,Z6,Z8];show a*c+0=0+a*c;grind
 | [],_,_,h=>by cases h
 | _ :: _ :: _,[],_,h=>by cases h
 | a :: row,b :: v,c,h=>by
   rw [n85_,Zo,Zo,Zhq row v c (Nat.succ.inj h)];show _=a*b+rdot row v+row.getD v.length 0*c
   grind
theorem Zci {a b:Rat}:∀ (x y:List Rat),x.length=y.length→rdot (x++[a]) (y++[b])=rdot x y+a*b
 | [],[],_=>by rw [List.nil_append,List.nil_append,Zo,Z6];grind
 | [],_ :: _,h=>by cases h
 | _ :: _,[],h=>by cases h
 | p :: x,q :: y,h=>by rw [n85_,n85_,Zo,Zo,Zci x y (Nat.succ.inj h)];grind
theorem Zds:∀ (row z:List Rat) (p:Nat) (c:Rat),p<z.length→z.length≤row.length→rdot row (z.set p c)=rdot row z+row.getD p 0*(c-z.getD p 0)
 | _,[],_,_,h,_=>by cases h
 | [],_ :: _,_,_,_,h=>by cases h
 | a :: row,b :: z,0,c,_,_=>by rw [List.set_cons_zero,Zo,Zo];show _=a*b+rdot row z+a*(c-b);grind
 | a :: row,b :: z,p+1,c,h1,h2=>by
   rw [List.set_cons_succ,Zo,Zo,Zds row z p c (n70_ h1) (Nat.le_of_succ_le_succ h2)];show _=a*b+rdot row z+row.getD p 0*(c-z.getD p 0)
   grind
def putR:List Nat→List Rat→List Rat→List Rat
 | p :: ps,x :: xs,z=>putR ps xs (z.set p x)
 | _,_,z=>z
theorem Za9:∀ (ps:List Nat) (xs z:List Rat),(putR ps xs z).length=z.length
 | [],_,_=>by unfold putR;rfl
 | _ :: _,[],_=>by unfold putR;rfl
 | p :: ps,x :: xs,z=>by unfold putR;rw [Za9 ps xs,n47_]
theorem Zbz {q:Nat}:∀ (ps:List Nat) (xs z:List Rat),(∀ p∈ps,p<z.length)→q∉ps→(putR ps xs z).getD q 0=z.getD q 0
 | [],_,_,_,_=>by unfold putR;rfl
 | _ :: _,[],_,_,_=>by unfold putR;rfl
 | p :: ps,x :: xs,z,h,hq=>by
   unfold putR;rw [Zbz ps xs _ (fun p' hp=>by rw [n47_];exact h p' (n3_ _ hp)) fun m=>hq (n3_ _ m),Yl (h p n5_),if_neg fun e=>hq (by rw [← e];exact n5_)]
theorem Zhk {row:List Rat}:∀ (ps:List Nat) (xs z:List Rat),ps.Pairwise (·<·)→(∀ p∈ps,p<z.length)→z.length≤row.length→(∀ p∈ps,z.getD p 0=0)→rdot row (putR ps xs z)=rdot row z+(List.zipWith (fun p x=>row.getD p 0*x) ps xs).sum
 | [],_,_,_,_,_,_=>by unfold putR;rw [n44_];show _=_+0;grind
 | _ :: _,[],_,_,_,_,_=>by unfold putR;rw [n66_];show _=_+0;grind
 | p :: ps,x :: xs,z,as,h,hl,h0=>by
   have as':=n95_.mp as;unfold putR
   rw [Zhk ps xs (z.set p x) as'.2 (fun p' hp=>by rw [n47_];exact h p' (n3_ _ hp)) (by rw [n47_];exact hl) (fun p' hp=>by
    have:=as'.1 p' hp
    rw [Yl (h p n5_),if_neg (by omega)];exact h0 p' (n3_ _ hp)),Zds _ _ _ _ (h p n5_) hl,h0 p n5_,n31_,n50_]
   grind
theorem Zke {row:List Rat} {j:Nat}:∀ (ps:List Nat) (xs:List Rat) (o:Nat),xs.length=ps.length→(∀ l p,ps[l]? = some p→row.getD p 0=if j=l+o then 1 else 0)→(List.zipWith (fun p x=>row.getD p 0*x) ps xs).sum=if o≤j then xs.getD (j-o) 0 else 0
 | [],[],o,_,_=>by rw [n44_];split<;>rfl
 | [],_ :: _,_,h,_=>by cases h
 | _ :: _,[],_,h,_=>by cases h
 | p :: ps,x :: xs,o,h,hp=>by
   have ih:=Zke (row:=row) (j:=j) ps xs (o+1) (Nat.succ.inj h) fun l p' e=>by
    rw [hp (l+1) p' (by simpa using e)];congr 1;simp;omega
   have h0:=hp 0 p rfl;rw [n31_,n50_,ih,h0]
   by_cases e1:j=o
   · rw [if_pos (by omega),if_neg (by omega),if_pos (by omega),show j-o=0 by omega];show 1*x+0=x
     grind
   · rw [if_neg (by omega)]
     by_cases e2:o≤j
     · rw [if_pos (by omega),if_pos e2,show j-o=(j-(o+1))+1 by omega];show 0*x+xs.getD _ 0=xs.getD _ 0
       grind
     · rw [if_neg (by omega),if_neg e2];grind
theorem Zki {n k:Nat} {f:Nat→Rat}:((List.range n).map f).getD k 0=if k<n then f k else 0:=by
 rw [n1_,n8_];split
 · rename_i h;rw [List.getElem?_range h];rfl
 · rename_i h;rw [n57_ (by simpa using h)];rfl
theorem Zls {row:List Rat} {n p:Nat} (hl:row.length=n+1) (hp:p<n):rdot row ((List.replicate n (0:Rat)).set p 1)=row.getD p 0:=by
 have z0:∀ (row:List Rat) (n:Nat),rdot row (List.replicate n 0)=0:=fun row=>by
  induction row with
  | nil=>intro n;exact Z6
  | cons a row ih=>intro n;cases n with
    | zero=>exact Z8
    | succ n=>rw [n49_,Zo,ih];grind
 rw [Zds _ _ _ _ (by simpa using hp) (by simp;omega),z0,n1_ (l:=List.replicate n 0),n26_,if_pos hp];show 0+_*(1-(0:Rat))=_
 grind
variable {ms:List (List Rat)} {qs:List Rat}
theorem Zel (rl:qs.length=ms.length):(tab ms qs).length=ms.length:=by unfold tab;rw [n22_,rl];exact n65_ _
theorem Zcg (rl:qs.length=ms.length) {k:Nat} (hk:k<ms.length):rwT (tab ms qs) k=ms[k]++[qs[k]]:=by
 unfold rwT tab;rw [n1_,n18_,n0_ hk,n0_ (by omega)];rfl
theorem Zmn (hw:∀ r∈ms,r.length=wid ms) (rl:qs.length=ms.length) {x:List Rat} {c:Rat} (hx:x.length=wid ms):Ort (tab ms qs) (x++[c])↔∀ (i:Nat) row r,ms[i]? = some row→qs[i]? = some r→rdot row x+r*c=0:=by
 unfold Ort;rw [Zel rl];constructor
 · intro h i row r e1 e2;obtain ⟨hi,rfl⟩:=n11_.mp e1;obtain ⟨hj,rfl⟩:=n11_.mp e2
   have:=h i hi
   rw [Zcg rl hi,Zci _ _ (by rw [hw _ (n13_ hi),hx])] at this;exact this
 · intro h k hk;rw [Zcg rl hk,Zci _ _ (by rw [hw _ (n13_ hk),hx])];exact h k _ _ (n0_ hk) (n0_ (by omega))
def gjv (S:Tb×List Nat) (w:Nat):List Rat:=putR S.2 ((List.range S.2.length).map fun j=>(rwT S.1 j).getD w 0) (List.replicate w 0)
theorem Zqx (G:RG ms qs):(∀ p,p<wid ms→(p∈(gj (tab ms qs) (wid ms)).2↔p∈tkn ms qs))∧(∀ p∈(gj (tab ms qs) (wid ms)).2,p<wid ms) ∧
 ((∀ k,(gj (tab ms qs) (wid ms)).2.length≤k→k<ms.length→(rwT (gj (tab ms qs) (wid ms)).1 k).getD (wid ms) 0=0)→slv ms qs=some (gjv (gj (tab ms qs) (wid ms)) (wid ms))) ∧
 (∀ k,(gj (tab ms qs) (wid ms)).2.length≤k→k<ms.length→(rwT (gj (tab ms qs) (wid ms)).1 k).getD (wid ms) 0≠0→slv ms qs=none):=by
 have J:=Zoq (T0:=tab ms qs) (w:=wid ms) (fun k hk=>by
  rw [Zel G.rl] at hk;rw [Zcg G.rl hk,n20_,G.wd _ (n13_ hk)];rfl) (wid ms) (n9_ _)
 generalize gj (tab ms qs) (wid ms)=S at *;have ln:S.1.length=ms.length:=by rw [J.len,Zel G.rl]
 have rw_:∀ k,k<S.1.length→∀ (v:List Rat) (c:Rat),v.length=wid ms→rdot (rwT S.1 k) (v++[c])=rdot (rwT S.1 k) v+(rwT S.1 k).getD (wid ms) 0*c:=fun k hk v c hv=>by
  rw [Zhq _ _ _ (by rw [J.rl k hk,hv]),hv]
 have z0:∀ (row:List Rat) (n:Nat),rdot row (List.replicate n 0)=0:=fun row=>by
  induction row with
  | nil=>intro n;exact Z6
  | cons a row ih=>intro n;cases n with
    | zero=>exact Z8
    | succ n=>rw [n49_,Zo,ih];grind
 have pick:∀ k,k<S.1.length→∀ (xs z:List Rat),xs.length=S.2.length→z.length=wid ms→(∀ p∈S.2,z.getD p 0=0)→rdot (rwT S.1 k) (putR S.2 xs z)=rdot (rwT S.1 k) z+xs.getD k 0:=fun k hk xs z hx hz h0=>by
  rw [Zhk S.2 xs z J.asc (fun p hp=>by rw [hz];exact J.lt p hp) (by rw [hz,J.rl k hk];omega) h0,Zke (j:=k) S.2 xs 0 hx (fun l p e=>by rw [J.one l p e k hk];rfl),if_pos (n60_ _)];rfl
 have low0:∀ k,S.2.length≤k→k<S.1.length→∀ v:List Rat,v.length=wid ms→rdot (rwT S.1 k) v=0:=fun k h1 h2 v hv=>by
  have:∀ (row v:List Rat),(∀ q,q<v.length→row.getD q 0=0)→rdot row v=0:=fun row=>by
   induction row with
   | nil=>intro v _;exact Z6
   | cons a row ih=>intro v h;cases v with
     | nil=>exact Z8
     | cons b v =>
       have a0:a=0:=h 0 (Nat.succ_pos _);rw [Zo,a0,ih v fun q hq=>h (q+1) (n81_ hq)];grind
  exact this _ _ fun q hq=>J.low k h1 h2 q (by rw [hv] at hq;exact hq)
 have KO:∀ v:List Rat,Ker ms v↔v.length=wid ms∧Ort S.1 (v++[0]):=fun v=>by
  refine and_congr_right fun hv=>?_;rw [J.or,Zmn G.wd G.rl hv]
  exact ⟨fun h i row r e1 _=>by rw [h row (n4_ e1)];grind,fun h row hr=>by
   obtain ⟨i,hi⟩:=n45_.mp hr;have hq:i<qs.length:=by rw [G.rl];exact (n11_.mp hi).1
   have:=h i row _ hi (n0_ hq)
   grind⟩
 have SO:∀ x:List Rat,Sol ms qs x↔x.length=wid ms∧Ort S.1 (x++[-1]):=fun x=>by
  refine and_congr_right fun hv=>?_;rw [J.or,Zmn G.wd G.rl hv];exact ⟨fun h i row r e1 e2=>by rw [h i row r e1 e2];grind,fun h i row r e1 e2=>by have:=h i row r e1 e2;grind⟩
 have mem:∀ p,p<wid ms→(p∈S.2↔p∈tkn ms qs):=fun p hp=>by
  constructor
  · intro h;refine Decidable.byContradiction fun hn=>?_;obtain ⟨v,K,v1,v2,_⟩:=G.free hp hn;obtain ⟨j,hj⟩:=n45_.mp h;have hjl:j<S.1.length:=n10_ (n11_.mp hj).1 J.ls;have o:=((KO v).mp K).2 j hjl;rw [rw_ j hjl v 0 K.1] at o
    have e:rdot (rwT S.1 j) v=(rwT S.1 j).getD p 0*v.getD p 0:=by
     have:∀ (row v:List Rat) (p:Nat),p<v.length→v.length≤row.length→(∀ q,q<p→row.getD q 0=0)→(∀ q,p<q→v.getD q 0=0)→rdot row v=row.getD p 0*v.getD p 0:=fun row=>by
      induction row with
      | nil=>intro v p h1 h2;simp at h2;rw [h2] at h1;cases h1
      | cons a row ih=>intro v p h1 h2 h3 h4;cases v with
        | nil=>cases h1
        | cons b v=>cases p with
          | zero =>
            rw [Zo]
            have:rdot row v=0:=by
             have:∀ (row v:List Rat),(∀ q,v.getD q 0=0)→rdot row v=0:=fun row=>by
              induction row with
              | nil=>intro v _;exact Z6
              | cons a row ih=>intro v h;cases v with
                | nil=>exact Z8
                | cons b v =>
                  have b0:b=0:=h 0;rw [Zo,b0,ih v fun q=>h (q+1)];grind
             exact this row v fun q=>h4 (q+1) (Nat.succ_pos _)
            rw [this];show a*b+0=a*b;grind
          | succ p =>
            have a0:a=0:=h3 0 (Nat.succ_pos _);rw [Zo,a0,ih v p (n70_ h1) (Nat.le_of_succ_le_succ h2) (fun q hq=>h3 (q+1) (n81_ hq)) (fun q hq=>h4 (q+1) (n81_ hq))];show 0*b+_=row.getD p 0*v.getD p 0
            grind
     exact this _ _ p (by rw [K.1];exact hp) (by rw [K.1,J.rl j hjl];omega) (fun q hq=>J.led j p hj q hq) v2
    rw [e,J.one j p hj j hjl,if_pos rfl,v1] at o
    grind
  · intro h;refine Decidable.byContradiction fun hn=>?_;have lz:((List.replicate (wid ms) (0:Rat)).set p 1).length=wid ms:=by simp
    have gz:∀ q,((List.replicate (wid ms) (0:Rat)).set p 1).getD q 0=if p=q then 1 else 0:=fun q=>by
     rw [Yl (by simpa using hp)];split
     · rfl
     · rw [n1_,n26_];split<;>rfl
    have lx:((List.range S.2.length).map fun j=>-((rwT S.1 j).getD p 0)).length=S.2.length:=by simp
    have K:Ker ms (putR S.2 ((List.range S.2.length).map fun j=>-((rwT S.1 j).getD p 0)) ((List.replicate (wid ms) (0:Rat)).set p 1)):=(KO _).mpr ⟨by rw [Za9,lz],fun k hk=>by
     have pk:=pick k hk _ _ lx lz fun q hq=>by rw [gz,if_neg fun e=>hn (by rw [e];exact hq)]
     rw [rw_ k hk _ 0 (by rw [Za9,lz]),pk,Zls (J.rl k hk) hp]
     by_cases hks:k<S.2.length
     · rw [Zki,if_pos hks];grind
     · rw [Zki,if_neg hks,J.low k (by omega) hk p hp];grind⟩
    have v1:=Zbz (q:=p) S.2 ((List.range S.2.length).map fun j=>-((rwT S.1 j).getD p 0)) ((List.replicate (wid ms) (0:Rat)).set p 1) (fun q hq=>by rw [lz];exact J.lt q hq) hn;rw [gz,if_pos rfl] at v1
    have:=G.pin K h fun q hq=>by
     by_cases hs:q∈S.2
     · obtain ⟨l,hl⟩:=n45_.mp hs
       have gp:∀ (ps:List Nat) (xs z:List Rat) (l q:Nat),ps.Pairwise (·<·)→(∀ p∈ps,p<z.length)→xs.length=ps.length→ps[l]? = some q→(putR ps xs z).getD q 0=xs.getD l 0:=fun ps=>by
        induction ps with
        | nil=>intro xs z l q _ _ _ e;cases e
        | cons a ps ih=>intro xs z l q as h hx e;cases xs with
          | nil=>cases hx
          | cons x xs =>
            have as':=n95_.mp as;unfold putR;cases l with
            | zero =>
              cases e
              rw [Zbz ps xs _ (fun p' hp=>by rw [n47_];exact h p' (n3_ _ hp)) (fun m=>by have:=as'.1 a m;omega),Yl (h a n5_),if_pos rfl];rfl
            | succ l=>exact ih xs _ l q as'.2 (fun p' hp=>by rw [n47_];exact h p' (n3_ _ hp)) (Nat.succ.inj hx) (by simpa using e)
       rw [gp S.2 _ _ l q J.asc (fun p' hp'=>by rw [lz];exact J.lt p' hp') lx hl];have hll:=(n11_.mp hl).1;rw [Zki,if_pos hll,J.led l q hl p hq];grind
     · rw [Zbz _ _ _ (fun p' hp'=>by rw [lz];exact J.lt p' hp') hs,gz,if_neg (by omega)]
    rw [v1] at this;exact absurd this (by decide)
 refine ⟨mem,fun p hp=>J.lt p hp,fun h=>?_,fun k h1 h2 hz=>?_⟩
 · have lv:(gjv S (wid ms)).length=wid ms:=by unfold gjv;rw [Za9];simp
   have lx:((List.range S.2.length).map fun j=>(rwT S.1 j).getD (wid ms) 0).length=S.2.length:=by simp
   have s1:Sol ms qs (gjv S (wid ms)):=(SO _).mpr ⟨lv,fun k hk=>by
    rw [rw_ k hk _ _ lv]
    by_cases hks:k<S.2.length
    · have pk:=pick k hk _ (List.replicate (wid ms) 0) lx (by simp) fun q hq=>by rw [n1_,n26_];split<;>rfl
      unfold gjv;rw [pk,z0,Zki,if_pos hks];grind
    · rw [low0 k (by omega) hk _ lv,h k (by omega) (by omega)];grind⟩
   have zf:∀ p,p<wid ms→p∉tkn ms qs→(gjv S (wid ms)).getD p 0=0:=fun p hp hn=>by
    unfold gjv;rw [Zbz _ _ _ (fun q hq=>by simpa using J.lt q hq) fun m=>hn ((mem p hp).mp m),n1_,n26_,if_pos hp];rfl
   cases e:slv ms qs with
   | none=>exact absurd s1 (G.none e _)
   | some xs =>
     obtain ⟨s2,z2⟩:=G.sol e;exact congrArg some (G.one s2 s1 (fun p _ hp=>z2 p hp) zf)
 · cases e:slv ms qs with
   | none=>rfl
   | some xs =>
     exfalso
     obtain ⟨hl,o⟩:=(SO xs).mp (G.sol e).1;have hk:k<S.1.length:=by omega
     have:=o k hk
     rw [rw_ k hk _ _ hl,low0 k h1 hk _ hl] at this;exact hz (by grind)
end L2
namespace HG
def L (a b:Int):Nat:=a.natAbs+b.natAbs
def R (a b:Int) (X Y:Nat):Nat:=(a*X+b*Y).natAbs
theorem pw {m n:Nat} (h:m≤n):2^m≤2^n:=n23_ (by decide) h
theorem pw1 {m n:Nat} (h:m+1≤n):2*2^m≤2^n:=by have:=pw h;rw [Nat.pow_succ] at this;omega
theorem pw2 {m n:Nat} (h:m+2≤n):4*2^m≤2^n:=by have:=pw1 h;rw [Nat.pow_succ] at this;omega
structure IsB (N X:Nat):Prop where
 lt:X<2^N
 ge:N≠0→2^(N-1)≤X
structure Rw (N X Y:Nat) (a b:Int):Prop where
 A:L a b≤2^(2*(max N 100)/3)
 B:R a b X Y≤X
 C:100≤N→L a b=1∨4*R a b X Y+2^(7*N/8)≤3*X
structure Gd (N X Y:Nat) (a b c d:Int):Prop where
 r1:Rw N X Y a b
 r2:Rw N X Y c d
 dt:a*d-b*c=1∨a*d-b*c = -1
theorem L1 {a b:Int} (h:L a b=1):(a=1∧b=0)∨(a = -1∧b=0)∨(a=0∧b=1)∨(a=0∧b = -1):=by unfold L at h;omega
theorem R1 {a b:Int} {X Y:Nat} (h:L a b=1) (hY:Y≤X):R a b X Y≤X:=by
 unfold R
 rcases L1 h with ⟨rfl,rfl⟩|⟨rfl,rfl⟩|⟨rfl,rfl⟩|⟨rfl,rfl⟩<;>omega
theorem Ztn {a b:Int} {X Y X1 Y1 x y P:Nat} (hX:X=X1*P+x) (hY:Y=Y1*P+y) (hx:x<P) (hy:y<P):R a b X Y≤(R a b X1 Y1+L a b)*P:=by
 unfold R L
 have e:a*X+b*Y=(a*X1+b*Y1)*P+(a*x+b*y):=by
  subst hX hY;push_cast
  rw [Int.mul_add,Int.mul_add,Int.add_mul,← n77_,← n77_];omega
 rw [e];refine n28_ (Int.natAbs_add_le _ _) ?_;rw [n38_,Nat.add_mul];refine Nat.add_le_add (Nat.le_of_eq (by simp)) (n28_ (Int.natAbs_add_le _ _) ?_);rw [n38_,n38_,Nat.add_mul];exact Nat.add_le_add (n53_ _ (by simp;omega)) (n53_ _ (by simp;omega))
theorem Ztl {a b:Int} {X Y:Nat} (h:Nat):R a b X Y≤(R a b (X/2^h) (Y/2^h)+L a b)*2^h :=
 Ztn (x:=X % 2^h) (y:=Y % 2^h) (by rw [n83_];exact (Nat.div_add_mod _ _).symm) (by rw [n83_];exact (Nat.div_add_mod _ _).symm) (Nat.mod_lt _ (n62_ _)) (Nat.mod_lt _ (n62_ _))
theorem Rw.neg {N X Y:Nat} {a b:Int} (h:Rw N X Y a b):Rw N X Y (-a) (-b):=by
 have hL:L (-a) (-b)=L a b:=by unfold L;omega
 have hR:R (-a) (-b) X Y=R a b X Y:=by
  unfold R;rw [n88_,n88_,← Int.neg_add,Int.natAbs_neg]
 exact ⟨by rw [hL];exact h.A,by rw [hR];exact h.B,by rw [hL,hR];exact h.C⟩
theorem ext4 {N1 X1 Y1 X Y h:Nat} {a b:Int} (h1:100≤N1) (hX:X1=X/2^h) (hY:Y1=Y/2^h) (A:L a b≤2^(2*N1/3)) (C:4*R a b X1 Y1+2^(7*N1/8)≤3*X1):4*R a b X Y+2^((7*N1/8)-1+h)≤3*X:=by
 subst hX hY;have e:=Ztl (a:=a) (b:=b) (X:=X) (Y:=Y) h;have p:2^((7*N1/8))=2*2^((7*N1/8)-1):=by rw [← Nat.pow_succ'];congr 1;omega
 have q:=pw2 (show (2*N1/3)+2≤(7*N1/8)-1 by omega);have c2:(4*(R a b (X/2^h) (Y/2^h)+L a b)+2^((7*N1/8)-1))*2^h≤3*(X/2^h)*2^h:=n82_ _ (by omega);rw [Nat.add_mul,← n63_,Nat.mul_assoc,Nat.mul_assoc] at c2
 have:=Nat.div_mul_le_self X (2^h)
 omega
theorem Zf6 {N h X Y:Nat} {a b:Int} (hY:Y≤X) (h1:101≤h) (h2:101≤N-h) (w:Rw (N-h) (X/2^h) (Y/2^h) a b):R a b X Y≤X∧(L a b=1∨4*R a b X Y+2^(7*N/8)≤3*X):=by
 rcases w.C (by omega) with z|z
 · exact ⟨R1 z hY,.inl z⟩
 · have A:=w.A;rw [Nat.max_eq_left (by omega)] at A
   have:=ext4 (by omega) rfl rfl A z
   have p:=pw (show (7*N/8)≤(7*(N-h)/8)-1+h by omega);have p0:=n62_ (7*N/8);exact ⟨by omega,.inr (by omega)⟩
theorem Zs5 {e g a b c d:Int} {m n:Nat} (h0:L e g≤2^m) (h1:L a b≤2^n) (h2:L c d≤2^n):L (e*a+g*c) (e*b+g*d)≤2^(m+n):=by
 unfold L at *;have i1:=Int.natAbs_add_le (e*a) (g*c);have i2:=Int.natAbs_add_le (e*b) (g*d);rw [n38_,n38_] at i1 i2;have j1:=n53_ e.natAbs h1;have j2:=n53_ g.natAbs h2;have j3:=n82_ (2^n) h0;rw [Nat.mul_add] at j1 j2;rw [Nat.add_mul,← n63_] at j3;omega
theorem Zp9 {e g a b c d:Int} {X Y f s:Nat} (hf:(f:Int)=a*X+b*Y) (hs:(s:Int)=c*X+d*Y):R (e*a+g*c) (e*b+g*d) X Y=R e g f s:=by
 unfold R;rw [hf,hs]
 congr 1
 simp only [Int.add_mul,Int.mul_add,n77_];omega
theorem isb_uniq {m n X:Nat} (a:IsB m X) (b:IsB n X):m=n:=by
 rcases Nat.lt_trichotomy m n with h|h|h
 · have:=b.ge (by omega);have:=a.lt;have:=pw (show m≤n-1 by omega);omega
 · exact h
 · have:=a.ge (by omega);have:=b.lt;have:=pw (show n≤m-1 by omega);omega
theorem isb_div {N X h:Nat} (b:IsB N X) (hh:h<N):IsB (N-h) (X/2^h):=by
 refine ⟨(Nat.div_lt_iff_lt_mul (n62_ _)).mpr ?_,fun _=>(Nat.le_div_iff_mul_le (n62_ _)).mpr ?_⟩
 · rw [← n63_,show N-h+h=N by omega];exact b.lt
 · rw [← n63_,show N-h-1+h=N-1 by omega];exact b.ge (by omega)
theorem Zkq {N h X Y f s Nf cut NF:Nat} {a b c d e g:Int} (hN:IsB N X) (hY:Y≤X) (hh:h=N/2) (h1:101≤h)
 (w1:Rw (N-h) (X/2^h) (Y/2^h) a b) (w2:Rw (N-h) (X/2^h) (Y/2^h) c d)
 (hf:(f:Int)=a*X+b*Y) (hs:(s:Int)=c*X+d*Y) (hsf:s≤f) (hNf:IsB Nf f) (hc:cut=Nf-h) (hNF:IsB NF (f/2^cut))
 (w:Rw NF (f/2^cut) (s/2^cut) e g):Rw N X Y (e*a+g*c) (e*b+g*d):=by
 have x1:=Zf6 hY h1 (by omega) w1;have x2:=Zf6 hY h1 (by omega) w2;have A1:=w1.A;have A2:=w2.A;rw [Nat.max_eq_left (by omega)] at A1 A2;have Rf:R a b X Y=f:=by unfold R;rw [← hf];simp
 have Rs:R c d X Y=s:=by unfold R;rw [← hs];simp
 have NFh:NF≤h:=by
  by_cases z:Nf≤h
  · rw [show cut=0 by omega,Nat.pow_zero,Nat.div_one] at hNF
    have:=isb_uniq hNF hNf
    omega
  · have:=isb_uniq hNF (isb_div hNf (by omega))
    omega
 have A0:=w.A;have A0':L e g≤2^(2*h/3):=n28_ A0 (pw (by rw [Nat.max_def];split<;>omega));have hA:=Zs5 A0' A1 A2;have hX:=hN.ge (by omega);rw [Rf] at x1;rw [Rs] at x2;refine ⟨n28_ hA (pw (by rw [Nat.max_eq_left (by omega)];omega)),?_,fun _=>?_⟩
 · rw [Zp9 hf hs]
   by_cases z:Nf≤h
   · have e0:cut=0:=by omega
     have B:=w.B;rw [e0,Nat.pow_zero,Nat.div_one,Nat.div_one] at B;omega
   · have eN:=isb_uniq hNF (isb_div hNf (by omega));have e1:NF=h:=by omega
     subst e1
     rcases w.C (by omega) with z|z
     · exact n28_ (R1 z hsf) x1.1
     · have:=ext4 (by omega) rfl rfl A0' z
       have p0:=n62_ (7*NF/8-1+cut);omega
 · rw [Zp9 hf hs]
   by_cases z:Nf≤h
   · have e0:cut=0:=by omega
     have B:=w.B;rw [e0,Nat.pow_zero,Nat.div_one,Nat.div_one] at B;have l1:=hNf.lt;have l2:=pw z;have l3:=pw2 (show h+2≤N-1 by omega);have l4:=pw (show (7*N/8)≤N-1 by omega);exact .inr (by omega)
   · have eN:=isb_uniq hNF (isb_div hNf (by omega));have e1:NF=h:=by omega
     subst e1
     rcases w.C (by omega) with z|z
     · rcases L1 z with ⟨rfl,rfl⟩|⟨rfl,rfl⟩|⟨rfl,rfl⟩|⟨rfl,rfl⟩
       · have:R 1 0 f s=f:=by unfold R;omega
         rw [this];simpa using x1.2
       · have:R (-1) 0 f s=f:=by unfold R;omega
         rw [this];have l:L (-1*a+0*c) (-1*b+0*d)=L a b:=by unfold L;omega
         rw [l];exact x1.2
       · have:R 0 1 f s=s:=by unfold R;omega
         rw [this];simpa using x2.2
       · have:R 0 (-1) f s=s:=by unfold R;omega
         rw [this];have l:L (0*a+-1*c) (0*b+-1*d)=L c d:=by unfold L;omega
         rw [l];exact x2.2
     · have k:=ext4 (by omega) rfl rfl A0' z;refine .inr ?_
       by_cases y:N-1≤Nf
       · have:=pw (show (7*N/8)≤(7*NF/8)-1+cut by omega)
         omega
       · have l1:=hNf.lt;have l2:=pw (show Nf≤N-2 by omega);have l3:=pw (show (7*N/8)≤N-2 by omega);have l5:=n62_ (7*NF/8-1+cut);have l4:2^(N-1)=2*2^(N-2):=by rw [← Nat.pow_succ'];congr 1;omega
         omega
theorem m4 (a b c d:Int):a*b*(c*d)=a*c*(b*d):=by rw [n77_,n77_,Int.mul_left_comm b]
theorem Zo6 {a b c d e g k l:Int} (h1:a*d-b*c=1∨a*d-b*c = -1) (h2:e*l-g*k=1∨e*l-g*k = -1) :
 (e*a+g*c)*(k*b+l*d)-(e*b+g*d)*(k*a+l*c)=1∨(e*a+g*c)*(k*b+l*d)-(e*b+g*d)*(k*a+l*c) = -1:=by
 have e0:(e*a+g*c)*(k*b+l*d)-(e*b+g*d)*(k*a+l*c)=(e*l-g*k)*(a*d-b*c):=by
  simp only [Int.add_mul,Int.mul_add,Int.sub_mul,Int.mul_sub];have t1:e*a*(k*b)=e*b*(k*a):=by rw [m4,m4 e b,n42_ a b]
  have t2:g*c*(l*d)=g*d*(l*c):=by rw [m4,m4 g d,n42_ c d]
  have t3:e*a*(l*d)=e*l*(a*d):=m4 _ _ _ _;have t4:g*c*(k*b)=g*k*(b*c):=by rw [m4,n42_ c b]
  have t5:e*b*(l*c)=e*l*(b*c):=m4 _ _ _ _;have t6:g*d*(k*a)=g*k*(a*d):=by rw [m4,n42_ d a]
  rw [t1,t2,t3,t4,t5,t6];omega
 rw [e0]
 rcases h1 with h1|h1<;>rcases h2 with h2|h2<;>rw [h1,h2]<;>decide
def Sg (σ:Int):Prop:=σ=1∨σ = -1
def Mb (a b c d a' b' c' d':Int):Prop :=
 (∃ σ τ,Sg σ∧Sg τ∧a'=σ*a∧b'=σ*b∧c'=τ*c∧d'=τ*d)∨(∃ σ τ,Sg σ∧Sg τ∧a'=σ*c∧b'=σ*d∧c'=τ*a∧d'=τ*b)
theorem Rw.sg {N X Y:Nat} {a b σ:Int} (h:Rw N X Y a b) (s:Sg σ):Rw N X Y (σ*a) (σ*b):=by
 rcases s with rfl|rfl
 · rw [Int.one_mul,Int.one_mul];exact h
 · rw [← Int.neg_eq_neg_one_mul,← Int.neg_eq_neg_one_mul];exact h.neg
theorem Gd.mb {N X Y:Nat} {a b c d a' b' c' d':Int} (h:Gd N X Y a b c d) (m:Mb a b c d a' b' c' d'):Gd N X Y a' b' c' d':=by
 rcases m with ⟨σ,τ,s,t,rfl,rfl,rfl,rfl⟩|⟨σ,τ,s,t,rfl,rfl,rfl,rfl⟩
 · refine ⟨h.r1.sg s,h.r2.sg t,?_⟩
   have:=h.dt
   rcases s with rfl|rfl<;>rcases t with rfl|rfl<;>simp only [Int.one_mul,n88_,Int.mul_neg,Int.neg_neg]<;>omega
 · refine ⟨h.r2.sg s,h.r1.sg t,?_⟩
   have:=h.dt
   have e1:=n42_ a d;have e2:=n42_ b c
   rcases s with rfl|rfl<;>rcases t with rfl|rfl<;>simp only [Int.one_mul,n88_,Int.mul_neg,Int.neg_neg]<;>omega
theorem Gd.comp {N h X Y f s Nf cut NF:Nat} {a b c d e g k l:Int} (hN:IsB N X) (hY:Y≤X) (hh:h=N/2) (h1:101≤h)
 (w1:Gd (N-h) (X/2^h) (Y/2^h) a b c d)
 (hf:(f:Int)=a*X+b*Y) (hs:(s:Int)=c*X+d*Y) (hsf:s≤f) (hNf:IsB Nf f) (hc:cut=Nf-h) (hNF:IsB NF (f/2^cut))
 (w:Gd NF (f/2^cut) (s/2^cut) e g k l):Gd N X Y (e*a+g*c) (e*b+g*d) (k*a+l*c) (k*b+l*d) :=
 ⟨Zkq hN hY hh h1 w1.r1 w1.r2 hf hs hsf hNf hc hNF w.r1,Zkq hN hY hh h1 w1.r1 w1.r2 hf hs hsf hNf hc hNF w.r2,Zo6 w1.dt w.dt⟩
theorem less_than {n x y:Nat} {a b c d:Int} {f s:Nat} (hn:IsB n x) (hy:y<x) (h4:202≤n) (w:Gd (n-n/2) (x/2^(n/2)) (y/2^(n/2)) a b c d)
 (hf:(f:Int)=a*x+b*y) (hs:(s:Int)=c*x+d*y) (hsf:s≤f):s<x:=by
 have x1:=Zf6 (N:=n) (Nat.le_of_lt hy) (by omega) (by omega) w.r1;have x2:=Zf6 (N:=n) (Nat.le_of_lt hy) (by omega) (by omega) w.r2;have Rf:R a b x y=f:=by unfold R;rw [← hf];simp
 have Rs:R c d x y=s:=by unfold R;rw [← hs];simp
 rw [Rf] at x1;rw [Rs] at x2
 rcases x2.2 with z2|z2
 · rcases x1.2 with z1|z1
   · have dt:=w.dt
     have e1:(f:Int)=x∨(f:Int) = -x∨(f:Int)=y∨(f:Int) = -y:=by
      rcases L1 z1 with ⟨rfl,rfl⟩|⟨rfl,rfl⟩|⟨rfl,rfl⟩|⟨rfl,rfl⟩<;>omega
     rcases L1 z1 with ⟨rfl,rfl⟩|⟨rfl,rfl⟩|⟨rfl,rfl⟩|⟨rfl,rfl⟩<;>rcases L1 z2 with ⟨rfl,rfl⟩|⟨rfl,rfl⟩|⟨rfl,rfl⟩|⟨rfl,rfl⟩<;>omega
   · have:=n62_ ((7*n/8))
     omega
 · have:=n62_ ((7*n/8))
   omega
theorem gcd_mix {x y:Nat} {a b c d:Int} {f s:Nat} (dt:a*d-b*c=1∨a*d-b*c = -1) (hf:(f:Int)=a*x+b*y) (hs:(s:Int)=c*x+d*y):Nat.gcd f s=Nat.gcd x y:=by
 have two:∀ {x y f s:Nat} {a b c d:Int},(f:Int)=a*x+b*y→(s:Int)=c*x+d*y→Nat.gcd x y∣Nat.gcd f s:=by
  intro x y f s a b c d hf hs;have g1:((Nat.gcd x y:Nat):Int)∣(x:Int):=Int.ofNat_dvd.mpr (Nat.gcd_dvd_left _ _);have g2:((Nat.gcd x y:Nat):Int)∣(y:Int):=Int.ofNat_dvd.mpr (Nat.gcd_dvd_right _ _);refine Nat.dvd_gcd (Int.ofNat_dvd.mp ?_) (Int.ofNat_dvd.mp ?_)
  · rw [hf];exact Int.dvd_add (Int.dvd_mul_of_dvd_right g1) (Int.dvd_mul_of_dvd_right g2)
  · rw [hs];exact Int.dvd_add (Int.dvd_mul_of_dvd_right g1) (Int.dvd_mul_of_dvd_right g2)
 refine Nat.dvd_antisymm ?_ (two hf hs)
 have e1:d*(f:Int)-b*s=(a*d-b*c)*x:=by
  rw [hf,hs];simp only [Int.mul_add,Int.sub_mul,n77_];have t1:d*(a*(x:Int))=a*(d*x):=Int.mul_left_comm _ _ _;have t2:d*(b*(y:Int))=b*(d*y):=Int.mul_left_comm _ _ _;omega
 have e2:a*(s:Int)-c*f=(a*d-b*c)*y:=by
  rw [hf,hs];simp only [Int.mul_add,Int.sub_mul,n77_];have t1:c*(a*(x:Int))=a*(c*x):=Int.mul_left_comm _ _ _;have t2:c*(b*(y:Int))=b*(c*y):=Int.mul_left_comm _ _ _;omega
 rcases dt with dt|dt<;>rw [dt] at e1 e2
 · exact two (a:=d) (b:=-b) (c:=-c) (d:=a) (by rw [n88_];omega) (by rw [n88_];omega)
 · exact two (a:=-d) (b:=b) (c:=c) (d:=-a) (by rw [n88_];omega) (by rw [n88_];omega)
structure St (N X Y one other:Nat) (a b c d:Int):Prop where
 o1:(one:Int)=a*X+b*Y
 o2:(other:Int)=c*X+d*Y
 le:other≤one
 lX:one≤X
 eX:X=d.natAbs*one+b.natAbs*other
 eY:Y=c.natAbs*one+a.natAbs*other
 sg:(0≤a∧c≤0∧b≤0∧0≤d)∨(a≤0∧0≤c∧0≤b∧d≤0)
 dt:a*d-b*c=1∨a*d-b*c = -1
 ba:a.natAbs≤2^(N-N/2)
 bb:b.natAbs≤2^(N-N/2)
 bc:c.natAbs≤2^(N-N/2)
 bd:d.natAbs≤2^(N-N/2)
 h1:L a b=1∨2*one≤X
 h2:L c d=1∨2*other≤X
theorem St.start {N X Y:Nat} (h:Y≤X):St N X Y X Y 1 0 0 1 :=
 ⟨by omega,by omega,h,n9_ _,by simp,by simp,.inl (by decide),.inl (by decide),Nat.one_le_two_pow,n60_ _,n60_ _,Nat.one_le_two_pow,.inl rfl,.inl rfl⟩
theorem St.step {N X Y one other:Nat} {a b c d:Int} (hN:X<2^N) (hY:Y≤X) (h:St N X Y one other a b c d) (ho:2^(N/2)≤other) :
 St N X Y other (one % other) c d (a-(one/other:Nat)*c) (b-(one/other:Nat)*d):=by
 have hp:0<other:=n10_ (n62_ _) ho;have dm:=Nat.div_add_mod one other;have ml:=Nat.mod_lt one hp;generalize one/other=q at *;generalize one % other=r at *
 have na:(a-q*c).natAbs=a.natAbs+q*c.natAbs:=by
  have e:((q:Int)*c).natAbs=q*c.natAbs:=by rw [n38_];rfl
  rcases h.sg with ⟨s1,s2,_,_⟩|⟨s1,s2,_,_⟩
  · have:=n91_ (n97_ q) s2;omega
  · have:=Int.mul_nonneg (n97_ q) s2;omega
 have nb:(b-q*d).natAbs=b.natAbs+q*d.natAbs:=by
  have e:((q:Int)*d).natAbs=q*d.natAbs:=by rw [n38_];rfl
  rcases h.sg with ⟨_,_,s1,s2⟩|⟨_,_,s1,s2⟩
  · have:=Int.mul_nonneg (n97_ q) s2;omega
  · have:=n91_ (n97_ q) s2;omega
 have eX:X=(b-q*d).natAbs*other+d.natAbs*r:=by
  have t:=h.eX;rw [← dm] at t;rw [nb,Nat.add_mul,t,Nat.mul_add]
  have:d.natAbs*(other*q)=q*d.natAbs*other:=by rw [n83_ q,Nat.mul_assoc,n83_ other]
  omega
 have eY:Y=(a-q*c).natAbs*other+c.natAbs*r:=by
  have t:=h.eY;rw [← dm] at t;rw [na,Nat.add_mul,t,Nat.mul_add]
  have:c.natAbs*(other*q)=q*c.natAbs*other:=by rw [n83_ q,Nat.mul_assoc,n83_ other]
  omega
 have lim:∀ z:Nat,z*other≤X→z≤2^(N-N/2):=fun z hz=>by
  have t:=n53_ z ho;have p:2^N=2^(N-N/2)*2^(N/2):=by rw [← n63_];congr 1;omega
  have:z*2^(N/2)<2^(N-N/2)*2^(N/2):=by omega
  exact Nat.le_of_lt (Nat.lt_of_mul_lt_mul_right this)
 have lo:=h.le;have lX:=h.lX;refine ⟨h.o2,?_,Nat.le_of_lt ml,by omega,eX,eY,?_,?_,h.bc,h.bd,lim _ (by omega),lim _ (by omega),h.h2,.inr ?_⟩
 · have:(r:Int)=one-q*other:=by
    have:=congrArg (Nat.cast (R:=Int)) dm
    push_cast at this
    rw [n42_];omega
   rw [this,h.o1,h.o2,Int.sub_mul,Int.sub_mul,Int.mul_add,n77_,n77_];omega
 · have q0:=n97_ q
   rcases h.sg with ⟨s1,s2,s3,s4⟩|⟨s1,s2,s3,s4⟩
   · have:=n91_ q0 s2
     have:=Int.mul_nonneg q0 s4
     exact .inr (by omega)
   · have:=Int.mul_nonneg q0 s2
     have:=n91_ q0 s4
     exact .inl (by omega)
 · have e:c*(b-q*d)-d*(a-q*c) = -(a*d-b*c):=by
    rw [Int.mul_sub,Int.mul_sub,Int.mul_left_comm c,Int.mul_left_comm d,n42_ d c,n42_ c b,n42_ d a];omega
   rw [e]
   rcases h.dt with t|t<;>rw [t]
   · exact .inr rfl
   · exact .inl rfl
 · have:1≤q:=by
    rcases Nat.eq_zero_or_pos q with z|z
    · subst z;omega
    · exact z
   have:=n53_ other this
   omega
theorem St.gd {N X Y one other:Nat} {a b c d:Int} (hN:IsB N X) (hl:N≤201) (h:St N X Y one other a b c d):Gd N X Y a b c d:=by
 have ra:R a b X Y=one:=by unfold R;rw [← h.o1];simp
 have rc:R c d X Y=other:=by unfold R;rw [← h.o2];simp
 have p:=pw1 (show N-N/2+1≤(2*(max N 100)/3) by rw [Nat.max_def];split<;>omega);have h1:=h.ba;have h2:=h.bb;have h3:=h.bc;have h4:=h.bd;have l1:=h.lX;have l2:=h.le;have k1:=h.h1;have k2:=h.h2;refine ⟨⟨by show a.natAbs+b.natAbs≤_;omega,by omega,fun hn=>?_⟩,⟨by show c.natAbs+d.natAbs≤_;omega,by omega,fun hn=>?_⟩,h.dt⟩
 · have g:=hN.ge (by omega);have g2:=pw (show (7*N/8)≤N-1 by omega);rw [ra];omega
 · have g:=hN.ge (by omega);have g2:=pw (show (7*N/8)≤N-1 by omega);rw [rc];omega
open PySem in
theorem isb_bits (x:Nat):IsB (Builtin.Int.intBits (x:Int)) x:=by
 unfold Builtin.Int.intBits
 rcases Nat.eq_zero_or_pos x with rfl|hp
 · exact ⟨by decide,by decide⟩
 · split
   · rename_i h
     have:(x:Int)=0:=by simpa using h
     omega
   · rename_i h
     have e:(x:Int).natAbs=x:=rfl;rw [e];refine ⟨?_,fun _=>?_⟩
     · exact (Nat.log2_lt (by omega)).mp (by omega)
     · show 2^(x.log2+1-1)≤x
       rw [Nat.add_sub_cancel];exact (Nat.le_log2 (by omega)).mp (n9_ _)
end HG
namespace L2
open PySem PySem.Spec PyProof.Rows
section
variable {X:Cx}
theorem Zhv:Zas X (.builtin "divmod") (fun xs H Q=>∃ i j,xs=[.int i,.int j]∧Zon i j∧∀ p,H p=none→Q (.ref p) (upd H p (.tup [.int (i.fdiv j),.int (i.fmod j)]))):=by
 intro pins s σ H xs us Q I r h;obtain ⟨i,j,rfl,hc,q⟩:=h;obtain ⟨u,w',rfl,⟨t,rfl⟩,⟨t',rfl⟩⟩:=Zrf r;refine divmod_int hc.1 ?_ (.inl (PyProof.noPylong_of_log2 (Nat.lt_trans (Zjn hc.2 (by decide)) (by decide))));have hn:H s.heap.objs.size=none:=I.hok.fresh (n9_ _);refine ⟨.ref s.heap.objs.size,_,?_,rfl,q _ hn⟩;refine I.laid (fun b o e=>n7_ _ e) (n9_ _) ⟨by simp only [n33_,n73_];rw [sizeLine_eq];decide,[.int (i.fdiv j) s.toks,.int (i.fmod j) (s.toks+1)],.cons ⟨_,rfl⟩ (.cons ⟨_,rfl⟩ .nil),?_⟩;exact ⟨_,n17_ s.heap rfl,rfl,0,rfl⟩
end
section
variable {X:Cx}
theorem Zbx (ht:X.prog.given.tree=none) (hs:X.stack=X.env :: X.outer) (hgen:X.env.scope.isGenerator=false) (hco:X.env.scope.isCoroutine=false) (hd:X.A.depth+Builtin.pylongFrames<recursionLimit):OpR X (binaryOp .FloorDiv) (rI (fun _ j=>j≠0) fun i j=>.int (i.fdiv j)):=by
 intro pins s σ H x y v u Q I rx ry h;obtain ⟨i,j,rfl,rfl,hc,q⟩:=h;obtain ⟨t,rfl⟩:=rx;obtain ⟨t',rfl⟩:=ry;exact floordiv_int hc ⟨.int (i.fdiv j),H,I.tok _,⟨_,rfl⟩,q⟩ (.inr (PylongRoom.of I.nolimit hd (SeerAt.of I.seer ht (by rw [I.ok.frames,hs]) hgen hco I.ok.blt I.ok.glob)))
def CMulC (i j:Int):Prop:=i.natAbs<2^60000000∧j.natAbs<2^60000000
theorem CMulC.ok {i j:Int} (h:CMulC i j):IntMulOk i j:=by
 unfold IntMulOk;have h1:=Xn h.1 (by decide);have h2:=Xn h.2 (by decide)
 have:Builtin.Int.intTooBig (Builtin.Int.intBits i+Builtin.Int.intBits j:Nat)=false:=by
  unfold Builtin.Int.intTooBig bitsLine;refine n30_ ?_;omega
 intro z;rw [n54_] at z;rw [show ((Builtin.Int.intBits i:Int)+(Builtin.Int.intBits j:Int))=((Builtin.Int.intBits i+Builtin.Int.intBits j:Nat):Int) by omega,this] at z;exact absurd z.2 (by decide)
theorem Zbn:OpR X (binaryOp .Mult) (rI CMulC fun i j=>.int (i*j)):=opI fun _ _ _ _ _ _ _ hc q=>mul_int q hc.ok
end
end L2
theorem L2.gen_upd {H H1:L2.Hp} {p:PySem.Addr} {o:L2.HO} (g:L2.upd H p o=H1) (n:H p=none):L2.Same H H1∧H1 p=some o:=g▸⟨L2.Same.new n,L2.Ze⟩
namespace My
open PySem PySem.Spec PyProof.Rows L2
def top (i:Nat):Stmt:=PySem.Challenge.pw_platerest_k10_rows_solved.main.body.getD i (.Pass ⟨0,0,0,0⟩)
theorem Zaf:bootBuiltins "abs" = some (.builtin "abs"):=by decide +kernel
theorem Zkv:bootBuiltins "all" = some (.builtin "all"):=by decide +kernel
theorem Zsk:bootBuiltins "any" = some (.builtin "any"):=by decide +kernel
theorem Zrd:bootBuiltins "bool" = some (.type "bool"):=by decide +kernel
theorem Zno:bootBuiltins "divmod" = some (.builtin "divmod"):=by decide +kernel
theorem Zp2:bootBuiltins "int" = some (.type "int"):=by decide +kernel
theorem Yq:bootBuiltins "isinstance" = some (.builtin "isinstance"):=by decide +kernel
theorem Y6:bootBuiltins "len" = some (.builtin "len"):=by decide +kernel
theorem Zmo:bootBuiltins "list" = some (.type "list"):=by decide +kernel
theorem Zjt:bootBuiltins "max" = some (.builtin "max"):=by decide +kernel
theorem Zka:bootBuiltins "min" = some (.builtin "min"):=by decide +kernel
theorem Zgl:bootBuiltins "repr" = some (.builtin "repr"):=by decide +kernel
theorem Zjg:bootBuiltins "reversed" = some (.type "reversed"):=by decide +kernel
theorem Zp6:bootBuiltins "sum" = some (.builtin "sum"):=by decide +kernel
theorem Yr:bootBuiltins "tuple" = some (.type "tuple"):=by decide +kernel
structure Bt (mg:Str→Option Value):Prop where
 b_abs:mg "abs" = none
 b_all:mg "all" = none
 b_any:mg "any" = none
 b_bool:mg "bool" = none
 b_divmod:mg "divmod" = none
 b_enumerate:mg "enumerate" = none
 b_int:mg "int" = none
 b_isinstance:mg "isinstance" = none
 b_len:mg "len" = none
 b_list:mg "list" = none
 b_max:mg "max" = none
 b_min:mg "min" = none
 b_range:mg "range" = none
 b_repr:mg "repr" = none
 b_reversed:mg "reversed" = none
 b_sum:mg "sum" = none
 b_tuple:mg "tuple" = none
 b_zip:mg "zip" = none
 n_FEW_BITS:∃ t,mg "FEW_BITS" = some (.int 200 t)
 n_GREAT_BITS:∃ t,mg "GREAT_BITS" = some (.int 4000 t)
 n_MOST_ROWS:∃ t,mg "MOST_ROWS" = some (.int 60 t)
abbrev rt (q:Rat):List V:=[.int q.num,.int q.den]
def Zkl:Sp:=fun vs H Q _=>∃ a b:Int,vs=[.int a,.int b]∧Q (.int (Int.gcd a b)) H
def Ze8:Sp:=fun vs H Q _=>∃ a b:Int,vs=[.int a,.int b]∧b.natAbs<2^4000∧Q (.int (Int.gcd a b)) H
theorem Xo {a n:Nat} (h:a<2^64) (hn:64≤n:=by decide):a<2^n:=n10_ h (n23_ (by decide) hn)
theorem Zqd {a:Nat} (h:a<2^4000):a<2^8999:=n10_ h (n23_ (by decide) (by decide))
theorem Zql {x y:Int} (h:y.natAbs<2^4000):decide ((4000:Int)<if (Builtin.Int.intBits y:Int)<(Builtin.Int.intBits x:Int) then (Builtin.Int.intBits y:Int) else (Builtin.Int.intBits x:Int))=false:=by
 have:=Xn h (by decide)
 refine n30_ ?_;split<;>omega
def Zfd:Sp:=fun vs H Q _=>∃ t b:Int,vs=[.int t,.int b]∧b≠0∧b.natAbs<2^4000∧∀ (p:Addr) (H':Hp),Same H H'→H' p=some (.tup (rt (Rat.divInt t b)))→Q (.ref p) H'
theorem Zrx {p q:Rat}:decide (([p.num,(p.den:Int)]:List Int)=[q.num,(q.den:Int)])=decide (p=q):=by
 by_cases h:p=q
 · subst h;simp
 · rw [n30_ h];refine n30_ fun z=>h ?_;injection z with z1 z2
   injection z2 with z2 _
   exact Rat.ext z1 (Int.ofNat.inj z2)
def rNeR (neg:Bool):R2:=fun x y H Q=>∃ (a b:Addr) (p q:Rat),x=.ref a∧y=.ref b∧H a=some (.tup (rt p))∧H b=some (.tup (rt q))∧Q (.bl (if neg then !decide (p=q) else decide (p=q))) H
theorem Znb {X:Cx} (hu:X.A.units+1<cLine):OpR X (compareOp .NotEq) (rNeR true):=by
 intro pins s σ H x y v u Q I rx ry h;obtain ⟨a,b,p,q,e1,e2,h1,h2,k⟩:=h;refine Zr4 (Nat.lt_of_succ_lt hu) pins s σ H x y v u Q I rx ry ⟨a,b,[p.num,(p.den:Int)],[q.num,(q.den:Int)],e1,e2,SqT.of h1,SqT.of h2,?_⟩;rw [Zrx];exact k
theorem Zma {X:Cx} (hu:X.A.units+1<cLine):OpR X (compareOp .Eq) (rNeR false):=by
 intro pins s σ H x y v u Q I rx ry h;obtain ⟨a,b,p,q,e1,e2,h1,h2,k⟩:=h;refine Zs4 (Nat.lt_of_succ_lt hu) pins s σ H x y v u Q I rx ry ⟨a,b,[p.num,(p.den:Int)],[q.num,(q.den:Int)],e1,e2,SqT.of h1,SqT.of h2,?_⟩;rw [Zrx];exact k
abbrev m4t (a b c d:Int):List V:=[.int a,.int b,.int c,.int d]
def Zag (n:Nat):Sp:=fun vs H Q _=>∃ X Y:Nat,vs=[.int X,.int Y]∧Y≤X∧X<2^(201*2^n)∧X<2^900000∧∀ (p:Addr) (H':Hp) (a b c d:Int),Same H H'→H' p=some (.tup (m4t a b c d))→HG.Gd (Builtin.Int.intBits X) X Y a b c d→Q (.ref p) H'
def BdM (a b c d:Int) (x y:Nat):Prop:=a.natAbs<2^900000∧b.natAbs<2^900000∧c.natAbs<2^900000∧d.natAbs<2^900000∧x<2^900000∧y<2^900000
def Zec:Sp:=fun vs H Q _=>∃ (m:Addr) (x y:Nat) (a b c d:Int),vs=[.ref m,.int x,.int y]∧H m=some (.tup (m4t a b c d))∧BdM a b c d x y∧∀ (p t:Addr) (H':Hp) (f s:Nat) (a' b' c' d':Int),Same H H'→H' p=some (.tup [.int f,.int s,.ref t])→H' t=some (.tup (m4t a' b' c' d'))→HG.Mb a b c d a' b' c' d'→(f:Int)=a'*x+b'*y→(s:Int)=c'*x+d'*y→s≤f→Q (.ref p) H'
theorem Zlc {i:Int}:Zon i 2:=⟨by decide,n10_ (show (2:Int).natAbs<2^2 by decide) (n23_ (by decide) (by decide))⟩
theorem Zrr {a n:Nat} (h:a<2^201) (hn:201≤n:=by decide):a<2^n:=n10_ h (n23_ (by decide) hn)
theorem up9 {a:Nat} (h:a<2^900000):a<2^1000000:=n10_ h (n23_ (by decide) (by decide))
def Zd3:Sp:=fun vs H Q _=>∃ a b:Int,vs=[.int a,.int b]∧b.natAbs<2^51000∧∀ H',Same H H'→Q (.int (Int.gcd a b)) H'
theorem Xq {f:L2.St→Hp→Prop} {σ σ':L2.St} {H:Hp} (e:σ=σ') (h:f σ' H):f σ H:=by rw [e];exact h
theorem lf_0 {i j:Int} (h:¬ decide (i<j)=true):j≤i:=by have:=of_decide_eq_false (Bool.eq_false_iff.mpr h);omega
theorem lf_1 {i:Int} (h:decide (i<0)=true):0≤-i:=by have:=n37_ h;omega
theorem lf_2 {i j:Int} (h:decide (i<j)=true):i≤j:=Int.le_of_lt (n37_ h)
theorem lf_i {a:Int}:a=1*a:=(Int.one_mul a).symm
theorem lf_s {a:Int}:-a = -1*a:=by omega
theorem lf_n {a b x y:Int}:-(a*x+b*y) = -a*x+-b*y:=by rw [n88_,n88_,Int.neg_add]
theorem lf {H H':Hp} {Q:VK} {x y:Nat} {a b c d F S a' b' c' d':Int} {p t:Addr} (q:∀ (p t:Addr) (H':Hp) (f s:Nat) (a' b' c' d':Int),Same H H'→H' p=some (.tup [.int f,.int s,.ref t])→H' t=some (.tup (m4t a' b' c' d'))→HG.Mb a b c d a' b' c' d'→(f:Int)=a'*x+b'*y→(s:Int)=c'*x+d'*y→s≤f→Q (.ref p) H')
 (h1:0≤F) (h2:0≤S) (m:HG.Mb a b c d a' b' c' d') (e1:F=a'*x+b'*y) (e2:S=c'*x+d'*y) (h3:S≤F) (sm:Same H H') (hp:H' p=some (.tup [.int F,.int S,.ref t])) (ht:H' t=some (.tup (m4t a' b' c' d'))):Q (.ref p) H':=by
 obtain ⟨f,rfl⟩:=n75_ h1;obtain ⟨s,rfl⟩:=n75_ h2;exact q p t H' f s a' b' c' d' sm hp ht m e1 e2 (by omega)
theorem Zot {N X Y:Nat} {a b c d:Int} (h:HG.Gd N X Y a b c d) (hN:N≤900000):a.natAbs<2^900000∧b.natAbs<2^900000∧c.natAbs<2^900000∧d.natAbs<2^900000:=by
 have h1:=h.r1.A;have h2:=h.r2.A;unfold HG.L at h1 h2;have p:2^(2*max N 100/3)<2^900000:=n41_ (by decide) (by rw [Nat.max_def];split<;>omega);generalize 2^(2*max N 100/3)=z at *;exact ⟨n12_ (by omega) p,n12_ (by omega) p,n12_ (by omega) p,n12_ (by omega) p⟩
theorem Zfn (X h:Nat):((X/2^h:Nat):Int)=(X:Int)/2^((h:Int).toNat):=by
 rw [n58_];push_cast;rfl
theorem Ziz (N:Nat):((N/2:Nat):Int)=(N:Int).fdiv 2:=by rw [n93_ _ (by decide)];rfl
theorem Zsx (m n:Nat):((m-n:Nat):Int)=if (0:Int)>(m:Int)-n then 0 else (m:Int)-n:=by split<;>omega
theorem Zmc (x:Int):((x.natAbs:Nat):Int)=if x<0 then -x else x:=by split<;>omega
theorem Zo9 (x y:Nat):((x % y:Nat):Int)=(x:Int).fmod y:=by rw [Int.fmod_eq_emod_of_nonneg _ (by omega)];rfl
theorem nn (n:Nat):(0:Int)≤n:=n97_ n
theorem Zod {k:Nat} {A:Around} (hr:Room (k+32) A):A.depth+Builtin.pylongFrames<recursionLimit:=by have:=hr.dp;show A.depth+100<_;omega
def Zdq:Sp:=fun vs H Q _=>∃ t b:Int,vs=[.int t,.int b]∧b≠0∧b.natAbs<2^50000∧∀ (p:Addr) (H':Hp),Same H H'→H' p=some (.tup (rt (Rat.divInt t b)))→Q (.ref p) H'
def StAt (H:Hp) (l:Addr):Prop:=∃ s0 s1 s2:Int,H l=some (.lst [.int s0,.int s1,.int s2])∧0≤s1∧s1<4294967296
theorem StAt.keep {H H':Hp} {l m:Addr} (s:StAt H l) (k:Keep m H H') (n:l≠m):StAt H' l:=by
 obtain ⟨a,b,c,h,r⟩:=s;exact ⟨a,b,c,k _ _ n h,r⟩
theorem StAt.same {H H':Hp} {l:Addr} (s:StAt H l) (k:Same H H'):StAt H' l:=by
 obtain ⟨a,b,c,h,r⟩:=s;exact ⟨a,b,c,k _ _ h,r⟩
theorem StAt.new {H:Hp} {l p:Addr} {o:HO} (s:StAt H l) (h:H p=none):StAt (upd H p o) l:=by
 obtain ⟨a,b,c,e,r⟩:=s;exact ⟨a,b,c,by rw [Zp (Zl e h)];exact e,r⟩
theorem StAt.ne {H:Hp} {l p:Addr} (s:StAt H l) (h:H p=none):l≠p:=by
 obtain ⟨a,b,c,e,r⟩:=s;exact Zl e h
def Zl5 (K:PySem.W.Frag):Sp:=fun vs H Q _=>∃ (a:Addr) (ns:List Int) (k:Nat),vs=[.ref a,.int k]∧SqL K H a (ns.map V.int)∧∀ c:Int,Q (.int c) H
def Zj9 (K:PySem.W.Frag):Sp:=fun vs H Q _=>∃ (a:Addr) (ns:List Int) (k:Nat),vs=[.ref a,.int k]∧SqL K H a (ns.map V.int) ∧
 ∀ (p:Addr) (H':Hp),H p=none→Same H H'→StAt H' p→Q (.ref p) H'
def Zg4:Sp:=fun vs H Q _=>∃ (l:Addr) (m:Int),vs=[.ref l,.int m]∧StAt H l∧0<m∧m.natAbs<2^8999∧∀ (r:Int) (H':Hp),0≤r→r<m→Keep l H H'→StAt H' l→Q (.int r) H'
def Zp7:Sp:=fun vs H Q _=>∃ t b:Int,vs=[.int t,.int b]∧b≠0∧b.natAbs<2^4000∧∀ (p:Addr) (H':Hp),Same H H'→H' p=some (.tup (rt (Rat.divInt t b)))→Q (.ref p) H'
theorem mulS {a b:Int} (ha:a.natAbs<2^64) (hb:b.natAbs<2^64):CMulB a b:=⟨n10_ ha (n23_ (by decide) (by decide)),n10_ hb (n23_ (by decide) (by decide))⟩
theorem p64:(2:Nat)^64=18446744073709551616:=by decide
def Zh4:Sp:=fun vs H Q _=>∃ N k v d,vs=[v]∧Dt N H k v d∧Q (.bl (isI d)) H
def Zpz:Sp:=fun vs H Q _=>∃ N k v d,vs=[v]∧Dt N H k v d∧k≤4000∧Q (.bl (isFr d)) H
theorem StAt.lst' {H:Hp} {l:Addr} (s:StAt H l):∃ ys,H l=some (.lst ys):=by
 obtain ⟨a,b,c,h,_⟩:=s;exact ⟨_,h⟩
theorem Zrg {i:Int} {k:Nat} (h:i.natAbs<2^k) (hk:k≤4000):i.natAbs<2^4000:=n10_ h (n23_ (by decide) (by omega))
theorem dt2 {N:Addr→Prop} {H:Hp} {k:Nat} {p:Addr} {i j:Int} (h:H p=some (.tup [.int i,.int j])) (hi:i.natAbs<2^k) (hj:j.natAbs<2^k):Dt N H k (.ref p) (.tuple [.int i,.int j]):=.tup h (.cons (.int hi) (.cons (.int hj) .nil))
abbrev RB:Hp→V→Bool→Prop:=fun _ v b=>v=V.bl b
theorem hRB:∀ H1 H2 v x,Tk H1 H2→RB H1 v x→RB H2 v x:=fun _ _ _ _ _ e=>e
abbrev RI:Hp→V→Int→Prop:=fun _ v b=>v=V.int b
theorem hRI:∀ H1 H2 v x,Tk H1 H2→RI H1 v x→RI H2 v x:=fun _ _ _ _ _ e=>e
theorem Zdh {H H':Hp} {a:Addr} (s:Same H H') (h:H' a=none):H a=none:=by
 cases e:H a with
 | none=>rfl
 | some o=>rw [s _ _ e] at h;cases h
def Zlp (K:PySem.W.Frag) (mg:Str→Option Value) (x:Str) (a b:Int):Prop:=∃ n,mg x=some (.ref n)∧KTu K n [.int a,.int b]
theorem up {a n:Nat} (m:Nat) (h:a<2^n) (l:n≤m:=by decide):a<2^m:=n10_ h (n23_ (by decide) l)
def QT (K:PySem.W.Frag) (H:Hp) (a:Addr) (q:Rat):Prop:=H a=some (.tup (rt q))∨KTu K a (rt q)
theorem QT.sq {K:PySem.W.Frag} {H:Hp} {a:Addr} {q:Rat} (h:QT K H a q):SqT K H a (rt q):=h.elim SqT.of KTu.sq
def IsQ (K:PySem.W.Frag) (H:Hp) (v:V) (q:Rat):Prop:=∃ a,v=.ref a∧QT K H a q
theorem hRQ {K:PySem.W.Frag}:∀ H1 H2 v x,Tk H1 H2→IsQ K H1 v x→IsQ K H2 v x:=fun _ _ _ _ t ⟨a,e,h⟩=>⟨a,e,h.imp (fun z=>t _ _ z) id⟩
def IsQh (H:Hp) (v:V) (q:Rat):Prop:=∃ p,v=.ref p∧H p=some (.tup (rt q))
theorem IsQh.tk {H H':Hp} {v:V} {q:Rat} (t:Tk H H') (h:IsQh H v q):IsQh H' v q:=let ⟨p,e,a⟩:=h;⟨p,e,t _ _ a⟩
def IsRh (H:Hp) (v:V) (qs:List Rat):Prop:=∃ a us,v=.ref a∧H a=some (.tup us)∧Al (IsQh H) us qs
theorem IsRh.tk {H H':Hp} {v:V} {qs:List Rat} (t:Tk H H') (h:IsRh H v qs):IsRh H' v qs:=let ⟨a,us,e,h1,h2⟩:=h;⟨a,us,e,t _ _ h1,h2.imp fun _ _ r=>r.tk t⟩
theorem lc_Q {k:SK} {K:PySem.W.Frag} {a D:Addr} {us:List V} {qs:List Rat} {te:TE} {u0 u1:Option V} {rest:L2.St} {H:Hp} {Q:VK} {α:Type} (R:Hp→V→α→Prop) (hR:∀ H1 H2 v x,Tk H1 H2→R H1 v x→R H2 v x) (ys:List α) (hn:ys.length=us.length) (hz:us.length≤1000) (hD:H D=none) (ha:k.At H a us) (al:Al (IsQ K H) us qs)
 (hs:∀ (i:Nat) (q:Rat) (H2:Hp) (C:V→Hp→Prop),qs[i]? = some q→Same H H2→(∀ y H5 z,Same H2 H5→ys[i]? = some z→R H5 y z→C y H5)→te (some (.int q.num) :: some (.int q.den) :: rest) H2 C)
 (hd:∀ H2 us,Same H H2→H2 D=some (.lst us)→Al (R H2) us ys→Q (.ref D) H2):LcGo (k.Itk K a) (gTup K 2 (Yb (Z4 0) (Yb (Z4 1) gNil))) tYes te (u0 :: u1 :: rest) H D Q:=by
 refine Zj1 R hR ys hn hz (fun σ=>∃ u u',σ=u :: u' :: rest) ⟨_,_,rfl⟩ hD (fun i H2 s hi=>Zar (ha.same s) hi) (fun H2 s=>Y8 (ha.same s) (n9_ _)) (fun i x σ2 H2 H3 C hi s y o c=>?_) hd;obtain ⟨u,u',rfl⟩:=o;obtain ⟨rfl,e⟩:=Xk (ha.same s) y;obtain ⟨q,eq,h⟩:=al.get e;obtain ⟨p,rfl,hp⟩:=hRQ _ _ _ _ s.tk h;exact ⟨p,_,rfl,hp.sq,rfl,_,_,rfl,_,_,rfl,rfl,hs i q H3 (C (some (.int q.num) :: some (.int q.den) :: rest)) eq s fun y H5 z s5 ez rz=>c _ y H5 z ⟨_,_,rfl⟩ s5 ez rz⟩
def Zkz:Sp:=fun vs H Q _=>∃ (l:Addr) (ds:List Int) (k:Nat),vs=[.ref l]∧H l=some (.lst (ds.map V.int))∧(∀ x∈ds,0<x∧x.natAbs<2^k)∧k≤4000∧k*ds.length≤900000∧Q (.int (lcmL ds)) H
def Zeh:Sp:=fun vs H Q _=>∃ (l:Addr) (ps:List Int) (k:Int),vs=[.ref l,.int k]∧H l=some (.lst (ps.map V.int))∧(∀ i,i<ps.length→gl k (ps.take i)<2^4000)∧Q (.int (gl k ps)) H
def IsSc (K:PySem.W.Frag) (H:Hp) (v:V) (x:Int×Int):Prop:=∃ p,v=.ref p∧(H p=some (.tup [.int x.1,.int x.2])∨KTu K p [.int x.1,.int x.2])
theorem IsSc.tk {K:PySem.W.Frag}:∀ H1 H2 v x,Tk H1 H2→IsSc K H1 v x→IsSc K H2 v x:=fun _ _ _ _ t ⟨p,e,h⟩=>⟨p,e,h.imp (fun z=>t _ _ z) id⟩
theorem IsSc.sq {K:PySem.W.Frag} {H:Hp} {p:Addr} {x:Int×Int} (h:H p=some (.tup [.int x.1,.int x.2])∨KTu K p [.int x.1,.int x.2]):SqT K H p [.int x.1,.int x.2]:=h.elim SqT.of KTu.sq
structure LnB (b:Nat) (qs:List Rat):Prop where
 bd:∀ q∈qs,FM.B b q
 b4:b≤3999
 sz:b*qs.length≤300000
 len:qs.length≤1000
theorem LnB.bots {b:Nat} {qs:List Rat} (h:LnB b qs):∀ x∈bots qs,0<x∧x.natAbs<2^b:=fun x hx=>by
 obtain ⟨q,hq,rfl⟩:=n19_.mp hx;exact ⟨FM.den_pos q,(h.bd q hq).2⟩
theorem LnB.tops {b:Nat} {qs:List Rat} (h:LnB b qs):∀ x∈tops qs,x.natAbs<2^b:=fun x hx=>by
 obtain ⟨q,hq,rfl⟩:=n19_.mp hx;exact (h.bd q hq).1
theorem LnB.lcm {b:Nat} {qs:List Rat} (h:LnB b qs):(lcmL (L2.bots qs)).natAbs<2^300001:=by
 have:=Zcx _ h.bots
 rw [n2_] at this;exact up _ this (by have:=h.sz;omega)
theorem Zhj {b:Nat} {qs:List Rat} (h:LnB b qs):0<(scl qs).1∧(scl qs).1.natAbs<2^300001∧0<(scl qs).2∧(scl qs).2.natAbs<2^4000:=by
 unfold scl;split
 · exact ⟨(by decide:(0:Int)<1),n94_ (by decide),(by decide:(0:Int)<1),n94_ (by decide)⟩
 · rename_i hn
   refine ⟨(Xd _ fun x hx=>(h.bots x hx).1).1,h.lcm,?_,?_⟩
   · show (0:Int)<(gl 0 (L2.tops qs):Int);omega
   · exact up 4000 (Zmd h.tops) (by have:=h.b4;omega)
def Zks (K:PySem.W.Frag):Sp:=fun vs H Q _=>∃ (a:Addr) (k:SK) (us:List V) (qs:List Rat) (b:Nat),vs=[.ref a]∧k.At H a us∧Al (IsQ K H) us qs∧LnB b qs∧∀ (H':Hp) (v:V),Same H H'→IsSc K H' v (scl qs)→Q v H'
def Zkf (K:PySem.W.Frag):Sp:=fun vs H Q _=>∃ (a:Addr) (k:SK) (us:List V) (qs:List Rat) (b:Nat),vs=[.ref a]∧k.At H a us∧Al (IsQ K H) us qs∧LnB b qs∧∀ (H':Hp) (l:Addr),Same H H'→H l=none→H' l=some (.lst ((wh qs).map V.int))→Q (.ref l) H'
theorem Zev {a b:Int} (hb:0<b):(a.fdiv b).natAbs≤a.natAbs:=by
 rw [n93_ a (by omega)];exact Int.natAbs_ediv_le_natAbs a b
theorem Xl {a b:Int} {n:Nat} (hb:0<b) (h:a.natAbs<2^n):(a.fdiv b).natAbs<2^n:=n12_ (Zev hb) h
def IsLn (H:Hp) (v:V) (x:Int×List Int):Prop:=∃ p l,v=.ref p∧H p=some (.tup [.int x.1,.ref l])∧H l=some (.lst (x.2.map V.int))
theorem IsLn.same {H H':Hp} {v:V} {x:Int×List Int} (s:Same H H') (h:IsLn H v x):IsLn H' v x:=let ⟨p,l,e,h1,h2⟩:=h;⟨p,l,e,s _ _ h1,s _ _ h2⟩
structure LineO (n:Nat) (x:Int×List Int):Prop where
 nz:x.1≠0
 len:x.2.length=n
 bd:∀ e∈x.2,e.natAbs<2^400000
structure LineOk (n:Nat) (x:Int×List Int):Prop extends LineO n x where
 kn:x.1.natAbs<2^8999
def Zdc:Sp:=fun vs H Q _=>∃ (l:Addr) (ps:List Int) (k:Int),vs=[.ref l,.int k]∧H l=some (.lst (ps.map V.int))∧(∀ i,i<ps.length→gl k (ps.take i)<2^51000)∧∀ H',Same H H'→Q (.int (gl k ps)) H'
def Ze9:Sp:=fun vs H Q _=>∃ (kn:Int) (l hd:Addr) (line head:List Int) (pl:Nat),vs=[.int kn,.ref l,.ref hd,.int pl]∧H l=some (.lst (line.map V.int))∧H hd=some (.lst (head.map V.int))∧LineOk head.length (kn,line)∧(∀ e∈head,e.natAbs<2^400000)∧pl<head.length∧head.length≤1000 ∧
 ∀ (H':Hp) (p l':Addr),Same H H'→(l'=l∨H l'=none)→H p=none→H' p=some (.tup [.int (clr pl head (kn,line)).1,.ref l'])→H' l'=some (.lst ((clr pl head (kn,line)).2.map V.int))→Q (.ref p) H'
theorem getI {xs:List Int} {i:Nat} (h:i<xs.length):atI (xs.map V.int) (i:Int)=some (.int (xs.getD i 0)):=by
 refine Yh ?_;rw [n8_,n0_ h,n1_,n0_ h];rfl
theorem Zm5 (xs:List Int):xs.map (fun p=>p.fdiv ((1:Nat):Int))=xs:=by
 conv=>rhs;rw [← List.map_id xs]
 refine List.map_congr_left fun x _=>?_;show x.fdiv 1=x
 exact Int.fdiv_one x
abbrev hdPs (p:Pos):Arguments:={ posonlyargs:=[],args:=[{ arg := "at",annotation:=none,pos:=p }],vararg:=none,kwonlyargs:=[],kw_defaults:=[],kwarg:=none,defaults:=[] }
abbrev hdSc:Scope:={ kind:=.function,names:=[("at",.local),("left",.free),("place",.free),("abs",.globalImplicit)],isGenerator:=false,isCoroutine:=false }
abbrev Znd (j:Nat) (p0 p1 p2 p3 p4 p5 p6 p7 p8:Pos):Expr:=.Call (.Name "abs" p0) [.Subscript (.Subscript (.Subscript (.Name "left" p1) (.Name "at" p2) p3) (.Constant (.int 1) j p4) p5) (.Name "place" p6) p7] [] p8
theorem Zsl {H:Hp} {c:Addr} {v:V} (h:Zoj H c v):∃ o v,H c=some (fzO o)∧o.data=.cell v:=let ⟨o,u,a,b,_⟩:=h;⟨o,_,a,b⟩
section
variable {P:Program} {w:World} {K:PySem.W.Frag} {mg:Str→Option Value} {base:Heap} {a:Addr} {pm:Value} {q:Str} {j:Nat} {pp p0 p1 p2 p3 p4 p5 p6 p7 p8:Pos} {c1 c2:Addr}
def spHd (a c1 c2:Addr) (q:Str) (pm:Value) (j:Nat) (pp p0 p1 p2 p3 p4 p5 p6 p7 p8:Pos):V→Hp→VK→XK→Prop:=fun v H Q _=>LamF H a q (hdPs pp) (Znd j p0 p1 p2 p3 p4 p5 p6 p7 p8) hdSc [("place",c2),("left",c1)] pm ∧
 ∃ (la p l:Addr) (us:List V) (pl n:Nat) (kv:V) (xs:List Int),Zoj H c1 (.ref la)∧Zoj H c2 (.int pl)∧H la=some (.lst us)∧v=.int n∧us[n]? = some (.ref p)∧H p=some (.tup [kv,.ref l])∧H l=some (.lst (xs.map V.int))∧pl<xs.length∧Q (.int (abV (xs.getD pl 0))) H
theorem Ztf (T:Bt mg) (hne:c1≠c2):Zha P w K mg base 2 a (spHd a c1 c2 q pm j pp p0 p1 p2 p3 p4 p5 p6 p7 p8):=by
 refine Zqq (k:=1) (N:=["at","left","place"]) (p1 := "at") (q:=q) (params:=hdPs pp) (body:=Znd j p0 p1 p2 p3 p4 p5 p6 p7 p8) (scope:=hdSc) (clos:=[("place",c2),("left",c1)]) (pm:=pm) rfl rfl rfl ?_ ?_ rfl ?_ ?_ rfl ?_ ?_ ?_
 · intro x hx;simp only [n34_,n48_,or_false] at hx;rcases hx with rfl|rfl|rfl|rfl<;>(intro z;cases z)
 · intro _ _ _;rfl
 · intro x y d h1 h2;simp only [List.lookup] at h1 h2;split at h1<;>split at h2
   · rename_i e1 _ e2;exact (beq_iff_eq.mp e1).trans (beq_iff_eq.mp e2).symm
   · rename_i e1 _ e2
     split at h2
     · cases h1;cases h2;exact absurd rfl hne
     · cases h2
   · rename_i e1 _ e2
     split at h1
     · cases h1;cases h2;exact absurd rfl hne
     · cases h1
   · rename_i e1 _ e2
     split at h1
     · split at h2
       · rename_i a1 _ a2;exact (beq_iff_eq.mp a1).trans (beq_iff_eq.mp a2).symm
       · cases h2
     · cases h1
 · intro x hx;simp only [List.lookup] at hx;split at hx
   · cases hx
   · split at hx
     · rename_i e;rw [beq_iff_eq.mp e];exact ⟨c1,rfl⟩
     · split at hx
       · rename_i e;rw [beq_iff_eq.mp e];exact ⟨c2,rfl⟩
       · split at hx<;>cases hx
 · intro i x e
   match i,e with
   | 0,e=>cases e;rfl
   | 1,e=>cases e;rfl
   | n+2,e=>simp at e
 · rintro v H Q E ⟨l,la,p,l',us,pl,n,kv,xs,h1,h2,_⟩
   refine ⟨l,fun x d e=>?_⟩;simp only [List.lookup] at e;split at e
   · cases e;exact Zsl h2
   · split at e
     · cases e;exact Zsl h1
     · cases e
 · rintro A outer s H Q E cd v hr ⟨l,la,p,l',us,pl,n,kv,xs,h1,h2,h3,rfl,h4,h5,h6,h7,h8⟩
   refine ⟨[some (.ref la),some (.int pl)],_,rfl,fun i x z e1 e2=>?_,Zk Y2 rfl T.b_abs Zaf (Za (Z1 Z2 (Z1 Yp (Z1 Z2 (pv 1) (pv 0) (fun _ _=>rfl)) Zg (fun _ _=>rfl)) (pv 2) (fun _ _=>rfl)) Zb rfl),?_⟩
   · match i,e1,e2 with
     | 0,e1,e2=>cases e1;cases e2;exact ⟨c1,rfl,h1⟩
     | 1,e1,e2=>cases e1;cases e2;exact ⟨c2,rfl,h2⟩
     | n+2,e1,e2=>simp at e1
   · exact ⟨_,rfl,_,rfl,la,us,n,_,rfl,rfl,SqL.of h3,Yh h4,p,_,1,_,rfl,rfl,SqT.of h5,rfl,_,rfl,l',_,pl,_,rfl,rfl,SqL.of h6,getI h7,_,rfl,h8⟩
end
def Zi5 (Ph:Addr):Sp:=fun vs H Q _=>∃ (la:Addr) (us:List V) (ls:List (Int×List Int)) (pl:Nat),vs=[.ref la,.int pl]∧H la=some (.lst us)∧Al (IsLn H) us ls∧(∀ x∈ls,pl<x.2.length)∧ls.length≤1000∧TabF H Ph "head_of.<locals>.<lambda>" ∧
 ∀ H',Xp Ph H H'→TabF H' Ph "head_of.<locals>.<lambda>" → Q (minV (hkf ls pl) (hds ls pl)) H'
theorem Zjd {α:Type} {l:List α} {i:Nat} {x z:α} (h:l[i]? = some x):l.getD i z=x:=by rw [n1_,h];rfl
def IsL (H:Hp) (v:V) (ns:List Int):Prop:=∃ a,v=.ref a∧H a=some (.lst (ns.map V.int))
def IsLnN (N:Addr→Prop) (H:Hp) (v:V) (x:Int×List Int):Prop:=∃ p l,v=.ref p∧¬ N p∧¬ N l∧H p=some (.tup [.int x.1,.ref l])∧H l=some (.lst (x.2.map V.int))
def Zm9 (N:Addr→Prop) (H H':Hp):Prop:=∀ b o,¬ N b→H b=some o→H' b=some o
theorem IsLnN.keep {N:Addr→Prop} {H H':Hp} {v:V} {x:Int×List Int} (k:Zm9 N H H') (h:IsLnN N H v x):IsLnN N H' v x:=let ⟨p,l,e,n1,n2,h1,h2⟩:=h;⟨p,l,e,n1,n2,k _ _ n1 h1,k _ _ n2 h2⟩
theorem IsLnN.ln {N:Addr→Prop} {H:Hp} {v:V} {x:Int×List Int} (h:IsLnN N H v x):IsLn H v x:=let ⟨p,l,e,_,_,h1,h2⟩:=h;⟨p,l,e,h1,h2⟩
abbrev stI (x:Nat×List Int):Int×List Int:=((x.1:Int),x.2)
abbrev IsSt (H:Hp) (v:V) (x:Nat×List Int):Prop:=IsLn H v (stI x)
structure StpOk (lines:List (List Int)) (n w:Nat):Prop where
 nw:n≤w
 w1:w≤1000
 l1:lines.length≤1000
 ok:∀ i,i≤n→∀ x∈(stp lines i).2,LineO w x
 kn:∀ i,i≤n→2≤(stp lines i).2.length→∀ x∈(stp lines i).2,x.1.natAbs<2^8999
theorem Zgy {lines:List (List Int)}:∀ i,(stp lines i).2.length≤lines.length∧(stp lines i).1.length≤i
 | 0=>⟨by show ((lines.map fun l=>((1:Int),l))).length≤_;rw [n2_];exact n9_ _,n9_ _⟩
 | i+1=>by
   have ih:=Zgy (lines:=lines) i;cases e:Xy (stp lines i).2 i with
   | none=>rw [Zaq e];exact ⟨ih.1,by omega⟩
   | some a =>
     rw [Zbb e];simp only [n2_,n20_,n33_,n73_];refine ⟨?_,by omega⟩
     have:=List.length_eraseIdx_le (stp lines i).2 a
     omega
def Zct (Ph:Addr):Sp:=fun vs H Q _=>∃ (La:Addr) (vs':List V) (lines:List (List Int)) (n w:Nat),vs=[.ref La,.int n]∧H La=some (.lst vs')∧Al (IsL H) vs' lines∧StpOk lines n w∧TabF H Ph "head_of.<locals>.<lambda>" ∧
 ∀ (H':Hp) (p a b:Addr) (us ws:List V),Xp Ph H H'→TabF H' Ph "head_of.<locals>.<lambda>" → H' p=some (.tup [.ref a,.ref b])→H' a=some (.lst us)→Al (IsSt H') us (stp lines n).1→H' b=some (.lst ws)→Al (IsL H') ws ((stp lines n).2.map Prod.snd)→Q (.ref p) H'
theorem Al.erase {α:Type} {R:V→α→Prop} {vs:List V} {xs:List α} (h:Al R vs xs) (k:Nat):Al R (vs.eraseIdx k) (xs.eraseIdx k):=⟨by simp only [List.length_eraseIdx,h.1],fun i v x e1 e2=>by
 rw [List.getElem?_eraseIdx] at e1 e2;split at e1
 · rename_i hi;rw [if_pos hi] at e2;exact h.2 i v x e1 e2
 · rename_i hi;rw [if_neg hi] at e2;exact h.2 (i+1) v x e1 e2⟩
theorem Zoc {α:Type} (xs:List α):∀ n,(List.range n).filterMap (fun i=>xs[i]?)=xs.take n
 | 0=>rfl
 | n+1=>by
   rw [n92_,List.filterMap_append,Zoc xs n,List.take_add_one]
   congr 1
theorem Z5 {α:Type} (xs:List α) (n:Nat) (h:n=xs.length):(List.range n).filterMap (fun i=>xs[i]?)=xs:=by
 rw [Zoc,h,n61_]
def Zdw (K:PySem.W.Frag):Sp:=fun vs H Q _=>∃ (a:Addr) (k:SK) (us:List V) (qs:List Rat) (b:Nat),vs=[.ref a]∧k.At H a us∧Al (IsQ K H) us qs∧LnB b qs∧∀ (H':Hp) (p l:Addr),Same H H'→H l=none→H' p=some (.tup [.ref l,.int (lcmL (bots qs))])→H' l=some (.lst ((lvd qs).map V.int))→Q (.ref p) H'
def Zjv (K:PySem.W.Frag):Sp:=fun vs H Q _=>∃ (w:Addr) (kw:SK) (ws:List Int) (a:Addr) (k:SK) (us:List V) (qs:List Rat) (b:Nat) (c:Int),vs=[.ref w,.ref a,.int c]∧kw.At H w (ws.map V.int)∧(∀ x∈ws,x.natAbs<2^304000)∧k.At H a us∧Al (IsQ K H) us qs∧LnB b qs∧c≠0∧(lcmL (bots qs)*c).natAbs<2^4000 ∧
 ∀ (H':Hp) (v:V),Same H H'→IsQ K H' v (mxd ws qs c)→Q v H'
theorem Zru {b:Nat} {qs:List Rat} (h:LnB b qs):∀ x∈lvd qs,x.natAbs<2^304000:=fun x hx=>by
 obtain ⟨q,hq,rfl⟩:=n19_.mp hx;exact up _ (FM.natAbs_mul_lt (h.bd q hq).1 (Xl (FM.den_pos q) h.lcm)) (by have:=h.b4;omega)
structure PutOk (pl:Nat) (line:List Int) (xs:List Rat):Prop where
 lt:pl<xs.length
 len:line.length=xs.length+1
 nz:line.getD pl 0≠0
 bd:∀ e∈line,e.natAbs<2^400000
 num:∀ x∈xs,x.num.natAbs<2^200000
 den:∀ x∈xs,x.den<2^4000
 n:xs.length≤200
 sz:(lcmL (bots ((trm pl line xs).map Prod.snd))*line.getD pl 0).natAbs<2^50000
def Zjp (K:PySem.W.Frag):Sp:=fun vs H Q _=>∃ (pl:Nat) (l a:Addr) (line:List Int) (us:List V) (xs:List Rat),vs=[.int pl,.ref l,.ref a]∧H l=some (.lst (line.map V.int))∧H a=some (.lst us)∧Al (IsQ K H) us xs∧PutOk pl line xs∧∀ (H':Hp) (v:V),Same H H'→IsQ K H' v (putQ pl line xs)→Q v H'
theorem QT.same {K:PySem.W.Frag} {H H':Hp} {a:Addr} {q:Rat} (s:Same H H') (h:QT K H a q):QT K H' a q:=h.imp (fun z=>s _ _ z) id
def IsTm (K:PySem.W.Frag) (D:Addr) (H:Hp) (v:V) (x:Int×Rat):Prop:=∃ p f,v=.ref p∧p≠D∧H p=some (.tup [.int x.1,.ref f])∧((f≠D∧H f=some (.tup (rt x.2)))∨KTu K f (rt x.2))
theorem IsTm.keep {K:PySem.W.Frag} {D:Addr} (H1 H2:Hp) (v:V) (x:Int×Rat) (k:Keep D H1 H2) (h:IsTm K D H1 v x):IsTm K D H2 v x:=let ⟨p,f,e,n1,h1,h2⟩:=h;⟨p,f,e,n1,k _ _ n1 h1,h2.imp (fun z=>⟨z.1,k _ _ z.1 z.2⟩) id⟩
theorem Zl4 {α:Type} (Z:List α) (c:α→Bool) (n:Nat) (h:n=Z.length):(List.range n).filterMap (fun i=>(Z[i]?).filter c)=Z.filter c:=by
 rw [← List.filter_filterMap,Z5 Z n h]
theorem Zlw {line:List Int} (h:line≠[]):atI (line.map V.int) (-1)=some (.int (line.getLastD 0)):=by
 have hl:0<line.length:=List.length_pos_iff.mpr h;unfold atI
 have e:ixN (line.map V.int).length (-1)=some (line.length-1):=by
  unfold ixN;rw [n2_];rw [if_neg (by omega),if_pos (by omega)];congr 1;omega
 rw [e,Option.bind_some,n8_,← List.getLast?_eq_getElem?,List.getLastD_eq_getLast?];obtain ⟨x,hx⟩:∃ x,line.getLast? = some x:=⟨_,List.getLast?_eq_some_getLast h⟩;rw [hx];rfl
structure FilOk (steps:List (Nat×List Int)) (xs:List Rat):Prop where
 ok:∀ i,i<steps.length→PutOk (steps.getD i (0,[])).1 (steps.getD i (0,[])).2 (fil (steps.drop (i+1)) xs)
def Zhh (K:PySem.W.Frag):Sp:=fun vs H Q _=>∃ (s a:Addr) (ss us:List V) (steps:List (Nat×List Int)) (xs:List Rat),vs=[.ref s,.ref a]∧H s=some (.lst ss)∧Al (IsSt H) ss steps∧H a=some (.lst us)∧Al (IsQ K H) us xs∧FilOk steps xs∧∀ (H':Hp) (l:Addr) (us':List V),Same H H'→H' l=some (.lst us')→Al (IsQ K H') us' (fil steps xs)→Q (.ref l) H'
def Zfh:Sp:=fun vs H Q _=>∃ (l:Addr) (ds:List Int),vs=[.ref l]∧H l=some (.lst (ds.map V.int))∧(∀ x∈ds,0<x∧x.natAbs<2^4000)∧ds.length≤200∧∀ (H':Hp) (m:Addr),Same H H'→H' m=some (.lst ((fct ds).2.map V.int))→Q (.ref m) H'
def Ze5 (K:PySem.W.Frag):Sp:=fun vs H Q _=>∃ (v:V) (q:Rat) (l:Addr) (fs:List Int),vs=[v,.ref l]∧IsQ K H v q∧H l=some (.lst (fs.map V.int))∧(∀ x∈fs,0<x∧x.natAbs<2^4000)∧fs.length≤200∧q.num.natAbs<2^200000∧q.den<2^4000∧∀ (H':Hp) (v':V),Same H H'→IsQh H' v' (q/(Zcc fs:Rat))→Q v' H'
theorem Zdl {α:Type} (x:α):∀ n:Nat,(List.replicate n [x]).flatten=List.replicate n x
 | 0=>rfl
 | n+1=>by rw [n49_,List.flatten_cons,Zdl x n];rfl
def IsQs (K:PySem.W.Frag) (H:Hp) (v:V) (qs:List Rat):Prop:=∃ a us,v=.ref a∧H a=some (.tup us)∧Al (IsQ K H) us qs
theorem IsQs.tk {K:PySem.W.Frag} {H H':Hp} {v:V} {qs:List Rat} (t:Tk H H') (h:IsQs K H v qs):IsQs K H' v qs:=let ⟨a,us,e,h1,h2⟩:=h;⟨a,us,e,t _ _ h1,h2.imp fun v x r=>hRQ _ _ _ _ t r⟩
theorem Zb6 {D:Addr} {H1 H2:Hp} (k:Keep D H1 H2) (e:∃ ws,H1 D=some (.lst ws)):Tk H1 H2:=fun b xs h=>k _ _ (fun z=>by obtain ⟨ws,e⟩:=e;rw [z,e] at h;cases h) h
def Zhb (K:PySem.W.Frag):Sp:=fun vs H Q _=>∃ (a:Addr) (k:SK) (us:List V) (rows:List (List Rat)),vs=[.ref a]∧k.At H a us∧Al (IsQs K H) us rows∧Q (.int (wid rows)) H
structure RtB (b:Nat) (rows:List (List Rat)) (rights:List Rat):Prop where
 rl:rights.length=rows.length
 n:rows.length≤200
 rb:∀ r∈rows,LnB b r
 gb:∀ q∈rights,FM.B b q
 b2:b≤1990
theorem Zmg {b:Nat} {qs:List Rat} (h:LnB b qs):(scl qs).2.natAbs<2^(b+1):=by
 unfold scl;split
 · exact n94_ (by omega)
 · exact up _ (Zmd h.tops) (by omega)
theorem RtB.mx {b:Nat} {rows:List (List Rat)} {rights:List Rat} (R:RtB b rows rights) {row:List Rat} {r:Rat} (h1:row∈rows) (h2:r∈rights):LnB b [r]∧(scl row).2≠0∧(lcmL (bots [r])*(scl row).2).natAbs<2^4000:=by
 have B1:LnB b [r]:=⟨fun q hq=>by rw [n15_.mp hq];exact R.gb r h2,by have:=R.b2;omega,by have:=R.b2;simp;omega,by simp⟩;have s:=Zhj (R.rb row h1);refine ⟨B1,by omega,?_⟩;have l:=Zcx _ B1.bots;exact up _ (FM.natAbs_mul_lt l (Zmg (R.rb row h1))) (by have:=R.b2;simp;omega)
def Zeo (K:PySem.W.Frag):Sp:=fun vs H Q _=>∃ (a g:Addr) (k kg:SK) (us gs:List V) (rows:List (List Rat)) (rights:List Rat) (b:Nat),vs=[.ref a,.ref g]∧k.At H a us∧Al (IsQs K H) us rows∧kg.At H g gs∧Al (IsQ K H) gs rights∧RtB b rows rights ∧
 ∀ (H':Hp) (l:Addr) (es:List V),Same H H'→H l=none→H' l=some (.lst es)→Al (IsQ K H') es (rtv rows rights)→Q (.ref l) H'
def Zc9 (K:PySem.W.Frag):Sp:=fun vs H Q _=>∃ (s:Addr) (ss:List V) (steps:List (Nat×List Int)) (n:Nat),vs=[.ref s,.int n,.int 0]∧H s=some (.lst ss)∧Al (IsSt H) ss steps∧steps.length≤1000∧n≤1000∧(∀ x∈steps,x.2.length=n+1)∧FilOk steps (List.replicate n 0) ∧
 ∀ (H':Hp) (l:Addr) (us':List V),Same H H'→H' l=some (.lst us')→Al (IsQ K H') us' (fil steps (List.replicate n 0))→Q (.ref l) H'
structure SeOk (b c:Nat) (rows:List (List Rat)) (rights:List Rat):Prop extends RtB b rows rights where
 wd:∀ r∈rows,r.length=wid rows
 w:wid rows≤190
 eb:LnB c (rtv rows rights)
 so:StpOk (lns rows rights) (wid rows) (wid rows+1)
 fo:FilOk (stF rows rights).1 (List.replicate (wid rows) 0)
 fb:∀ x∈fil (stF rows rights).1 (List.replicate (wid rows) 0),x.num.natAbs<2^200000∧x.den<2^4000
theorem Zku {lines:List (List Int)} {n w:Nat} (SO:StpOk lines n w):∀ i,i≤n→∀ x∈(stp lines i).1,x.2.length=w
 | 0,_,x,hx=>nomatch hx
 | i+1,hi,x,hx=>by
   have ih:=Zku SO i (by omega);cases e:Xy (stp lines i).2 i with
   | none=>rw [Zaq e] at hx;exact ih x hx
   | some a =>
     rw [Zbb e] at hx
     rcases n46_.mp hx with hx|hx
     · exact ih x hx
     · rw [n15_.mp hx];obtain ⟨ha,_⟩:=X4 e;have gd:(stp lines i).2.getD a (0,[])=(stp lines i).2[a]:=by rw [n1_,n0_ ha];rfl
       rw [gd];exact (SO.ok i (by omega) _ (n13_ ha)).len
theorem Zq8:∀ (ds:List Int),(fct ds).2.length≤ds.length:=fun ds=>by
 suffices H:∀ i,i≤ds.length→(fct (ds.take i)).2.length≤i by have:=H ds.length (n9_ _);rwa [n61_] at this
 intro i
 induction i with
 | zero=>intro _;exact n9_ _
 | succ i ih =>
   intro hi;have ih:=ih (by omega)
   have e:fct (ds.take i++[ds[i]])=if 1<ds[i].fdiv (Int.gcd (fct (ds.take i)).1 ds[i]:Int) then ((fct (ds.take i)).1*ds[i].fdiv (Int.gcd (fct (ds.take i)).1 ds[i]:Int),(fct (ds.take i)).2++[ds[i].fdiv (Int.gcd (fct (ds.take i)).1 ds[i]:Int)]) else fct (ds.take i):=by
    unfold fct;rw [n74_];rfl
   rw [n36_ hi,e];split
   · rw [n20_];exact Nat.succ_le_succ ih
   · omega
theorem Ztv {c:Nat} {qs:List Rat} (B:LnB c qs):∀ f∈(fct (bots qs)).2,0<f∧f.natAbs<2^4000:=fun f hf=>by
 obtain ⟨h0,d,hd,dv⟩:=(Zkc (bots qs) (Y3 qs)).2.2 f hf;have b:=B.bots d hd;refine ⟨h0,n12_ (Nat.le_of_dvd (by omega) (Int.natAbs_dvd_natAbs.mpr dv)) (up _ b.2 (by have:=B.b4;omega))⟩
def SolV (K:PySem.W.Frag) (H:Hp) (v:V):Option (List Rat)→Prop
 | none=>v=.non
 | some xs=>IsRh H v xs
theorem SolV.tk {K:PySem.W.Frag} {H H':Hp} {v:V} {o:Option (List Rat)} (t:Tk H H') (h:SolV K H v o):SolV K H' v o:=by
 cases o with
 | none=>exact h
 | some xs=>exact IsRh.tk t h
def Zbm (K:PySem.W.Frag) (Ph:Addr):Sp:=fun vs H Q _=>∃ (a ca g:Addr) (k kg:SK) (us gs:List V) (rows:List (List Rat)) (rights:List Rat) (b c:Nat),vs=[.ref a,.ref ca]∧k.At H a us∧Al (IsQs K H) us rows∧H ca=some (.lst [.ref g])∧kg.At H g gs∧Al (IsQ K H) gs rights∧SeOk b c rows rights∧TabF H Ph "head_of.<locals>.<lambda>" ∧
 ∀ (H':Hp) (p t f:Addr) (v:V),Xp Ph H H'→TabF H' Ph "head_of.<locals>.<lambda>" → H' p=some (.tup [.ref t,.ref f])→H' t=some (.lst ((tkn rows rights).map fun n:Nat=>V.int n))→H' f=some (.lst [v])→SolV K H' v (slv rows rights)→Q (.ref p) H'
def Zba (K:PySem.W.Frag) (Ph:Addr):Sp:=fun vs H Q _=>∃ (a g:Addr) (k kg:SK) (us gs:List V) (rows:List (List Rat)) (rights:List Rat) (b c:Nat),vs=[.ref a,.ref g]∧k.At H a us∧Al (IsQs K H) us rows∧kg.At H g gs∧Al (IsQ K H) gs rights∧SeOk b c rows rights∧TabF H Ph "head_of.<locals>.<lambda>" ∧
 ∀ (H':Hp) (p t:Addr) (v:V),Xp Ph H H'→TabF H' Ph "head_of.<locals>.<lambda>" → H' p=some (.tup [.ref t,v])→H' t=some (.lst ((tkn rows rights).map fun n:Nat=>V.int n))→SolV K H' v (slv rows rights)→Q (.ref p) H'
def Zfx (K:PySem.W.Frag) (Ph:Addr):Sp:=fun vs H Q _=>∃ (a g t:Addr) (k:SK) (us gs:List V) (rows:List (List Rat)) (rights:List Rat) (taken:List Nat) (b c:Nat),vs=[.ref a,.ref g,.ref t]∧k.At H a us∧Al (IsQs K H) us rows∧H g=some (.tup gs)∧Al (IsQ K H) gs rights∧H t=some (.lst (taken.map fun n:Nat=>V.int n))∧rows.length≤1000∧taken.length≤1000∧(∀ p∈taken,∀ r∈rows,p<r.length)∧SeOk b c (cols rows taken++[rights]) (List.replicate taken.length 0++[1])∧TabF H Ph "head_of.<locals>.<lambda>" ∧
 ∀ (H':Hp) (v:V),Xp Ph H H'→TabF H' Ph "head_of.<locals>.<lambda>" → SolV K H' v (mixM rows rights taken)→Q v H'
def bt (β:Nat):Nat→Nat
 | 0=>β
 | i+1=>2*bt β i+1
def gt (β γ:Nat):Nat→Nat
 | 0=>γ
 | i+1=>gt β γ i+bt β i+1
def eb (β γ n s p:Nat):Nat:=if p<n then bt β s else gt β γ s
structure LB (β γ n s:Nat) (x:Int×List Int):Prop where
 nz:x.1≠0
 kn:x.1.natAbs<2^(bt β s/2)
 len:x.2.length=n+1
 bd:∀ p v,x.2[p]? = some v→v.natAbs<2^eb β γ n s p
theorem Zsr (β s:Nat):bt β s≤bt β (s+1):=by show _≤2*bt β s+1;omega
theorem Zte (β γ n s p:Nat):eb β γ n s p≤eb β γ n (s+1) p:=by
 unfold eb;split
 · exact Zsr β s
 · show _≤gt β γ s+bt β s+1;omega
theorem LB.up {β γ n s:Nat} {x:Int×List Int} (h:LB β γ n s x):LB β γ n (s+1) x:=⟨h.nz,My.up _ h.kn (Nat.div_le_div_right (Zsr β s)),h.len,fun p v e=>My.up _ (h.bd p v e) (Zte ..)⟩
theorem Zr5 {a b:Int} {n:Nat} (ha:a.natAbs<2^n) (hb:b.natAbs<2^n):(a-b).natAbs<2^(n+1):=by
 rw [Nat.pow_succ];omega
theorem Zix {l:List Int} {p:Nat} (h:p<l.length):l[p]? = some (l.getD p 0):=by rw [n1_,n0_ h];rfl
theorem LB.clr {β γ n s pl:Nat} {x y:Int×List Int} (h:LB β γ n s x) (g:LB β γ n s y) (hp:pl<n) (nz:y.2.getD pl 0≠0):LB β γ n (s+1) (clr pl y.2 x):=by
 unfold L2.clr;split
 · exact h.up
 · have t:=g.bd pl _ (Zix (by have:=g.len;omega));have m:=h.bd pl _ (Zix (by have:=h.len;omega));have e:eb β γ n s pl=bt β s:=if_pos hp;rw [e] at t m;refine ⟨nz,My.up _ t (by show _≤(2*bt β s+1)/2;omega),?_,fun p v ev=>?_⟩
   · rw [n2_];unfold prt;rw [n22_,h.len,g.len];exact n65_ _
   · change ((prt (y.2.getD pl 0) (x.2.getD pl 0) x.2 y.2).map _)[p]? = some v at ev;rw [n8_] at ev;obtain ⟨u,eu,rfl⟩:=n52_.mp ev;have gp:=(Zj3 h.nz (prt (y.2.getD pl 0) (x.2.getD pl 0) x.2 y.2)).1;refine Xl (by omega) ?_;unfold prt at eu;rw [n18_] at eu;split at eu
     · rename_i o i eo ei
       cases eu
       have ho:=h.bd p o eo;have hi:=g.bd p i ei
       have z:eb β γ n (s+1) p=bt β s+eb β γ n s p+1:=by
        unfold eb;split
        · show 2*bt β s+1=_;omega
        · show gt β γ s+bt β s+1=_;omega
       rw [z];exact Zr5 (FM.natAbs_mul_lt t ho) (FM.natAbs_mul_lt m hi)
     · cases eu
structure SI (β γ n m i:Nat) (S:Stt):Prop where
 left:∀ x∈S.2,LB β γ n S.1.length x
 cnt:S.1.length+S.2.length=m
 le:S.1.length≤i
 st:∀ k x,S.1[k]? = some x→x.1<i∧x.2.getD x.1 0≠0∧LB β γ n k (1,x.2)
theorem Zg5 {β γ n:Nat} {lines:List (List Int)} (b1:2≤β) (h:∀ l∈lines,l.length=n+1∧∀ p v,l[p]? = some v→v.natAbs<2^eb β γ n 0 p):∀ i,i≤n→SI β γ n lines.length i (stp lines i)
 | 0,_=>by
   refine ⟨fun x hx=>?_,by show 0+(lines.map fun l=>((1:Int),l)).length=_;simp,n9_ _,fun k x e=>by cases e⟩;change x∈lines.map _ at hx;obtain ⟨l,hl,rfl⟩:=n19_.mp hx;exact ⟨by show (1:Int)≠0;decide,n94_ (by show β/2≠0;omega),(h l hl).1,(h l hl).2⟩
 | i+1,hi=>by
   have ih:=Zg5 b1 h i (by omega);cases e:Xy (stp lines i).2 i with
   | none =>
     rw [Zaq e];exact ⟨ih.left,ih.cnt,by have:=ih.le;omega,fun k x e=>⟨by have:=(ih.st k x e).1;omega,(ih.st k x e).2⟩⟩
   | some a =>
     obtain ⟨ha,hz⟩:=X4 e;rw [Zbb e];have gd:(stp lines i).2.getD a (0,[])=(stp lines i).2[a]:=by rw [n1_,n0_ ha];rfl
     rw [gd] at hz ⊢;have hh:=ih.left _ (n13_ ha);generalize hS:stp lines i=S at *;generalize S.2[a]=hd at *;refine ⟨fun x hx=>?_,?_,?_,fun k x ek=>?_⟩
     · change x∈(S.2.eraseIdx a).map (L2.clr i hd.2) at hx;obtain ⟨y,hy,rfl⟩:=n19_.mp hx
       have:=(ih.left y (List.mem_of_mem_eraseIdx hy)).clr hh (by omega) hz
       rw [show (S.1++[(i,hd.2)],(S.2.eraseIdx a).map (L2.clr i hd.2)).1.length=S.1.length+1 by simp];exact this
     · show (S.1++[(i,hd.2)]).length+((S.2.eraseIdx a).map (L2.clr i hd.2)).length=_
       rw [n20_,n2_,List.length_eraseIdx,if_pos ha]
       have:=ih.cnt
       show S.1.length+1+_=_
       omega
     · show (S.1++[(i,hd.2)]).length≤_
       rw [n20_];exact Nat.succ_le_succ ih.le
     · change (S.1++[(i,hd.2)])[k]? = some x at ek
       by_cases hk:k<S.1.length
       · rw [n40_ hk] at ek;exact ⟨by have:=(ih.st k x ek).1;omega,(ih.st k x ek).2⟩
       · rw [n35_ (by omega)] at ek
         have k0:k-S.1.length=0:=by
          cases z:k-S.1.length with
          | zero=>rfl
          | succ z'=>rw [z] at ek;simp at ek
         rw [k0] at ek;cases ek
         have:k=S.1.length:=by omega
         subst this
         exact ⟨Nat.lt_succ_self i,hz,⟨by show (1:Int)≠0;decide,n94_ (by
          have:∀ s,2≤bt β s:=fun s=>by
           induction s with
           | zero=>exact b1
           | succ s ih=>show 2≤2*bt β s+1;omega
          have:=this S.1.length;omega),hh.len,hh.bd⟩⟩
structure StG (β:Nat) (n k:Nat) (x:Nat×List Int):Prop where
 lt:x.1<n
 len:x.2.length=n+1
 nz:x.2.getD x.1 0≠0
 pv:(x.2.getD x.1 0).natAbs<2^bt β k
 bd:∀ e∈x.2,e.natAbs<2^80000
theorem Zmy {xs:List Rat} {q:Nat}:∀ (L:List (Nat×List Int)),(∀ x∈L,x.1<xs.length)→q∉L.map Prod.fst→(fil L xs).getD q 0=xs.getD q 0
 | [],_,_=>rfl
 | x :: L,h,hq=>by
   have e:fil (x :: L) xs=(fil L xs).set x.1 (putQ x.1 x.2 (fil L xs)):=rfl;have n:x.1≠q:=fun z=>hq (by rw [← z];exact n5_);rw [e,Yl (by rw [Xe];exact h x n5_),if_neg n];exact Zmy L (fun y hy=>h y (n3_ _ hy)) fun z=>hq (n3_ _ z)
theorem Zko {n q:Nat}:∀ (L:List (Nat×List Int)) (i:Nat),(L.map Prod.fst).Pairwise (·<·)→(∀ x∈L,x.1<n)→(fil (L.drop i) (List.replicate n 0)).getD q 0=0∨(fil (L.drop i) (List.replicate n 0)).getD q 0=(fil L (List.replicate n 0)).getD q 0
 | L,0,_,_=>.inr rfl
 | [],i+1,_,_=>.inr rfl
 | x :: L,i+1,asc,st=>by
   have asc':(x.1 :: L.map Prod.fst).Pairwise (·<·):=asc;rw [n95_] at asc';have st':∀ y∈L,y.1<n:=fun y hy=>st y (n3_ _ hy);have ih:=Zko (q:=q) L i asc'.2 st';have e:fil (x :: L) (List.replicate n 0)=(fil L (List.replicate n 0)).set x.1 (putQ x.1 x.2 (fil L (List.replicate n 0))):=rfl;rw [List.drop_succ_cons,e,Yl (by rw [Xe,n14_];exact st x n5_)];split
   · rename_i z
     left
     have nq:q∉L.map Prod.fst:=fun m=>by have:=asc'.1 q m;omega
     rw [Zmy _ (fun y hy=>by rw [n14_];exact st' y (List.mem_of_mem_drop hy)) (fun m=>nq (by rw [List.map_drop] at m;exact List.mem_of_mem_drop m)),n1_,n26_];split<;>rfl
   · exact ih
theorem Zk9 {β n δ:Nat} (hn:n≤190) {L:List (Nat×List Int)} {D:Int} (hD:D≠0) (lD:D.natAbs≤2^δ) (hδ:δ<4000) (hβ:∀ j,j<L.length→δ+bt β j≤49990) (asc:(L.map Prod.fst).Pairwise (·<·)) (h:∀ j x,L[j]? = some x→StG β n j x)
 (hx:∀ x∈fil L (List.replicate n 0),∃ Z:Int,x*(D:Rat)=(Z:Rat)∧Z.natAbs<2^200000):FilOk L (List.replicate n 0)∧∀ x∈fil L (List.replicate n 0),x.num.natAbs<2^200000∧x.den<2^4000:=by
 have st:∀ x∈L,x.1<n:=fun x hx=>by
  obtain ⟨j,hj⟩:=n45_.mp hx;exact (h j x hj).lt
 have one:∀ x∈fil L (List.replicate n 0),x.num.natAbs<2^200000∧(x.den:Int)∣D∧x.den<2^4000:=fun x hx'=>by
  obtain ⟨Z,e,z⟩:=hx x hx';obtain ⟨d,m⟩:=Zqp hD e
  have:x.den≤D.natAbs:=Nat.le_of_dvd (by omega) (Int.ofNat_dvd_left.mp d)
  exact ⟨n12_ m z,d,n12_ (n28_ this lD) (n41_ (by decide) hδ)⟩
 have all:∀ i,∀ x∈fil (L.drop i) (List.replicate n 0),x.num.natAbs<2^200000∧(x.den:Int)∣D∧x.den<2^4000:=fun i x hx'=>by
  obtain ⟨q,hq,rfl⟩:=n55_ hx';have l1:q<n:=by rw [Xe,n14_] at hq;exact hq
  have l2:q<(fil L (List.replicate n 0)).length:=by rw [Xe,n14_];exact l1
  have e1:(fil (L.drop i) (List.replicate n 0)).getD q 0=(fil (L.drop i) (List.replicate n 0))[q]:=by rw [n1_,n0_ hq];rfl
  have e2:(fil L (List.replicate n 0)).getD q 0=(fil L (List.replicate n 0))[q]:=by rw [n1_,n0_ l2];rfl
  rcases Zko (q:=q) L i asc st with z|z
  · rw [e1] at z;rw [z];exact ⟨n62_ _,Int.one_dvd _,n94_ (by decide)⟩
  · rw [e1,e2] at z;rw [z];exact one _ (n13_ l2)
 refine ⟨⟨fun i hi=>?_⟩,fun x hx=>⟨(one x hx).1,(one x hx).2.2⟩⟩;have ei:=n0_ hi;have gd:L.getD i (0,[])=L[i]:=by rw [n1_,ei];rfl
 rw [gd];have G:=h i _ ei;have ln:(fil (L.drop (i+1)) (List.replicate n 0)).length=n:=by rw [Xe,n14_]
 refine ⟨by rw [ln];exact G.lt,by rw [ln];exact G.len,G.nz,fun e he=>My.up _ (G.bd e he),fun x hx=>(all _ x hx).1,fun x hx=>(all _ x hx).2.2,by omega,?_⟩
 have dl:lcmL (bots ((trm L[i].1 L[i].2 (fil (L.drop (i+1)) (List.replicate n 0))).map Prod.snd))∣D:=(Xd _ (Y3 _)).2.2 D fun z hz=>by
  obtain ⟨q,hq,rfl⟩:=n19_.mp hz;obtain ⟨t,ht,rfl⟩:=n19_.mp hq;exact (all (i+1) _ (List.mem_of_mem_drop (List.of_mem_zip (List.mem_filter.mp ht).1).2)).2.1
 have l1:=Nat.le_of_dvd (by omega) (Int.natAbs_dvd_natAbs.mpr dl);rw [n38_];have l2:=Nat.mul_le_mul (n28_ l1 lD) (Nat.le_of_lt G.pv);rw [← n63_] at l2;exact n12_ l2 (n41_ (by decide) (by have:=hβ i hi;omega))
def Dv (c:Int) (n:Nat) (q:Rat):Prop:=∃ z:Int,q*(c:Rat)=(z:Rat)∧z.natAbs≤n
theorem Dv.den {c:Int} {n:Nat} {q:Rat} (h:Dv c n q) (hc:c≠0):(q.den:Int)∣c∧q.num.natAbs≤n:=by
 obtain ⟨z,e,b⟩:=h;obtain ⟨h1,h2⟩:=Zqp hc e;exact ⟨h1,n28_ h2 b⟩
theorem Zmf {a:Int} {c:Int} {n:Nat} (h:a∣c) (hc:1≤c) (hn:c.natAbs<2^n):a.natAbs<2^n:=n12_ (Nat.le_of_dvd (by omega) (Int.natAbs_dvd_natAbs.mpr h)) hn
theorem Zsb {c:Int} {qs:List Rat} (hc:1≤c) (h:∀ q∈qs,(q.den:Int)∣c):lcmL (bots qs)∣c:=(Xd _ (Y3 qs)).2.2 c fun x hx=>by
 obtain ⟨q,hq,rfl⟩:=n19_.mp hx;exact h q hq
abbrev DW (q:Rat):Prop:=Dv 167961600000000 (2^410) q
theorem DW.b {q:Rat} (h:DW q):FM.B 411 q:=by
 obtain ⟨h1,h2⟩:=Dv.den h (by decide);exact ⟨n12_ h2 (n41_ (by decide) (by decide)),My.up 411 (show ((q.den:Int)).natAbs<2^48 from Zmf h1 (by decide) (by decide))⟩
def iz (q:Rat):Int:=(q*((167961600000000:Int):Rat)).num
theorem DW.iz {q:Rat} (h:DW q):((iz q:Int):Rat)=q*((167961600000000:Int):Rat)∧(My.iz q).natAbs≤2^410:=by
 obtain ⟨z,e,b⟩:=h;unfold My.iz;rw [e];exact ⟨by rw [Rat.num_intCast],by rw [Rat.num_intCast];exact b⟩
structure SysOk (rows:List (List Rat)) (rights:List Rat):Prop where
 rl:rights.length=rows.length
 n:rows.length≤7
 wd:∀ r∈rows,r.length=wid rows
 w:wid rows≤7
 rb:∀ r∈rows,∀ q∈r,DW q
 gb:∀ q∈rights,DW q
theorem SysOk.rt {rows:List (List Rat)} {rights:List Rat} (S:SysOk rows rights):RtB 411 rows rights:=⟨S.rl,by have:=S.n;omega,fun r hr=>⟨fun q hq=>(S.rb r hr q hq).b,by decide,by rw [S.wd r hr];have:=S.w;omega,by rw [S.wd r hr];have:=S.w;omega⟩,fun q hq=>(S.gb q hq).b,by decide⟩
theorem Zmq {rows:List (List Rat)} {rights:List Rat} (S:SysOk rows rights) {r:List Rat} (hr:r∈rows):(scl r).1.natAbs<2^48:=by
 unfold scl;split
 · exact n94_ (by decide)
 · exact Zmf (Zsb (c:=167961600000000) (by decide) fun q hq=>(Dv.den (S.rb r hr q hq) (by decide)).1) (by decide) (by decide)
theorem SysOk.eb {rows:List (List Rat)} {rights:List Rat} (S:SysOk rows rights):LnB 1000 (rtv rows rights):=by
 have hl:(rtv rows rights).length=rows.length:=by unfold rtv;rw [n22_,S.rl];exact n65_ _
 refine ⟨fun q hq=>?_,by decide,by rw [hl];have:=S.n;omega,by rw [hl];have:=S.n;omega⟩;obtain ⟨i,hi,e⟩:=n55_ hq;have e':(rtv rows rights)[i]? = some q:=by rw [← e];exact n0_ hi
 unfold rtv at e';rw [n18_] at e';split at e'
 · rename_i row r er eg
   cases e'
   have m1:=n4_ er;have m2:=n4_ eg;have so:=Zhj (S.rt.rb row m1);have s2:=Zmg (S.rt.rb row m1);have s1:=Zmq S m1;have gb:=(S.gb r m2).b;have hP:(r.den:Int)*(scl row).2≠0:=Int.mul_ne_zero (FM.den_ne r) (by omega)
   have q:mxd [(scl row).1] [r] (scl row).2*(((r.den:Int)*(scl row).2:Int):Rat)=(((scl row).1*r.num:Int):Rat):=by
    unfold mxd dotQ;rw [n27_,n27_];have e:=Zch r;have hd:=Zfq r;have hs:=Ye (show (scl row).2≠0 by omega);have hd2:((r.den:Int):Rat)=(r.den:Rat):=by first|rfl|exact Rat.intCast_natCast _
    rw [hd2];show (((scl row).1:Rat)*r+0)/_*_=_
    generalize ((scl row).1:Rat)=a at *;generalize ((scl row).2:Rat)=b at *;generalize (r.num:Rat)=n at *;generalize (r.den:Rat)=dd at *;rw [e]
    grind
   obtain ⟨d,m⟩:=Zqp hP q;refine ⟨My.up _ (n12_ m (FM.natAbs_mul_lt s1 gb.1)),?_⟩
   have:=Nat.le_of_dvd (by omega) (Int.natAbs_dvd_natAbs.mpr d)
   exact My.up _ (n12_ this (FM.natAbs_mul_lt gb.2 s2))
 · cases e'
theorem SysOk.lines {rows:List (List Rat)} {rights:List Rat} (S:SysOk rows rights):(lns rows rights).length=rows.length∧∀ l∈lns rows rights,l.length=wid rows+1∧∀ p v,l[p]? = some v→v.natAbs<2^My.eb 459 16000 (wid rows) 0 p:=by
 have hl:(rtv rows rights).length=rows.length:=by unfold rtv;rw [n22_,S.rl];exact n65_ _
 have ll:(lns rows rights).length=rows.length:=by unfold lns lvd;rw [n22_,n2_,hl];exact n65_ _
 refine ⟨ll,fun l hm=>?_⟩;obtain ⟨i,hi,e⟩:=n55_ hm;have e':(lns rows rights)[i]? = some l:=by rw [← e];exact n0_ hi
 unfold lns at e';rw [n18_] at e';split at e'
 · rename_i row t er et
   cases e'
   have m1:=n4_ er;have lw:(wh row).length=wid rows:=by rw [Zal,S.wd row m1]
   refine ⟨by rw [n20_,lw];rfl,fun p v ev=>?_⟩;unfold My.eb
   by_cases hp:p<wid rows
   · rw [if_pos hp];rw [n40_ (by omega)] at ev;obtain ⟨q,hq,rfl⟩:=n19_.mp (n4_ ev);have so:=Zhj (S.rt.rb row m1);exact My.up 459 (FM.natAbs_mul_lt (Xl so.2.2.1 (S.rb row m1 q hq).b.1) (Xl (FM.den_pos q) (Zmq S m1)))
   · rw [if_neg hp];rw [n35_ (by omega)] at ev
     have:v=t:=by
      rw [lw] at ev;cases z:p-wid rows with
      | zero=>rw [z] at ev;exact (Option.some.inj ev).symm
      | succ z'=>rw [z] at ev;simp at ev
     subst this;obtain ⟨q,hq,rfl⟩:=n19_.mp (n4_ et);have lc:=Zcx _ S.eb.bots;rw [n2_,hl] at lc;exact My.up 16000 (FM.natAbs_mul_lt (S.eb.bd q hq).1 (Xl (FM.den_pos q) lc)) (by have:=S.n;omega)
 · cases e'
theorem eb_6 {n s p:Nat} (h:s≤7):My.eb 459 16000 n s p≤80000:=by
 unfold My.eb
 match s,h with
 | 0,_=>split<;>simp only [gt,bt]<;>omega
 | 1,_=>split<;>simp only [gt,bt]<;>omega
 | 2,_=>split<;>simp only [gt,bt]<;>omega
 | 3,_=>split<;>simp only [gt,bt]<;>omega
 | 4,_=>split<;>simp only [gt,bt]<;>omega
 | 5,_=>split<;>simp only [gt,bt]<;>omega
 | 6,_=>split<;>simp only [gt,bt]<;>omega
 | 7,_=>split<;>simp only [gt,bt]<;>omega
theorem bt_6 {s:Nat} (h:s≤6):bt 459 s≤29439:=by
 match s,h with
 | 0,_=>simp only [bt];omega
 | 1,_=>simp only [bt];omega
 | 2,_=>simp only [bt];omega
 | 3,_=>simp only [bt];omega
 | 4,_=>simp only [bt];omega
 | 5,_=>simp only [bt];omega
 | 6,_=>simp only [bt];omega
theorem bt_5 {s:Nat} (h:s≤5):bt 459 s≤14719:=by
 match s,h with
 | 0,_=>simp only [bt];omega
 | 1,_=>simp only [bt];omega
 | 2,_=>simp only [bt];omega
 | 3,_=>simp only [bt];omega
 | 4,_=>simp only [bt];omega
 | 5,_=>simp only [bt];omega
theorem Zrl {rows:List (List Rat)} {rights:List Rat} {l:List Int} (hl:l∈lns rows rights):∃ (i:Nat) (row:List Rat) (t:Int),rows[i]? = some row∧(lvd (rtv rows rights))[i]? = some t∧l=wh row++[t]:=Zn4 hl
theorem Zth {s M μ:Nat} (hs:s≤7) (hM:M≤2^μ):(2*(s+1)*M+1)^s≤2^((μ+5)*s):=by
 rw [Nat.pow_mul];refine Nat.pow_le_pow_left ?_ s;have h1:2*(s+1)*M≤16*2^μ:=Nat.mul_le_mul (by omega) hM;have h2:2^(μ+5)=32*2^μ:=by rw [n63_,n83_]
 have h3:1≤2^μ:=Nat.one_le_two_pow;omega
theorem Ztt {s:Nat} (hs:s≤7):(2*(s+1)*2^410+1)^s≤2^2905:=n28_ (Zth hs (n9_ _)) (n23_ (by decide) (by omega))
theorem SysOk.s6 {rows:List (List Rat)} {rights:List Rat} (S:SysOk rows rights):∀ i,i≤wid rows→(stp (lns rows rights) i).1.length≤7∧(stp (lns rows rights) i).1.length+(stp (lns rows rights) i).2.length≤7:=fun i hi=>by
 obtain ⟨ll,hL⟩:=S.lines;have h:=Zg5 (β:=459) (γ:=16000) (n:=wid rows) (lines:=lns rows rights) (by decide) hL i hi;have h1:=h.cnt;have h2:=S.n;exact ⟨by omega,by omega⟩
theorem SysOk.stp {rows:List (List Rat)} {rights:List Rat} (S:SysOk rows rights):StpOk (lns rows rights) (wid rows) (wid rows+1):=by
 obtain ⟨ll,hL⟩:=S.lines;have SIs:=Zg5 (β:=459) (γ:=16000) (n:=wid rows) (lines:=lns rows rights) (by decide) hL;refine ⟨by omega,by have:=S.w;omega,by rw [ll];have:=S.n;omega,fun i hi x hx=>?_,fun i hi h2 x hx=>?_⟩
 · have h:=(SIs i hi).left x hx;have s5:=(S.s6 i hi).1;refine ⟨h.nz,h.len,fun e he=>?_⟩;obtain ⟨p,hp,rfl⟩:=n55_ he;exact My.up _ (h.bd p _ (n0_ hp)) (n28_ (eb_6 s5) (by decide))
 · have h:=(SIs i hi).left x hx;have s5:=(S.s6 i hi).2;exact My.up _ h.kn (by have:=bt_5 (show (L2.stp (lns rows rights) i).1.length≤5 by omega);omega)
theorem SysOk.rg {rows:List (List Rat)} {rights:List Rat} (S:SysOk rows rights):RG rows rights:=⟨S.wd,S.rl,fun i hi x hx=>⟨(S.stp.ok i hi x hx).nz,(S.stp.ok i hi x hx).len⟩⟩
theorem SysOk.pro {rows:List (List Rat)} {rights:List Rat} (S:SysOk rows rights):∀ l∈lns rows rights,∃ l',Pro (wid rows) (2^410) ((LC rows rights)⁻¹) l l':=fun l hl=>by
 obtain ⟨i,row,t,er,et,rfl⟩:=Zrl hl;have mr:=n4_ er;have hi:i<rights.length:=by rw [S.rl];exact (n11_.mp er).1
 have eg:=n0_ hi;have lt:=Zik i er eg et;have lr:=S.wd row mr;have lam0:=Zns row;have L0:=Zlg rows rights;have c0:((167961600000000:Int):Rat)≠0:=Ye (by decide);have gm:=(S.gb _ (n13_ hi)).iz;refine ⟨row.map My.iz++[My.iz rights[i]],by rw [n20_,n2_,lr];rfl,fun x hx=>?_,((167961600000000:Int):Rat)/lam row,?_,fun p hp=>?_,?_⟩
 · rcases n46_.mp hx with hx|hx
   · obtain ⟨q,hq,rfl⟩:=n19_.mp hx;exact (S.rb row mr q hq).iz.2
   · rw [n15_.mp hx];exact gm.2
 · generalize lam row=a at *;generalize ((167961600000000:Int):Rat)=b at *
   grind
 · have hp':p<row.length:=by omega
   have m:row[p]∈row:=n13_ hp';rw [n1_,n40_ (by rw [n2_];exact hp'),n8_,n0_ hp',n1_,n40_ (by rw [Zal];exact hp')];unfold wh;rw [n8_,n0_ hp'];show ((My.iz row[p]:Int):Rat)=_*((row[p].num.fdiv (scl row).2*(scl row).1.fdiv row[p].den:Int):Rat)
   rw [(S.rb row mr _ m).iz.1,Zpv m];generalize lam row=a at *;generalize ((167961600000000:Int):Rat)=b at *;generalize row[p]=c at *
   grind
 · rw [n1_,n35_ (by rw [n2_];omega),n2_,lr,Nat.sub_self,n1_,n35_ (by rw [Zal];omega),Zal,lr,Nat.sub_self];show ((My.iz rights[i]:Int):Rat)=_*((t:Int):Rat)
   rw [gm.1,lt];show _=((167961600000000:Int):Rat)/lam row*(LC rows rights)⁻¹*(lam row*rights[i]*LC rows rights)
   generalize lam row=a at *;generalize ((167961600000000:Int):Rat)=b at *;generalize LC rows rights=d at *;generalize rights[i]=c at *
   grind
theorem SysOk.sml {rows:List (List Rat)} {rights:List Rat} (S:SysOk rows rights):∃ D:Int,D≠0∧D.natAbs≤2^2905∧∀ x∈fil (stF rows rights).1 (List.replicate (wid rows) 0),∃ Z:Int,x*((LC rows rights)⁻¹*(D:Rat))=(Z:Rat)∧Z.natAbs≤2^2905:=by
 have L0:=Zlg rows rights;obtain ⟨D,D0,DB,hD⟩:=Zk8 (ρ:=(LC rows rights)⁻¹) (M:=2^410) (fun z=>by generalize LC rows rights=d at *;grind) S.rg.ok (fun l hl=>(S.lines.2 l hl).1) S.pro;have pk:=Ztt (S.s6 (wid rows) (n9_ _)).1;exact ⟨D,D0,n28_ DB pk,fun x hx=>let ⟨Z,e,b⟩:=hD x hx;⟨Z,e,n28_ b pk⟩⟩
theorem SysOk.se {rows:List (List Rat)} {rights:List Rat} (S:SysOk rows rights):SeOk 411 1000 rows rights:=by
 obtain ⟨ll,hL⟩:=S.lines;have SIs:=Zg5 (β:=459) (γ:=16000) (n:=wid rows) (lines:=lns rows rights) (by decide) hL;obtain ⟨D,D0,DB,hD⟩:=S.sml;have sn:=(S.s6 (wid rows) (n9_ _)).1;have L0:=Zlg rows rights
 have fb:=Zk9 (β:=459) (n:=wid rows) (δ:=2905) (D:=D) (by have:=S.w;omega) D0 DB (by decide) (fun j hj=>by have:(stF rows rights).1.length≤7:=sn;have:=bt_6 (show j≤6 by omega);omega) (L:=(stF rows rights).1) S.rg.ech.asc (fun j x e=>by
  obtain ⟨h1,h2,h3⟩:=(SIs (wid rows) (n9_ _)).st j x e;have hj:j<(stF rows rights).1.length:=(n11_.mp e).1;have j4:j≤7:=by have:(stF rows rights).1.length≤7:=sn;omega
  have ln:x.2.length=wid rows+1:=h3.len;refine ⟨h1,ln,h2,?_,fun e' he=>?_⟩
  · have:=h3.bd x.1 _ (Zix (by show _<x.2.length;omega))
    rwa [show My.eb 459 16000 (wid rows) j x.1=bt 459 j from if_pos h1] at this
  · obtain ⟨p,hp,rfl⟩:=n55_ he;exact My.up _ (h3.bd p _ (n0_ hp)) (eb_6 j4)) (fun x hx=>by
  obtain ⟨Z,e,b⟩:=hD x hx;refine ⟨Z*lcmL (bots (rtv rows rights)),?_,?_⟩
  · rw [n27_,← e];show _=x*((LC rows rights)⁻¹*(D:Rat))*LC rows rights
    generalize LC rows rights=d at *;generalize (D:Rat)=f at *
    grind
  · have lc:=Zcx _ S.eb.bots;have hl:(rtv rows rights).length=rows.length:=by unfold rtv;rw [n22_,S.rl];exact n65_ _
    rw [n2_,hl] at lc;exact My.up _ (FM.natAbs_mul_lt (n12_ b (n41_ (by decide) (show 2905<2906 by decide))) lc) (by have:=S.n;omega))
 exact { toRtB:=S.rt,wd:=S.wd,w:=by have:=S.w;omega,eb:=S.eb,so:=S.stp,fo:=fb.1,fb:=fb.2 }
def Small (xs:List Rat):Prop:=∃ C:Int,1≤C∧C.natAbs≤2^2905∧∀ x∈xs,Dv C (2^2905) x
theorem SysOk.small {rows:List (List Rat)} {rights:List Rat} (S:SysOk rows rights) {xs:List Rat} (h:slv rows rights=some xs):Small xs:=by
 obtain ⟨D,D0,DB,hD⟩:=S.sml;have fo:=Zkc (bots (rtv rows rights)) (Y3 _);unfold slv at h;split at h
 · cases h
 cases h
 rw [fo.2.1];refine ⟨D.natAbs,by omega,DB,fun x hx=>?_⟩;obtain ⟨y,hy,rfl⟩:=n19_.mp hx;obtain ⟨Z,eZ,bZ⟩:=hD y hy;have e:y/LC rows rights*(D:Rat)=(Z:Rat):=by rw [← eZ];generalize LC rows rights=d;grind
 by_cases h0:0≤D
 · exact ⟨Z,by rw [show ((D.natAbs:Nat):Int)=D by omega];exact e,bZ⟩
 · refine ⟨-Z,?_,by rw [Int.natAbs_neg];exact bZ⟩;rw [show ((D.natAbs:Nat):Int) = -D by omega,Rat.intCast_neg,Rat.intCast_neg,← e];show y/LC rows rights * -(D:Rat)=_
   generalize LC rows rights=d
   grind
structure RowsOk (rows:List (List Rat)) (rights:List Rat):Prop where
 wd:∀ r∈rows,r.length=wid rows
 w6:wid rows≤6
 m7:rows.length≤7
 rl:rights.length=rows.length
 rb:∀ r∈rows,∀ q∈r,DW q
 gb:∀ q∈rights,DW q
theorem RowsOk.sys {rows:List (List Rat)} {rights:List Rat} (R:RowsOk rows rights):SysOk rows rights:=⟨R.rl,R.m7,R.wd,by have:=R.w6;omega,R.rb,R.gb⟩
theorem RowsOk.tk {rows:List (List Rat)} {rights:List Rat} (R:RowsOk rows rights):(tkn rows rights).length≤wid rows∧∀ p∈tkn rows rights,p<wid rows:=by
 obtain ⟨ll,hL⟩:=R.sys.lines;have SIs:=Zg5 (β:=459) (γ:=16000) (n:=wid rows) (lines:=lns rows rights) (by decide) hL (wid rows) (n9_ _);have le:=SIs.le;unfold tkn;rw [n2_];exact ⟨le,R.sys.rg.tk⟩
theorem dw0:DW 0:=⟨0,by rw [Rat.zero_mul];rfl,n60_ _⟩
theorem dw1:DW 1:=⟨167961600000000,by rw [Rat.one_mul],by show 167961600000000≤2^410;exact n28_ (show 167961600000000≤2^48 by decide) (n23_ (by decide) (by decide))⟩
theorem RowsOk.mixS {rows:List (List Rat)} {rights:List Rat} (R:RowsOk rows rights):SysOk (L2.cols rows (tkn rows rights)++[rights]) (List.replicate (tkn rows rights).length 0++[1]):=by
 have cm:∀ r∈L2.cols rows (tkn rows rights)++[rights],r.length=rows.length∧∀ q∈r,DW q:=fun r hr=>by
  rcases n46_.mp hr with hr|hr
  · obtain ⟨pl,hp,rfl⟩:=n19_.mp hr;refine ⟨by rw [n2_],fun q hq=>?_⟩;obtain ⟨row,hrow,rfl⟩:=n19_.mp hq;have lt:pl<row.length:=by rw [R.wd row hrow];exact R.tk.2 pl hp
    have m:row.getD pl 0∈row:=by rw [n1_,n0_ lt];exact n13_ lt
    exact R.rb row hrow _ m
  · rw [n15_.mp hr];exact ⟨R.rl,R.gb⟩
 have lc:(L2.cols rows (tkn rows rights)).length=(tkn rows rights).length:=by unfold L2.cols;rw [n2_]
 have wC:wid (L2.cols rows (tkn rows rights)++[rights])=rows.length:=by
  cases e:L2.cols rows (tkn rows rights)++[rights] with
  | nil=>simp at e
  | cons r rs=>exact (cm r (by rw [e];exact n5_)).1
 have t:=R.tk.1;have w6:=R.w6;have m7:=R.m7;refine ⟨by rw [n20_,n20_,lc,n14_];rfl,by rw [n20_,lc];show _+1≤_;omega,fun r hr=>by rw [wC];exact (cm r hr).1,by rw [wC];omega,fun r hr=>(cm r hr).2,fun q hq=>?_⟩
 rcases n46_.mp hq with hq|hq
 · rw [List.eq_of_mem_replicate hq];exact dw0
 · rw [n15_.mp hq];exact dw1
theorem RowsOk.mix {rows:List (List Rat)} {rights:List Rat} (R:RowsOk rows rights) (h:slv rows rights=none):∃ ys,mixM rows rights (tkn rows rights)=some ys∧ys.length=rows.length∧Mix rows rights ys∧Small ys:=by
 have wC:wid (L2.cols rows (tkn rows rights)++[rights])=rows.length:=by
  have:=R.mixS.wd rights (n24_ _ n5_)
  rw [← this];exact R.rl
 obtain ⟨ys,e⟩:=Zpi R.wd R.rl R.sys.rg.ok (fun i hi x hx=>by
  have:=R.mixS.rg.ok i (by rw [wC];exact hi) x hx
  exact ⟨this.1,by rw [this.2,wC]⟩) h
 have M:=R.sys.rg.mix R.mixS.rg e;exact ⟨ys,e,M.1,M,R.mixS.small e⟩
theorem Zm7 {rows:List (List Rat)} {rights xs:List Rat} (h:slv rows rights=some xs):xs.length=wid rows:=by
 unfold slv at h;split at h
 · cases h
 · cases h
   rw [n2_,Xe,n14_]
def Zbq (n:Nat) (d:PyData):Bool:=match d with
 | .tuple ds=>decide (ds.length=n)&&ds.all isFr
 | _=>false
theorem Zo2 {n:Nat} {d:PyData} (h:isT d=false):Zbq n d=false:=by cases d<;>first|rfl|(cases h)
theorem Zoy {n:Nat} {ds:List PyData} (h:ds.length≠n):Zbq n (.tuple ds)=false:=by
 show (decide (ds.length=n)&&_)=false
 rw [n30_ h];rfl
theorem Zpe {n:Nat} {ds:List PyData} (h:ds.length=n):Zbq n (.tuple ds)=ds.all isFr:=by
 show (decide (ds.length=n)&&_)=_
 rw [n32_ h];rfl
theorem Zpx {ds:List PyData} {i:Nat} {dx:PyData} (h:ds[i]? = some dx):nz dx≤nz (.tuple ds):=by
 have:=(Zij h).1
 show _≤1+Xj ds
 omega
def Zhy:Sp:=fun vs H Q _=>∃ N k v d n,vs=[v,.int ((n:Nat):Int)]∧Dt N H k v d∧k≤4000∧nz d≤1000∧∀ H',Same H H'→Q (.bl (Zbq n d)) H'
def Zfv:PyData→Nat
 | .tuple ds=>ds.length
 | _=>0
def wd1:List PyData→Nat
 | []=>0
 | r :: _=>Zfv r
def Zlf:PyData→Bool
 | .tuple ds=>decide (ds.length≤60)&&ds.all isT&&ds.all (Zbq (wd1 ds))
 | _=>false
def Ztd (dr dg:PyData):Bool:=Zlf dr&&Zbq (Zfv dr) dg
theorem Zpm {d:PyData} (h:isT d=false):Zlf d=false:=by cases d<;>first|rfl|(cases h)
def Zfe:Sp:=fun vs H Q _=>∃ N k a us ds,vs=[.ref a]∧H a=some (.tup us)∧Dts N H k us ds∧ds.all isT=true∧Q (.int (wd1 ds)) H
def Zh8:Sp:=fun vs H Q _=>∃ N k v d,vs=[v]∧Dt N H k v d∧k≤4000∧nz d≤1000∧∀ H',Same H H'→Q (.bl (Zlf d)) H'
def frD (q:Rat):PyData:=.tuple [.int q.num,.int q.den]
def rowD (qs:List Rat):PyData:=.tuple (qs.map frD)
def X5 (ms:List (List Rat)):PyData:=.tuple (ms.map rowD)
theorem Zkw {α:Type} {N:Addr→Prop} {H:Hp} {k:Nat} {R:V→α→Prop} {f:α→PyData}:∀ {us:List V} {xs:List α},Al R us xs→(∀ v x,x∈xs→R v x→Dt N H k v (f x))→Dts N H k us (xs.map f)
 | [],[],_,_=>.nil
 | [],_ :: _,h,_=>by cases h.1
 | _ :: _,[],h,_=>by cases h.1
 | u :: us,x :: xs,h,g=>.cons (g u x n5_ (h.2 0 u x rfl rfl)) (Zkw (R:=R) ⟨Nat.succ.inj h.1,fun i v y e1 e2=>h.2 (i+1) v y e1 e2⟩ fun v y hy r=>g v y (n3_ _ hy) r)
theorem Zj4 (qs:List Rat):nz (rowD qs)=1+6*qs.length:=by
 show 1+Xj (qs.map frD)=_
 have:Xj (qs.map frD)=6*qs.length:=by
  induction qs with
  | nil=>rfl
  | cons q qs ih=>show nz (frD q)+1+Xj (qs.map frD)=_;rw [ih,n33_];show 5+1+_=_;omega
 omega
theorem Zqw {ms:List (List Rat)} {w:Nat} (h:∀ m∈ms,m.length≤w):nz (X5 ms)≤1+ms.length*(2+6*w):=by
 show 1+Xj (ms.map rowD)≤_
 have:Xj (ms.map rowD)≤ms.length*(2+6*w):=by
  induction ms with
  | nil=>exact n60_ _
  | cons m ms ih =>
    have i:=ih fun x hx=>h x (n3_ _ hx);have l:=h m n5_;show nz (rowD m)+1+Xj (ms.map rowD)≤_
    rw [Zj4,n33_,Nat.add_mul];omega
 omega
theorem Zgf {α:Type} {f:α→PyData} {n:Nat}:∀ {xs:List α},(∀ x∈xs,(f x).depth≤n)→PyData.depthAll (xs.map f)≤n
 | [],_=>n60_ _
 | x :: xs,h=>by
   have:=Zgf (f:=f) (xs:=xs) fun y hy=>h y (n3_ _ hy)
   have:=h x n5_
   show max _ _≤_
   omega
theorem Zgv (qs:List Rat):(rowD qs).depth≤2:=Nat.succ_le_succ (Zgf fun x _=>n9_ 1)
theorem Zo7 (ms:List (List Rat)):(X5 ms).depth≤3:=Nat.succ_le_succ (Zgf fun x _=>Zgv x)
def IsRsH (H:Hp) (v:V) (ms:List (List Rat)):Prop:=∃ a us,v=.ref a∧H a=some (.tup us)∧Al (IsRh H) us ms
theorem IsRsH.tk {H H':Hp} {v:V} {ms:List (List Rat)} (t:Tk H H') (h:IsRsH H v ms):IsRsH H' v ms:=let ⟨a,us,e,h1,h2⟩:=h;⟨a,us,e,t _ _ h1,h2.imp fun _ _ r=>r.tk t⟩
theorem Zss {N:Addr→Prop} {H:Hp} {k:Nat} {v:V} {q:Rat} (h:IsQh H v q) (r:FM.B k q):Dt N H k v (frD q):=by
 obtain ⟨p,rfl,hp⟩:=h;exact dt2 hp r.1 (show ((q.den:Int)).natAbs<2^k from r.2)
theorem Zd2 {N:Addr→Prop} {H:Hp} {k:Nat} {v:V} {qs:List Rat} (h:IsRh H v qs) (r:∀ q∈qs,FM.B k q):Dt N H k v (rowD qs):=by
 obtain ⟨a,us,rfl,ha,al⟩:=h;exact .tup ha (Zkw al fun v x hx hv=>Zss hv (r x hx))
theorem Zj6 {N:Addr→Prop} {H:Hp} {k:Nat} {v:V} {ms:List (List Rat)} (h:IsRsH H v ms) (r:∀ m∈ms,∀ q∈m,FM.B k q):Dt N H k v (X5 ms):=by
 obtain ⟨a,us,rfl,ha,al⟩:=h;exact .tup ha (Zkw al fun v x hx hv=>Zd2 hv (r x hx))
theorem Zpk (q:Rat):isFr (frD q)=true:=by
 show (decide (1≤(q.den:Int))&&decide (Int.gcd q.num q.den=1))=true
 rw [n32_ (by have:=q.den_pos;omega),n32_ (FM.gcd_one q)];rfl
theorem Zfs {n:Nat} {qs:List Rat} (h:qs.length=n):Zbq n (rowD qs)=true:=by
 show (decide ((qs.map frD).length=n)&&(qs.map frD).all isFr)=true
 rw [n32_ (by rw [n2_];exact h),Bool.true_and]
 exact n56_.mpr fun x hx=>by
  obtain ⟨q,_,rfl⟩:=n19_.mp hx;exact Zpk q
theorem Zry {ms:List (List Rat)} {qs:List Rat} (R:RowsOk ms qs):Ztd (X5 ms) (rowD qs)=true:=by
 show (Zlf (X5 ms)&&Zbq (Zfv (X5 ms)) (rowD qs))=true
 have w:wd1 (ms.map rowD)=wid ms:=by
  cases ms with
  | nil=>rfl
  | cons m ms=>show (m.map frD).length=m.length;rw [n2_]
 have h1:Zlf (X5 ms)=true:=by
  show (decide ((ms.map rowD).length≤60)&&(ms.map rowD).all isT&&(ms.map rowD).all (Zbq (wd1 (ms.map rowD))))=true
  rw [n32_ (by rw [n2_];have:=R.m7;omega),Bool.true_and,w,n54_];refine ⟨n56_.mpr fun x hx=>?_,n56_.mpr fun x hx=>?_⟩
  · obtain ⟨m,_,rfl⟩:=n19_.mp hx;rfl
  · obtain ⟨m,hm,rfl⟩:=n19_.mp hx;exact Zfs (R.wd m hm)
 rw [h1,Bool.true_and];exact Zfs (by show qs.length=(ms.map rowD).length;rw [n2_];exact R.rl)
theorem RowsOk.b {ms:List (List Rat)} {qs:List Rat} (R:RowsOk ms qs):(∀ m∈ms,∀ q∈m,FM.B 411 q)∧∀ q∈qs,FM.B 411 q:=⟨fun m hm q hq=>(R.rb m hm q hq).b,fun q hq=>(R.gb q hq).b⟩
theorem RowsOk.nz {ms:List (List Rat)} {qs:List Rat} (R:RowsOk ms qs):L2.nz (X5 ms)≤270∧L2.nz (rowD qs)≤50:=by
 have h1:=Zqw (w:=6) (ms:=ms) fun m hm=>by rw [R.wd m hm];exact R.w6
 have h2:=Zj4 qs;have m6:=R.m7;have rl:=R.rl;exact ⟨by omega,by omega⟩
def Zkp:Sp:=fun vs H Q _=>∃ v u ms qs,vs=[v,u]∧IsRsH H v ms∧IsRh H u qs∧RowsOk ms qs∧∀ H',Same H H'→Q .non H'
theorem IsRsH.qs {K:PySem.W.Frag} {H:Hp} {v:V} {ms:List (List Rat)} (h:IsRsH H v ms):∃ a us,v=.ref a∧H a=some (.tup us)∧Al (IsQs K H) us ms:=let ⟨a,us,e,h1,h2⟩:=h;⟨a,us,e,h1,h2.imp fun _ _ ⟨b,ws,e,g1,g2⟩=>⟨b,ws,e,g1,g2.imp fun _ _ ⟨p,e,g⟩=>⟨p,e,.inl g⟩⟩⟩
theorem IsRh.qs {K:PySem.W.Frag} {H:Hp} {v:V} {qs:List Rat} (h:IsRh H v qs):∃ a us,v=.ref a∧H a=some (.tup us)∧Al (IsQ K H) us qs:=let ⟨a,us,e,h1,h2⟩:=h;⟨a,us,e,h1,h2.imp fun _ _ ⟨p,e,g⟩=>⟨p,e,.inl g⟩⟩
def frs (ms:List (List Rat)) (qs:List Rat):List Int:=(List.range (wid ms)).filterMap (fun i:Nat=>if (!inV (.int (0+(i:Int))) ((tkn ms qs).map fun n:Nat=>V.int n))=true then some (0+(i:Int)) else none)
def Told (H:Hp) (p:Addr) (ms:List (List Rat)) (qs:List Rat):Prop :=
 (∃ a f xs,H p=some (.tup [.str "solved",.ref a,.ref f])∧IsRh H (.ref a) xs∧H f=some (.tup ((frs ms qs).map V.int))∧slv ms qs=some xs) ∨
 (∃ a ys,H p=some (.tup [.str "none",.ref a])∧IsRh H (.ref a) ys∧slv ms qs=none∧mixM ms qs (tkn ms qs)=some ys∧Mix ms qs ys∧Small ys)
def Za0 (Ph:Addr):Sp:=fun vs H Q _=>∃ v u ms qs,vs=[v,u]∧IsRsH H v ms∧IsRh H u qs∧RowsOk ms qs∧TabF H Ph "head_of.<locals>.<lambda>" ∧ ∀ H' p,Xp Ph H H'→TabF H' Ph "head_of.<locals>.<lambda>" → Told H' p ms qs→Q (.ref p) H'
theorem StAt.neN {H:Hp} {l p:Addr} (s:StAt H l) (h:H p=none):p≠l:=fun z=>s.ne h z.symm
theorem tkS {H H':Hp} {l:Addr} (k:Keep l H H') (s:StAt H l):Tk H H':=by
 obtain ⟨a,b,c,e,_⟩:=s;exact Tk.of_keep k e
theorem Zjb {J:It} {n:Nat} {l D:Addr} {g:TG} {te:TE} {σ0:L2.St} {H:Hp} {Q:VK} {α:Type} (R:Hp→V→α→Prop) (hR:∀ H1 H2 v x,Tk H1 H2→R H1 v x→R H2 v x) (hz:n≤1000) (ok:L2.St→Prop) (h0:ok σ0) (hD:H D=none) (hl:StAt H l)
 (hgo:∀ i H2,Keep l H H2→i<n→J.go i H2) (hstop:∀ H2,Keep l H H2→J.stop n H2)
 (hs:∀ i x σ2 H2 H3 (C:L2.St→V→Hp→Prop),i<n→Keep l H H2→StAt H2 l→J.yld i H2 x H3→ok σ2→(∀ σ4 y H5 z,ok σ4→Keep l H2 H5→StAt H5 l→R H5 y z→C σ4 y H5)→g x σ2 H3 fun σ4 H4=>te σ4 H4 (C σ4))
 (hd:∀ H2 vs ys,Keep l H H2→StAt H2 l→H2 D=some (.lst vs)→ys.length=n→Al (R H2) vs ys→Q (.ref D) H2):LcGo J g tYes te σ0 H D Q:=by
 have neD:D≠l:=hl.neN hD;refine Znk (n:=n) (fun i σ H2=>Keep l H H2∧StAt H2 l∧ok σ∧∃ vs ys,ys.length=i∧H2 D=some (.lst vs)∧Al (R H2) vs ys) ⟨Keep.new hD,hl.new hD,h0,[],[],rfl,Ze,.nil⟩ (fun i σ H2 hi p=>hgo i H2 p.1 hi) (fun σ H2 p=>hstop H2 p.1) (fun i x σ2 H2 H3 hi y p=>?_) (fun σ2 H2 p=>?_)
 · obtain ⟨s2,l2,o2,vs,ys,hy,e2,a2⟩:=p;refine hs i x σ2 H2 H3 (fun σ4 y H6=>∃ ys,H6 D=some (.lst ys)∧ys.length<sizeLine∧∃ m',m'<n-i∧LcN n (fun i σ H2=>Keep l H H2∧StAt H2 l∧ok σ∧∃ vs ys,ys.length=i∧H2 D=some (.lst vs)∧Al (R H2) vs ys) (i+1) m' σ4 (upd H6 D (.lst (ys++[y])))) hi s2 l2 y o2 ?_;intro σ4 v H5 z o4 s5 l5 rz;have e5:H5 D=some (.lst vs):=s5 _ _ neD e2;have tk:Tk H5 (upd H5 D (.lst (vs++[v]))):=Tk.upd_lst e5;refine ⟨vs,e5,?_,n-(i+1),by omega,by omega,rfl,fun b o nb e=>?_,?_,o4,vs++[v],ys++[z],by simp [hy],Ze,?_⟩
   · rw [a2.1,sizeLine_eq];omega
   · rw [Zp (Zl e hD)];exact s5 _ _ nb (s2 _ _ nb e)
   · obtain ⟨a,b,c,e,r⟩:=l5;exact ⟨a,b,c,by rw [Zp neD.symm];exact e,r⟩
   · exact (a2.imp fun v x r=>hR _ _ v x tk (hR _ _ v x (tkS s5 l2) r)).snoc (hR _ _ _ _ tk rz)
 · obtain ⟨s2,l2,_,vs,ys,hy,e2,a2⟩:=p;exact hd H2 vs ys s2 l2 e2 hy a2
def Zh2 (n:Nat):Sp:=fun vs H Q _=>∃ l:Addr,vs=[.ref l]∧StAt H l∧∀ (H':Hp) (p:Addr) (q:Rat),Keep l H H'→StAt H' l→H' p=some (.tup (rt q))→FM.B n q∧q.den∣60→Q (.ref p) H'
theorem Zq6 (t:Int) {b:Int} (h:b≠0):((Rat.divInt t b).den:Int)∣b:=by
 rw [← FM.fdiv_den h]
 have hs:FM.sg t b∣b:=by
  unfold FM.sg;split
  · exact Int.neg_dvd.mpr (n79_ t b)
  · exact n79_ t b
 obtain ⟨k,hk⟩:=hs
 have e:b.fdiv (FM.sg t b)=k:=by
  have h0:=FM.sg_ne (t:=t) h;generalize FM.sg t b=g at *;rw [hk,n42_];exact FM.fdiv_mul h0
 rw [e];exact ⟨_,by rw [n42_];exact hk⟩
theorem Zqv (t:Int) {b:Int} (h1:1≤b) (h6:b≤6):(Rat.divInt t b).den∣60:=by
 have h:=Zq6 t (show b≠0 by omega)
 have h2:b∣60:=by
  have:b=1∨b=2∨b=3∨b=4∨b=5∨b=6:=by omega
  rcases this with rfl|rfl|rfl|rfl|rfl|rfl<;>decide
 exact_mod_cast Int.dvd_trans h h2
theorem Dv.mono {c:Int} {A B:Nat} {x:Rat} (h:Dv c A x) (l:A≤B):Dv c B x:=let ⟨z,e,b⟩:=h;⟨z,e,n28_ b l⟩
theorem Dv.add {c:Int} {A B:Nat} {x y:Rat} (h:Dv c A x) (g:Dv c B y):Dv c (A+B) (x+y):=by
 obtain ⟨z,e,b⟩:=h;obtain ⟨w,e',b'⟩:=g;refine ⟨z+w,?_,n28_ (Int.natAbs_add_le z w) (Nat.add_le_add b b')⟩;rw [Rat.intCast_add,← e,← e'];grind
theorem Dv.mul {a b:Int} {A B:Nat} {x y:Rat} (h:Dv a A x) (g:Dv b B y):Dv (a*b) (A*B) (x*y):=by
 obtain ⟨z,e,l⟩:=h;obtain ⟨w,e',l'⟩:=g;refine ⟨z*w,?_,by rw [n38_];exact Nat.mul_le_mul l l'⟩;rw [n27_,n27_,← e,← e'];grind
theorem Dv.zero {c:Int} {A:Nat}:Dv c A 0:=⟨0,by rw [Rat.zero_mul];rfl,n60_ _⟩
theorem Dv.times {c e:Int} {A:Nat} {x:Rat} (h:Dv c A x):Dv (c*e) (A*e.natAbs) x:=by
 obtain ⟨z,e',l⟩:=h;refine ⟨z*e,?_,by rw [n38_];exact n82_ _ l⟩;rw [n27_,n27_,← e'];grind
theorem Dv.b {c:Int} {A k:Nat} {x:Rat} (h:Dv c A x) (hc:1≤c) (l1:c.natAbs<2^k) (l2:A<2^k):FM.B k x:=by
 obtain ⟨d,n⟩:=h.den (by omega);exact ⟨n12_ n l2,show ((x.den:Int)).natAbs<2^k from Zmf d hc l1⟩
theorem Zo5 {x:Rat} (hb:FM.B 44 x) (hd:x.den∣60):Dv 60 (2^50) x:=by
 obtain ⟨k,hk⟩:=hd;have k60:k≤60:=Nat.le_of_dvd (by decide) ⟨x.den,by rw [n83_];exact hk⟩;refine ⟨x.num*k,?_,?_⟩
 · have e:=Zch x;have hd:=Zfq x
   have h60:((60:Int):Rat)=(x.den:Rat)*((k:Int):Rat):=by
    have:(60:Int)=(x.den:Int)*(k:Int):=by exact_mod_cast hk
    rw [this,n27_];have hd2:((x.den:Int):Rat)=(x.den:Rat):=by first|rfl|exact Rat.intCast_natCast _
    rw [hd2]
   rw [h60,n27_];have key:∀ y n dd kk:Rat,dd≠0→y=n/dd→y*(dd*kk)=n*kk:=fun y n dd kk h1 h2=>by rw [h2];grind
   exact key _ _ _ _ hd e
 · rw [n38_];exact n28_ (Nat.mul_le_mul (Nat.le_of_lt hb.1) (show ((k:Nat):Int).natAbs≤2^6 by show k≤64;omega)) (by rw [← n63_];exact n9_ _)
def Zmi:Sp:=fun vs H Q _=>∃ (a:Addr) (us:List V) (qs:List Rat) (c:Int) (A:Nat),vs=[.ref a]∧H a=some (.lst us)∧Al (IsQh H) us qs∧(∀ q∈qs,Dv c A q)∧1≤c∧c.natAbs<2^9000∧8*A<2^9000∧qs.length≤8∧∀ (H':Hp) (v:V),Same H H'→IsQh H' v qs.sum→Q v H'
def Zjk:Sp:=fun vs H Q _=>∃ (v w:Addr) (kx ky:SK) (us ws:List V) (xs ys:List Rat) (a b:Int) (A B:Nat),vs=[.ref v,.ref w]∧kx.At H v us∧Al (IsQh H) us xs∧ky.At H w ws∧Al (IsQh H) ws ys∧(∀ x∈xs,Dv a A x)∧(∀ y∈ys,Dv b B y)∧1≤a∧1≤b∧(a*b).natAbs<2^9000∧8*(A*B)<2^9000∧A<2^9000∧B<2^9000∧xs.length≤8∧xs.length=ys.length∧∀ (H':Hp) (r:V),Same H H'→IsQh H' r (rdot xs ys)→Q r H'
theorem Zmj {c:Int} {A:Nat}:∀ (qs:List Rat),(∀ q∈qs,Dv c A q)→Dv c (qs.length*A) qs.sum
 | [],_=>Dv.zero
 | q :: qs,h=>by
   have:=(h q n5_).add (Zmj qs fun x hx=>h x (n3_ _ hx))
   rw [n50_,n33_,Nat.add_mul,Nat.one_mul,Nat.add_comm];exact this
theorem Zpa (qs:List Rat) (q:Rat):(qs++[q]).sum=qs.sum+q:=by rw [List.sum_append];show _+(q+0)=_;grind
def Znt:Sp:=fun vs H Q _=>∃ (l:Addr) (n:Nat),vs=[.ref l,.int n]∧StAt H l∧n≤1000∧∀ (H':Hp) (v:V) (ms:List Rat),Keep l H H'→StAt H' l→IsRh H' v ms→ms.length=n→(∀ q∈ms,Dv 60 (2^50) q)→Q v H'
def Znv:Sp:=fun vs H Q _=>∃ t b:Int,vs=[.int t,.int b]∧b≠0∧∀ (p:Addr) (H':Hp),Same H H'→H' p=some (.tup (rt (Rat.divInt t b)))→Q (.ref p) H'
abbrev BG:Nat:=50000000
theorem upC {a:Nat} (h:a<2^BG):a<2^60000000:=n10_ h (n23_ (by decide) (by decide))
theorem cNN {x y:Rat} (hx:FM.B BG x) (hy:FM.B BG y):CMulC x.num y.num:=⟨upC hx.1,upC hy.1⟩
theorem cND {x y:Rat} (hx:FM.B BG x) (hy:FM.B BG y):CMulC x.num y.den:=⟨upC hx.1,upC hy.2⟩
theorem cDD {x y:Rat} (hx:FM.B BG x) (hy:FM.B BG y):CMulC x.den y.den:=⟨upC hx.2,upC hy.2⟩
theorem cDN {x y:Rat} (hx:FM.B BG x) (hy:FM.B BG y):CMulC x.den y.num:=⟨upC hx.2,upC hy.1⟩
def Zkg (f:Rat→Rat→Rat):Sp:=fun vs H Q _=>∃ (p r:Addr) (x y:Rat),vs=[.ref p,.ref r]∧H p=some (.tup (rt x))∧H r=some (.tup (rt y))∧FM.B BG x∧FM.B BG y ∧
 ∀ (z:Addr) (H':Hp),Same H H'→H' z=some (.tup (rt (f x y)))→Q (.ref z) H'
def Zjr:Sp:=fun vs H Q _=>∃ (p r:Addr) (x y:Rat),vs=[.ref p,.ref r]∧H p=some (.tup (rt x))∧H r=some (.tup (rt y))∧FM.B BG x∧FM.B BG y∧y≠0 ∧
 ∀ (z:Addr) (H':Hp),Same H H'→H' z=some (.tup (rt (x/y)))→Q (.ref z) H'
def Zp5:Sp:=fun vs H Q _=>∃ (p:Addr) (x:Rat),vs=[.ref p]∧H p=some (.tup (rt x))∧∀ (z:Addr) (H':Hp),Same H H'→H' z=some (.tup (rt (-x)))→Q (.ref z) H'
theorem gset {i:Nat} {v:V} {σ σ':L2.St} {H:Hp} {Q:L2.St→Hp→Prop} (e:σ.set i (some v)=σ') (h:Q σ' H):Z4 i v σ H Q:=by unfold Z4;rw [e];exact h
def IsRl (H:Hp) (v:V) (row:List Rat):Prop:=∃ a us,v=.ref a∧H a=some (.lst us)∧Al (IsQh H) us row
def IsRlN (N:Addr→Prop) (H:Hp) (v:V) (row:List Rat):Prop:=∃ a us,v=.ref a∧¬ N a∧H a=some (.lst us)∧Al (IsQh H) us row
theorem IsRlN.rl {N:Addr→Prop} {H:Hp} {v:V} {row:List Rat} (h:IsRlN N H v row):IsRl H v row:=let ⟨a,us,e,_,h1,h2⟩:=h;⟨a,us,e,h1,h2⟩
theorem IsRlN.same {N:Addr→Prop} {H H':Hp} {v:V} {row:List Rat} (s:Same H H') (h:IsRlN N H v row):IsRlN N H' v row:=let ⟨a,us,e,n,h1,h2⟩:=h;⟨a,us,e,n,s _ _ h1,h2.imp fun _ _ r=>r.tk s.tk⟩
theorem IsRlN.upd {N:Addr→Prop} {F:Addr} {H:Hp} {us ys:List V} {v:V} {row:List Rat} (hF:N F) (e:H F=some (.lst us)) (h:IsRlN N H v row):IsRlN N (L2.upd H F (.lst ys)) v row:=let ⟨a,ws,e1,n,h1,h2⟩:=h;⟨a,ws,e1,n,by rw [Zp (show a≠F from fun z=>n (by rw [z];exact hF))];exact h1,h2.imp fun _ _ r=>r.tk (Tk.upd_lst e)⟩
def TbB (S w:Nat) (T:Tb):Prop:=∀ k,k<T.length→(rwT T k).length=w+1∧∀ q∈rwT T k,FM.B S q
def Zd1:Sp:=fun vs H Q _=>∃ (N:Addr→Prop) (a:Addr) (us:List V) (T:Tb) (dn pl S w:Nat),vs=[.ref a,.int dn,.int pl]∧(∀ b,H b=none→¬ N b)∧H a=some (.lst us)∧Al (IsRlN N H) us T∧dn<T.length∧T.length≤7∧pl<w+1∧w≤6∧TbB S w T∧4*S+10≤BG∧(rwT T dn).getD pl 0≠0 ∧
 ∀ (H':Hp) (b:Addr) (us':List V),Same H H'→H b=none→H' b=some (.lst us')→Al (IsRlN (fun c=>N c∨c=b) H') us' (gcl T dn pl)→Q (.ref b) H'
theorem Zc5 {T:Tb} {k:Nat} (h:k<T.length):rwT T k=T[k]:=by unfold rwT;rw [n1_,n0_ h];rfl
theorem Znq {own row:List Rat} {p:Nat} (hl:row.length=own.length) (h:row.getD p 0=0):clr1 own p row=row:=by
 unfold clr1;rw [h];refine List.ext_getElem (by rw [n22_,hl];exact n65_ _) fun i h1 h2=>?_;rw [List.getElem_zipWith];grind
def sB:Nat→Nat
 | 0=>411
 | i+1=>4*sB i+10
theorem Zto {i:Nat} (h:i≤6):sB i≤2000000:=by
 match i,h with
 | 0,_=>simp only [sB];omega
 | 1,_=>simp only [sB];omega
 | 2,_=>simp only [sB];omega
 | 3,_=>simp only [sB];omega
 | 4,_=>simp only [sB];omega
 | 5,_=>simp only [sB];omega
 | 6,_=>simp only [sB];omega
theorem TbB.mono {S S' w:Nat} {T:Tb} (h:TbB S w T) (l:S≤S'):TbB S' w T:=fun k hk=>⟨(h k hk).1,fun q hq=>((h k hk).2 q hq).mono l⟩
theorem Ztq {S w d p:Nat} {T:Tb} (hd:d<T.length) (hp:p<w+1) (h:TbB S w T) (hz:(rwT T d).getD p 0≠0):TbB (4*S+10) w (gcl T d p):=fun k hk=>by
 rw [Zbp] at hk;obtain ⟨ld,bd⟩:=h d hd;obtain ⟨lk,bk⟩:=h k hk;have gm:∀ {row:List Rat},row.length=w+1→row.getD p 0∈row:=fun {row} hl=>by rw [n1_,n0_ (by omega)];exact n13_ _
 have bo:∀ q∈owT T d p,FM.B (S+S) q:=fun q hq=>by
  obtain ⟨x,hx,rfl⟩:=n19_.mp hq;exact FM.B_div hz (bd x hx) (bd _ (gm ld))
 have lo:(owT T d p).length=w+1:=by unfold owT;rw [n2_];exact ld
 unfold gcl;rw [Zgn hk];split
 · exact ⟨lo,fun q hq=>(bo q hq).mono (by omega)⟩
 · refine ⟨by unfold clr1;rw [n22_,lk,lo];exact n65_ _,fun q hq=>?_⟩;unfold clr1 at hq;obtain ⟨j,hj⟩:=n45_.mp hq;rw [n18_] at hj;split at hj
   · rename_i x y ex ey
     cases hj
     exact (FM.B_add (bk x (n4_ ex)) (FM.B_mul (FM.B_neg (bk _ (gm lk))) (bo y (n4_ ey)))).mono (by omega)
   · cases hj
theorem Zsu {S w d k:Nat} {T:Tb} (hd:d<T.length) (hk:k<T.length) (h:TbB S w T):TbB S w (swp T d k):=fun j hj=>by
 rw [Za4] at hj;rw [Zav hd hk];split
 · exact h d hd
 · split
   · exact h k hk
   · exact h j hj
theorem gj_B {T0:Tb} {w:Nat} (h:TbB 411 w T0):∀ i,i≤w→TbB (sB i) w (gj T0 i).1
 | 0,_=>h
 | i+1,hi=>by
   have ih:=gj_B h i (by omega);rw [Zi0];unfold gj1;generalize gj T0 i=S at *;cases e:Zgx S.1 S.2.length i with
   | none=>exact ih.mono (by show _≤4*sB i+10;omega)
   | some k =>
     obtain ⟨hdk,hk,hz⟩:=Zcv e;have hd:S.2.length<S.1.length:=by omega
     refine Ztq (by rw [Za4];exact hd) (by omega) (Zsu hd hk ih) ?_;rw [Zav hd hk];split
     · rename_i z;rw [← z];exact hz
     · rw [if_pos rfl];exact hz
def Zdt:Sp:=fun vs H Q _=>∃ (v u:V) (ms:List (List Rat)) (qs:List Rat),vs=[v,u]∧IsRsH H v ms∧IsRh H u qs∧RowsOk ms qs ∧
 ∀ (H':Hp) (p tb sp:Addr) (us:List V),Same H H'→H' p=some (.tup [.ref tb,.ref sp,.int (wid ms)])→H' tb=some (.lst us)→Al (IsRl H') us (gj (tab ms qs) (wid ms)).1→H' sp=some (.lst ((gj (tab ms qs) (wid ms)).2.map fun n:Nat=>V.int n))→Q (.ref p) H'
theorem Zin {X:Cx} (K:PySem.W.Frag) (h:X.K=K):Zas X (.type "list") (fun xs H Q=>∃ p ys,xs=[V.ref p]∧(SqL K H p ys∨SqT K H p ys)∧∀ (l:Addr),H l=none→l≠sysModules→Q (V.ref l) (upd H l (HO.lst ys))):=by subst h;exact Zfu
theorem Zsd {b:Bool} {t u:TE} {σ:L2.St} {H:Hp} {Q:VK} {v:V} (rest:Q v H) (h1:b=true→Q v H→t σ H Q) (h2:¬ b=true→Q v H→u σ H Q):if b=true then t σ H Q else u σ H Q:=by
 by_cases h:b=true
 · rw [if_pos h];exact h1 h rest
 · rw [if_neg h];exact h2 h rest
theorem IsRlN.to {N N':Addr→Prop} {H:Hp} {v:V} {row:List Rat} (h:IsRlN N H v row) (n:∀ b,N' b→N b):IsRlN N' H v row:=let ⟨a,us,e,m,h1,h2⟩:=h;⟨a,us,e,fun z=>m (n a z),h1,h2⟩
theorem Zge {R:V→α→Prop} {us:List V} {xs:List α} {a:Nat} {v:V} {x:α} (h:Al R us xs) (r:R v x):Al R (us.set a v) (xs.set a x):=⟨by rw [n47_,n47_];exact h.1,fun j w y ev ey=>by
 rw [List.getElem?_set] at ev ey
 by_cases hj:a=j
 · rw [if_pos hj] at ev ey;split at ev
   · split at ey
     · cases ev;cases ey;exact r
     · cases ey
   · cases ev
 · rw [if_neg hj] at ev ey;exact h.2 j w y ev ey⟩
theorem Zjw {n:Nat} {k:Int} (h0:0≤k) (h1:k<n):ixN n k=some k.toNat:=by
 unfold ixN;rw [if_pos h0,if_pos (by omega)]
theorem Zsf {fus:List V} {L:List Nat} (h:Al (fun v (x:Nat)=>v=V.int x) fus L):fus=L.map fun n:Nat=>V.int n:=by
 refine List.ext_getElem (by rw [n2_];exact h.1) fun i h1 h2=>?_;rw [n2_] at h2;rw [List.getElem_map];exact h.2 i _ _ (n0_ h1) (n0_ h2)
def DueV (H:Hp) (r:V) (o:Option (List Rat)) (fs:List Int):Prop:=match o with
 | none=>r=.non
 | some xs=>∃ p a f,r=.ref p∧H p=some (.tup [.ref a,.ref f])∧IsRh H (.ref a) xs∧H f=some (.tup (fs.map V.int))
def Zfi:Sp:=fun vs H Q _=>∃ (v u:V) (ms:List (List Rat)) (qs:List Rat),vs=[v,u]∧IsRsH H v ms∧IsRh H u qs∧RowsOk ms qs∧∀ (H':Hp) (r:V),Same H H'→DueV H' r (slv ms qs) (frs ms qs)→Q r H'
theorem Zgo {i:Nat}:∀ (T:List Nat),inV (.int (0+(i:Int))) (T.map fun n:Nat=>V.int n)=decide (i∈T)
 | []=>by simp [inV]
 | t :: T=>by
   have ih:=Zgo (i:=i) T;unfold inV at ih ⊢;rw [n71_,List.any_cons,ih];show (((t:Int) == 0+(i:Int))||decide (i∈T))=decide (i∈t :: T)
   by_cases h:i=t
   · subst h;simp
   · have:((t:Int) == 0+(i:Int))=false:=by simp;omega
     rw [this,Bool.false_or];exact decide_eq_decide.mpr ⟨fun z=>n3_ _ z,fun z=>(n34_.mp z).resolve_left h⟩
theorem Zgc {α β:Type} {f g:α→Option β}:∀ {l:List α},(∀ x∈l,f x=g x)→l.filterMap f=l.filterMap g
 | [],_=>rfl
 | a :: l,h=>by rw [List.filterMap_cons,List.filterMap_cons,h a n5_,Zgc fun x hx=>h x (n3_ _ hx)]
theorem Zr0 (ms:List (List Rat)) (qs:List Rat):frs ms qs=(List.range (wid ms)).filterMap fun i:Nat=>if i∈tkn ms qs then none else some (0+(i:Int)):=by
 unfold frs;refine Zgc fun i _=>?_;rw [Zgo]
 by_cases h:i∈tkn ms qs
 · rw [if_pos h,n32_ h];rfl
 · rw [if_neg h,n30_ h];rfl
theorem Zil:∀ (ps:List Nat) (xs z:List Rat) (i:Nat) (h1:i<ps.length) (h2:i<xs.length),putR (ps.take (i+1)) (xs.take (i+1)) z=(putR (ps.take i) (xs.take i) z).set ps[i] xs[i]
 | [],_,_,_,h,_=>by cases h
 | _ :: _,[],_,_,_,h=>by cases h
 | p :: ps,x :: xs,z,0,_,_=>by simp [putR]
 | p :: ps,x :: xs,z,i+1,h1,h2=>by
   rw [List.take_succ_cons,List.take_succ_cons,List.take_succ_cons,List.take_succ_cons];exact Zil ps xs (z.set p x) i (n70_ h1) (n70_ h2)
theorem Told.tk {H H':Hp} {p:Addr} {ms:List (List Rat)} {qs:List Rat} (h:Told H p ms qs) (t:Tk H H'):Told H' p ms qs:=h.imp (fun ⟨a,f,xs,h1,h2,h3,h4⟩=>⟨a,f,xs,t _ _ h1,h2.tk t,t _ _ h3,h4⟩) fun ⟨a,ys,h1,h2,h3⟩=>⟨a,ys,t _ _ h1,h2.tk t,h3⟩
def Zkm:Sp:=fun vs H Q _=>∃ N k v u ds,vs=[v,u]∧Dt N H k v (.tuple ds)∧Dt N H k u (.tuple ds)∧k<3999∧noLs ds=true∧(PyData.tuple ds).depth≤20∧nz (.tuple ds)≤4000∧Q (.bl true) H
def Zk0:Sp:=fun vs H Q _=>∃ (l:Addr),vs=[.ref l]∧StAt H l∧∀ (H':Hp) (p:Addr) (v u:V) (ms:List (List Rat)) (qs:List Rat),Keep l H H'→StAt H' l→H' p=some (.tup [v,u])→IsRsH H' v ms→IsRh H' u qs→RowsOk ms qs→Q (.ref p) H'
theorem Zhu {l D:Addr} {H H':Hp} (k:Keep l H H') (st:StAt H' l) (n:H' D=none):H D=none:=by
 cases e:H D with
 | none=>rfl
 | some o =>
   by_cases z:D=l
   · obtain ⟨_,e'⟩:=st.lst';rw [← z,n] at e';cases e'
   · have:=k _ _ z e
     rw [n] at this;cases this
theorem Zsz {x:Rat} (i:Nat) (h:Dv 60 (2^50) x):Dv (60^(i+1)) (2^(51*(i+1))) x:=by
 have:=h.times (e:=60^i)
 rw [show (60:Int)*60^i=60^(i+1) by rw [Int.pow_succ,n42_]] at this;refine this.mono ?_;rw [Int.natAbs_pow];exact n28_ (n53_ _ (show 60^i≤2^(6*i) by rw [Nat.pow_mul];exact Nat.pow_le_pow_left (by decide) i)) (by rw [← n63_];exact n23_ (by decide) (by omega))
theorem Zp1 {x:Rat} {i:Nat} (h:Dv (60^i) (2^(51*i)) x):Dv (60^(i+1)) (2^(51*(i+1))) x:=by
 have:=h.times (e:=60)
 rw [← Int.pow_succ] at this;refine this.mono ?_;show _*60≤_
 rw [show 51*(i+1)=51*i+51 by omega,n63_];exact n53_ _ (by decide)
theorem Zsj {x y c:Rat} {i:Nat} (h:Dv (60^i) (2^(51*i)) x) (g:Dv (60^i) (2^(51*i)) y) (hc:Dv 60 (2^50) c):Dv (60^(i+1)) (2^(51*(i+1))) (x+c*y):=by
 have a:=h.times (e:=60);have b:=hc.mul g;rw [← Int.pow_succ] at a;rw [show (60:Int)*60^i=60^(i+1) by rw [Int.pow_succ,n42_]] at b;refine (a.add b).mono ?_;show _*60+_≤_
 rw [show 51*(i+1)=51*i+51 by omega,n63_,n83_ (2^50),← Nat.mul_add];exact n53_ _ (by decide)
theorem Zqs {x:Rat} {i n:Nat} (h:Dv (60^i) (2^(51*i)) x) (l:i≤n):Dv (60^n) (2^(51*n)) x:=by
 induction l with
 | refl=>exact h
 | step _ ih=>exact Zp1 ih
theorem Zmz {c:TT} {a b:TS} {D:Ends} {σ:L2.St} {H:Hp} {r:VK} {bk ct:L2.St→Hp→Prop} (Inv:Bool→Hp→Prop) (ha:∀ H1,Inv true H1→a D σ H1) (hb:∀ H1,Inv false H1→b D σ H1) (h:∀ Q:Bool→Hp→Prop,(∀ x H1,Inv x H1→Q x H1)→c σ H Q):({ nx:=tIfS c a b D,rt:=r,bk:=bk,ct:=ct }:Ends).nx σ H:=h _ fun x H1 i=>by
 cases x
 · exact iteF (hb H1 i)
 · exact iteT (ha H1 i)
theorem b7 {x:Rat} (h:Dv (60^7) (2^(51*7)) x):FM.B 400 x:=h.b (by decide) (by decide) (n41_ (by decide) (by decide))
theorem Zqy {ms:List (List Rat)} {qs:List Rat} {x:Int} (h:x∈frs ms qs):∃ i:Nat,i<wid ms∧i∉tkn ms qs∧x=(i:Int):=by
 rw [Zr0] at h;obtain ⟨i,hi,e⟩:=List.mem_filterMap.mp h;split at e
 · cases e
 · rename_i hn
   cases e
   exact ⟨i,n90_.mp hi,hn,by omega⟩
theorem Zq2 (ms:List (List Rat)) (qs:List Rat):(frs ms qs).length≤wid ms:=by
 unfold frs;exact n28_ (List.length_filterMap_le ..) (by rw [List.length_range];exact n9_ _)
theorem Zgr (qs:List Rat):noL (rowD qs)=true:=Zbe.mpr fun x hx=>by
 obtain ⟨q,_,rfl⟩:=n19_.mp hx;rfl
theorem Zpq (ms:List (List Rat)):noL (X5 ms)=true:=Zbe.mpr fun x hx=>by
 obtain ⟨q,_,rfl⟩:=n19_.mp hx;exact Zgr q
theorem Small.b {xs:List Rat} (h:Small xs):∀ q∈xs,FM.B 2906 q:=fun q hq=>by
 obtain ⟨C,c1,cB,hx⟩:=h;have l:(2:Nat)^2905<2^2906:=n41_ (by decide) (by decide);exact (hx q hq).b c1 (n12_ cB l) l
def Zeu (ms:List (List Rat)) (qs:List Rat):List PyData:=match slv ms qs with
 | some xs=>[.str "solved",rowD xs,.tuple ((frs ms qs).map PyData.int)]
 | none=>[.str "none",rowD ((mixM ms qs (tkn ms qs)).getD [])]
theorem Zfg {ms:List (List Rat)} {qs xs:List Rat} (h:slv ms qs=some xs):Zeu ms qs=[.str "solved",rowD xs,.tuple ((frs ms qs).map PyData.int)]:=by unfold Zeu;rw [h]
theorem Zfj {ms:List (List Rat)} {qs ys:List Rat} (h:slv ms qs=none) (e:mixM ms qs (tkn ms qs)=some ys):Zeu ms qs=[.str "none",rowD ys]:=by unfold Zeu;rw [h,e];rfl
theorem Zrp {N:Addr→Prop} {H:Hp} {f:Addr} {ms:List (List Rat)} {qs:List Rat} (R:RowsOk ms qs) (h:H f=some (.tup ((frs ms qs).map V.int))):Dt N H 2906 (.ref f) (.tuple ((frs ms qs).map PyData.int)) :=
 .tup h (Zkw (R:=fun v (x:Int)=>v=V.int x) ⟨by rw [n2_],fun i v x e1 e2=>by
  rw [n8_,e2] at e1;exact (Option.some.inj e1).symm⟩ fun v x hx e=>by
  obtain ⟨i,hi,_,rfl⟩:=Zqy hx;subst e
  have:=R.w6
  exact .int (My.up 2906 (show ((i:Int)).natAbs<2^3 by show _<8;omega)))
theorem Zhe {N:Addr→Prop} {H:Hp} {p a f:Addr} {ms:List (List Rat)} {qs xs:List Rat} (R:RowsOk ms qs) (hp:H p=some (.tup [.str "solved",.ref a,.ref f])) (h2:IsRh H (.ref a) xs) (h3:H f=some (.tup ((frs ms qs).map V.int))) (h4:slv ms qs=some xs):Dt N H 2906 (.ref p) (.tuple (Zeu ms qs)):=by
 rw [Zfg h4];exact .tup hp (.cons (.str _) (.cons (Zd2 h2 (R.sys.small h4).b) (.cons (Zrp R h3) .nil)))
theorem Told.dt {N:Addr→Prop} {H:Hp} {p:Addr} {ms:List (List Rat)} {qs:List Rat} (R:RowsOk ms qs) (T:Told H p ms qs):Dt N H 2906 (.ref p) (.tuple (Zeu ms qs)):=by
 rcases T with ⟨a,f,xs,h1,h2,h3,h4⟩|⟨a,ys,h1,h2,h3,h4,h5,h6⟩
 · exact Zhe R h1 h2 h3 h4
 · rw [Zfj h3 h4];exact .tup h1 (.cons (.str _) (.cons (Zd2 h2 h6.b) .nil))
theorem Zmm:∀ (l:List Int),Xj (l.map PyData.int)=2*l.length
 | []=>rfl
 | x :: l=>by show 1+1+Xj (l.map PyData.int)=_;rw [Zmm l,n33_];omega
theorem Zo4 {ms:List (List Rat)} {qs:List Rat} (R:RowsOk ms qs):noLs (Zeu ms qs)=true∧(PyData.tuple (Zeu ms qs)).depth≤20∧nz (.tuple (Zeu ms qs))≤4000:=by
 have w6:=R.w6;have m7:=R.m7;cases e:slv ms qs with
 | some xs =>
   rw [Zfg e];have lx:=Zm7 e;have lf:=Zq2 ms qs;refine ⟨Zbe.mpr fun x hx=>?_,?_,?_⟩
   · simp only [n34_,n48_,or_false] at hx
     rcases hx with rfl|rfl|rfl
     · rfl
     · exact Zgr _
     · exact Zbe.mpr fun x hx=>by
        obtain ⟨q,_,rfl⟩:=n19_.mp hx;rfl
   · show max 0 (max (rowD xs).depth (max (PyData.depthAll ((frs ms qs).map PyData.int)+1) 0))+1≤20
     have:=Zgv xs
     have:=Zgf (f:=PyData.int) (n:=0) (xs:=frs ms qs) fun x _=>n9_ 0
     omega
   · show 1+(nz (.str "solved")+1+(nz (rowD xs)+1+((1+Xj ((frs ms qs).map PyData.int))+1+0)))≤4000
     rw [Zj4,Zmm,show nz (.str "solved")=8 by decide +kernel];omega
 | none =>
   obtain ⟨ys,e1,e2,_⟩:=R.mix e;rw [Zfj e e1];refine ⟨Zbe.mpr fun x hx=>?_,?_,?_⟩
   · simp only [n34_,n48_,or_false] at hx
     rcases hx with rfl|rfl
     · rfl
     · exact Zgr _
   · show max 0 (max (rowD ys).depth 0)+1≤20
     have:=Zgv ys
     omega
   · show 1+(nz (.str "none")+1+(nz (rowD ys)+1+0))≤4000
     rw [Zj4,show nz (.str "none")=6 by decide +kernel];omega
theorem Zpn {ms:List (List Rat)} {qs:List Rat} (R:RowsOk ms qs):noLs [X5 ms,rowD qs]=true∧(PyData.tuple [X5 ms,rowD qs]).depth≤20∧nz (.tuple [X5 ms,rowD qs])≤4000:=by
 have:=R.nz
 have:=Zo7 ms
 have:=Zgv qs
 refine ⟨by show (noL _&&(noL _&&true))=true;rw [Zpq,Zgr];rfl,?_,?_⟩
 · show max _ (max _ 0)+1≤20;omega
 · show 1+(nz (X5 ms)+1+(nz (rowD qs)+1+0))≤4000;omega
theorem Zne {N:Addr→Prop} {H:Hp} {p:Addr} {v u:V} {ms:List (List Rat)} {qs:List Rat} (R:RowsOk ms qs) (hp:H p=some (.tup [v,u])) (h1:IsRsH H v ms) (h2:IsRh H u qs):Dt N H 411 (.ref p) (.tuple [X5 ms,rowD qs]):=.tup hp (.cons (Zj6 h1 R.b.1) (.cons (Zd2 h2 R.b.2) .nil))
def Zmw:Sp:=fun vs H Q _=>∃ (v u:V) (a:Addr) (ms:List (List Rat)) (qs ys:List Rat),vs=[v,u,.ref a]∧IsRsH H v ms∧IsRh H u qs∧IsRh H (.ref a) ys∧RowsOk ms qs∧Mix ms qs ys∧Small ys∧∀ (H':Hp),Same H H'→Q (.bl true) H'
def Zgd (Ph:Addr):Sp:=fun vs H Q _=>∃ (v u:V) (ms:List (List Rat)) (qs:List Rat),vs=[v,u]∧IsRsH H v ms∧IsRh H u qs∧RowsOk ms qs∧TabF H Ph "head_of.<locals>.<lambda>" ∧ ∀ (H':Hp),Xp Ph H H'→TabF H' Ph "head_of.<locals>.<lambda>" → Q (.bl true) H'
theorem Zs3 {Ph:Addr} {H H':Hp} (tb:TabF H Ph "head_of.<locals>.<lambda>") (k:Xp Ph H H') {b:Addr} {o:HO} (n:∀ ps,o≠HO.tbl ps) (e:H b=some o):H' b=some o:=k b o (fun z=>by
 obtain ⟨ps,h,_⟩:=tb;rw [z,h] at e;exact n _ (Option.some.inj e).symm) e
theorem kP_t {Ph:Addr} {H H':Hp} (tb:TabF H Ph "head_of.<locals>.<lambda>") (k:Xp Ph H H') {b:Addr} {us:List V} (e:H b=some (.tup us)):H' b=some (.tup us):=Zs3 tb k (by intro ps z;cases z) e
theorem Zoz {Ph:Addr} {H H':Hp} (tb:TabF H Ph "head_of.<locals>.<lambda>") (k:Xp Ph H H'):Tk H H':=fun b us e=>kP_t tb k e
def Zkh (K:PySem.W.Frag) (Ph:Addr):Sp:=fun vs H Q _=>∃ (a:Addr) (ns:List Int),vs=[.ref a]∧SqL K H a (ns.map V.int)∧ns.length≤63∧TabF H Ph "head_of.<locals>.<lambda>" ∧ ∀ H',Q (.bl true) H'
theorem Zp0 {K:PySem.W.Frag} {P1 a:Addr} {H H':Hp} {xs:List V} {q1:Str} (h:SqL K H a xs) (g:Xp P1 H H') (t1:TabF H P1 q1):SqL K H' a xs:=by
 obtain ⟨p1,e1,_⟩:=t1
 rcases h with (h|⟨o,h⟩)|h
 · exact .inl (.inl (g _ _ (fun z=>by rw [z,e1] at h;cases h) h))
 · exact .inl (.inr ⟨o,g _ _ (fun z=>by rw [z,e1] at h;cases h) h⟩)
 · exact .inr h
theorem ok0:RowsOk [] []:=⟨fun _ h=>(by cases h),n60_ _,n60_ _,rfl,fun _ h=>(by cases h),fun _ h=>by cases h⟩
theorem ok1:RowsOk [[]] [0]:=⟨fun r h=>(by rw [n15_.mp h];rfl),n60_ _,(by decide),rfl,fun r h q hq=>(by rw [n15_.mp h] at hq;cases hq),fun q hq=>by rw [n15_.mp hq];exact dw0⟩
theorem dwh:DW (Rat.divInt 1 2):=⟨83980800000000,by decide +kernel,n28_ (show (83980800000000:Int).natAbs≤2^48 by decide) (n23_ (by decide) (by decide))⟩
theorem ok2:RowsOk [[],[]] [0,Rat.divInt 1 2]:=⟨fun r h=>(by
 simp only [n34_,n48_,or_false] at h
 rcases h with rfl|rfl<;>rfl),n60_ _,(by decide),rfl,fun r h q hq=>(by
 simp only [n34_,n48_,or_false] at h
 rcases h with rfl|rfl<;>cases hq),fun q hq=>by
 simp only [n34_,n48_,or_false] at hq
 rcases hq with rfl|rfl
 · exact dw0
 · exact dwh⟩
theorem Al.one {α:Type} {R:V→α→Prop} {v:V} {x:α} (h:R v x):Al R [v] [x]:=Al.snoc .nil h
theorem Al.two {α:Type} {R:V→α→Prop} {v u:V} {x y:α} (h:R v x) (g:R u y):Al R [v,u] [x,y]:=Al.snoc (Al.one h) g
section
variable (P:Program) (w:World) (K:PySem.W.Frag) (mg:Str→Option Value) (base:Heap)
abbrev a0_:=Cal P w K mg base "few_steps" 1 ["one","other"] (Zag 0)
abbrev a1_:=Cal P w K mg base "mixed_by" 1 ["mixing","one","other"] Zec
abbrev a2_:=Cal P w K mg base "plain_divisor" 1 ["one","other"] Zkl
abbrev a3_:=Cal P w K mg base "shrinking" 9 ["one","other"] (Zag 7)
abbrev a4_:=Cal P w K mg base "divisor" 2 ["one","other"] Ze8
abbrev a5_:=Cal P w K mg base "divisor" 10 ["one","other"] Zd3
abbrev a6_:=Cal P w K mg base "in_common" 3 ["parts","known"] Zeh
abbrev a7_:=Cal P w K mg base "multiple" 3 ["bottoms"] Zkz
abbrev a8_:=Cal P w K mg base "scale_of" 4 ["line"] (Zks K)
abbrev a9_:=Cal P w K mg base "in_common" 11 ["parts","known"] Zdc
abbrev a10_:=Cal P w K mg base "cleared" 12 ["known","line","head","place"] Ze9
abbrev a11_:=Cal P w K mg base "levelled" 4 ["parts"] (Zdw K)
abbrev a12_:=Cal P w K mg base "reduced" 3 ["top","bottom"] Zfd
abbrev a13_:=Cal P w K mg base "reduced" 40 ["top","bottom"] Zdq
abbrev a14_:=Cal P w K mg base "put_at" 41 ["place","line","found"] (Zjp K)
abbrev a15_:=Cal P w K mg base "mixed" 5 ["weights","parts","bottom"] (Zjv K)
abbrev a16_:=Cal P w K mg base "filled" 42 ["steps","found"] (Zhh K)
abbrev a17_:=Cal P w K mg base "factors_of" 3 ["bottoms"] Zfh
abbrev a18_:=Cal P w K mg base "lowered" 3 ["part","factors"] (Ze5 K)
abbrev a19_:=Cal P w K mg base "places_of" 1 ["rows"] (Zhb K)
abbrev a20_:=Cal P w K mg base "rights_to" 6 ["rows","rights"] (Zeo K)
abbrev a21_:=Cal P w K mg base "settled_by" 43 ["steps","places","at"] (Zc9 K)
abbrev a22_:=Cal P w K mg base "whole" 5 ["line"] (Zkf K)
abbrev a23_:=Cal P w K mg base "is_whole" 1 ["thing"] Zh4
abbrev a24_:=Cal P w K mg base "is_fraction" 3 ["thing"] Zpz
abbrev a25_:=Cal P w K mg base "are_fractions" 4 ["thing","many"] Zhy
abbrev a26_:=Cal P w K mg base "places_of" 1 ["rows"] Zfe
abbrev a27_:=Cal P w K mg base "are_rows" 5 ["thing"] Zh8
abbrev a28_:=Cal P w K mg base "look_at_rows" 6 ["rows","rights"] Zkp
abbrev a29_:=Cal P w K mg base "_law_cell_at" 1 ["_law_script","_law_k"] (Zl5 K)
abbrev a30_:=Cal P w K mg base "_law_low" 40 ["_law_top","_law_bottom"] Znv
abbrev a31_:=Cal P w K mg base "_law_add" 41 ["_law_one","_law_other"] (Zkg (·+·))
abbrev a32_:=Cal P w K mg base "_law_mul" 41 ["_law_one","_law_other"] (Zkg (·*·))
abbrev a33_:=Cal P w K mg base "_law_total" 42 ["_law_some"] Zmi
abbrev a34_:=Cal P w K mg base "_law_choice" 1 ["_law_state_here","_law_many"] Zg4
abbrev a35_:=Cal P w K mg base "_law_low" 1 ["_law_top","_law_bottom"] Zp7
abbrev a36_:=Cal P w K mg base "_law_fraction" 2 ["_law_state_here"] (Zh2 44)
abbrev a37_:=Cal P w K mg base "_law_div" 41 ["_law_one","_law_other"] Zjr
abbrev a38_:=Cal P w K mg base "_law_neg" 1 ["_law_one"] Zp5
abbrev a39_:=Cal P w K mg base "_law_cleared" 42 ["_law_table","_law_done","_law_at"] Zd1
abbrev a40_:=Cal P w K mg base "_law_reduced" 43 ["_law_lines","_law_rights_own"] Zdt
abbrev a41_:=Cal P w K mg base "_law_dot" 43 ["_law_row_here","_law_other"] Zjk
abbrev a42_:=Cal P w K mg base "_law_row" 3 ["_law_state_here","_law_many"] Znt
abbrev a43_:=Cal P w K mg base "_law_mix_right" 45 ["_law_lines","_law_rights_own","_law_mix"] Zmw
abbrev a44_:=Cal P w K mg base "_law_same" 1 ["_law_found","_law_due"] Zkm
abbrev a45_:=Cal P w K mg base "_law_solved" 44 ["_law_lines","_law_rights_own"] Zfi
abbrev a46_:=Cal P w K mg base "_law_rows" 45 ["_law_state_here"] Zk0
abbrev a47_:=Cal P w K mg base "_law_state" 2 ["_law_script","_law_k"] (Zj9 K)
end
section
variable {P:Program} {w:World} {K:PySem.W.Frag} {mg:Str→Option Value} {base:Heap} {f:Addr} {fd:FuncData} (T:Bt mg)
include T
abbrev Xs:Stmt:=top 3
theorem Zdg (F:Fun K "plain_divisor" "plain_divisor" Xs f fd):FnOk P w K mg base CX0 1 f fd ["one","other"] Zkl:=by
 have sc:FnScope ["one","other"] ["one","other"] (Zf Xs):=fsc (by decide +kernel);refine F.ok sc (fun vs H Q E h=>by obtain ⟨a,b,rfl,_⟩:=h;rfl) fun cdv A outer s H vs Q E hr h=>?_;obtain ⟨a,b,rfl,q⟩:=h;have nd:=sc.nd;refine' ⟨_,?term,?read⟩
 case term=>refine' @Zc _ _ _ _ _ ?g1 (Zh (Zn (Zk Y2 rfl T.b_abs Zaf (Za (pv 0) Zb rfl))));case g1=>refine' @Zbd _ _ _ _ _ _ PassesOwn.never ?g2 ?g3;(case g2=>refine' @Yg _ _ _ (pv 1) (fun _=>rfl));case g3=>refine' @Zh _ _ _ ?g4;case g4=>refine' @Zb9 _ _ (0) (1) _ _ _ _ _ _ _ _ _ _ _ rfl nd rfl rfl (by decide) rfl rfl (Za (pv 1) (Za (Zm Xz (pv 0) (pv 1)) Zb rfl) rfl) rfl (by rfl)
 refine Zbg (fun σ H'=>∃ x y:Int,σ=[some (.int x),some (.int y)]∧H'=H∧Int.gcd x y=Int.gcd a b) (fun σ _=>match σ with|[_,some (.int y)]=>y.natAbs|_=>0) ⟨a,b,rfl,rfl,rfl⟩ ?_ ?_
 · rintro σ H' ⟨x,y,rfl,rfl,e⟩
   refine ⟨_,rfl,(y != 0),rfl,?_⟩
   by_cases hy:y=0
   · subst hy;refine iteF ?_;refine ⟨_,rfl,x,rfl,?_⟩
     have z:(if x<0 then -x else x)=(Int.gcd a b:Int):=by
      rw [← e,Int.gcd_zero_right];split<;>omega
     rw [z];exact q
   · rw [show (y != 0)=true by simpa using hy];refine iteT ?_;refine ⟨_,rfl,_,rfl,_,rfl,x,y,rfl,rfl,hy,_,_,rfl,⟨y,x.fmod y,rfl,rfl,by rw [FM.gcd_fmod hy];exact e⟩,FM.fmod_abs_lt hy⟩
 · rintro σ H' Q1 Q2 hq ⟨v,e,k,t,q'⟩
   exact ⟨v,e,k,t,hq _ _ q'⟩
abbrev Zbo:Stmt:=top 4
theorem Zh3 (F:Fun K "few_steps" "few_steps" Zbo f fd):FnOk P w K mg base CX0 1 f fd ["one","other"] (Zag 0):=by
 have sc:FnScope ["one","other","low","a","b","c","d","many","left"] ["one","other"] (Zf Zbo):=fsc (by decide +kernel);refine F.ok sc (fun vs H Q E h=>by obtain ⟨X,Y,rfl,_⟩:=h;rfl) fun cdv A outer s H vs Q E hr h=>?_;obtain ⟨X,Y,rfl,hY,hX,_,q⟩:=h;have nd:=sc.nd;refine' ⟨_,?term,?read⟩
 case term=>refine' @Zc _ _ _ _ _ ?g1 ?g2;(case g1=>refine' @Zv _ _ (2) _ _ _ _ nd rfl (Or.inl rfl) ?g3 (by rfl) (by first|exact Or.inl rfl|exact Or.inr rfl|assumption);case g3=>refine' @Zm _ _ _ _ _ _ _ _ Yc ?g4 Zg;case g4=>refine' @Za1 _ _ _ _ _ _ _ _ _ PySem.F.plainAttrs_int PySem.F.slot_int_bit_length PySem.F.type_int_bit_length X3 (pv 0) (by rfl) (by rfl));case g2=>refine' @Zc _ _ _ _ _ ?g5 ?g6;(case g5=>refine' @Yn _ _ _ _ _ _ (Zu (Za Zg (Za Zg (Za Zg (Za Zg Zb rfl) rfl) rfl) rfl)) ?g7 (by rfl) (by rfl) (by rfl);case g7=>refine' @Zy _ _ _ _ _ (4) rfl (Zd (Zi (i:=3) nd rfl (Or.inl rfl)) (Zd (Zi (i:=4) nd rfl (Or.inl rfl)) (Zd (Zi (i:=5) nd rfl (Or.inl rfl)) (Zd (Zi (i:=6) nd rfl (Or.inl rfl)) Zr)))) (by rfl) (by rfl));case g6=>refine' @Zc _ _ _ _ _ ?g8 (Zh (Zn (Zu (Za (pv 3) (Za (pv 4) (Za (pv 5) (Za (pv 6) Zb rfl) rfl) rfl) rfl))));case g8=>refine' @Zbd _ _ _ _ _ _ PassesOwn.never ?g9 ?ga;(case g9=>refine' @Zq _ _ _ _ _ _ _ _ Zdi ?gb (pv 2) (Zw _);case gb=>refine' @Za1 _ _ _ _ _ _ _ _ _ PySem.F.plainAttrs_int PySem.F.slot_int_bit_length PySem.F.type_int_bit_length X3 (pv 1) (by rfl) (by rfl));case ga=>refine' @Zc _ _ _ _ _ ?gc ?gd;(case gc=>refine' @Yn _ _ _ _ _ _ (Zk Zhv rfl T.b_divmod Zno (Za (pv 0) (Za (pv 1) Zb rfl) rfl)) ?ge (by rfl) (by rfl) (by rfl);case ge=>refine' @Zy _ _ _ _ _ (2) rfl (Zd (Zi (i:=7) nd rfl (Or.inl rfl)) (Zd (Zi (i:=8) nd rfl (Or.inl rfl)) Zr)) (by rfl) (by rfl));case gd=>refine' @Zc _ _ _ _ _ ?gf ?gg;(case gf=>refine' @Zb9 _ _ (0) (1) _ _ _ _ _ _ _ _ _ _ _ rfl nd rfl rfl (by decide) rfl rfl (Za (pv 1) (Za (pv 8) Zb rfl) rfl) rfl (by rfl));case gg=>refine' @Zh _ _ _ ?gh;case gh=>refine' @Yn _ _ _ _ _ _ (Zu (Za (pv 5) (Za (pv 6) (Za (Zm Zau (pv 3) (Zm Zx (pv 7) (pv 5))) (Za (Zm Zau (pv 4) (Zm Zx (pv 7) (pv 6))) Zb rfl) rfl) rfl) rfl)) ?gi (by rfl) (by rfl) (by rfl);case gi=>refine' @Zy _ _ _ _ _ (4) rfl (Zd (Zi (i:=3) nd rfl (Or.inl rfl)) (Zd (Zi (i:=4) nd rfl (Or.inl rfl)) (Zd (Zi (i:=5) nd rfl (Or.inl rfl)) (Zd (Zi (i:=6) nd rfl (Or.inl rfl)) Zr)))) (by rfl) (by rfl)
 refine ⟨_,rfl,rfl,_,rfl,rfl,_,_,rfl,rfl,Zlc,?_⟩;refine ⟨z4_,fun p0 hp0=>?_⟩;refine ⟨p0,_,rfl,SqT.of Ze,rfl,_,_,rfl,_,_,rfl,_,_,rfl,_,_,rfl,rfl,?_⟩;have hB:=HG.isb_bits X;have hN:Builtin.Int.intBits (X:Int)≤201:=Xn (show ((X:Int)).natAbs<2^201 from hX) (by decide);generalize Builtin.Int.intBits (X:Int)=N at *;have eN:(N:Int).fdiv 2=((N/2:Nat):Int):=by rw [n93_ _ (by decide)];rfl
 refine Zbg (fun σ H'=>∃ (one other:Nat) (a b c d:Int) (u v:Option V),σ=[some (.int one),some (.int other),some (.int ((N:Int).fdiv 2)),some (.int a),some (.int b),some (.int c),some (.int d),u,v]∧Same H H'∧HG.St N X Y one other a b c d) (fun σ _=>match σ with|_ :: some (.int y) :: _=>y.natAbs|_=>0) ⟨X,Y,1,0,0,1,none,none,rfl,Same.new hp0,HG.St.start hY⟩ ?_ ?_
 · rintro σ H' ⟨one,other,a,b,c,d,u,v,rfl,sm,st⟩
   refine ⟨_,rfl,rfl,_,rfl,rfl,_,rfl,_,_,rfl,rfl,_,rfl,?_⟩;have hO:=HG.isb_bits other;refine ite2 (fun hlt=>?_) (fun hlt=>?_)
   · have hlt':N/2<Builtin.Int.intBits (other:Int):=by have:=n37_ hlt;rw [eN] at this;omega
     have ho:2^(N/2)≤other:=n28_ (HG.pw (by omega)) (hO.ge (by omega));have hp:0<other:=n10_ (n62_ _) ho;have l1:=st.le;have l2:=st.lX;have b1:one<2^201:=n12_ l2 hX;have dv:((one:Nat):Int).fdiv (other:Nat)=((one/other:Nat):Int):=by rw [n93_ _ (by omega)];rfl
     have md:((one:Nat):Int).fmod (other:Nat)=((one % other:Nat):Int):=by rw [Int.fmod_eq_emod_of_nonneg _ (by omega)];rfl
     refine ⟨_,rfl,_,rfl,_,_,rfl,⟨by omega,n12_ l1 (Zrr b1)⟩,fun p1 hp1=>?_⟩;refine ⟨p1,_,rfl,SqT.of Ze,rfl,_,_,rfl,_,_,rfl,rfl,?_⟩;rw [dv,md];refine ⟨_,rfl,_,rfl,_,_,rfl,?_⟩;have z:=st.step hB.lt hY ho;have c1:c.natAbs<2^1000000:=n12_ st.bc (n41_ (by decide) (by omega));have d1:d.natAbs<2^1000000:=n12_ st.bd (n41_ (by decide) (by omega));have q1:((one/other:Nat):Int).natAbs<2^1000000:=n12_ (Nat.div_le_self _ _) (Zrr b1);refine ⟨_,rfl,_,rfl,_,rfl,_,rfl,_,rfl,_,_,rfl,rfl,⟨q1,c1⟩,_,_,rfl,rfl,_,rfl,_,rfl,_,rfl,_,_,rfl,rfl,⟨q1,d1⟩,_,_,rfl,rfl,z4_,fun p2 hp2=>?_⟩;refine ⟨p2,_,rfl,SqT.of Ze,rfl,_,_,rfl,_,_,rfl,_,_,rfl,_,_,rfl,rfl,?_⟩;refine ⟨⟨other,one % other,_,_,_,_,_,_,rfl,(sm.trans (Same.new hp1)).trans (Same.new hp2),z⟩,?_⟩;exact Nat.mod_lt _ hp
   · refine ⟨_,rfl,_,rfl,_,rfl,_,rfl,z4_,fun p1 hp1=>?_⟩;exact q p1 _ a b c d (sm.trans (Same.new hp1)) Ze (st.gd hB hN)
 · rintro σ H' Q1 Q2 hq ⟨v1,e1,t1,i1,a1,n1,v2,e2,i,j,e3,e4,b,e5,q'⟩
   exact ⟨v1,e1,t1,i1,a1,n1,v2,e2,i,j,e3,e4,b,e5,hq _ _ q'⟩
abbrev Zck:Stmt:=top 5
theorem Zio (F:Fun K "mixed_by" "mixed_by" Zck f fd):FnOk P w K mg base CX0 1 f fd ["mixing","one","other"] Zec:=by
 have sc:FnScope ["mixing","one","other","a","b","c","d","first","second"] ["mixing","one","other"] (Zf Zck):=fsc (by decide +kernel);refine F.ok sc (fun vs H Q E h=>by obtain ⟨m,x,y,a,b,c,d,rfl,_⟩:=h;rfl) fun cdv A outer s H vs Q E hr h=>?_;obtain ⟨m,x,y,a,b,c,d,rfl,hm,hb,q⟩:=h;have nd:=sc.nd;refine' ⟨_,?term,?read⟩
 case term=>refine' @Zc _ _ _ _ _ ?g1 ?g2;(case g1=>refine' @Yn _ _ _ _ _ _ (pv 0) ?g3 (by rfl) (by rfl) (by rfl);case g3=>refine' @Zy _ _ _ _ _ (4) rfl (Zd (Zi (i:=3) nd rfl (Or.inl rfl)) (Zd (Zi (i:=4) nd rfl (Or.inl rfl)) (Zd (Zi (i:=5) nd rfl (Or.inl rfl)) (Zd (Zi (i:=6) nd rfl (Or.inl rfl)) Zr)))) (by rfl) (by rfl));case g2=>refine' @Zc _ _ _ _ _ ?g4 ?g5;(case g4=>refine' @Zv _ _ (7) _ _ _ _ nd rfl (Or.inl rfl) (Zm Yx (Zm Zx (pv 3) (pv 1)) (Zm Zx (pv 4) (pv 2))) (by rfl) (by first|exact Or.inl rfl|exact Or.inr rfl|assumption));case g5=>refine' @Zc _ _ _ _ _ ?g6 ?g7;(case g6=>refine' @Zv _ _ (8) _ _ _ _ nd rfl (Or.inl rfl) (Zm Yx (Zm Zx (pv 5) (pv 1)) (Zm Zx (pv 6) (pv 2))) (by rfl) (by first|exact Or.inl rfl|exact Or.inr rfl|assumption));case g7=>refine' @Zc _ _ _ _ _ ?g8 ?g9;(case g8=>refine' @Yv _ _ _ _ _ _ _ _ (Zq Zhp (pv 7) Zg (Zw _)) ?ga Z3;case ga=>refine' @Zh _ _ _ ?gb;case gb=>refine' @Zob _ _ (7) (3) (4) _ _ _ _ _ _ _ _ _ _ _ _ _ _ rfl nd rfl rfl rfl (by decide) (by decide) (by decide) rfl rfl rfl (Za (Zf1 Zb7 (pv 7)) (Za (Zf1 Zb7 (pv 3)) (Za (Zf1 Zb7 (pv 4)) Zb rfl) rfl) rfl) rfl (by rfl));case g9=>refine' @Zc _ _ _ _ _ ?gc ?gd;(case gc=>refine' @Yv _ _ _ _ _ _ _ _ (Zq Zhp (pv 8) Zg (Zw _)) ?ge Z3;case ge=>refine' @Zh _ _ _ ?gf;case gf=>refine' @Zob _ _ (8) (5) (6) _ _ _ _ _ _ _ _ _ _ _ _ _ _ rfl nd rfl rfl rfl (by decide) (by decide) (by decide) rfl rfl rfl (Za (Zf1 Zb7 (pv 8)) (Za (Zf1 Zb7 (pv 5)) (Za (Zf1 Zb7 (pv 6)) Zb rfl) rfl) rfl) rfl (by rfl));case gd=>refine' @Zc _ _ _ _ _ ?gg (Zh (Zn (Zu (Za (pv 7) (Za (pv 8) (Za (Zu (Za (pv 3) (Za (pv 4) (Za (pv 5) (Za (pv 6) Zb rfl) rfl) rfl) rfl)) Zb rfl) rfl) rfl))));case gg=>refine' @Yv _ _ _ _ _ _ _ _ (Zq Zhp (pv 7) (pv 8) (Zw _)) ?gh Z3;case gh=>refine' @Zh _ _ _ ?gi;case gi=>refine' @Yn _ _ _ _ _ _ (Zu (Za (pv 8) (Za (pv 7) (Za (pv 5) (Za (pv 6) (Za (pv 3) (Za (pv 4) Zb rfl) rfl) rfl) rfl) rfl) rfl)) ?gj (by rfl) (by rfl) (by rfl);case gj=>refine' @Zy _ _ _ _ _ (6) rfl (Zd (Zi (i:=7) nd rfl (Or.inl rfl)) (Zd (Zi (i:=8) nd rfl (Or.inl rfl)) (Zd (Zi (i:=3) nd rfl (Or.inl rfl)) (Zd (Zi (i:=4) nd rfl (Or.inl rfl)) (Zd (Zi (i:=5) nd rfl (Or.inl rfl)) (Zd (Zi (i:=6) nd rfl (Or.inl rfl)) Zr)))))) (by rfl) (by rfl)
 obtain ⟨ba,bb,bc,bd,bx,by'⟩:=hb;refine ⟨_,rfl,m,_,rfl,SqT.of hm,rfl,_,_,rfl,_,_,rfl,_,_,rfl,_,_,rfl,rfl,?_⟩;refine ⟨_,rfl,_,rfl,_,_,rfl,rfl,⟨up9 ba,up9 bx⟩,_,rfl,_,rfl,_,_,rfl,rfl,⟨up9 bb,up9 by'⟩,_,_,rfl,rfl,?_⟩;refine ⟨_,rfl,_,rfl,_,_,rfl,rfl,⟨up9 bc,up9 bx⟩,_,rfl,_,rfl,_,_,rfl,rfl,⟨up9 bd,up9 by'⟩,_,_,rfl,rfl,?_⟩;refine Xq (σ':=[some (.ref m),some (.int x),some (.int y),some (.int a),some (.int b),some (.int c),some (.int d),some (.int (a*x+b*y)),some (.int (c*x+d*y))]) rfl ?_;refine ⟨_,rfl,(a*x+b*y),0,rfl,rfl,_,rfl,ite2 (fun hlt=>?_) (fun hlt=>?_)⟩
 · have h1:0≤(-(a*x+b*y)):=lf_1 hlt;clear hlt;refine ⟨_,rfl,(a*x+b*y),rfl,_,rfl,a,rfl,_,rfl,b,rfl,_,_,_,rfl,Xq (σ':=[some (.ref m),some (.int x),some (.int y),some (.int (-a)),some (.int (-b)),some (.int c),some (.int d),some (.int (-(a*x+b*y))),some (.int (c*x+d*y))]) rfl ?_⟩;refine ⟨_,rfl,(c*x+d*y),0,rfl,rfl,_,rfl,ite2 (fun hlt=>?_) (fun hlt=>?_)⟩
   · have h2:0≤(-(c*x+d*y)):=lf_1 hlt;clear hlt;refine ⟨_,rfl,(c*x+d*y),rfl,_,rfl,c,rfl,_,rfl,d,rfl,_,_,_,rfl,Xq (σ':=[some (.ref m),some (.int x),some (.int y),some (.int (-a)),some (.int (-b)),some (.int (-c)),some (.int (-d)),some (.int (-(a*x+b*y))),some (.int (-(c*x+d*y)))]) rfl ?_⟩;refine ⟨_,rfl,_,rfl,(-(a*x+b*y)),(-(c*x+d*y)),rfl,rfl,_,rfl,ite2 (fun hlt=>?_) (fun hlt=>?_)⟩
     · have z3:(-(a*x+b*y))≤(-(c*x+d*y)):=lf_2 hlt;clear hlt;refine ⟨_,rfl,_,rfl,_,rfl,_,rfl,_,rfl,_,rfl,by show 6≤sizeLine;decide,fun r hr'=>⟨r,_,rfl,SqT.of Ze,rfl,_,_,rfl,_,_,rfl,_,_,rfl,_,_,rfl,_,_,rfl,_,_,rfl,rfl,Xq (σ':=[some (.ref m),some (.int x),some (.int y),some (.int (-c)),some (.int (-d)),some (.int (-a)),some (.int (-b)),some (.int (-(c*x+d*y))),some (.int (-(a*x+b*y)))]) rfl ?_⟩⟩;refine ⟨_,rfl,_,rfl,_,rfl,_,rfl,_,rfl,_,rfl,z4_,fun t ht=>⟨z3_,fun p hp=>?_⟩⟩;exact lf (F:=(-(c*x+d*y))) (S:=(-(a*x+b*y))) (a':=(-c)) (b':=(-d)) (c':=(-a)) (d':=(-b)) q h2 h1 (.inr ⟨(-1),(-1),.inr rfl,.inr rfl,lf_s,lf_s,lf_s,lf_s⟩) lf_n lf_n z3 (((Same.new hr').trans (Same.new ht)).trans (Same.new hp)) Ze (Same.new hp _ _ Ze)
     · have z3:(-(c*x+d*y))≤(-(a*x+b*y)):=lf_0 hlt;clear hlt;refine ⟨_,rfl,_,rfl,_,rfl,_,rfl,_,rfl,_,rfl,z4_,fun t ht=>⟨z3_,fun p hp=>?_⟩⟩;exact lf (F:=(-(a*x+b*y))) (S:=(-(c*x+d*y))) (a':=(-a)) (b':=(-b)) (c':=(-c)) (d':=(-d)) q h1 h2 (.inl ⟨(-1),(-1),.inr rfl,.inr rfl,lf_s,lf_s,lf_s,lf_s⟩) lf_n lf_n z3 ((Same.new ht).trans (Same.new hp)) Ze (Same.new hp _ _ Ze)
   · have h2:0≤(c*x+d*y):=lf_0 hlt;clear hlt;refine ⟨_,rfl,_,rfl,(-(a*x+b*y)),(c*x+d*y),rfl,rfl,_,rfl,ite2 (fun hlt=>?_) (fun hlt=>?_)⟩
     · have z3:(-(a*x+b*y))≤(c*x+d*y):=lf_2 hlt;clear hlt;refine ⟨_,rfl,_,rfl,_,rfl,_,rfl,_,rfl,_,rfl,by show 6≤sizeLine;decide,fun r hr'=>⟨r,_,rfl,SqT.of Ze,rfl,_,_,rfl,_,_,rfl,_,_,rfl,_,_,rfl,_,_,rfl,_,_,rfl,rfl,Xq (σ':=[some (.ref m),some (.int x),some (.int y),some (.int c),some (.int d),some (.int (-a)),some (.int (-b)),some (.int (c*x+d*y)),some (.int (-(a*x+b*y)))]) rfl ?_⟩⟩;refine ⟨_,rfl,_,rfl,_,rfl,_,rfl,_,rfl,_,rfl,z4_,fun t ht=>⟨z3_,fun p hp=>?_⟩⟩;exact lf (F:=(c*x+d*y)) (S:=(-(a*x+b*y))) (a':=c) (b':=d) (c':=(-a)) (d':=(-b)) q h2 h1 (.inr ⟨1,(-1),.inl rfl,.inr rfl,lf_i,lf_i,lf_s,lf_s⟩) rfl lf_n z3 (((Same.new hr').trans (Same.new ht)).trans (Same.new hp)) Ze (Same.new hp _ _ Ze)
     · have z3:(c*x+d*y)≤(-(a*x+b*y)):=lf_0 hlt;clear hlt;refine ⟨_,rfl,_,rfl,_,rfl,_,rfl,_,rfl,_,rfl,z4_,fun t ht=>⟨z3_,fun p hp=>?_⟩⟩;exact lf (F:=(-(a*x+b*y))) (S:=(c*x+d*y)) (a':=(-a)) (b':=(-b)) (c':=c) (d':=d) q h1 h2 (.inl ⟨(-1),1,.inr rfl,.inl rfl,lf_s,lf_s,lf_i,lf_i⟩) lf_n rfl z3 ((Same.new ht).trans (Same.new hp)) Ze (Same.new hp _ _ Ze)
 · have h1:0≤(a*x+b*y):=lf_0 hlt;clear hlt;refine ⟨_,rfl,(c*x+d*y),0,rfl,rfl,_,rfl,ite2 (fun hlt=>?_) (fun hlt=>?_)⟩
   · have h2:0≤(-(c*x+d*y)):=lf_1 hlt;clear hlt;refine ⟨_,rfl,(c*x+d*y),rfl,_,rfl,c,rfl,_,rfl,d,rfl,_,_,_,rfl,Xq (σ':=[some (.ref m),some (.int x),some (.int y),some (.int a),some (.int b),some (.int (-c)),some (.int (-d)),some (.int (a*x+b*y)),some (.int (-(c*x+d*y)))]) rfl ?_⟩;refine ⟨_,rfl,_,rfl,(a*x+b*y),(-(c*x+d*y)),rfl,rfl,_,rfl,ite2 (fun hlt=>?_) (fun hlt=>?_)⟩
     · have z3:(a*x+b*y)≤(-(c*x+d*y)):=lf_2 hlt;clear hlt;refine ⟨_,rfl,_,rfl,_,rfl,_,rfl,_,rfl,_,rfl,by show 6≤sizeLine;decide,fun r hr'=>⟨r,_,rfl,SqT.of Ze,rfl,_,_,rfl,_,_,rfl,_,_,rfl,_,_,rfl,_,_,rfl,_,_,rfl,rfl,Xq (σ':=[some (.ref m),some (.int x),some (.int y),some (.int (-c)),some (.int (-d)),some (.int a),some (.int b),some (.int (-(c*x+d*y))),some (.int (a*x+b*y))]) rfl ?_⟩⟩;refine ⟨_,rfl,_,rfl,_,rfl,_,rfl,_,rfl,_,rfl,z4_,fun t ht=>⟨z3_,fun p hp=>?_⟩⟩;exact lf (F:=(-(c*x+d*y))) (S:=(a*x+b*y)) (a':=(-c)) (b':=(-d)) (c':=a) (d':=b) q h2 h1 (.inr ⟨(-1),1,.inr rfl,.inl rfl,lf_s,lf_s,lf_i,lf_i⟩) lf_n rfl z3 (((Same.new hr').trans (Same.new ht)).trans (Same.new hp)) Ze (Same.new hp _ _ Ze)
     · have z3:(-(c*x+d*y))≤(a*x+b*y):=lf_0 hlt;clear hlt;refine ⟨_,rfl,_,rfl,_,rfl,_,rfl,_,rfl,_,rfl,z4_,fun t ht=>⟨z3_,fun p hp=>?_⟩⟩;exact lf (F:=(a*x+b*y)) (S:=(-(c*x+d*y))) (a':=a) (b':=b) (c':=(-c)) (d':=(-d)) q h1 h2 (.inl ⟨1,(-1),.inl rfl,.inr rfl,lf_i,lf_i,lf_s,lf_s⟩) rfl lf_n z3 ((Same.new ht).trans (Same.new hp)) Ze (Same.new hp _ _ Ze)
   · have h2:0≤(c*x+d*y):=lf_0 hlt;clear hlt;refine ⟨_,rfl,_,rfl,(a*x+b*y),(c*x+d*y),rfl,rfl,_,rfl,ite2 (fun hlt=>?_) (fun hlt=>?_)⟩
     · have z3:(a*x+b*y)≤(c*x+d*y):=lf_2 hlt;clear hlt;refine ⟨_,rfl,_,rfl,_,rfl,_,rfl,_,rfl,_,rfl,by show 6≤sizeLine;decide,fun r hr'=>⟨r,_,rfl,SqT.of Ze,rfl,_,_,rfl,_,_,rfl,_,_,rfl,_,_,rfl,_,_,rfl,_,_,rfl,rfl,Xq (σ':=[some (.ref m),some (.int x),some (.int y),some (.int c),some (.int d),some (.int a),some (.int b),some (.int (c*x+d*y)),some (.int (a*x+b*y))]) rfl ?_⟩⟩;refine ⟨_,rfl,_,rfl,_,rfl,_,rfl,_,rfl,_,rfl,z4_,fun t ht=>⟨z3_,fun p hp=>?_⟩⟩;exact lf (F:=(c*x+d*y)) (S:=(a*x+b*y)) (a':=c) (b':=d) (c':=a) (d':=b) q h2 h1 (.inr ⟨1,1,.inl rfl,.inl rfl,lf_i,lf_i,lf_i,lf_i⟩) rfl rfl z3 (((Same.new hr').trans (Same.new ht)).trans (Same.new hp)) Ze (Same.new hp _ _ Ze)
     · have z3:(c*x+d*y)≤(a*x+b*y):=lf_0 hlt;clear hlt;refine ⟨_,rfl,_,rfl,_,rfl,_,rfl,_,rfl,_,rfl,z4_,fun t ht=>⟨z3_,fun p hp=>?_⟩⟩;exact lf (F:=(a*x+b*y)) (S:=(c*x+d*y)) (a':=a) (b':=b) (c':=c) (d':=d) q h1 h2 (.inl ⟨1,1,.inl rfl,.inl rfl,lf_i,lf_i,lf_i,lf_i⟩) rfl rfl z3 ((Same.new ht).trans (Same.new hp)) Ze (Same.new hp _ _ Ze)
abbrev Zay:Stmt:=top 6
theorem Zf5 (F:Fun K "shrinking" "shrinking" Zay f fd) (Cm_:a0_ P w K mg base) (Cf_:a1_ P w K mg base):FnOk P w K mg base CX0 2 f fd ["one","other"] (Zag 0):=by
 have sc:FnScope ["one","other","half","first","second","a","b","c","d","cut","e","f","g","h"] ["one","other"] (Zf Zay):=fsc (by decide +kernel);refine F.ok sc (fun vs H Q E h=>by obtain ⟨X,Y,rfl,_⟩:=h;rfl) fun cdv A outer s H vs Q E hr h=>?_;obtain ⟨X,Y,rfl,hY,hX,hX9,q⟩:=h;have nd:=sc.nd;refine' ⟨_,?term,?read⟩
 case term=>refine' @Zc _ _ _ _ _ ?g1 ?g2;(case g1=>refine' @Zv _ _ (2) _ _ _ _ nd rfl (Or.inl rfl) ?g3 (by rfl) (by first|exact Or.inl rfl|exact Or.inr rfl|assumption);case g3=>refine' @Zm _ _ _ _ _ _ _ _ Yc ?g4 Zg;case g4=>refine' @Za1 _ _ _ _ _ _ _ _ _ PySem.F.plainAttrs_int PySem.F.slot_int_bit_length PySem.F.type_int_bit_length X3 (pv 0) (by rfl) (by rfl));case g2=>refine' @Zc _ _ _ _ _ ?g5 ?g6;(case g5=>refine' @Yv _ _ _ _ _ _ _ _ (Zq Zrw (pv 2) (Zm Yc (Zeg T.n_FEW_BITS rfl) Zg) (Zw _)) (Zh (Zn (Zj Cm_ hr (by decide) rfl (Za (pv 0) (Za (pv 1) Zb rfl) rfl)))) Z3);case g6=>refine' @Zc _ _ _ _ _ ?g7 ?g8;(case g7=>refine' @Yn _ _ _ _ _ _ (Zj Cf_ hr (by decide) rfl (Za Zk1 (Za (pv 0) (Za (pv 1) Zb rfl) rfl) rfl)) ?g9 (by rfl) (by rfl) (by rfl);case g9=>refine' @Zy _ _ _ _ _ (3) rfl ?ga (by rfl) (by rfl);case ga=>refine' @Zd _ _ _ _ _ (Zi (i:=3) nd rfl (Or.inl rfl)) ?gb (by rfl);case gb=>refine' @Zd _ _ _ _ _ (Zi (i:=4) nd rfl (Or.inl rfl)) ?gc (by rfl);case gc=>refine' @Zd _ _ _ _ _ ?gd Zr (by rfl);case gd=>refine' @Zy _ _ _ _ _ (4) rfl (Zd (Zi (i:=5) nd rfl (Or.inl rfl)) (Zd (Zi (i:=6) nd rfl (Or.inl rfl)) (Zd (Zi (i:=7) nd rfl (Or.inl rfl)) (Zd (Zi (i:=8) nd rfl (Or.inl rfl)) Zr)))) (by rfl) (by rfl));case g8=>refine' @Zc _ _ _ _ _ ?ge ?gf;(case ge=>refine' @Zv _ _ (9) _ _ _ _ nd rfl (Or.inl rfl) ?gg (by rfl) (by first|exact Or.inl rfl|exact Or.inr rfl|assumption);case gg=>refine' @Zk _ _ _ _ _ _ _ _ _ (Zcb rfl) rfl T.b_max Zjt ?gh (by decide) (by decide) (by rfl) (by rfl);case gh=>refine' @Za _ _ _ _ _ ?gi (Za Zg Zb rfl) rfl;case gi=>refine' @Zm _ _ _ _ _ _ _ _ Zau ?gj (pv 2);case gj=>refine' @Za1 _ _ _ _ _ _ _ _ _ PySem.F.plainAttrs_int PySem.F.slot_int_bit_length PySem.F.type_int_bit_length X3 (pv 3) (by rfl) (by rfl));case gf=>refine' @Zc _ _ _ _ _ ?gk ?gl;(case gk=>refine' @Yn _ _ _ _ _ _ Zk1 ?gm (by rfl) (by rfl) (by rfl);case gm=>refine' @Zy _ _ _ _ _ (4) rfl (Zd (Zi (i:=10) nd rfl (Or.inl rfl)) (Zd (Zi (i:=11) nd rfl (Or.inl rfl)) (Zd (Zi (i:=12) nd rfl (Or.inl rfl)) (Zd (Zi (i:=13) nd rfl (Or.inl rfl)) Zr)))) (by rfl) (by rfl));case gl=>refine' @Zh _ _ _ ?gn;case gn=>refine' @Zn _ _ _ _ ?go;case go=>refine' @Zu _ _ _ _ _ ?gp;case gp=>refine' @Za _ _ _ _ _ (Zm Yx (Zm Zx (pv 10) (pv 5)) (Zm Zx (pv 11) (pv 7))) (Za (Zm Yx (Zm Zx (pv 10) (pv 6)) (Zm Zx (pv 11) (pv 8))) (Za (Zm Yx (Zm Zx (pv 12) (pv 5)) (Zm Zx (pv 13) (pv 7))) (Za (Zm Yx (Zm Zx (pv 12) (pv 6)) (Zm Zx (pv 13) (pv 8))) Zb rfl) rfl) rfl) rfl
 refine ⟨_,rfl,rfl,_,rfl,rfl,_,_,rfl,rfl,Zlc,Xq (σ':=[some (.int X),some (.int Y),some (.int ((Builtin.Int.intBits (X:Int))/2:Nat)),none,none,none,none,none,none,none,none,none,none,none]) (by rw [Ziz];rfl) ?_⟩;have hB:=HG.isb_bits X;have hN:(Builtin.Int.intBits (X:Int))≤201*2^0:=Xn (show ((X:Int)).natAbs<2^(201*2^0) from hX) (by decide);have hN9:(Builtin.Int.intBits (X:Int))≤900000:=Xn (show ((X:Int)).natAbs<2^900000 from hX9) (by decide);refine ⟨_,rfl,200,2,rfl,rfl,Zlc,((Builtin.Int.intBits (X:Int))/2:Nat),_,rfl,rfl,_,rfl,ite2 (fun hlt=>?_) (fun hlt=>?_)⟩
 · have h1:(Builtin.Int.intBits (X:Int))≤201:=by have:=n37_ hlt;rw [show (200:Int).fdiv 2=100 by decide] at this;omega
   exact ⟨_,rfl,_,rfl,X,Y,rfl,hY,n10_ hB.lt (HG.pw h1),hX9,q⟩
 · have h1:101≤(Builtin.Int.intBits (X:Int))/2:=by have:=of_decide_eq_false (Bool.eq_false_iff.mpr hlt);rw [show (200:Int).fdiv 2=100 by decide] at this;omega
   clear hlt;omega
abbrev Zc4:Stmt:=top 6
theorem Yt {n:Nat} (F:Fun K "shrinking" "shrinking" Zc4 f fd) (Cm_:a0_ P w K mg base) (Cf_:a1_ P w K mg base) (Cr_:Cal P w K mg base "shrinking" (n+2) ["one","other"] (Zag n)):FnOk P w K mg base CX0 (n+3) f fd ["one","other"] (Zag (n+1)):=by
 have sc:FnScope ["one","other","half","first","second","a","b","c","d","cut","e","f","g","h"] ["one","other"] (Zf Zc4):=fsc (by decide +kernel);refine F.ok sc (fun vs H Q E h=>by obtain ⟨X,Y,rfl,_⟩:=h;rfl) fun cdv A outer s H vs Q E hr h=>?_;obtain ⟨X,Y,rfl,hY,hX,hX9,q⟩:=h;have nd:=sc.nd;refine' ⟨_,?term,?read⟩
 case term=>refine' @Zc _ _ _ _ _ ?g1 ?g2;(case g1=>refine' @Zv _ _ (2) _ _ _ _ nd rfl (Or.inl rfl) ?g3 (by rfl) (by first|exact Or.inl rfl|exact Or.inr rfl|assumption);case g3=>refine' @Zm _ _ _ _ _ _ _ _ Yc ?g4 Zg;case g4=>refine' @Za1 _ _ _ _ _ _ _ _ _ PySem.F.plainAttrs_int PySem.F.slot_int_bit_length PySem.F.type_int_bit_length X3 (pv 0) (by rfl) (by rfl));case g2=>refine' @Zc _ _ _ _ _ ?g5 ?g6;(case g5=>refine' @Yv _ _ _ _ _ _ _ _ (Zq Zrw (pv 2) (Zm Yc (Zeg T.n_FEW_BITS rfl) Zg) (Zw _)) (Zh (Zn (Zj Cm_ hr (by omega) rfl (Za (pv 0) (Za (pv 1) Zb rfl) rfl)))) Z3);case g6=>refine' @Zc _ _ _ _ _ ?g7 ?g8;(case g7=>refine' @Yn _ _ _ _ _ _ (Zj Cf_ hr (by omega) rfl (Za (Zj Cr_ hr (by omega) rfl (Za (Zm Ze2 (pv 0) (pv 2)) (Za (Zm Ze2 (pv 1) (pv 2)) Zb rfl) rfl)) (Za (pv 0) (Za (pv 1) Zb rfl) rfl) rfl)) ?g9 (by rfl) (by rfl) (by rfl);case g9=>refine' @Zy _ _ _ _ _ (3) rfl ?ga (by rfl) (by rfl);case ga=>refine' @Zd _ _ _ _ _ (Zi (i:=3) nd rfl (Or.inl rfl)) ?gb (by rfl);case gb=>refine' @Zd _ _ _ _ _ (Zi (i:=4) nd rfl (Or.inl rfl)) ?gc (by rfl);case gc=>refine' @Zd _ _ _ _ _ ?gd Zr (by rfl);case gd=>refine' @Zy _ _ _ _ _ (4) rfl (Zd (Zi (i:=5) nd rfl (Or.inl rfl)) (Zd (Zi (i:=6) nd rfl (Or.inl rfl)) (Zd (Zi (i:=7) nd rfl (Or.inl rfl)) (Zd (Zi (i:=8) nd rfl (Or.inl rfl)) Zr)))) (by rfl) (by rfl));case g8=>refine' @Zc _ _ _ _ _ ?ge ?gf;(case ge=>refine' @Zv _ _ (9) _ _ _ _ nd rfl (Or.inl rfl) ?gg (by rfl) (by first|exact Or.inl rfl|exact Or.inr rfl|assumption);case gg=>refine' @Zk _ _ _ _ _ _ _ _ _ (Zcb rfl) rfl T.b_max Zjt ?gh (by decide) (by decide) (by rfl) (by rfl);case gh=>refine' @Za _ _ _ _ _ ?gi (Za Zg Zb rfl) rfl;case gi=>refine' @Zm _ _ _ _ _ _ _ _ Zau ?gj (pv 2);case gj=>refine' @Za1 _ _ _ _ _ _ _ _ _ PySem.F.plainAttrs_int PySem.F.slot_int_bit_length PySem.F.type_int_bit_length X3 (pv 3) (by rfl) (by rfl));case gf=>refine' @Zc _ _ _ _ _ ?gk ?gl;(case gk=>refine' @Yn _ _ _ _ _ _ (Zj Cr_ hr (by omega) rfl (Za (Zm Ze2 (pv 3) (pv 9)) (Za (Zm Ze2 (pv 4) (pv 9)) Zb rfl) rfl)) ?gm (by rfl) (by rfl) (by rfl);case gm=>refine' @Zy _ _ _ _ _ (4) rfl (Zd (Zi (i:=10) nd rfl (Or.inl rfl)) (Zd (Zi (i:=11) nd rfl (Or.inl rfl)) (Zd (Zi (i:=12) nd rfl (Or.inl rfl)) (Zd (Zi (i:=13) nd rfl (Or.inl rfl)) Zr)))) (by rfl) (by rfl));case gl=>refine' @Zh _ _ _ ?gn;case gn=>refine' @Zn _ _ _ _ ?go;case go=>refine' @Zu _ _ _ _ _ ?gp;case gp=>refine' @Za _ _ _ _ _ (Zm Yx (Zm Zx (pv 10) (pv 5)) (Zm Zx (pv 11) (pv 7))) (Za (Zm Yx (Zm Zx (pv 10) (pv 6)) (Zm Zx (pv 11) (pv 8))) (Za (Zm Yx (Zm Zx (pv 12) (pv 5)) (Zm Zx (pv 13) (pv 7))) (Za (Zm Yx (Zm Zx (pv 12) (pv 6)) (Zm Zx (pv 13) (pv 8))) Zb rfl) rfl) rfl) rfl
 refine ⟨_,rfl,rfl,_,rfl,rfl,_,_,rfl,rfl,Zlc,Xq (σ':=[some (.int X),some (.int Y),some (.int ((Builtin.Int.intBits (X:Int))/2:Nat)),none,none,none,none,none,none,none,none,none,none,none]) (by rw [Ziz];rfl) ?_⟩;have hB:=HG.isb_bits X;have hN:(Builtin.Int.intBits (X:Int))≤201*2^(n+1):=Xn (show ((X:Int)).natAbs<2^(201*2^(n+1)) from hX) (Nat.mul_pos (by decide) (n62_ _));have hN9:(Builtin.Int.intBits (X:Int))≤900000:=Xn (show ((X:Int)).natAbs<2^900000 from hX9) (by decide);refine ⟨_,rfl,200,2,rfl,rfl,Zlc,((Builtin.Int.intBits (X:Int))/2:Nat),_,rfl,rfl,_,rfl,ite2 (fun hlt=>?_) (fun hlt=>?_)⟩
 · have h1:(Builtin.Int.intBits (X:Int))≤201:=by have:=n37_ hlt;rw [show (200:Int).fdiv 2=100 by decide] at this;omega
   exact ⟨_,rfl,_,rfl,X,Y,rfl,hY,n10_ hB.lt (HG.pw h1),hX9,q⟩
 · have h1:101≤(Builtin.Int.intBits (X:Int))/2:=by have:=of_decide_eq_false (Bool.eq_false_iff.mpr hlt);rw [show (200:Int).fdiv 2=100 by decide] at this;omega
   clear hlt;have p2:=Nat.pow_succ (n:=2) (m:=n);have hD:=HG.isb_div hB (show (Builtin.Int.intBits (X:Int))/2<(Builtin.Int.intBits (X:Int)) by omega);have eD:=HG.isb_uniq (HG.isb_bits _) hD;have lD:X/2^((Builtin.Int.intBits (X:Int))/2)<2^(201*2^n):=n10_ hD.lt (HG.pw (by omega));refine ⟨_,rfl,_,rfl,X,((Builtin.Int.intBits (X:Int))/2:Nat),rfl,rfl,nn _,_,rfl,_,rfl,Y,((Builtin.Int.intBits (X:Int))/2:Nat),rfl,rfl,nn _,X/2^((Builtin.Int.intBits (X:Int))/2),Y/2^((Builtin.Int.intBits (X:Int))/2),by rw [Zfn,Zfn],Nat.div_le_div_right hY,lD,n12_ (Nat.div_le_self _ _) hX9,fun p1 H1 a b c d s1 k1 g1=>?_⟩;rw [eD] at g1;obtain ⟨i1,i2,i3,i4⟩:=Zot g1 (by omega);refine ⟨_,rfl,_,rfl,p1,X,Y,a,b,c,d,rfl,k1,⟨i1,i2,i3,i4,hX9,n12_ hY hX9⟩,fun p2 t2 H2 f s a' b' c' d' s2 k2 k3 mb e1 e2 le=>?_⟩;have g2:=g1.mb mb;obtain ⟨j1,j2,j3,j4⟩:=Zot g2 (by omega);refine ⟨p2,_,rfl,SqT.of k2,rfl,_,_,rfl,_,_,rfl,_,_,rfl,t2,_,rfl,SqT.of k3,rfl,_,_,rfl,_,_,rfl,_,_,rfl,_,_,rfl,rfl,rfl,Xq (σ':=[some (.int X),some (.int Y),some (.int ((Builtin.Int.intBits (X:Int))/2:Nat)),some (.int f),some (.int s),some (.int a'),some (.int b'),some (.int c'),some (.int d'),none,none,none,none,none]) rfl ?_⟩;have hF:=HG.isb_bits f;generalize hcut:Builtin.Int.intBits (f:Int)-(Builtin.Int.intBits (X:Int))/2=cut;refine ⟨_,rfl,rfl,_,rfl,rfl,_,rfl,_,_,rfl,rfl,_,_,rfl,Xq (σ':=[some (.int X),some (.int Y),some (.int ((Builtin.Int.intBits (X:Int))/2:Nat)),some (.int f),some (.int s),some (.int a'),some (.int b'),some (.int c'),some (.int d'),some (.int (cut:Nat)),none,none,none,none]) (by rw [← hcut,Zsx];rfl) ?_⟩
   have lF:f/2^cut<2^((Builtin.Int.intBits (X:Int))/2):=by
    refine (Nat.div_lt_iff_lt_mul (n62_ _)).mpr (n10_ hF.lt ?_);rw [← n63_];exact HG.pw (by omega)
   refine ⟨_,rfl,_,rfl,f,(cut:Nat),rfl,rfl,nn _,_,rfl,_,rfl,s,(cut:Nat),rfl,rfl,nn _,f/2^cut,s/2^cut,by rw [Zfn,Zfn],Nat.div_le_div_right le,n10_ lF (HG.pw (by omega)),n10_ lF (HG.pw (by omega)),fun p3 H3 e g k l s3 k4 g3=>?_⟩;obtain ⟨m1,m2,m3,m4⟩:=Zot g3 (n28_ (Xn (show ((f/2^cut:Nat):Int).natAbs<_ from lF) (by omega)) (by omega));refine ⟨p3,_,rfl,SqT.of k4,rfl,_,_,rfl,_,_,rfl,_,_,rfl,_,_,rfl,rfl,Xq (σ':=[some (.int X),some (.int Y),some (.int ((Builtin.Int.intBits (X:Int))/2:Nat)),some (.int f),some (.int s),some (.int a'),some (.int b'),some (.int c'),some (.int d'),some (.int (cut:Nat)),some (.int e),some (.int g),some (.int k),some (.int l)]) rfl ?_⟩;refine ⟨_,rfl,_,rfl,_,_,rfl,rfl,⟨up9 m1,up9 j1⟩,_,rfl,_,rfl,_,_,rfl,rfl,⟨up9 m2,up9 j3⟩,_,_,rfl,rfl,_,rfl,_,rfl,_,_,rfl,rfl,⟨up9 m1,up9 j2⟩,_,rfl,_,rfl,_,_,rfl,rfl,⟨up9 m2,up9 j4⟩,_,_,rfl,rfl,_,rfl,_,rfl,_,_,rfl,rfl,⟨up9 m3,up9 j1⟩,_,rfl,_,rfl,_,_,rfl,rfl,⟨up9 m4,up9 j3⟩,_,_,rfl,rfl,_,rfl,_,rfl,_,_,rfl,rfl,⟨up9 m3,up9 j2⟩,_,rfl,_,rfl,_,_,rfl,rfl,⟨up9 m4,up9 j4⟩,_,_,rfl,rfl,z4_,fun p4 hp4=>?_⟩;exact q p4 _ _ _ _ _ (((s1.trans s2).trans s3).trans (Same.new hp4)) Ze (HG.Gd.comp hB hY rfl h1 g2 e1 e2 le hF hcut.symm (HG.isb_bits _) g3)
abbrev Zcp:Stmt:=top 7
theorem Zi2 (F:Fun K "divisor" "divisor" Zcp f fd) (Cf_:a1_ P w K mg base) (Cg_:a2_ P w K mg base) (Cad_:a3_ P w K mg base):FnOk P w K mg base CX0 10 f fd ["one","other"] Zd3:=by
 have sc:FnScope ["one","other","half"] ["one","other"] (Zf Zcp):=fsc (by decide +kernel);refine F.ok sc (fun vs H Q E h=>by obtain ⟨a,b,rfl,_⟩:=h;rfl) fun cdv A outer s H vs Q E hr h=>?_;obtain ⟨a,b,rfl,hb,q⟩:=h;have nd:=sc.nd;refine' ⟨_,?term,?read⟩
 case term=>refine' @Zc _ _ _ _ _ ?g1 (Zh (Zn (Zj Cg_ hr (by decide) rfl (Za (pv 0) (Za (pv 1) Zb rfl) rfl))));case g1=>refine' @Zbd _ _ _ _ _ _ PassesOwn.never ?g2 ?g3;(case g2=>refine' @Zq _ _ _ _ _ _ _ _ Zdi ?g4 (Zeg T.n_GREAT_BITS rfl) (Zw _);case g4=>refine' @Zk _ _ _ _ _ _ _ _ _ (Zek rfl) rfl T.b_min Zka ?g5 (by decide) (by decide) (by rfl) (by rfl);case g5=>refine' @Za _ _ _ _ _ ?g6 ?g7 rfl;(case g6=>refine' @Za1 _ _ _ _ _ _ _ _ _ PySem.F.plainAttrs_int PySem.F.slot_int_bit_length PySem.F.type_int_bit_length X3 (pv 0) (by rfl) (by rfl));case g7=>refine' @Za _ _ _ _ _ ?g8 Zb rfl;case g8=>refine' @Za1 _ _ _ _ _ _ _ _ _ PySem.F.plainAttrs_int PySem.F.slot_int_bit_length PySem.F.type_int_bit_length X3 (pv 1) (by rfl) (by rfl));case g3=>refine' @Zc _ _ _ _ _ ?g9 ?ga;(case g9=>refine' @Zb9 _ _ (0) (1) _ _ _ _ _ _ _ _ _ _ _ rfl nd rfl rfl (by decide) rfl rfl (Za (Zk Y2 rfl T.b_abs Zaf (Za (pv 1) Zb rfl)) (Za (Zm Xz (Zk Y2 rfl T.b_abs Zaf (Za (pv 0) Zb rfl)) (Zk Y2 rfl T.b_abs Zaf (Za (pv 1) Zb rfl))) Zb rfl) rfl) rfl (by rfl));case ga=>refine' @Zc _ _ _ _ _ ?gb ?gc;(case gb=>refine' @Zv _ _ (2) _ _ _ _ nd rfl (Or.inl rfl) ?gd (by rfl) (by first|exact Or.inl rfl|exact Or.inr rfl|assumption);case gd=>refine' @Zm _ _ _ _ _ _ _ _ Yc ?ge Zg;case ge=>refine' @Za1 _ _ _ _ _ _ _ _ _ PySem.F.plainAttrs_int PySem.F.slot_int_bit_length PySem.F.type_int_bit_length X3 (pv 0) (by rfl) (by rfl));case gc=>refine' @Zh _ _ _ ?gf;case gf=>refine' @Yn _ _ _ _ _ _ ?gg ?gh (by rfl) (by rfl) (by rfl);(case gg=>refine' @Zby _ _ _ _ _ _ _ _ _ _ Zs7 (Zj Cf_ hr (by decide) rfl (Za (Zj Cad_ hr (by decide) rfl (Za (Zm Ze2 (pv 0) (pv 2)) (Za (Zm Ze2 (pv 1) (pv 2)) Zb rfl) rfl)) (Za (pv 0) (Za (pv 1) Zb rfl) rfl) rfl)) Zeb (Zdv Zg));case gh=>refine' @Zy _ _ _ _ _ (2) rfl (Zd (Zi (i:=0) nd rfl (Or.inl rfl)) (Zd (Zi (i:=1) nd rfl (Or.inl rfl)) Zr)) (by rfl) (by rfl)
 refine Zbg (fun σ H'=>∃ (x y:Int) (u:Option V),σ=[some (.int x),some (.int y),u]∧Same H H'∧Int.gcd x y=Int.gcd a b∧y.natAbs<2^51000) (fun σ _=>match σ with|_ :: some (.int y) :: _=>y.natAbs|_=>0) ⟨a,b,none,rfl,fun _ _ h=>h,rfl,hb⟩ ?_ ?_
 · rintro σ H' ⟨x,y,u,rfl,sm,eg,ly⟩
   refine ⟨_,rfl,rfl,x,rfl,rfl,_,rfl,rfl,y,rfl,rfl,_,_,rfl,_,_,rfl,rfl,_,rfl,ite2 (fun hlt=>?_) (fun hlt=>?_)⟩
   · have hl:=n37_ hlt;clear hlt;have b4:4000<Builtin.Int.intBits y:=by split at hl<;>omega
     clear hl;have y0:y≠0:=fun z=>by rw [z] at b4;exact absurd b4 (by decide)
     have bY:Builtin.Int.intBits y=Builtin.Int.intBits ((y.natAbs:Nat):Int):=by unfold Builtin.Int.intBits;simp
     rw [bY] at b4;have hp:0<y.natAbs:=Int.natAbs_pos.mpr y0;refine ⟨_,rfl,y,rfl,_,rfl,x,rfl,_,rfl,y,rfl,_,_,rfl,rfl,by rw [← Zmc];omega,_,_,rfl,Xq (σ':=[some (.int (y.natAbs:Nat)),some (.int (x.natAbs % y.natAbs:Nat)),u]) (by rw [Zo9,Zmc,Zmc];rfl) ?_⟩;have ml:=Nat.mod_lt x.natAbs hp
     have eg2:Nat.gcd y.natAbs (x.natAbs % y.natAbs)=Int.gcd a b:=by
      rw [← eg,Nat.gcd_comm,← Nat.gcd_rec,Nat.gcd_comm];rfl
     generalize x.natAbs % y.natAbs=r at *;generalize hYe:y.natAbs=Y at *;have hB:=HG.isb_bits Y;have hN:Builtin.Int.intBits (Y:Int)≤51000:=Xn (show ((Y:Int)).natAbs<2^51000 from ly) (by decide);refine ⟨_,rfl,rfl,_,rfl,rfl,_,_,rfl,rfl,Zlc,Xq (σ':=[some (.int (Y:Nat)),some (.int (r:Nat)),some (.int (Builtin.Int.intBits (Y:Int)/2:Nat))]) (by rw [Ziz];rfl) ?_⟩;have hD:=HG.isb_div hB (show Builtin.Int.intBits (Y:Int)/2<Builtin.Int.intBits (Y:Int) by omega);have eD:=HG.isb_uniq (HG.isb_bits _) hD;have l9:Y<2^900000:=n10_ ly (n23_ (by decide) (by decide));refine ⟨_,rfl,_,rfl,Y,(Builtin.Int.intBits (Y:Int)/2:Nat),rfl,rfl,nn _,_,rfl,_,rfl,r,(Builtin.Int.intBits (Y:Int)/2:Nat),rfl,rfl,nn _,Y/2^(Builtin.Int.intBits (Y:Int)/2),r/2^(Builtin.Int.intBits (Y:Int)/2),by rw [Zfn,Zfn],Nat.div_le_div_right (Nat.le_of_lt ml),n10_ hD.lt (HG.pw (by omega)),n12_ (Nat.div_le_self _ _) l9,fun p1 H1 a' b' c' d' s1 k1 g1=>?_⟩;rw [eD] at g1;obtain ⟨i1,i2,i3,i4⟩:=Zot g1 (by omega);refine ⟨_,rfl,_,rfl,p1,Y,r,a',b',c',d',rfl,k1,⟨i1,i2,i3,i4,l9,Nat.lt_trans ml l9⟩,fun p2 t2 H2 f s a2 b2 c2 d2 s2 k2 k3 mb e1 e2 le=>?_⟩;have g2:=g1.mb mb;have lt:=HG.less_than hB ml (by omega) g2 e1 e2 le;refine ⟨2,rfl,p2,_,rfl,SqT.of k2,fun h=>absurd h.2 (by show ¬ ((2:Nat)=3);decide),fun p3 hp3=>?_⟩;refine ⟨p3,_,rfl,SqT.of Ze,rfl,_,_,rfl,_,_,rfl,rfl,?_⟩;exact ⟨⟨f,s,_,rfl,((sm.trans s1).trans s2).trans (Same.new hp3),by rw [← eg2];exact HG.gcd_mix g2.dt e1 e2,Nat.lt_trans lt ly⟩,by show s<y.natAbs;rw [hYe];exact lt⟩
   · exact ⟨_,rfl,_,rfl,x,y,rfl,by rw [eg];exact q _ sm⟩
 · rintro σ H' Q1 Q2 hq ⟨v1,e1,t1,i1,a1,n1,v2,e2,t2,i2,a2,n2,i,j,e3,i4,j4,e4,e5,b,e6,q'⟩
   exact ⟨v1,e1,t1,i1,a1,n1,v2,e2,t2,i2,a2,n2,i,j,e3,i4,j4,e4,e5,b,e6,hq _ _ q'⟩
abbrev Zg9:Stmt:=top 7
theorem Zk6 (F:Fun K "divisor" "divisor" Zg9 f fd) (Cg_:a2_ P w K mg base):FnOk P w K mg base CX0 2 f fd ["one","other"] Ze8:=by
 have sc:FnScope ["one","other","half"] ["one","other"] (Zf Zg9):=fsc (by decide +kernel);refine F.ok sc (fun vs H Q E h=>by obtain ⟨a,b,rfl,_⟩:=h;rfl) fun cdv A outer s H vs Q E hr h=>?_;obtain ⟨a,b,rfl,hb,q⟩:=h;refine' ⟨_,?term,?read⟩
 case term=>refine' @Zc _ _ _ _ _ ?g1 (Zh (Zn (Zj Cg_ hr (by decide) rfl (Za (pv 0) (Za (pv 1) Zb rfl) rfl))));case g1=>refine' @Zbd _ _ _ _ _ _ PassesOwn.never ?g2 Zd5;case g2=>refine' @Zq _ _ _ _ _ _ _ _ Zdi ?g3 (Zeg T.n_GREAT_BITS rfl) (Zw _);case g3=>refine' @Zk _ _ _ _ _ _ _ _ _ (Zek rfl) rfl T.b_min Zka ?g4 (by decide) (by decide) (by rfl) (by rfl);case g4=>refine' @Za _ _ _ _ _ ?g5 ?g6 rfl;(case g5=>refine' @Za1 _ _ _ _ _ _ _ _ _ PySem.F.plainAttrs_int PySem.F.slot_int_bit_length PySem.F.type_int_bit_length X3 (pv 0) (by rfl) (by rfl));case g6=>refine' @Za _ _ _ _ _ ?g7 Zb rfl;case g7=>refine' @Za1 _ _ _ _ _ _ _ _ _ PySem.F.plainAttrs_int PySem.F.slot_int_bit_length PySem.F.type_int_bit_length X3 (pv 1) (by rfl) (by rfl)
 refine Zbg (fun σ H'=>σ=[some (.int a),some (.int b),none]∧H'=H) (fun σ _=>0) ⟨rfl,rfl⟩ ?_ ?_
 · rintro σ H' ⟨rfl,rfl⟩
   refine ⟨_,rfl,rfl,_,rfl,rfl,_,rfl,rfl,_,rfl,rfl,_,_,rfl,_,_,rfl,rfl,_,rfl,?_⟩;rw [Zql hb];refine iteF ?_;exact ⟨_,rfl,_,rfl,a,b,rfl,q⟩
 · rintro σ H' Q1 Q2 hq ⟨v1,e1,t1,i1,a1,n1,v2,e2,t2,i2,a2,n2,i,j,e3,i4,j4,e4,e5,b,e6,q'⟩
   exact ⟨v1,e1,t1,i1,a1,n1,v2,e2,t2,i2,a2,n2,i,j,e3,i4,j4,e4,e5,b,e6,hq _ _ q'⟩
abbrev Zd8:Stmt:=top 16
theorem Zk4 (F:Fun K "reduced" "reduced" Zd8 f fd) (Cb_:a4_ P w K mg base):FnOk P w K mg base CX0 3 f fd ["top","bottom"] Zfd:=by
 have sc:FnScope ["top","bottom","common"] ["top","bottom"] (Zf Zd8):=fsc (by decide +kernel);refine F.ok sc (fun vs H Q E h=>by obtain ⟨t,b,rfl,_⟩:=h;rfl) fun cdv A outer s H vs Q E hr h=>?_;obtain ⟨t,b,rfl,hb,hz,q⟩:=h;have nd:=sc.nd;refine' ⟨_,?term,?read⟩
 case term=>refine' @Zc _ _ _ _ _ ?g1 ?g2;(case g1=>refine' @Zv _ _ (2) _ _ _ _ nd rfl (Or.inl rfl) (Zj Cb_ hr (by decide) rfl (Za (pv 0) (Za (pv 1) Zb rfl) rfl)) (by rfl) (by first|exact Or.inl rfl|exact Or.inr rfl|assumption));case g2=>refine' @Zc _ _ _ _ _ ?g3 (Zh (Zn (Zu (Za (Zm Yc (pv 0) (pv 2)) (Za (Zm Yc (pv 1) (pv 2)) Zb rfl) rfl))));case g3=>refine' @Yv _ _ _ _ _ _ _ _ (Zq Zhp (pv 1) Zg (Zw _)) ?g4 Z3;case g4=>refine' @Zh _ _ _ ?g5;case g5=>refine' @Zv _ _ (2) _ _ _ _ nd rfl (Or.inl rfl) (Zf1 Zb7 (pv 2)) (by rfl) (by first|exact Or.inl rfl|exact Or.inr rfl|assumption)
 refine ⟨_,rfl,_,rfl,t,b,rfl,hz,?_⟩;have hg:=FM.gcd_ne (t:=t) hb;have hgz:(Int.gcd t b)<2^8999:=n12_ (Nat.gcd_le_right _ (Int.natAbs_pos.mpr hb)) (Zqd hz);have hsg:FM.sg t b≠0:=FM.sg_ne hb
 have hsz:(FM.sg t b).natAbs<2^8999:=by
  unfold FM.sg;split
  · rw [Int.natAbs_neg];exact hgz
  · exact hgz
 have fin:∀ g:Int,g=FM.sg t b→∀ p,H p=none→Q (.ref p) (upd H p (.tup [.int (t.fdiv g),.int (b.fdiv g)])):=by
  rintro g rfl p hp
  rw [FM.fdiv_num hb,FM.fdiv_den hb];exact q p _ (Same.new hp) Ze
 refine ⟨_,rfl,_,_,rfl,rfl,_,rfl,?_⟩;refine ite2 (fun hlt=>?_) (fun hlt=>?_)
 · have hlt':b<0:=n37_ hlt;have e:-(Int.gcd t b:Int)=FM.sg t b:=by unfold FM.sg;rw [if_pos hlt']
   refine ⟨_,rfl,_,rfl,?_⟩;refine ⟨_,rfl,_,rfl,t,_,rfl,rfl,⟨by rw [e];exact hsg,by rw [e];exact hsz⟩,_,rfl,_,rfl,b,_,rfl,rfl,⟨by rw [e];exact hsg,by rw [e];exact hsz⟩,z2_,?_⟩;exact fin _ e
 · have hlt':¬ b<0:=fun z=>hlt (n32_ z);have e:(Int.gcd t b:Int)=FM.sg t b:=by unfold FM.sg;rw [if_neg hlt']
   refine ⟨_,rfl,_,rfl,t,_,rfl,rfl,⟨by rw [e];exact hsg,by rw [e];exact hsz⟩,_,rfl,_,rfl,b,_,rfl,rfl,⟨by rw [e];exact hsg,by rw [e];exact hsz⟩,z2_,?_⟩;exact fin _ e
abbrev Zfo:Stmt:=top 16
theorem Zit (F:Fun K "reduced" "reduced" Zfo f fd) (PT:P.given.tree=none) (Co_:a5_ P w K mg base):FnOk P w K mg base CX0 40 f fd ["top","bottom"] Zdq:=by
 have sc:FnScope ["top","bottom","common"] ["top","bottom"] (Zf Zfo):=fsc (by decide +kernel);refine F.ok sc (fun vs H Q E h=>by obtain ⟨t,b,rfl,_⟩:=h;rfl) fun cdv A outer s H vs Q E hr h=>?_;obtain ⟨t,b,rfl,hb,hz,q⟩:=h;have nd:=sc.nd;refine' ⟨_,?term,?read⟩
 case term=>refine' @Zc _ _ _ _ _ ?g1 ?g2;(case g1=>refine' @Zv _ _ (2) _ _ _ _ nd rfl (Or.inl rfl) (Zj Co_ hr (by decide) rfl (Za (pv 0) (Za (pv 1) Zb rfl) rfl)) (by rfl) (by first|exact Or.inl rfl|exact Or.inr rfl|assumption));case g2=>refine' @Zc _ _ _ _ _ ?g3 (Zh (Zn (Zu (Za (Zm (Zbx PT rfl rfl rfl (Zod hr)) (pv 0) (pv 2)) (Za (Zm (Zbx PT rfl rfl rfl (Zod hr)) (pv 1) (pv 2)) Zb rfl) rfl))));case g3=>refine' @Yv _ _ _ _ _ _ _ _ (Zq Zhp (pv 1) Zg (Zw _)) ?g4 Z3;case g4=>refine' @Zh _ _ _ ?g5;case g5=>refine' @Zv _ _ (2) _ _ _ _ nd rfl (Or.inl rfl) (Zf1 Zb7 (pv 2)) (by rfl) (by first|exact Or.inl rfl|exact Or.inr rfl|assumption)
 refine ⟨_,rfl,_,rfl,t,b,rfl,n10_ hz (n23_ (by decide) (by decide)),fun H1 s1=>?_⟩;have hg:=FM.gcd_ne (t:=t) hb;have hsg:FM.sg t b≠0:=FM.sg_ne hb
 have fin:∀ g:Int,g=FM.sg t b→∀ p,H1 p=none→Q (.ref p) (upd H1 p (.tup [.int (t.fdiv g),.int (b.fdiv g)])):=by
  rintro g rfl p hp
  rw [FM.fdiv_num hb,FM.fdiv_den hb];exact q p _ (s1.trans (Same.new hp)) Ze
 refine ⟨_,rfl,_,_,rfl,rfl,_,rfl,?_⟩;refine ite2 (fun hlt=>?_) (fun hlt=>?_)
 · have hlt':b<0:=n37_ hlt;have e:-(Int.gcd t b:Int)=FM.sg t b:=by unfold FM.sg;rw [if_pos hlt']
   refine ⟨_,rfl,_,rfl,?_⟩;refine ⟨_,rfl,_,rfl,t,_,rfl,rfl,by rw [e];exact hsg,_,rfl,_,rfl,b,_,rfl,rfl,by rw [e];exact hsg,z2_,?_⟩;exact fin _ e
 · have hlt':¬ b<0:=fun z=>hlt (n32_ z);have e:(Int.gcd t b:Int)=FM.sg t b:=by unfold FM.sg;rw [if_neg hlt']
   refine ⟨_,rfl,_,rfl,t,_,rfl,rfl,by rw [e];exact hsg,_,rfl,_,rfl,b,_,rfl,rfl,by rw [e];exact hsg,z2_,?_⟩;exact fin _ e
abbrev Zc0:Stmt:=top 15
theorem Zi7 (F:Fun K "multiple" "multiple" Zc0 f fd) (Cb_:a4_ P w K mg base):FnOk P w K mg base CX0 3 f fd ["bottoms"] Zkz:=by
 have sc:FnScope ["bottoms","many","bottom"] ["bottoms"] (Zf Zc0):=fsc (by decide +kernel);refine F.ok sc (fun vs H Q E h=>by obtain ⟨l,ds,k,rfl,_⟩:=h;rfl) fun cdv A outer s H vs Q E hr h=>?_;obtain ⟨l,ds,k,rfl,hl,hd,hk4,h9,q⟩:=h;have nd:=sc.nd;refine' ⟨_,?term,?read⟩
 case term=>refine' @Zc _ _ _ _ _ ?g1 ?g2;(case g1=>refine' @Zv _ _ (1) _ _ _ _ nd rfl (Or.inl rfl) Zg (by rfl) (by first|exact Or.inl rfl|exact Or.inr rfl|assumption));case g2=>refine' @Zc _ _ _ _ _ ?g3 (Zh (Zn (pv 1)));case g3=>refine' @Xi _ _ _ _ _ _ _ _ PassesOwn.never rfl (Yi (pv 0)) (Zi (i:=2) nd rfl (Or.inl rfl)) ?g4 (by intro _ ;rfl);case g4=>refine' @Zh _ _ _ ?g5;case g5=>refine' @Zv _ _ (1) _ _ _ _ nd rfl (Or.inl rfl) (Zm Zx (Zm Yc (pv 1) (Zj Cb_ hr (by decide) rfl (Za (pv 1) (Za (pv 2) Zb rfl) rfl))) (pv 2)) (by rfl) (by first|exact Or.inl rfl|exact Or.inr rfl|assumption)
 refine ⟨_,rfl,l,rfl,⟨_,SqL.of hl⟩,?_⟩;refine Xr (n:=ds.length) (fun i σ H2=>H2=H∧∃ (x:Option V),σ=[some (.ref l),some (.int (lcmL (ds.take i))),x]) ⟨rfl,_,rfl⟩ (fun i σ H2 hi p=>⟨_,V.int ds[i],SqL.of (p.1 ▸ hl),by simp [hi]⟩) (fun σ H2 p=>⟨_,SqL.of (p.1 ▸ hl),by simp⟩) (fun i x σ H2 H3 hi y p=>?_) (fun σ H2 p=>?_)
 · obtain ⟨rfl,x',rfl⟩:=p;obtain ⟨rfl,y2⟩:=y;have ex:=y2 _ (SqL.of hl);rw [n8_,n0_ hi] at ex;cases ex
   obtain ⟨b0,b64⟩:=hd ds[i] (n13_ hi);have hm:=(Xd (ds.take i) fun x hx=>(hd x (n67_ hx)).1).1;have sz:=Zcx (k:=k) (ds.take i) fun x hx=>hd x (n67_ hx);have ki:k*(ds.take i).length≤900000:=n28_ (n53_ k (by rw [n96_];omega)) h9;have hg:=FM.gcd_ne (t:=lcmL (ds.take i)) (b:=ds[i]) (by omega);have gz:(Int.gcd (lcmL (ds.take i)) ds[i])<2^k:=n12_ (Nat.gcd_le_right _ (by omega)) b64;have st:=Zed hm b0;refine ⟨_,rfl,_,rfl,_,rfl,_,ds[i],rfl,up 4000 b64 hk4,_,_,rfl,rfl,⟨hg,up 8999 gz (by omega)⟩,_,rfl,_,_,rfl,rfl,⟨up 1000000 (n12_ st.2.2.2.1 sz) (by omega),up 1000000 b64 (by omega)⟩,?_⟩;refine ⟨rfl,some (.int ds[i]),?_⟩;rw [n36_ hi,Zee];rfl
 · obtain ⟨rfl,x',rfl⟩:=p;rw [n61_];exact ⟨_,rfl,q⟩
abbrev Zbl:Stmt:=top 26
theorem Zh9 (F:Fun K "in_common" "in_common" Zbl f fd) (Cb_:a4_ P w K mg base):FnOk P w K mg base CX0 3 f fd ["parts","known"] Zeh:=by
 have sc:FnScope ["parts","known","common","part"] ["parts","known"] (Zf Zbl):=fsc (by decide +kernel);refine F.ok sc (fun vs H Q E h=>by obtain ⟨l,ps,k,rfl,_⟩:=h;rfl) fun cdv A outer s H vs Q E hr h=>?_;obtain ⟨l,ps,k,rfl,hl,hG,q⟩:=h;have nd:=sc.nd;refine' ⟨_,?term,?read⟩
 case term=>refine' @Zc _ _ _ _ _ ?g1 ?g2;(case g1=>refine' @Zv _ _ (2) _ _ _ _ nd rfl (Or.inl rfl) (Zk Y2 rfl T.b_abs Zaf (Za (pv 1) Zb rfl)) (by rfl) (by first|exact Or.inl rfl|exact Or.inr rfl|assumption));case g2=>refine' @Zc _ _ _ _ _ ?g3 (Zh (Zn (pv 2)));case g3=>refine' @Xi _ _ _ _ _ _ _ _ PassesOwn.never rfl (Yi (pv 0)) (Zi (i:=3) nd rfl (Or.inl rfl)) ?g4 (by intro _ ;rfl);case g4=>refine' @Zc _ _ _ _ _ ?g5 ?g6;(case g5=>refine' @Yv _ _ _ _ _ _ _ _ (Zq Zez (pv 2) Zg (Zw _)) (Zh Zj0) Z3);case g6=>refine' @Zh _ _ _ ?g7;case g7=>refine' @Zv _ _ (2) _ _ _ _ nd rfl (Or.inl rfl) (Zj Cb_ hr (by decide) rfl (Za (pv 3) (Za (pv 2) Zb rfl) rfl)) (by rfl) (by first|exact Or.inl rfl|exact Or.inr rfl|assumption)
 refine ⟨_,rfl,_,rfl,?_⟩;refine ⟨_,rfl,l,rfl,⟨_,SqL.of hl⟩,?_⟩
 have e0:(if k<0 then -k else k)=((gl k (ps.take 0):Nat):Int):=by
  rw [List.take_zero];show _=((k.natAbs:Nat):Int);split<;>omega
 refine Xr (n:=ps.length) (fun i σ H2=>H2=H∧∃ (x:Option V),σ=[some (.ref l),some (.int k),some (.int (gl k (ps.take i))),x]) ⟨rfl,none,by rw [e0];rfl⟩ (fun i σ H2 hi p=>⟨_,V.int ps[i],SqL.of (p.1 ▸ hl),by simp [hi]⟩) (fun σ H2 p=>⟨_,SqL.of (p.1 ▸ hl),by simp⟩) (fun i x σ H2 H3 hi y p=>?_) (fun σ H2 p=>?_)
 · obtain ⟨rfl,x',rfl⟩:=p;obtain ⟨rfl,y2⟩:=y;have ex:=y2 _ (SqL.of hl);rw [n8_,n0_ hi] at ex;cases ex
   refine ⟨_,rfl,rfl,_,rfl,?_⟩;refine ite2 (fun h1=>?_) (fun h1=>?_)
   · have g1:gl k (ps.take i)=1:=by
      have:=V.int.inj (n37_ h1);omega
     refine ⟨_,rfl,?_⟩;rw [g1,← Zea g1];exact q
   · refine ⟨_,rfl,_,rfl,ps[i],_,rfl,hG i hi,?_⟩;refine ⟨rfl,some (.int ps[i]),?_⟩;rw [n36_ hi,Znp];rfl
 · obtain ⟨rfl,x',rfl⟩:=p;rw [n61_];exact ⟨_,rfl,q⟩
abbrev Zc7:Stmt:=top 26
theorem Zfz (F:Fun K "in_common" "in_common" Zc7 f fd) (Co_:a5_ P w K mg base):FnOk P w K mg base CX0 11 f fd ["parts","known"] Zdc:=by
 have sc:FnScope ["parts","known","common","part"] ["parts","known"] (Zf Zc7):=fsc (by decide +kernel);refine F.ok sc (fun vs H Q E h=>by obtain ⟨l,ps,k,rfl,_⟩:=h;rfl) fun cdv A outer s H vs Q E hr h=>?_;obtain ⟨l,ps,k,rfl,hl,hG,q⟩:=h;have nd:=sc.nd;refine' ⟨_,?term,?read⟩
 case term=>refine' @Zc _ _ _ _ _ ?g1 ?g2;(case g1=>refine' @Zv _ _ (2) _ _ _ _ nd rfl (Or.inl rfl) (Zk Y2 rfl T.b_abs Zaf (Za (pv 1) Zb rfl)) (by rfl) (by first|exact Or.inl rfl|exact Or.inr rfl|assumption));case g2=>refine' @Zc _ _ _ _ _ ?g3 (Zh (Zn (pv 2)));case g3=>refine' @Xi _ _ _ _ _ _ _ _ PassesOwn.never rfl (Yi (pv 0)) (Zi (i:=3) nd rfl (Or.inl rfl)) ?g4 (by intro _ ;rfl);case g4=>refine' @Zc _ _ _ _ _ ?g5 ?g6;(case g5=>refine' @Yv _ _ _ _ _ _ _ _ (Zq Zez (pv 2) Zg (Zw _)) (Zh Zj0) Z3);case g6=>refine' @Zh _ _ _ ?g7;case g7=>refine' @Zv _ _ (2) _ _ _ _ nd rfl (Or.inl rfl) (Zj Co_ hr (by decide) rfl (Za (pv 3) (Za (pv 2) Zb rfl) rfl)) (by rfl) (by first|exact Or.inl rfl|exact Or.inr rfl|assumption)
 refine ⟨_,rfl,_,rfl,?_⟩;refine ⟨_,rfl,l,rfl,⟨_,SqL.of hl⟩,?_⟩
 have e0:(if k<0 then -k else k)=((gl k (ps.take 0):Nat):Int):=by
  rw [List.take_zero];show _=((k.natAbs:Nat):Int);split<;>omega
 refine Xr (n:=ps.length) (fun i σ H2=>Same H H2∧∃ (x:Option V),σ=[some (.ref l),some (.int k),some (.int (gl k (ps.take i))),x]) ⟨Same.refl _,none,by rw [e0];rfl⟩ (fun i σ H2 hi p=>⟨_,V.int ps[i],SqL.of (p.1 _ _ hl),by simp [hi]⟩) (fun σ H2 p=>⟨_,SqL.of (p.1 _ _ hl),by simp⟩) (fun i x σ H3 H2 hi y p=>?_) (fun σ H2 p=>?_)
 · obtain ⟨s2,x',rfl⟩:=p;obtain ⟨rfl,y2⟩:=y;have ex:=y2 _ (SqL.of (s2 _ _ hl));rw [n8_,n0_ hi] at ex;cases ex
   refine ⟨_,rfl,rfl,_,rfl,?_⟩;refine ite2 (fun h1=>?_) (fun h1=>?_)
   · have g1:gl k (ps.take i)=1:=by
      have:=V.int.inj (n37_ h1);omega
     refine ⟨_,rfl,?_⟩;rw [g1,← Zea g1];exact q _ s2
   · refine ⟨_,rfl,_,rfl,ps[i],_,rfl,hG i hi,fun H4 s4=>?_⟩;refine ⟨s2.trans s4,some (.int ps[i]),?_⟩;rw [n36_ hi,Znp];rfl
 · obtain ⟨s2,x',rfl⟩:=p;rw [n61_];exact ⟨_,rfl,q _ s2⟩
abbrev Zcr:Stmt:=top 27
theorem Ziu (F:Fun K "scale_of" "scale_of" Zcr f fd) (O1:Zlp K mg "ONE" 1 1) (Cal_:a6_ P w K mg base) (Ch_:a7_ P w K mg base):FnOk P w K mg base CX0 4 f fd ["line"] (Zks K):=by
 have sc:FnScope ["line","common"] ["line"] (Zf Zcr):=fsc (by decide +kernel);refine F.ok sc (fun vs H Q E h=>by obtain ⟨a,k,us,qs,b,rfl,_⟩:=h;rfl) fun cdv A outer s H vs Q E hr h=>?_;obtain ⟨a,k,us,qs,b,rfl,ha,al,B,q⟩:=h;have nd:=sc.nd;obtain ⟨o_,hog,hok⟩:=O1;refine' ⟨_,?term,?read⟩
 case term=>refine' @Zc _ _ _ _ _ ?g1 ?g2;(case g1=>refine' @Zv _ _ (1) _ _ _ _ nd rfl (Or.inl rfl) ?g3 (by rfl) (by first|exact Or.inl rfl|exact Or.inr rfl|assumption);case g3=>refine' @Zj _ _ _ _ _ _ _ _ _ _ _ Cal_ hr (by decide) rfl ?g4 (by decide) (by rfl) (by rfl);case g4=>refine' @Za _ _ _ _ _ ?g5 (Za Zg Zb rfl) rfl;case g5=>refine' @Xb _ _ _ _ _ _ _ (["top","bottom"]) ([none,none]) _ _ ((gTup K 2 (Yb (Z4 0) (Yb (Z4 1) gNil)))) _ _ rfl (Z9 (by decide) rfl (by decide) rfl rfl) (Zbs K rfl (pv 0)) (fun _ _ _ _=>Zy (n:=2) rfl (Zd (pgB 0) (Zd (pgB 1) Zr))) (fun _ _ _ _=>Zs) (fun _ _ _ _=>pv 0) (by intro _ ;rfl));case g2=>refine' @Zh _ _ _ ?g6;case g6=>refine' @Zn _ _ _ _ ?g7;case g7=>refine' @Zao _ _ _ _ _ _ _ _ ?g8 ?g9 ?ga;(case g8=>refine' @Yg _ _ _ (pv 1) (fun _=>rfl));(case g9=>refine' @Zu _ _ _ _ _ ?gb;case gb=>refine' @Za _ _ _ _ _ ?gc (Za (pv 1) Zb rfl) rfl;case gc=>refine' @Zj _ _ _ _ _ _ _ _ _ _ _ Ch_ hr (by decide) rfl ?gd (by decide) (by rfl) (by rfl);case gd=>refine' @Za _ _ _ _ _ ?ge Zb rfl;case ge=>refine' @Xb _ _ _ _ _ _ _ (["top","bottom"]) ([none,none]) _ _ ((gTup K 2 (Yb (Z4 0) (Yb (Z4 1) gNil)))) _ _ rfl (Z9 (by decide) rfl (by decide) rfl rfl) (Zbs K rfl (pv 0)) (fun _ _ _ _=>Zy (n:=2) rfl (Zd (pgB 0) (Zd (pgB 1) Zr))) (fun _ _ _ _=>Zs) (fun _ _ _ _=>pv 1) (by intro _ ;rfl));case ga=>refine' @Zdr _ _ _ _ _ rfl hog (show RelV (.ref o_) (Value.ref o_) from rfl) (by decide)
 refine ⟨_,rfl,a,k,rfl,⟨_,ha.sq⟩,fun D nD=>?_⟩;refine lc_Q (k:=k) (us:=us) RI hRI (tops qs) (by simp [al.1]) (by rw [al.1];exact B.len) nD ha al (fun i x' H2 C ex s2 c=>?_) (fun H2 us' s2 e2 a2=>?_)
 · exact ⟨_,rfl,c _ _ _ (Same.refl _) (by rw [n8_,ex];rfl) rfl⟩
 rw [a2.ints] at e2;refine ⟨D,_,0,rfl,e2,fun i hi=>up 4000 (Zmd fun p hp=>B.tops p (n67_ hp)) (by have:=B.b4;omega),?_⟩;refine ⟨_,rfl,_,rfl,?_⟩
 by_cases hz:gl 0 (tops qs)=0
 · rw [hz];refine iteF ?_;refine q H2 _ s2 ⟨o_,rfl,.inr ?_⟩;unfold scl;rw [if_pos hz];exact hok
 · rw [show (((gl 0 (tops qs):Nat):Int) != 0)=true by simpa using hz];refine iteT ?_;have al2:Al (IsQ K H2) us qs:=al.imp fun v x r=>hRQ _ _ _ _ s2.tk r;refine ⟨_,rfl,a,k,rfl,⟨_,(ha.same s2).sq⟩,fun E nE=>?_⟩;refine lc_Q (k:=k) (us:=us) RI hRI (bots qs) (by simp [al.1]) (by rw [al.1];exact B.len) nE (ha.same s2) al2 (fun i x' H4 C ex s4 c=>?_) (fun H4 us'' s4 e4 a4=>?_)
   · exact ⟨_,rfl,c _ _ _ (Same.refl _) (by rw [n8_,ex];rfl) rfl⟩
   rw [a4.ints] at e4;refine ⟨E,_,b,rfl,e4,B.bots,by have:=B.b4;omega,by rw [n2_];have:=B.sz;omega,?_⟩;refine ⟨_,rfl,z2_,fun p np=>?_⟩;refine q _ _ (s2.trans (s4.trans (Same.new np))) ⟨p,rfl,.inl ?_⟩;unfold scl;rw [if_neg hz];exact Ze
abbrev Zgw:Stmt:=top 28
theorem Zoo (F:Fun K "whole" "whole" Zgw f fd) (Cp_:a8_ P w K mg base):FnOk P w K mg base CX0 5 f fd ["line"] (Zkf K):=by
 have sc:FnScope ["line","many","common"] ["line"] (Zf Zgw):=fsc (by decide +kernel);refine F.ok sc (fun vs H Q E h=>by obtain ⟨a,k,us,qs,b,rfl,_⟩:=h;rfl) fun cdv A outer s H vs Q E hr h=>?_;obtain ⟨a,k,us,qs,b,rfl,ha,al,B,q⟩:=h;have nd:=sc.nd;refine' ⟨_,?term,?read⟩
 case term=>refine' @Zc _ _ _ _ _ ?g1 ?g2;(case g1=>refine' @Yn _ _ _ _ _ _ (Zj Cp_ hr (by decide) rfl (Za (pv 0) Zb rfl)) ?g3 (by rfl) (by rfl) (by rfl);case g3=>refine' @Zy _ _ _ _ _ (2) rfl (Zd (Zi (i:=1) nd rfl (Or.inr rfl)) (Zd (Zi (i:=2) nd rfl (Or.inr rfl)) Zr)) (by rfl) (by rfl));case g2=>refine' @Zh _ _ _ ?g4;case g4=>refine' @Zn _ _ _ _ ?g5;case g5=>refine' @Xb _ _ _ _ _ _ _ (["top","bottom","common","many"]) ([none,none,some 2,some 1]) _ _ ((gTup K 2 (Yb (Z4 0) (Yb (Z4 1) gNil)))) _ _ rfl (Z7 (XN:=["line","many","common"]) (Scope.names (Zf Zgw)) rfl rfl rfl (fun _ h=>Z0 h) (by decide +kernel) rfl) (Zbs K rfl (pv 0)) (fun _ _ _ _=>Zy (n:=2) rfl (Zd (pgB 0) (Zd (pgB 1) Zr))) (fun _ _ _ _=>Zs) (fun _ _ _ _=>Zm Zx (Zm Yc (pv 0) (pv 2)) (Zm Yc (pv 3) (pv 1))) (by intro _ ;rfl)
 obtain ⟨c1,c2,c3,c4⟩:=Zhj B;refine ⟨_,rfl,a,k,us,qs,b,rfl,ha,al,B,fun H1 v s1 ⟨p,e,hp⟩=>?_⟩;subst e;refine ⟨p,_,rfl,IsSc.sq hp,rfl,_,_,rfl,_,_,rfl,rfl,?_⟩;have al2:Al (IsQ K H1) us qs:=al.imp fun v x r=>hRQ _ _ _ _ s1.tk r;refine ⟨_,rfl,a,k,rfl,⟨_,(ha.same s1).sq⟩,fun D nD=>?_⟩;refine lc_Q (k:=k) (us:=us) RI hRI (wh qs) (by simp [wh,al.1]) (by rw [al.1];exact B.len) nD (ha.same s1) al2 (fun i x' H2 C ex s2 c=>?_) (fun H2 us' s2 e2 a2=>?_)
 · have hm:=n4_ ex;have hx:=B.bd x' hm;refine ⟨_,rfl,_,rfl,_,_,rfl,rfl,⟨by omega,up 8999 c4⟩,_,rfl,_,rfl,_,_,rfl,rfl,⟨FM.den_ne x',up 8999 (show (x'.den:Int).natAbs<2^b from hx.2) (by have:=B.b4;omega)⟩,_,_,rfl,rfl,⟨up 1000000 (Xl c3 hx.1) (by have:=B.b4;omega),up 1000000 (Xl (FM.den_pos x') c2)⟩,c _ _ _ (Same.refl _) (by unfold wh;rw [n8_,ex];rfl) rfl⟩
 rw [a2.ints] at e2;exact q H2 D (s1.trans s2) (Zdh s1 nD) e2
abbrev Za3:Stmt:=top 30
theorem Zlr (F:Fun K "cleared" "cleared" Za3 f fd) (Cae_:a9_ P w K mg base):FnOk P w K mg base CX0 12 f fd ["known","line","head","place"] Ze9:=by
 have sc:FnScope ["known","line","head","place","many","top","parts","common"] ["known","line","head","place"] (Zf Za3):=fsc (by decide +kernel);refine F.ok sc (fun vs H Q E h=>by obtain ⟨kn,l,hd,line,head,pl,rfl,_⟩:=h;rfl) fun cdv A outer s H vs Q E hr h=>?_;obtain ⟨kn,l,hd,line,head,pl,rfl,hl,hh,LO,hB,hpl,h1k,q⟩:=h;have nd:=sc.nd;have hu:=Zi3 hr;refine' ⟨_,?term,?read⟩
 case term=>refine' @Zc _ _ _ _ _ ?g1 ?g2;(case g1=>refine' @Zv _ _ (4) _ _ _ _ nd rfl (Or.inr rfl) ?g3 (by rfl) (by first|exact Or.inl rfl|exact Or.inr rfl|assumption);case g3=>refine' @Z1 _ _ _ _ _ _ _ Z2 (pv 1) (pv 3) (fun _ _=>rfl));case g2=>refine' @Zc _ _ _ _ _ ?g4 ?g5;(case g4=>refine' @Yv _ _ _ _ _ _ _ _ (Zq Zez (pv 4) Zg (Zw _)) (Zh (Zn (Zu (Za (pv 0) (Za (pv 1) Zb rfl) rfl)))) Z3);case g5=>refine' @Zc _ _ _ _ _ ?g6 ?g7;(case g6=>refine' @Zv _ _ (5) _ _ _ _ nd rfl (Or.inr rfl) ?g8 (by rfl) (by first|exact Or.inl rfl|exact Or.inr rfl|assumption);case g8=>refine' @Z1 _ _ _ _ _ _ _ Z2 (pv 2) (pv 3) (fun _ _=>rfl));case g7=>refine' @Zc _ _ _ _ _ ?g9 ?ga;(case g9=>refine' @X0 _ _ _ _ _ _ _ _ _ _ (["own","its","top","many"]) ([none,none,some 5,some 4]) _ _ ((gTup K 2 (Yb (Z4 0) (Yb (Z4 1) gNil)))) _ _ _ rfl rfl (Zi (i:=6) nd rfl (Or.inl rfl)) (Z7 (XN:=["known","line","head","place","many","top","parts","common"]) (Scope.names (Zf Za3)) rfl rfl rfl (fun _ h=>Z0 h) (by decide +kernel) rfl) ?gb (fun _ _ _ _=>Zy (n:=2) rfl (Zd (pgB 0) (Zd (pgB 1) Zr))) (fun _ _ _ _=>Zs) (fun _ _ _ _=>Zm Zau (Zm Zx (pv 2) (pv 0)) (Zm Zx (pv 3) (pv 1))) (by intro _ ;rfl);case gb=>refine' @Zia _ _ _ _ .l .l _ _ _ _ _ rfl T.b_zip (Za (pv 1) (Za (pv 2) Zb rfl) rfl) (by rfl) (by rfl));case ga=>refine' @Zc _ _ _ _ _ ?gc ?gd;(case gc=>refine' @Zv _ _ (7) _ _ _ _ nd rfl (Or.inr rfl) (Zj Cae_ hr (by decide) rfl (Za (pv 6) (Za (pv 0) Zb rfl) rfl)) (by rfl) (by first|exact Or.inl rfl|exact Or.inr rfl|assumption));case gd=>refine' @Zc _ _ _ _ _ ?ge (Zh (Zn (Zu (Za (pv 5) (Za (pv 6) Zb rfl) rfl))));case ge=>refine' @Yv _ _ _ _ _ _ _ _ (Zq Zdi (pv 7) Zg (Zw _)) ?gf Z3;case gf=>refine' @Zh _ _ _ ?gg;case gg=>refine' @X0 _ _ _ _ _ _ _ _ _ _ (["part","common"]) ([none,some 7]) _ _ _ _ _ _ rfl rfl (Zi (i:=6) nd rfl (Or.inl rfl)) (Z7 (XN:=["known","line","head","place","many","top","parts","common"]) (Scope.names (Zf Za3)) rfl rfl rfl (fun _ h=>Z0 h) (by decide +kernel) rfl) (Yi (pv 6)) (fun _ _ _ _=>pgB 0) (fun _ _ _ _=>Zs) (fun _ _ _ _=>Zm Yc (pv 0) (pv 1)) (by intro _ ;rfl)
 have ll:line.length=head.length:=LO.len;refine ⟨_,rfl,_,rfl,l,_,pl,_,rfl,rfl,SqL.of hl,getI (by omega),?_⟩;refine ⟨_,rfl,rfl,_,rfl,?_⟩;refine ite2 (fun hz=>?_) (fun hz=>?_)
 · have h0:line.getD pl 0=0:=V.int.inj (n37_ hz);have ec:clr pl head (kn,line)=(kn,line):=by unfold clr;rw [if_pos h0]
   refine ⟨_,rfl,_,rfl,z2_,fun p np=>?_⟩;rw [ec] at q;exact q _ p l (Same.new np) (.inl rfl) np Ze (Same.new np _ _ hl)
 · have h0:line.getD pl 0≠0:=fun z=>hz (n32_ (by rw [z]));refine ⟨_,rfl,_,rfl,hd,_,pl,_,rfl,rfl,SqL.of hh,getI hpl,?_⟩;generalize ht:head.getD pl 0=t at *;generalize hm:line.getD pl 0=m at *;have tB:t.natAbs<2^400000:=by rw [← ht,n1_,n0_ hpl];exact hB _ (n13_ hpl)
   have mB:m.natAbs<2^400000:=by rw [← hm,n1_,n0_ (by omega)];exact LO.bd _ (n13_ _)
   refine ⟨_,rfl,_,rfl,l,hd,rfl,⟨_,SqL.of hl⟩,⟨_,SqL.of hh⟩,fun D nD=>?_⟩;have lp:(prt t m line head).length=head.length:=by simp [prt,ll]
   refine lc_Z (k:=.l) (l:=.l) (vs:=line.map V.int) (ws:=head.map V.int) RI hRI (prt t m line head) (by simp [lp,ll]) (by simp;omega) nD hl hh (fun i v u H2 C hv hu s2 c=>?_) (fun H2 us' s2 e2 a2=>?_)
   · rw [n8_] at hv hu;obtain ⟨x,ex,rfl⟩:=n52_.mp hv;obtain ⟨y,ey,rfl⟩:=n52_.mp hu;have xB:=LO.bd x (n4_ ex);have yB:=hB y (n4_ ey);exact ⟨_,rfl,_,rfl,t,x,rfl,rfl,⟨up 1000000 tB,up 1000000 xB⟩,_,rfl,_,rfl,m,y,rfl,rfl,⟨up 1000000 mB,up 1000000 yB⟩,_,_,rfl,rfl,c _ _ _ (Same.refl _) (by unfold prt;rw [n18_,ex,ey]) rfl⟩
   · rw [a2.ints] at e2;have gp:=Zj3 LO.nz;have g4:∀ ps,gl kn ps<2^8999:=fun ps=>n12_ (gp ps).2 LO.kn;refine ⟨_,rfl,_,rfl,D,_,kn,rfl,e2,fun i hi=>up 51000 (g4 _),fun H3 s3=>?_⟩
     have ec:clr pl head (kn,line)=(t,(prt t m line head).map fun p=>p.fdiv (gl kn (prt t m line head):Int)):=by
      unfold clr;rw [show (kn,line).2.getD pl 0=m from hm,if_neg h0,ht]
     rw [ec] at q;generalize hg:gl kn (prt t m line head)=g at *;have g0:0<g:=by rw [← hg];exact (gp _).1
     have g9:g<2^8999:=by rw [← hg];exact g4 _
     refine ⟨_,rfl,_,_,rfl,rfl,_,rfl,?_⟩;refine ite2 (fun h1=>?_) (fun h1=>?_)
     · refine ⟨_,rfl,D,rfl,⟨_,SqL.of (s3 _ _ e2)⟩,fun E nE=>?_⟩;refine lc_T (k:=.l) (vs:=(prt t m line head).map V.int) RI hRI ((prt t m line head).map fun p=>p.fdiv (g:Int)) (by simp) (by simp;omega) nE (s3 _ _ e2) (fun i v H4 C hv s4 c=>?_) (fun H4 us4 s4 e4 a4=>?_)
       · rw [n8_] at hv;obtain ⟨x,ex,rfl⟩:=n52_.mp hv;exact ⟨_,rfl,_,rfl,x,_,rfl,rfl,⟨by omega,g9⟩,c _ _ _ (Same.refl _) (by rw [n8_,ex];rfl) rfl⟩
       · rw [a4.ints] at e4;refine ⟨_,rfl,_,rfl,z2_,fun p np=>?_⟩;exact q _ p E (s2.trans (s3.trans (s4.trans (Same.new np)))) (.inr (Zdh (s2.trans s3) nE)) (Zdh (s2.trans (s3.trans s4)) np) Ze (Same.new np _ _ e4)
     · have h1':¬ ((1:Int)<(g:Int)):=fun z=>h1 (n32_ z);have e1:g=1:=by omega
       subst e1;rw [Zm5] at q;refine ⟨_,rfl,_,rfl,z2_,fun p np=>?_⟩;exact q _ p D (s2.trans (s3.trans (Same.new np))) (.inr nD) (Zdh (s2.trans s3) np) Ze (Same.new np _ _ (s3 _ _ e2))
abbrev Xv:Stmt:=top 29
theorem Zlx (F:Fun K "head_of" "head_of" Xv f fd) {cc Ph:Addr} (hcd:fd.code=.ref cc) (CK:∀ h,K.In h→PySem.W.CodeHd h cc Ph) (BK:BltK K mg):FnOk P w K mg base CX0 5 f fd ["left","place"] (Zi5 Ph):=by
 have sc:FnScope ["left","place","heads"] ["left","place"] (Zf Xv):=fsc (by decide +kernel);refine F.okC sc (fun vs H Q E h=>?_) (fun cdv ecd A outer s H vs Q E hr h=>?_)
 · obtain ⟨la,us,ls,pl,rfl,_⟩:=h;rfl
 · obtain ⟨la,us,ls,pl,rfl,hl,al,hpl,h1k,tb,q⟩:=h;have nd:=sc.nd;refine' ⟨_,?term,?read⟩
   case term=>refine' @Zc _ _ _ _ _ ?g1 (Zh (Zn (Zpt (i:=0) rfl rfl rfl rfl (Zpt (i:=1) rfl rfl rfl rfl (Zqh (k:=2) P w K mg base ⟨rfl,rfl,rfl,rfl,rfl⟩ rfl hr (by decide) rfl T.b_min Zka (Za (pv 2) Zb rfl) (Zs2 (cc:=cc) (P:=Ph) (q := "head_of.<locals>.<lambda>") rfl rfl (ecd.symm.trans hcd) rfl CK BK))))));case g1=>refine' @X0 _ _ _ _ _ _ _ _ _ _ (["at","known","line","place"]) ([none,none,none,some 1]) _ _ ((gTup K 2 (Yb (Z4 0) (Yb (gTup K 2 (Yb (Z4 1) (Yb (Z4 2) gNil))) gNil)))) _ _ _ rfl rfl (Zi (i:=2) nd rfl (Or.inl rfl)) (Z7 (XN:=["left","place","heads"]) (Scope.names (Zf Xv)) rfl rfl rfl (fun _ h=>Z0 h) (by decide +kernel) rfl) ?g2 (fun _ _ _ _=>Zy (n:=2) rfl (Zd (pgB 0) (Zd (Zy (n:=2) rfl (Zd (pgB 1) (Zd (pgB 2) Zr))) Zr))) (fun _ _ _ _=>Za7 (Zq Ze1 (Z1 (Zaa K rfl) (pv 2) (pv 3) (fun _ _=>rfl)) Zg (Zw _))) (fun _ _ _ _=>pv 0) (by intro _ ;rfl);case g2=>refine' @Ziy _ _ _ _ .l _ _ _ _ rfl T.b_enumerate (Za (pv 0) Zb rfl) (by rfl)
   case read =>
    have lu:=al.1;refine ⟨_,rfl,la,rfl,⟨_,SqL.of hl⟩,fun D nD=>?_⟩;refine Zat (n:=us.length) (fun _ v (x:Int)=>v=V.int x) (fun _ _ _ _ _ _ e=>e) (fun i=>if (ls.getD i (0,[])).2.getD pl 0=0 then none else some (i:Int)) (by omega) (fun σ=>∃ a b c,σ=[a,b,c,some (.int pl)]) ⟨_,_,_,rfl⟩ nD (fun i H2 s hi=>⟨us,us[i],SqL.of (s _ _ hl),n0_ hi⟩) (fun H2 s=>⟨us,SqL.of (s _ _ hl),rfl⟩) (fun i x σ2 H2 H3 C N hi s2 _ y ok c n=>?_) (fun H2 us2 s2 e2 a2=>?_)
    · obtain ⟨a1,a2,a3,rfl⟩:=ok;obtain ⟨p,w',rfl,np,rfl,y1⟩:=y;have ew:=y1 us (SqL.of (s2 _ _ hl));obtain ⟨x,ex,p',l',rfl,hp',hl'⟩:=al.get ew;have s3:Same H2 (upd H2 p (.tup [.int i,.ref p'])):=Same.new np;have gd:=Zjd (z:=((0:Int),([]:List Int))) ex;rw [gd] at c n;refine ⟨p,_,rfl,SqT.of Ze,rfl,_,_,rfl,_,_,rfl,p',_,rfl,SqT.of (s3 _ _ (s2 _ _ hp')),rfl,_,_,rfl,_,_,rfl,rfl,rfl,?_⟩;refine ⟨_,rfl,_,rfl,l',_,pl,_,rfl,rfl,SqL.of (s3 _ _ (s2 _ _ hl')),getI (hpl x (n4_ ex)),rfl,_,rfl,?_⟩
      by_cases hz:x.2.getD pl 0=0
      · rw [n32_ (show V.int (x.2.getD pl 0)=.int 0 by rw [hz])];exact iteF (n _ _ ⟨_,_,_,rfl⟩ s3 (if_pos hz))
      · rw [n30_ (show ¬ V.int (x.2.getD pl 0)=.int 0 from fun z=>hz (V.int.inj z))];exact iteT ⟨_,rfl,c _ _ _ _ ⟨_,_,_,rfl⟩ s3 (if_neg hz) rfl⟩
    · rw [lu] at a2;rw [show us2=(hds ls pl).map V.int from Al.ints (ns:=hds ls pl) a2] at e2;refine ⟨_,rfl,fun o1 u1 hd1 r1 nc1=>⟨_,rfl,fun o2 u2 hd2 r2 nc2=>?_⟩⟩;have c12:s.heap.objs.size+1≠s.heap.objs.size+1+1:=n51_ (Nat.lt_succ_self _);generalize hc1:s.heap.objs.size+1=c1 at *;generalize hc2:c1+1=c2 at *;have nc2':H2 c2=none:=by rw [Zp (Ne.symm c12)] at nc2;exact nc2
      have sF:Same H2 (upd (upd H2 c1 (fzO o1)) c2 (fzO o2)):=(Same.new nc1).trans (Same.new nc2);have z1:upd (upd H2 c1 (fzO o1)) c2 (fzO o2) c1=some (fzO o1):=by rw [Zp c12];exact Ze
      have z2:upd (upd H2 c1 (fzO o1)) c2 (fzO o2) c2=some (fzO o2):=Ze;generalize upd (upd H2 c1 (fzO o1)) c2 (fzO o2)=GF at sF z1 z2 ⊢;have S2:=s2.trans sF;refine ⟨_,rfl,tb.same S2,fun aL H5 kp tb5 naL nP lam=>?_⟩
      have nPt:∀ b o,(∀ ps,o≠HO.tbl ps)→GF b=some o→b≠Ph:=fun b o n e z=>by
       obtain ⟨ps,h,_⟩:=tb.same S2;rw [z,h] at e;exact n _ (Option.some.inj e).symm
      have k5:∀ b o,(∀ ps,o≠HO.tbl ps)→GF b=some o→H5 b=some o:=fun b o n e=>kp b o (nPt b o n e) e;have y1:=k5 _ _ (by intro ps z;cases z) z1;have y2:=k5 _ _ (by intro ps z;cases z) z2;obtain ⟨q',pm',j',pp,p0,p1,p2,p3,p4,p5,p6,p7,p8,lam⟩:∃ q' pm' j' pp p0 p1 p2 p3 p4 p5 p6 p7 p8,LamF H5 aL q' (hdPs pp) (Znd j' p0 p1 p2 p3 p4 p5 p6 p7 p8) hdSc [("place",c2),("left",c1)] pm':=⟨_,_,_,_,_,_,_,_,_,_,_,_,_,lam⟩;refine ⟨D,aL,hds ls pl,spHd aL c1 c2 q' pm' j' pp p0 p1 p2 p3 p4 p5 p6 p7 p8,hkf ls pl,rfl,rfl,SqL.of (k5 _ _ (by intro ps z;cases z) (sF _ _ e2)),Ztf T c12,fun i hi=>?_,?_⟩
      · obtain ⟨n,rfl,hn,hz⟩:=Ziw hi;obtain ⟨w',ew,p',l',rfl,hp',hl'⟩:=al.got (n0_ hn);have gd:=Zjd (z:=((0:Int),([]:List Int))) (n0_ hn);refine ⟨lam,la,p',l',us,pl,n,_,_,⟨o1,u1,y1,hd1,r1⟩,⟨o2,u2,y2,hd2,r2⟩,k5 _ _ (by intro ps z;cases z) (S2 _ _ hl),rfl,ew,k5 _ _ (by intro ps z;cases z) (S2 _ _ hp'),k5 _ _ (by intro ps z;cases z) (S2 _ _ hl'),hpl _ (n13_ hn),?_,rfl⟩;unfold hkf;rw [n58_,gd]
      · have dk:∀ b o,H2 b=some o→b≠Ph→del (del H5 c2) c1 b=some o:=fun b o e n=>by
         have n1:b≠c1:=Zl e nc1;have n2:b≠c2:=Zl e nc2';rw [X2 n1,X2 n2];exact kp b o n (sF _ _ e)
        refine q _ (fun b o n e=>dk b o (s2 _ _ e) n) ?_;have t1:TabF (del H5 c2) Ph "head_of.<locals>.<lambda>" := tb5.del y2 hd2;exact t1.del (by rw [X2 c12];exact y1) hd1
abbrev Zb8:Stmt:=top 31
theorem Zlt (F:Fun K "stepped" "stepped" Zb8 f fd) {Ph:Addr} (Cau_:a10_ P w K mg base) (Cav_:Cal P w K mg base "head_of" 5 ["left","place"] (Zi5 Ph)):FnOk P w K mg base CX0 14 f fd ["lines","places"] (Zct Ph):=by
 have sc:FnScope ["lines","places","steps","left","place","at","head"] ["lines","places"] (Zf Zb8):=fsc (by decide +kernel);refine F.ok sc (fun vs H Q E h=>by obtain ⟨La,vs',lines,n,w,rfl,_⟩:=h;rfl) fun cdv A outer s H vs Q E hr h=>?_;obtain ⟨La,vs',lines,n,w',rfl,hL,al,SO,tb,q⟩:=h;have nd:=sc.nd;refine' ⟨_,?term,?read⟩
 case term=>refine' @Zc _ _ _ _ _ ?g1 ?g2;(case g1=>refine' @Zv _ _ (2) _ _ _ _ nd rfl (Or.inl rfl) ?g3 (by rfl) (by first|exact Or.inl rfl|exact Or.inr rfl|assumption);case g3=>refine' @Y4 _ _ _ _ Zb);case g2=>refine' @Zc _ _ _ _ _ ?g4 ?g5;(case g4=>refine' @X0 _ _ _ _ _ _ _ _ _ _ (["line"]) ([none]) _ _ _ _ _ _ rfl rfl (Zi (i:=3) nd rfl (Or.inl rfl)) (Z9 (by decide) rfl (by decide) rfl rfl) (Yi (pv 0)) (fun _ _ _ _=>pgB 0) (fun _ _ _ _=>Zs) (fun _ _ _ _=>Zu (Za Zg (Za (pv 0) Zb rfl) rfl)) (by intro _ ;rfl));case g5=>refine' @Zc _ _ _ _ _ ?g6 ?g7;(case g6=>refine' @Xi _ _ _ _ _ _ _ _ PassesOwn.never rfl ?g8 (Zi (i:=4) nd rfl (Or.inr rfl)) ?g9 (by intro _ ;rfl);(case g8=>refine' @Yz _ _ _ _ _ _ rfl T.b_range (Za (pv 1) Zb rfl) (by rfl));case g9=>refine' @Zc _ _ _ _ _ ?ga ?gb;(case ga=>refine' @Zv _ _ (5) _ _ _ _ nd rfl (Or.inl rfl) (Zj Cav_ hr (by decide) rfl (Za (pv 3) (Za (pv 4) Zb rfl) rfl)) (by rfl) (by first|exact Or.inl rfl|exact Or.inr rfl|assumption));case gb=>refine' @Zh _ _ _ ?gc;case gc=>refine' @Yv _ _ _ _ _ _ _ _ (Zq Znm (pv 5) Zc6 (Zw _)) ?gd Z3;case gd=>refine' @Zc _ _ _ _ _ ?ge ?gf;(case ge=>refine' @Zv _ _ (6) _ _ _ _ nd rfl (Or.inr rfl) ?gg (by rfl) (by first|exact Or.inl rfl|exact Or.inr rfl|assumption);case gg=>refine' @Z1 _ _ _ _ _ _ _ Yp ?gh Zg (fun _ _=>rfl);case gh=>refine' @Zdz _ _ _ _ _ _ _ _ _ _ _ _ PySem.F.plainAttrs_list PySem.F.slot_list_pop PySem.F.type_list_pop Zoe (pv 3) (Za (pv 5) Zb rfl) (by rfl) (by rfl) (by rfl) (by rfl) (by rfl));case gf=>refine' @Zc _ _ _ _ _ ?gi ?gj;(case gi=>refine' @Xw _ _ _ _ ?gk (by rfl);case gk=>refine' @Zdz _ _ _ _ _ _ _ _ _ _ _ _ PySem.F.plainAttrs_list PySem.F.slot_list_append PySem.F.type_list_append Y0 (pv 2) (Za (Zu (Za (pv 4) (Za (pv 6) Zb rfl) rfl)) Zb rfl) (by rfl) (by rfl) (by rfl) (by rfl) (by rfl));case gj=>refine' @Zh _ _ _ ?gl;case gl=>refine' @X0 _ _ _ _ _ _ _ _ _ _ (["known","line","head","place"]) ([none,none,some 6,some 4]) _ _ ((gTup K 2 (Yb (Z4 0) (Yb (Z4 1) gNil)))) _ _ _ rfl rfl (Zi (i:=3) nd rfl (Or.inl rfl)) (Z7 (XN:=["lines","places","steps","left","place","at","head"]) (Scope.names (Zf Zb8)) rfl rfl rfl (fun _ h=>Z0 h) (by decide +kernel) rfl) (Yi (pv 3)) (fun _ _ _ _=>Zy (n:=2) rfl (Zd (pgB 0) (Zd (pgB 1) Zr))) (fun _ _ _ _=>Zs) (fun _ _ _ _=>Zj Cau_ hr (by decide) rfl (Za (pv 0) (Za (pv 1) (Za (pv 2) (Za (pv 3) Zb rfl) rfl) rfl) rfl)) (by intro _ ;rfl));case g7=>refine' @Zh _ _ _ ?gm;case gm=>refine' @Zn _ _ _ _ ?gn;case gn=>refine' @Zu _ _ _ _ _ ?go;case go=>refine' @Za _ _ _ _ _ (pv 2) ?gp rfl;case gp=>refine' @Za _ _ _ _ _ ?gq Zb rfl;case gq=>refine' @Xb _ _ _ _ _ _ _ (["known","line"]) ([none,none]) _ _ ((gTup K 2 (Yb (Z4 0) (Yb (Z4 1) gNil)))) _ _ rfl (Z9 (by decide) rfl (by decide) rfl rfl) (Yi (pv 3)) (fun _ _ _ _=>Zy (n:=2) rfl (Zd (pgB 0) (Zd (pgB 1) Zr))) (fun _ _ _ _=>Zs) (fun _ _ _ _=>pv 1) (by intro _ ;rfl)
 have lv:=al.1;refine ⟨z0_,fun sa nsa=>?_⟩;have s0:Same H (upd H sa (.lst [])):=Same.new nsa;refine ⟨_,rfl,La,rfl,⟨_,SqL.of (s0 _ _ hL)⟩,fun D nD=>?_⟩;have hsa0:(upd H sa (.lst [])) sa=some (.lst []):=Ze;have tb0:=tb.same s0;generalize upd H sa (.lst [])=H0 at s0 nD hsa0 tb0 ⊢
 have nPh:∀ {G:Hp} {b:Addr} {o:HO},TabF G Ph "head_of.<locals>.<lambda>" → (∀ ps,o≠HO.tbl ps)→G b=some o→b≠Ph:=fun t n e z=>by
  obtain ⟨ps,h,_⟩:=t;rw [z,h] at e;exact n _ (Option.some.inj e).symm
 refine Zat (n:=vs'.length) (IsLnN fun b=>b=sa∨b=D∨b=Ph) (fun H1 H2 v x k _ h=>h.keep fun b o n e=>k b o (fun z=>n (.inr (.inl z))) e) (fun i=>(lines.map fun l=>((1:Int),l))[i]?) (by have:=SO.l1;omega) (fun σ=>∃ a,σ=[a]) ⟨_,rfl⟩ nD (fun i H2 s hi=>Zar (k:=.l) (show SK.l.At H2 La vs' from s _ _ (s0 _ _ hL)) hi) (fun H2 s=>Y8 (k:=.l) (show SK.l.At H2 La vs' from s _ _ (s0 _ _ hL)) (n9_ _)) (fun i x σ2 H2 H3 C N hi s2 eD y ok c n=>?_) (fun H2 ws s2 e2 a2=>?_)
 · obtain ⟨a1,rfl⟩:=ok;obtain ⟨ws',eD⟩:=eD;obtain ⟨rfl,ex⟩:=Xk (k:=.l) (show SK.l.At H2 La vs' from s2 _ _ (s0 _ _ hL)) y;obtain ⟨ln,el,l,rfl,hl⟩:=al.get ex;refine Zbw ?_;refine ⟨_,rfl,z2_,fun p np=>?_⟩;have hl2:=s2 _ _ (s0 _ _ hl);have sa2:=s2 _ _ hsa0;have tb2:=tb0.same s2;refine c _ _ _ (1,ln) ⟨_,rfl⟩ (Same.new np) (by rw [n8_,el];rfl) ⟨p,l,rfl,?_,?_,Ze,Same.new np _ _ hl2⟩
   · obtain ⟨ps,htb,_⟩:=tb2;rintro (rfl|rfl|rfl)
     · rw [sa2] at np;cases np
     · rw [eD] at np;cases np
     · rw [htb] at np;cases np
   · rintro (rfl|rfl|z)
     · rw [s0 _ _ hl] at hsa0;rw [hl] at nsa;cases nsa
     · rw [s0 _ _ hl] at nD;cases nD
     · exact nPh tb2 (by intro ps z;cases z) hl2 z
 rw [Z5 _ _ (by rw [n2_];exact lv)] at a2;refine ⟨_,rfl,_,rfl,by omega,by have:=SO.nw;have:=SO.w1;omega,?_⟩;refine Zae (fun i σ H2=>∃ sa la us ws x1 x2 x3,σ=[some (.ref La),some (.int n),some (.ref sa),some (.ref la),x1,x2,x3]∧Xp Ph H H2∧TabF H2 Ph "head_of.<locals>.<lambda>" ∧ H sa=none∧H la=none∧sa≠la∧H2 sa=some (.lst us)∧H2 la=some (.lst ws)∧Al (fun v x=>IsLnN (fun b=>b=sa∨b=la∨b=Ph) H2 v (stI x)) us (stp lines i).1∧Al (IsLnN (fun b=>b=sa∨b=la∨b=Ph) H2) ws (stp lines i).2) ?_ (fun i σ H2 hi p=>?_) (fun σ H2 p=>?_)
 · exact ⟨sa,D,[],ws,_,_,_,rfl,fun b o _ e=>s2 _ _ (s0 _ _ e),tb0.same s2,nsa,Zdh s0 nD,fun z=>(by rw [z,nD] at hsa0;cases hsa0),s2 _ _ hsa0,e2,.nil,a2⟩
 · clear s0 nsa hsa0 tb0 nD s2 e2 a2;obtain ⟨sa,la,us,ws,x1,x2,x3,rfl,kp,tb2,nsa,nla,sl,hsa,hla,aS,aL⟩:=p;have hin:i<n:=by simpa using hi
   have i0:(0:Int)+(i:Int)=i:=by omega
   rw [i0];have OK:=SO.ok i (by omega);have OKk:=SO.kn i (by omega);have lens:=Zgy (lines:=lines) i;have l1:=SO.l1;have w1:=SO.w1;have nw:=SO.nw;refine ⟨_,rfl,_,rfl,la,ws,(stp lines i).2,i,rfl,hla,aL.imp fun v x r=>r.ln,fun x hx=>by rw [(OK x hx).len];omega,by omega,tb2,fun H3 kp3 tb3=>?_⟩;have kN3:Zm9 (fun b=>b=sa∨b=la∨b=Ph) H2 H3:=fun b o n e=>kp3 b o (fun z=>n (.inr (.inr z))) e;have kp13:Xp Ph H H3:=fun b o n e=>kp3 b o n (kp b o n e);have aS3:=aS.imp fun v x r=>r.keep kN3;have aL3:=aL.imp fun v x r=>r.keep kN3;have hsa3:=kp3 _ _ (nPh tb2 (by intro ps z;cases z) hsa) hsa;have hla3:=kp3 _ _ (nPh tb2 (by intro ps z;cases z) hla) hla;refine ⟨_,rfl,rfl,_,rfl,?_⟩
   rcases Zmv (stp lines i).2 i with ⟨e1,e2⟩|⟨at_,e1,e2⟩
   · rw [e2,n32_ rfl];refine iteF ?_;exact ⟨sa,la,us,ws,_,_,_,rfl,kp13,tb3,nsa,nla,sl,hsa3,hla3,by rw [Zaq e1];exact aS3,by rw [Zaq e1];exact aL3⟩
   · rw [e2,n30_ (by intro z;cases z)];refine iteT ?_;obtain ⟨ha,_⟩:=X4 e1;have st:=Zbb e1;generalize hS:stp lines i=S at *;obtain ⟨w',ew,pw,hl,rfl,np1,np2,hpw,hhl⟩:=aL3.got (n0_ ha);have gd:S.2.getD at_ (0,[])=S.2[at_]:=by rw [n1_,n0_ ha];rfl
     rw [gd] at st;have OKh:=OK _ (n13_ ha);generalize S.2[at_]=hd at *;have lw:=aL3.1;refine ⟨_,rfl,.inl ⟨rfl,_,SqL.of hla3⟩,_,rfl,la,ws,(at_:Int),at_,_,rfl,rfl,hla3,by omega,by omega,seqIndex_of (by omega) (by omega),ew,?_⟩;have kN4:Zm9 (fun b=>b=sa∨b=la∨b=Ph) H3 (upd H3 la (.lst (ws.eraseIdx at_))):=fun b o n e=>by rw [Zp fun z=>n (.inr (.inl z))];exact e
     have hla4:upd H3 la (.lst (ws.eraseIdx at_)) la=some (.lst (ws.eraseIdx at_)):=Ze;have hsa4:upd H3 la (.lst (ws.eraseIdx at_)) sa=some (.lst us):=by rw [Zp sl];exact hsa3
     have tb4:TabF (upd H3 la (.lst (ws.eraseIdx at_))) Ph "head_of.<locals>.<lambda>" := tb3.keepL hla3 Keep.upd;have kp4:Xp Ph H (upd H3 la (.lst (ws.eraseIdx at_))):=fun b o n e=>by rw [Zp (Zl e nla)];exact kp13 b o n e
     generalize upd H3 la (.lst (ws.eraseIdx at_))=H4 at kN4 hla4 hsa4 tb4 kp4 ⊢;refine ⟨pw,_,1,_,rfl,rfl,SqT.of (kN4 _ _ np1 hpw),rfl,?_⟩;refine ⟨_,rfl,.inl ⟨rfl,_,SqL.of hsa4⟩,_,rfl,_,rfl,z2_,fun p np=>⟨sa,us,_,rfl,rfl,Same.new np _ _ hsa4,by rw [aS3.1,sizeLine_eq];omega,?_⟩⟩;have nep:∀ {b:Addr} {o:HO},H4 b=some o→b≠p:=fun e z=>by rw [z,np] at e;cases e
     generalize hH5:upd (upd H4 p (.tup [.int (i:Int),.ref hl])) sa (.lst (us++[.ref p]))=H5;have nps:p≠sa:=fun z=>nep hsa4 z.symm;have kN5:Zm9 (fun b=>b=sa∨b=la∨b=Ph) H4 H5:=fun b o n e=>by rw [← hH5,Zp fun z=>n (.inl z),Zp (nep e)];exact e
     have hsa5:H5 sa=some (.lst (us++[.ref p])):=by rw [← hH5];exact Ze
     have hla5:H5 la=some (.lst (ws.eraseIdx at_)):=by rw [← hH5,Zp (Ne.symm sl),Zp (nep hla4)];exact hla4
     have hp5:H5 p=some (.tup [.int (i:Int),.ref hl]):=by rw [← hH5,Zp nps];exact Ze
     have tb5:TabF H5 Ph "head_of.<locals>.<lambda>" := by rw [← hH5];exact (tb4.same (Same.new np)).keepL (Same.new np _ _ hsa4) Keep.upd
     have kp5:Xp Ph H H5:=fun b o n e=>by rw [← hH5,Zp (Zl e nsa),Zp (nep (kp4 b o n e))];exact kp4 b o n e
     clear hH5;have kN35:Zm9 (fun b=>b=sa∨b=la∨b=Ph) H3 H5:=fun b o n e=>kN5 b o n (kN4 b o n e);have aS5:=aS3.imp fun v x r=>r.keep kN35;have aL5:=Al.erase (aL3.imp fun v x r=>r.keep kN35) at_
     have hhl5:=kN35 _ _ np2 hhl;have nlaP:la≠Ph:=nPh tb5 (by intro ps z;cases z) hla5
     have npN:¬ (p=sa∨p=la∨p=Ph):=by
      rintro (z|z|z)
      · exact nps z
      · exact nep hla4 z.symm
      · exact nPh tb5 (by intro ps z;cases z) hp5 z
     refine ⟨_,rfl,la,rfl,⟨_,SqL.of hla5⟩,fun D nD=>?_⟩;have lw5:=aL5.1;refine Zat (n:=(ws.eraseIdx at_).length) (IsLnN fun b=>b=sa∨b=D∨b=Ph) (fun H1 H2 v x k _ h=>h.keep fun b o n e=>k b o (fun z=>n (.inr (.inl z))) e) (fun j=>((S.2.eraseIdx at_).map (clr i hd.2))[j]?) (by rw [lw5];have:=List.length_eraseIdx_le S.2 at_;omega) (fun σ=>∃ a b,σ=[a,b,some (.ref hl),some (.int i)]) ⟨_,_,rfl⟩ nD (fun j H2 s hj=>Zar (k:=.l) (show SK.l.At H2 la _ from s _ _ hla5) hj) (fun H2 s=>Y8 (k:=.l) (show SK.l.At H2 la _ from s _ _ hla5) (n9_ _)) (fun j x σ2 H6 H7 C N hj s6 eD y ok c n=>?_) (fun H6 ws6 s6 e6 a6=>?_)
     · obtain ⟨a1,a2,rfl⟩:=ok;obtain ⟨wsD,eD⟩:=eD;obtain ⟨rfl,ex⟩:=Xk (k:=.l) (show SK.l.At H6 la _ from s6 _ _ hla5) y;obtain ⟨ln,el,p1,l1',rfl,m1,m2,hp1,hl1⟩:=aL5.get ex;refine ⟨p1,_,rfl,SqT.of (s6 _ _ hp1),rfl,_,_,rfl,_,_,rfl,rfl,?_⟩;have OKl:=OK ln (List.mem_of_mem_eraseIdx (n4_ el));refine X6 ?_;refine ⟨_,rfl,_,rfl,_,rfl,_,rfl,ln.1,l1',hl,ln.2,hd.2,i,rfl,s6 _ _ hl1,s6 _ _ hhl5,by rw [OKh.len];exact ⟨OKl,OKk (by have e1:=(n11_.mp el).1;rw [List.length_eraseIdx,if_pos ha] at e1;omega) ln (List.mem_of_mem_eraseIdx (n4_ el))⟩,OKh.bd,by rw [OKh.len];omega,by rw [OKh.len];omega,fun H8 p8 l8 s8 hor np8 hp8 hl8=>?_⟩;have sa6:=s6 _ _ hsa5;have tb6:=tb5.same s6;refine c _ _ _ (clr i hd.2 ln) ⟨_,_,rfl⟩ s8 (by rw [n8_,el];rfl) ⟨p8,l8,rfl,?_,?_,hp8,hl8⟩
       · obtain ⟨ps,htb,_⟩:=tb6;rintro (rfl|rfl|rfl)
         · rw [sa6] at np8;cases np8
         · rw [eD] at np8;cases np8
         · rw [htb] at np8;cases np8
       · rcases hor with rfl|nl8
         · rintro (z|rfl|z)
           · exact m2 (.inl z)
           · rw [hl1] at nD;cases nD
           · exact m2 (.inr (.inr z))
         · obtain ⟨ps,htb,_⟩:=tb6;rintro (rfl|rfl|rfl)
           · rw [sa6] at nl8;cases nl8
           · rw [eD] at nl8;cases nl8
           · rw [htb] at nl8;cases nl8
     · rw [Z5 _ _ (by rw [n2_];exact lw5)] at a6
       have nD2:∀ b o,H6 b=some o→(b=sa∨b=D∨b=Ph)→(b=sa∨b=la∨b=Ph)∨b=D:=fun b o _ z=>by
        rcases z with z|z|z
        · exact .inl (.inl z)
        · exact .inr z
        · exact .inl (.inr (.inr z))
       have toD:∀ {v:V} {x:Int×List Int},IsLnN (fun b=>b=sa∨b=la∨b=Ph) H5 v x→IsLnN (fun b=>b=sa∨b=D∨b=Ph) H6 v x:=fun {v x} ⟨p',l',e,n1,n2,h1,h2⟩ =>
        ⟨p',l',e,fun z=>(by
         rcases z with z|z|z
         · exact n1 (.inl z)
         · rw [z,nD] at h1;cases h1
         · exact n1 (.inr (.inr z))),fun z=>(by
         rcases z with z|z|z
         · exact n2 (.inl z)
         · rw [z,nD] at h2;cases h2
         · exact n2 (.inr (.inr z))),s6 _ _ h1,s6 _ _ h2⟩
       refine ⟨sa,D,us++[.ref p],ws6,_,_,_,rfl,fun b o n e=>s6 _ _ (kp5 b o n e),tb5.same s6,nsa,?_,fun z=>(by rw [z,nD] at hsa5;cases hsa5),s6 _ _ hsa5,e6,?_,?_⟩
       · cases e:H D with
         | none=>rfl
         | some o =>
           by_cases z:D=Ph
           · obtain ⟨ps,htb,_⟩:=tb5;rw [z,htb] at nD;cases nD
           · have:=kp5 D o z e
             rw [nD] at this;cases this
       · rw [st];exact (aS5.imp fun v x r=>toD r).snoc (toD ⟨p,hl,rfl,npN,np2,hp5,hhl5⟩)
       · rw [st];exact a6
 · clear s0 nsa hsa0 tb0 nD s2 e2 a2;obtain ⟨sa,la,us,ws,x1,x2,x3,rfl,kp,tb2,nsa,nla,sl,hsa,hla,aS,aL⟩:=p;have ln:=aL.1;have lens:=Zgy (lines:=lines) n;have l1:=SO.l1;simp only [n58_] at aS aL ln;refine ⟨_,rfl,_,rfl,la,rfl,⟨_,SqL.of hla⟩,fun D nD=>?_⟩;refine Zat (n:=ws.length) (fun H v (x:List Int)=>∃ l,v=V.ref l∧l≠D∧H l=some (.lst (x.map V.int))) (fun H1 H2 v x k _ ⟨l,e,n,h⟩=>⟨l,e,n,k _ _ n h⟩) (fun j=>((stp lines n).2.map Prod.snd)[j]?) (by omega) (fun σ=>∃ a b,σ=[a,b]) ⟨_,_,rfl⟩ nD (fun j H2 s hj=>Zar (k:=.l) (show SK.l.At H2 la _ from s _ _ hla) hj) (fun H2 s=>Y8 (k:=.l) (show SK.l.At H2 la _ from s _ _ hla) (n9_ _)) (fun j x σ2 H6 H7 C N hj s6 eD y ok c n=>?_) (fun H6 ws6 s6 e6 a6=>?_)
   · obtain ⟨a1,a2,rfl⟩:=ok;obtain ⟨rfl,ex⟩:=Xk (k:=.l) (show SK.l.At H6 la _ from s6 _ _ hla) y;obtain ⟨x,el,p1,l1',rfl,m1,m2,hp1,hl1⟩:=aL.get ex;refine ⟨p1,_,rfl,SqT.of (s6 _ _ hp1),rfl,_,_,rfl,_,_,rfl,rfl,?_⟩;refine X6 ?_;exact ⟨_,rfl,c _ _ _ x.2 ⟨_,_,rfl⟩ (Same.refl _) (by rw [n8_,el];rfl) ⟨l1',rfl,fun z=>(by rw [z,nD] at hl1;cases hl1),s6 _ _ hl1⟩⟩
   · rw [Z5 _ _ (by rw [n2_];exact ln)] at a6;refine ⟨z2_,fun p np=>?_⟩;have s7:Same H6 (upd H6 p (.tup [.ref sa,.ref D])):=Same.new np;refine q _ p sa D us ws6 (fun b o n e=>s7 _ _ (s6 _ _ (kp b o n e))) ((tb2.same s6).same s7) Ze (s7 _ _ (s6 _ _ hsa)) (aS.imp fun v x r=>(r.ln.same s6).same s7) (s7 _ _ e6) (a6.imp fun v x ⟨l,e,_,h⟩=>⟨l,e,s7 _ _ h⟩)
abbrev Zbi:Stmt:=top 19
theorem Ziq (F:Fun K "levelled" "levelled" Zbi f fd) (Ch_:a7_ P w K mg base):FnOk P w K mg base CX0 4 f fd ["parts"] (Zdw K):=by
 have sc:FnScope ["parts","many"] ["parts"] (Zf Zbi):=fsc (by decide +kernel);refine F.ok sc (fun vs H Q E h=>by obtain ⟨a,k,us,qs,b,rfl,_⟩:=h;rfl) fun cdv A outer s H vs Q E hr h=>?_;obtain ⟨a,k,us,qs,b,rfl,ha,al,B,q⟩:=h;have nd:=sc.nd;refine' ⟨_,?term,?read⟩
 case term=>refine' @Zc _ _ _ _ _ ?g1 ?g2;(case g1=>refine' @Zv _ _ (1) _ _ _ _ nd rfl (Or.inr rfl) ?g3 (by rfl) (by first|exact Or.inl rfl|exact Or.inr rfl|assumption);case g3=>refine' @Zj _ _ _ _ _ _ _ _ _ _ _ Ch_ hr (by decide) rfl ?g4 (by decide) (by rfl) (by rfl);case g4=>refine' @Za _ _ _ _ _ ?g5 Zb rfl;case g5=>refine' @Xb _ _ _ _ _ _ _ (["top","bottom"]) ([none,none]) _ _ ((gTup K 2 (Yb (Z4 0) (Yb (Z4 1) gNil)))) _ _ rfl (Z9 (by decide) rfl (by decide) rfl rfl) (Zbs K rfl (pv 0)) (fun _ _ _ _=>Zy (n:=2) rfl (Zd (pgB 0) (Zd (pgB 1) Zr))) (fun _ _ _ _=>Zs) (fun _ _ _ _=>pv 1) (by intro _ ;rfl));case g2=>refine' @Zh _ _ _ ?g6;case g6=>refine' @Zn _ _ _ _ ?g7;case g7=>refine' @Zu _ _ _ _ _ ?g8;case g8=>refine' @Za _ _ _ _ _ ?g9 (Za (pv 1) Zb rfl) rfl;case g9=>refine' @Xb _ _ _ _ _ _ _ (["top","bottom","many"]) ([none,none,some 1]) _ _ ((gTup K 2 (Yb (Z4 0) (Yb (Z4 1) gNil)))) _ _ rfl (Z7 (XN:=["parts","many"]) (Scope.names (Zf Zbi)) rfl rfl rfl (fun _ h=>Z0 h) (by decide +kernel) rfl) (Zbs K rfl (pv 0)) (fun _ _ _ _=>Zy (n:=2) rfl (Zd (pgB 0) (Zd (pgB 1) Zr))) (fun _ _ _ _=>Zs) (fun _ _ _ _=>Zm Zx (pv 0) (Zm Yc (pv 2) (pv 1))) (by intro _ ;rfl)
 refine ⟨_,rfl,a,k,rfl,⟨_,ha.sq⟩,fun D nD=>?_⟩;refine lc_Q (k:=k) (us:=us) RI hRI (bots qs) (by simp [al.1]) (by rw [al.1];exact B.len) nD ha al (fun i x' H2 C ex s2 c=>?_) (fun H2 us' s2 e2 a2=>?_)
 · exact ⟨_,rfl,c _ _ _ (Same.refl _) (by rw [n8_,ex];rfl) rfl⟩
 rw [a2.ints] at e2;refine ⟨D,_,b,rfl,e2,B.bots,by have:=B.b4;omega,by rw [n2_];have:=B.sz;omega,?_⟩;have al2:Al (IsQ K H2) us qs:=al.imp fun v x r=>hRQ _ _ _ _ s2.tk r;refine ⟨_,rfl,a,k,rfl,⟨_,(ha.same s2).sq⟩,fun E nE=>?_⟩;refine lc_Q (k:=k) (us:=us) RI hRI (lvd qs) (by simp [lvd,al.1]) (by rw [al.1];exact B.len) nE (ha.same s2) al2 (fun i x' H4 C ex s4 c=>?_) (fun H4 us'' s4 e4 a4=>?_)
 · have hx:=B.bd x' (n4_ ex);exact ⟨_,rfl,_,rfl,_,rfl,_,_,rfl,rfl,⟨FM.den_ne x',up 8999 (show (x'.den:Int).natAbs<2^b from hx.2) (by have:=B.b4;omega)⟩,_,_,rfl,rfl,⟨up 1000000 hx.1 (by have:=B.b4;omega),up 1000000 (Xl (FM.den_pos x') B.lcm)⟩,c _ _ _ (Same.refl _) (by unfold lvd;rw [n8_,ex];rfl) rfl⟩
 rw [a4.ints] at e4;refine ⟨_,rfl,z2_,fun p np=>?_⟩;exact q _ p E (s2.trans (s4.trans (Same.new np))) (Zdh s2 nE) Ze (Same.new np _ _ e4)
abbrev Zcn:Stmt:=top 20
theorem Zoh (F:FunD K "mixed" "mixed" Zcn f fd) (Cq_:a11_ P w K mg base) (Caw_:a12_ P w K mg base):FnOk P w K mg base CX0 5 f fd ["weights","parts","bottom"] (Zjv K):=by
 have sc:FnScope ["weights","parts","bottom","tops","many"] ["weights","parts","bottom"] (Zf Zcn):=fsc (by decide +kernel);refine F.ok sc (fun vs H Q E h=>by obtain ⟨w,kw,ws,a,k,us,qs,b,c,rfl,_⟩:=h;rfl) fun cdv A outer s H vs Q E hr h=>?_;obtain ⟨w,kw,ws,a,k,us,qs,b,c,rfl,hw,hws,ha,al,B,hc0,hc4,q⟩:=h;have nd:=sc.nd;have hu:=Zi3 hr;refine' ⟨_,?term,?read⟩
 case term=>refine' @Zc _ _ _ _ _ ?g1 ?g2;(case g1=>refine' @Yn _ _ _ _ _ _ (Zj Cq_ hr (by decide) rfl (Za (pv 1) Zb rfl)) ?g3 (by rfl) (by rfl) (by rfl);case g3=>refine' @Zy _ _ _ _ _ (2) rfl (Zd (Zi (i:=3) nd rfl (Or.inl rfl)) (Zd (Zi (i:=4) nd rfl (Or.inl rfl)) Zr)) (by rfl) (by rfl));case g2=>refine' @Zh _ _ _ ?g4;case g4=>refine' @Zn _ _ _ _ ?g5;case g5=>refine' @Zj _ _ _ _ _ _ _ _ _ _ _ Caw_ hr (by decide) rfl ?g6 (by decide) (by rfl) (by rfl);case g6=>refine' @Za _ _ _ _ _ ?g7 (Za (Zm Zx (pv 4) (pv 2)) Zb rfl) rfl;case g7=>refine' @Zk _ _ _ _ _ _ _ _ _ (Zif rfl) rfl T.b_sum Zp6 ?g8 (by decide) (by decide) (by rfl) (by rfl);case g8=>refine' @Za _ _ _ _ _ ?g9 Zb rfl;case g9=>refine' @Xb _ _ _ _ _ _ _ (["weight","top"]) ([none,none]) _ _ ((gTup K 2 (Yb (Z4 0) (Yb (Z4 1) gNil)))) _ _ rfl (Z9 (by decide) rfl (by decide) rfl rfl) (Zi1 rfl T.b_zip (Za (pv 0) (Za (pv 3) Zb rfl) rfl)) (fun _ _ _ _=>Zy (n:=2) rfl (Zd (pgB 0) (Zd (pgB 1) Zr))) (fun _ _ _ _=>Zs) (fun _ _ _ _=>Zm Zx (pv 0) (pv 1)) (by intro _ ;rfl)
 refine ⟨_,rfl,a,k,us,qs,b,rfl,ha,al,B,fun H1 p l s1 nl hp hl=>?_⟩;refine ⟨p,_,rfl,SqT.of hp,rfl,_,_,rfl,_,_,rfl,rfl,?_⟩;refine ⟨_,rfl,_,rfl,w,l,kw,.l,rfl,⟨_,(hw.same s1).sq⟩,⟨_,SqL.of hl⟩,fun D nD=>?_⟩;have lq:(lvd qs).length=qs.length:=by simp [lvd]
 refine lc_Z (k:=kw) (l:=.l) (vs:=ws.map V.int) (ws:=(lvd qs).map V.int) RI hRI (List.zipWith (fun w t=>w*t) ws (lvd qs)) (by simp) (by simp [lq];have:=B.len;omega) nD (hw.same s1) hl (fun i v u H2 C hv hu s2 c=>?_) (fun H2 us' s2 e2 a2=>?_)
 · rw [n8_] at hv hu;obtain ⟨x,ex,rfl⟩:=n52_.mp hv;obtain ⟨y,ey,rfl⟩:=n52_.mp hu;exact ⟨_,rfl,_,rfl,x,y,rfl,rfl,⟨up 1000000 (hws x (n4_ ex)),up 1000000 (Zru B y (n4_ ey))⟩,c _ _ _ (Same.refl _) (by rw [n18_,ex,ey]) rfl⟩
 · rw [a2.ints] at e2;have m0:=(Xd _ (Y3 qs)).1;have cB:c.natAbs<2^4000:=n12_ (by rw [n38_];exact Nat.le_mul_of_pos_left _ (by omega)) hc4;refine ⟨D,_,rfl,SqL.of e2,_,rfl,_,rfl,_,_,rfl,rfl,⟨up 1000000 B.lcm,up 1000000 cB⟩,_,_,rfl,Int.mul_ne_zero (by omega) hc0,hc4,fun p2 H3 s3 h3=>?_⟩;rw [Zsm hc0] at h3;exact q H3 _ (s1.trans (s2.trans s3)) ⟨p2,rfl,.inl h3⟩
abbrev Zdm:Stmt:=top 32
theorem Zoa (F:Fun K "put_at" "put_at" Zdm f fd) (Ch_:a7_ P w K mg base) (Cao_:a13_ P w K mg base):FnOk P w K mg base CX0 41 f fd ["place","line","found"] (Zjp K):=by
 have sc:FnScope ["place","line","found","terms","bottom","others"] ["place","line","found"] (Zf Zdm):=fsc (by decide +kernel);refine F.ok sc (fun vs H Q E h=>by obtain ⟨pl,l,a,line,us,xs,rfl,_⟩:=h;rfl) fun cdv A outer s H vs Q E hr h=>?_;obtain ⟨pl,l,a,line,us,xs,rfl,hl,ha,al,PO,q⟩:=h;have nd:=sc.nd;refine' ⟨_,?term,?read⟩
 case term=>refine' @Zc _ _ _ _ _ ?g1 ?g2;(case g1=>refine' @X0 _ _ _ _ _ _ _ _ _ _ (["many","part"]) ([none,none]) _ _ ((gTup K 2 (Yb (Z4 0) (Yb (Z4 1) gNil)))) _ _ _ rfl rfl (Zi (i:=3) nd rfl (Or.inl rfl)) (Z9 (by decide) rfl (by decide) rfl rfl) ?g3 (fun _ _ _ _=>Zy (n:=2) rfl (Zd (pgB 0) (Zd (pgB 1) Zr))) (fun _ _ _ _=>Za7 (PW.pt (Zfk (Zq Ze1 (pv 0) Zg (Zw _)) (Zcu (Zq Ze1 (Z1 (Zai K rfl) (pv 1) Zg (fun _ _=>rfl)) Zg (Zw _)))))) (fun _ _ _ _=>Zu (Za (pv 0) (Za (pv 1) Zb rfl) rfl)) (by intro _ ;rfl);case g3=>refine' @Zia _ _ _ _ .l .l _ _ _ _ _ rfl T.b_zip ?g4 (by rfl) (by rfl);case g4=>refine' @Za _ _ _ _ _ ?g5 ?g6 rfl;(case g5=>refine' @Zby _ _ _ _ _ _ _ _ _ _ Zf3 (pv 1) (Zdv (Zm Yx (pv 0) Zg)) Zeb);case g6=>refine' @Za _ _ _ _ _ ?g7 Zb rfl;case g7=>refine' @Zby _ _ _ _ _ _ _ _ _ _ Zf3 (pv 2) (Zdv (Zm Yx (pv 0) Zg)) Zeb);case g2=>refine' @Zc _ _ _ _ _ ?g8 ?g9;(case g8=>refine' @Zv _ _ (4) _ _ _ _ nd rfl (Or.inr rfl) ?ga (by rfl) (by first|exact Or.inl rfl|exact Or.inr rfl|assumption);case ga=>refine' @Zj _ _ _ _ _ _ _ _ _ _ _ Ch_ hr (by decide) rfl ?gb (by decide) (by rfl) (by rfl);case gb=>refine' @Za _ _ _ _ _ ?gc Zb rfl;case gc=>refine' @Xb _ _ _ _ _ _ _ (["many","part"]) ([none,none]) _ _ ((gTup K 2 (Yb (Z4 0) (Yb (Z4 1) gNil)))) _ _ rfl (Z9 (by decide) rfl (by decide) rfl rfl) (Yi (pv 3)) (fun _ _ _ _=>Zy (n:=2) rfl (Zd (pgB 0) (Zd (pgB 1) Zr))) (fun _ _ _ _=>Zs) (fun _ _ _ _=>Z1 (Zai K rfl) (pv 1) Zg (fun _ _=>rfl)) (by intro _ ;rfl));case g9=>refine' @Zc _ _ _ _ _ ?gd ?ge;(case gd=>refine' @Zv _ _ (5) _ _ _ _ nd rfl (Or.inl rfl) ?gf (by rfl) (by first|exact Or.inl rfl|exact Or.inr rfl|assumption);case gf=>refine' @Zk _ _ _ _ _ _ _ _ _ (Zif rfl) rfl T.b_sum Zp6 ?gg (by decide) (by decide) (by rfl) (by rfl);case gg=>refine' @Za _ _ _ _ _ ?gh Zb rfl;case gh=>refine' @Xb _ _ _ _ _ _ _ (["many","part","bottom"]) ([none,none,some 4]) _ _ ((gTup K 2 (Yb (Z4 0) (Yb (Z4 1) gNil)))) _ _ rfl (Z7 (XN:=["place","line","found","terms","bottom","others"]) (Scope.names (Zf Zdm)) rfl rfl rfl (fun _ h=>Z0 h) (by decide +kernel) rfl) (Yi (pv 3)) (fun _ _ _ _=>Zy (n:=2) rfl (Zd (pgB 0) (Zd (pgB 1) Zr))) (fun _ _ _ _=>Zs) (fun _ _ _ _=>Zm Zx (Zm Zx (pv 0) (Z1 (Zai K rfl) (pv 1) Zg (fun _ _=>rfl))) (Zm Yc (pv 2) (Z1 (Zai K rfl) (pv 1) Zg (fun _ _=>rfl)))) (by intro _ ;rfl));case ge=>refine' @Zh _ _ _ ?gi;case gi=>refine' @Zn _ _ _ _ ?gj;case gj=>refine' @Zj _ _ _ _ _ _ _ _ _ _ _ Cao_ hr (by decide) rfl ?gk (by decide) (by rfl) (by rfl);case gk=>refine' @Za _ _ _ _ _ ?gl ?gm rfl;(case gl=>refine' @Zm _ _ _ _ _ _ _ _ Zau ?gn (pv 5);case gn=>refine' @Zm _ _ _ _ _ _ _ _ Zx (pv 4) ?go;case go=>refine' @Z1 _ _ _ _ _ _ _ Z2 (pv 1) (Zf1 Zb7 Zg) (fun _ _=>rfl));case gm=>refine' @Za _ _ _ _ _ ?gp Zb rfl;case gp=>refine' @Zm _ _ _ _ _ _ _ _ Zx (pv 4) ?gq;case gq=>refine' @Z1 _ _ _ _ _ _ _ Z2 (pv 1) (pv 0) (fun _ _=>rfl)
 have lu:=al.1;have ll:=PO.len;have hpl:=PO.lt;have n2:=PO.n;refine ⟨_,rfl,_,rfl,_,_,rfl,rfl,_,rfl,l,_,rfl,SqL.of hl,fun l2 nl2=>?_⟩;rw [show ((pl:Int)+1)=((pl+1:Nat):Int) from rfl,Zgj];generalize gG:upd H l2 (.lst ((line.map V.int).drop (pl+1)))=H1;obtain ⟨s1,h2⟩:=gen_upd gG nl2;refine ⟨_,rfl,_,rfl,_,_,rfl,rfl,_,rfl,a,_,rfl,SqL.of (s1 _ _ ha),fun a2 na2=>?_⟩;rw [show ((pl:Int)+1)=((pl+1:Nat):Int) from rfl,Zgj];generalize gG:upd H1 a2 (.lst (us.drop (pl+1)))=H2;obtain ⟨s2,h3⟩:=gen_upd gG na2;have S2:=s1.trans s2;rw [← List.map_drop] at h2;have h2':=s2 _ _ h2;refine ⟨l2,a2,rfl,⟨_,SqL.of h2'⟩,⟨_,SqL.of h3⟩,fun D nD=>?_⟩;have aq:Al (IsQ K H2) us xs:=al.imp fun v x r=>hRQ _ _ _ _ S2.tk r;refine Zat (n:=((line.drop (pl+1)).zip (xs.drop (pl+1))).length) (IsTm K D) (fun H1 H2 v x k _ h=>h.keep H1 H2 v x k) (fun i=>(((line.drop (pl+1)).zip (xs.drop (pl+1)))[i]?).filter fun p=>p.1 != 0&&p.2.num != 0) (by simp;omega) (fun σ=>∃ a b,σ=[a,b]) ⟨_,_,rfl⟩ nD (fun i H3 s hi=>?_) (fun H3 s=>?_) (fun i x σ2 H3 H4 C N hi s3 eD y ok c n=>?_) (fun H3 ts s3 e3 a3=>?_)
 · rw [List.length_zip,n69_,n69_] at hi;exact ⟨_,_,_,_,SqL.of (s _ _ h2'),SqL.of (s _ _ h3),n0_ (by simp;omega),n0_ (by simp;omega)⟩
 · refine ⟨_,_,SqL.of (s _ _ h2'),SqL.of (s _ _ h3),?_⟩
   simp;omega
 · obtain ⟨a1,a2',rfl⟩:=ok;obtain ⟨wsD,eD⟩:=eD;obtain ⟨p,v,u,rfl,np,rfl,y1,y2⟩:=y;have ev:=y1 _ (SqL.of (s3 _ _ h2'));have eu:=y2 _ (SqL.of (s3 _ _ h3));rw [n8_] at ev;obtain ⟨m,em,rfl⟩:=n52_.mp ev;rw [List.getElem?_drop] at eu;obtain ⟨x,ex,f',rfl,hf⟩:=aq.get eu;have ex':(xs.drop (pl+1))[i]? = some x:=by rw [List.getElem?_drop];exact ex
   have ez:((line.drop (pl+1)).zip (xs.drop (pl+1)))[i]? = some (m,x):=List.getElem?_zip_eq_some.mpr ⟨em,ex'⟩;rw [ez] at c n;have s4:Same H3 (upd H3 p (.tup [.int m,.ref f'])):=Same.new np;have hf4:=hf.same (s3.trans s4);refine ⟨p,_,rfl,SqT.of Ze,rfl,_,_,rfl,_,_,rfl,rfl,?_⟩;refine ⟨_,rfl,rfl,_,rfl,?_⟩
   by_cases m0:m=0
   · rw [n32_ (show V.int m=.int 0 by rw [m0])];refine iteF (iteF ?_);exact n _ _ ⟨_,_,rfl⟩ s4 (by simp [m0])
   · rw [n30_ (show ¬ V.int m=.int 0 from fun z=>m0 (V.int.inj z))];refine iteT ⟨_,rfl,f',_,0,_,rfl,rfl,hf4.sq,rfl,rfl,_,rfl,?_⟩
     by_cases x0:x.num=0
     · rw [n32_ (show V.int x.num=.int 0 by rw [x0])];refine iteF ?_;exact n _ _ ⟨_,_,rfl⟩ s4 (by simp [Rat.num_eq_zero.mp x0])
     · rw [n30_ (show ¬ V.int x.num=.int 0 from fun z=>x0 (V.int.inj z))];refine iteT ⟨_,rfl,_,rfl,z2_,fun p5 np5=>?_⟩;refine c _ _ _ (m,x) ⟨_,_,rfl⟩ (s4.trans (Same.new np5)) (by simp [m0,x0]) ⟨p5,f',rfl,?_,Ze,?_⟩
       · rintro rfl;rw [s4 _ _ eD] at np5;cases np5
       · exact hf.imp (fun z=>⟨fun z'=>(by rw [← z',s3 _ _ z] at eD;cases eD),Same.new np5 _ _ (s4 _ _ (s3 _ _ z))⟩) id
 · rw [Zl4 _ _ _ rfl] at a3;have tl:(trm pl line xs).length≤200:=n28_ (List.length_filter_le _ _) (by simp;omega);change Al (IsTm K D H3) ts (trm pl line xs) at a3;have lt3:=a3.1
   have mem:∀ p∈trm pl line xs,p.1∈line∧p.2∈xs:=fun p hp=>by
    have h:=List.mem_filter.mp hp;exact ⟨List.mem_of_mem_drop (List.of_mem_zip h.1).1,List.mem_of_mem_drop (List.of_mem_zip h.1).2⟩
   have prs:∀ (i:Nat) (w:V),ts[i]? = some w→∃ p x y,w=.ref p∧H3 p=some (.tup [x,y]):=fun i w e=>by
    obtain ⟨x,_,p,f',rfl,_,h,_⟩:=a3.get e;exact ⟨p,_,_,rfl,h⟩
   have pr:∀ {i:Nat} {p:Addr} {x y:V},ts[i]? = some (.ref p)→H3 p=some (.tup [x,y])→∃ t f',(trm pl line xs)[i]? = some t∧x=.int t.1∧y=.ref f'∧QT K H3 f' t.2:=fun e hp=>by
    obtain ⟨t,et,p',f',e1,_,h,hf⟩:=a3.get e;cases e1
    rw [hp] at h;cases h
    exact ⟨t,f',et,rfl,rfl,hf.imp (fun z=>z.2) id⟩
   refine ⟨_,rfl,D,rfl,⟨_,SqL.of e3⟩,fun E nE=>?_⟩;refine Zrt (k:=.l) (vs:=ts) RI hRI (bots ((trm pl line xs).map Prod.snd)) (by simp [lt3]) (by omega) nE e3 prs (fun i p x y H4 C hw hp s4 c=>?_) (fun H4 us4 s4 e4 a4=>?_)
   · obtain ⟨t,f',et,rfl,rfl,hf⟩:=pr hw hp;exact ⟨_,rfl,f',_,1,_,rfl,rfl,(hf.same s4).sq,rfl,c _ _ _ (Same.refl _) (by rw [n8_,n8_,et];rfl) rfl⟩
   · rw [a4.ints] at e4
     have bb:∀ x∈bots ((trm pl line xs).map Prod.snd),0<x∧x.natAbs<2^4000:=fun x hx=>by
      obtain ⟨q',hq,rfl⟩:=n19_.mp hx;obtain ⟨t,ht,rfl⟩:=n19_.mp hq;exact ⟨FM.den_pos _,PO.den _ (mem t ht).2⟩
     refine ⟨E,_,4000,rfl,e4,bb,n9_ _,by simp;omega,?_⟩;have szB:=PO.sz;have B0:=(Xd _ (Y3 ((trm pl line xs).map Prod.snd))).1;have key:=Zrj (pl:=pl) (line:=line) (xs:=xs) rfl PO.nz;generalize lcmL (bots ((trm pl line xs).map Prod.snd))=B at szB B0 key ⊢;have c4:(line.getD pl 0).natAbs<2^50000:=n12_ (by rw [n38_];exact Nat.le_mul_of_pos_left _ (by omega)) szB;have B4:B.natAbs<2^50000:=n12_ (by rw [n38_];exact Nat.le_mul_of_pos_right _ (Int.natAbs_pos.mpr PO.nz)) szB;refine ⟨_,rfl,D,rfl,⟨_,SqL.of (s4 _ _ e3)⟩,fun E2 nE2=>?_⟩;refine Zrt (k:=.l) (vs:=ts) RI hRI ((trm pl line xs).map fun p=>p.1*p.2.num*B.fdiv p.2.den) (by simp [lt3]) (by omega) nE2 (s4 _ _ e3) (fun i w e=>let ⟨p,x,y,e1,h1⟩:=prs i w e;⟨p,x,y,e1,s4 _ _ h1⟩) (fun i p x y H5 C hw hp s5 c=>?_) (fun H5 us5 s5 e5 a5=>?_)
     · obtain ⟨p',x',y',e1,h1⟩:=prs _ _ hw;cases e1
       have h1':=s4 _ _ h1;rw [hp] at h1';cases h1'
       obtain ⟨t,f',et,rfl,rfl,hf⟩:=pr hw h1;have hf5:=hf.same (s4.trans s5);have ht:=mem t (n4_ et);have m1:=PO.bd _ ht.1;have m2:=PO.num _ ht.2;refine ⟨_,rfl,_,rfl,f',_,0,_,rfl,rfl,hf5.sq,rfl,_,_,rfl,rfl,⟨up 1000000 m1,up 1000000 m2⟩,_,rfl,_,rfl,f',_,1,_,rfl,rfl,hf5.sq,rfl,_,_,rfl,rfl,⟨FM.den_ne _,up 8999 (show (t.2.den:Int).natAbs<2^4000 from PO.den _ ht.2)⟩,_,_,rfl,rfl,⟨up 1000000 (FM.natAbs_mul_lt m1 m2),up 1000000 (Xl (FM.den_pos _) B4)⟩,c _ _ _ (Same.refl _) (by rw [n8_,et];rfl) rfl⟩
     · rw [a5.ints] at e5;refine ⟨E2,_,rfl,SqL.of e5,?_⟩;have hl5:=s5 _ _ (s4 _ _ (s3 _ _ (S2 _ _ hl)))
       have lastB:(line.getLastD 0).natAbs<2^400000:=by
        have hne:line≠[]:=by intro z;rw [z] at ll;simp at ll
        rw [List.getLastD_eq_getLast?,List.getLast?_eq_some_getLast hne];exact PO.bd _ (List.getLast_mem hne)
       refine ⟨_,rfl,_,rfl,_,rfl,l,_,-1,_,rfl,rfl,SqL.of hl5,Zlw (by intro z;rw [z] at ll;simp at ll),_,_,rfl,rfl,⟨up 1000000 B4,up 1000000 lastB⟩,_,rfl,_,_,rfl,rfl,_,rfl,_,rfl,_,rfl,l,_,pl,_,rfl,rfl,SqL.of hl5,getI (by omega),_,_,rfl,rfl,⟨up 1000000 B4,up 1000000 c4⟩,_,_,rfl,Int.mul_ne_zero (by omega) PO.nz,szB,fun p6 H6 s6 h6=>?_⟩;rw [key] at h6;exact q H6 _ (S2.trans (s3.trans (s4.trans (s5.trans s6)))) ⟨p6,rfl,.inl h6⟩
abbrev Zaw:Stmt:=top 35
theorem Zgi (F:Fun K "factors_of" "factors_of" Zaw f fd) (Cb_:a4_ P w K mg base):FnOk P w K mg base CX0 3 f fd ["bottoms"] Zfh:=by
 have sc:FnScope ["bottoms","many","found","bottom","factor"] ["bottoms"] (Zf Zaw):=fsc (by decide +kernel);refine F.ok sc (fun vs H Q E h=>by obtain ⟨l,ds,rfl,_⟩:=h;rfl) fun cdv A outer s H vs Q E hr h=>?_;obtain ⟨l,ds,rfl,hl,hd,h2,q⟩:=h;have nd:=sc.nd;refine' ⟨_,?term,?read⟩
 case term=>refine' @Zc _ _ _ _ _ ?g1 ?g2;(case g1=>refine' @Zv _ _ (1) _ _ _ _ nd rfl (Or.inl rfl) Zg (by rfl) (by first|exact Or.inl rfl|exact Or.inr rfl|assumption));case g2=>refine' @Zc _ _ _ _ _ ?g3 ?g4;(case g3=>refine' @Zv _ _ (2) _ _ _ _ nd rfl (Or.inl rfl) ?g5 (by rfl) (by first|exact Or.inl rfl|exact Or.inr rfl|assumption);case g5=>refine' @Y4 _ _ _ _ Zb);case g4=>refine' @Zc _ _ _ _ _ ?g6 (Zh (Zn (pv 2)));case g6=>refine' @Xi _ _ _ _ _ _ _ _ PassesOwn.never rfl (Yi (pv 0)) (Zi (i:=3) nd rfl (Or.inl rfl)) ?g7 (by intro _ ;rfl);case g7=>refine' @Zc _ _ _ _ _ ?g8 ?g9;(case g8=>refine' @Zv _ _ (4) _ _ _ _ nd rfl (Or.inl rfl) (Zm Yc (pv 3) (Zj Cb_ hr (by decide) rfl (Za (pv 1) (Za (pv 3) Zb rfl) rfl))) (by rfl) (by first|exact Or.inl rfl|exact Or.inr rfl|assumption));case g9=>refine' @Zh _ _ _ ?ga;case ga=>refine' @Yv _ _ _ _ _ _ _ _ (Zq Zdi (pv 4) Zg (Zw _)) ?gb Z3;case gb=>refine' @Zc _ _ _ _ _ ?gc ?gd;(case gc=>refine' @Zn7 _ _ (1) _ _ _ _ _ _ nd rfl (Or.inl rfl) (pv 4) Zkj (by first|exact Or.inl rfl|exact Or.inr rfl|assumption));case gd=>refine' @Zh _ _ _ ?ge;case ge=>refine' @Xw _ _ _ _ ?gf (by rfl);case gf=>refine' @Zdz _ _ _ _ _ _ _ _ _ _ _ _ PySem.F.plainAttrs_list PySem.F.slot_list_append PySem.F.type_list_append Y0 (pv 2) (Za (pv 4) Zb rfl) (by rfl) (by rfl) (by rfl) (by rfl) (by rfl)
 refine ⟨z0_,fun fa nfa=>?_⟩;generalize gG:upd H fa (.lst [])=H0;obtain ⟨s0,hfa⟩:=gen_upd gG nfa;refine ⟨_,rfl,l,rfl,⟨_,SqL.of (s0 _ _ hl)⟩,?_⟩;have nl:l≠fa:=Zl hl nfa;refine Xr (n:=ds.length) (fun i σ H2=>Keep fa H0 H2∧H2 fa=some (.lst ((fct (ds.take i)).2.map V.int))∧(fct (ds.take i)).2.length≤i∧∃ (x y:Option V),σ=[some (.ref l),some (.int (fct (ds.take i)).1),some (.ref fa),x,y]) ⟨Keep.refl _ _,hfa,n9_ _,none,none,rfl⟩ (fun i σ H2 hi p=>⟨_,V.int ds[i],SqL.of (p.1 _ _ nl (s0 _ _ hl)),by simp [hi]⟩) (fun σ H2 p=>⟨_,SqL.of (p.1 _ _ nl (s0 _ _ hl)),by simp⟩) (fun i x σ H2 H3 hi y p=>?_) (fun σ H2 p=>?_)
 · obtain ⟨kf,hf,lf,x',y',rfl⟩:=p;obtain ⟨rfl,y2⟩:=y;have ex:=y2 _ (SqL.of (kf _ _ nl (s0 _ _ hl)));rw [n8_,n0_ hi] at ex;cases ex
   obtain ⟨b0,b4⟩:=hd ds[i] (n13_ hi);have fo:=Zkc (ds.take i) fun x hx=>(hd x (n67_ hx)).1;have m0:=(Xd (ds.take i) fun x hx=>(hd x (n67_ hx)).1).1;have mB:=Zcx (k:=4000) (ds.take i) fun x hx=>hd x (n67_ hx);have li:(ds.take i).length≤200:=by rw [n96_];omega
   have st:fct (ds.take (i+1))=if 1<ds[i].fdiv (Int.gcd (fct (ds.take i)).1 ds[i]:Int) then ((fct (ds.take i)).1*ds[i].fdiv (Int.gcd (fct (ds.take i)).1 ds[i]:Int),(fct (ds.take i)).2++[ds[i].fdiv (Int.gcd (fct (ds.take i)).1 ds[i]:Int)]) else fct (ds.take i):=by
    rw [n36_ hi];unfold fct;rw [n74_];rfl
   rw [fo.1] at st;rw [fo.1];generalize lcmL (ds.take i)=m at *;have hg:=FM.gcd_ne (t:=m) (b:=ds[i]) (by omega);have gz:(Int.gcd m ds[i])<2^4000:=n12_ (Nat.gcd_le_right _ (by omega)) b4;refine ⟨_,rfl,_,rfl,_,rfl,m,ds[i],rfl,b4,_,_,rfl,rfl,⟨hg,up 8999 gz⟩,?_⟩;have jB:(ds[i].fdiv (Int.gcd m ds[i]:Int)).natAbs<2^4000:=Xl (by omega) b4;refine ⟨_,rfl,_,_,rfl,rfl,_,rfl,?_⟩;refine ite2 (fun h1=>?_) (fun h1=>?_)
   · rw [if_pos (n37_ h1)] at st;refine ⟨_,rfl,_,rfl,_,_,rfl,rfl,⟨up 1000000 mB (by omega),up 1000000 jB⟩,?_⟩;refine ⟨_,rfl,.inl ⟨rfl,_,SqL.of hf⟩,_,rfl,fa,_,_,rfl,rfl,hf,by rw [n2_,sizeLine_eq];omega,?_⟩;refine ⟨fun b o n e=>by rw [Zp n];exact kf b o n e,?_,?_,some (.int ds[i]),some (.int (ds[i].fdiv (Int.gcd m ds[i]:Int))),?_⟩
     · rw [st,n72_];exact Ze
     · rw [st,n20_];exact Nat.succ_le_succ lf
     · rw [st];rfl
   · have st':fct (ds.take (i+1))=fct (ds.take i):=by rw [st,if_neg fun z=>h1 (n32_ z)]
     refine ⟨kf,by rw [st'];exact hf,by rw [st'];omega,some (.int ds[i]),some (.int (ds[i].fdiv (Int.gcd m ds[i]:Int))),?_⟩;rw [st',fo.1];rfl
 · obtain ⟨kf,hf,lf,x',y',rfl⟩:=p;rw [n61_] at hf;exact ⟨_,rfl,q H2 fa (fun b o e=>kf _ _ (Zl e nfa) (s0 _ _ e)) hf⟩
abbrev Zej:Stmt:=top 36
theorem Zlv (F:Fun K "lowered" "lowered" Zej f fd) (Cb_:a4_ P w K mg base):FnOk P w K mg base CX0 3 f fd ["part","factors"] (Ze5 K):=by
 have sc:FnScope ["part","factors","top","bottom","factor","common"] ["part","factors"] (Zf Zej):=fsc (by decide +kernel);refine F.ok sc (fun vs H Q E h=>by obtain ⟨v,q,l,fs,rfl,_⟩:=h;rfl) fun cdv A outer s H vs Q E hr h=>?_;obtain ⟨v,x,l,fs,rfl,hv,hl,hf,h2,hn,hdn,q⟩:=h;have nd:=sc.nd;refine' ⟨_,?term,?read⟩
 case term=>refine' @Zc _ _ _ _ _ ?g1 ?g2;(case g1=>refine' @Yn _ _ _ _ _ _ (pv 0) ?g3 (by rfl) (by rfl) (by rfl);case g3=>refine' @Zy _ _ _ _ _ (2) rfl (Zd (Zi (i:=2) nd rfl (Or.inl rfl)) (Zd (Zi (i:=3) nd rfl (Or.inl rfl)) Zr)) (by rfl) (by rfl));case g2=>refine' @Zc _ _ _ _ _ ?g4 (Zh (Zn (Zu (Za (pv 2) (Za (pv 3) Zb rfl) rfl))));case g4=>refine' @Xi _ _ _ _ _ _ _ _ PassesOwn.never rfl (Yi (pv 1)) (Zi (i:=4) nd rfl (Or.inl rfl)) ?g5 (by intro _ ;rfl);case g5=>refine' @Zc _ _ _ _ _ ?g6 ?g7;(case g6=>refine' @Zv _ _ (5) _ _ _ _ nd rfl (Or.inl rfl) (Zj Cb_ hr (by decide) rfl (Za (pv 2) (Za (pv 4) Zb rfl) rfl)) (by rfl) (by first|exact Or.inl rfl|exact Or.inr rfl|assumption));case g7=>refine' @Zc _ _ _ _ _ ?g8 ?g9;(case g8=>refine' @Zn7 _ _ (2) _ _ _ _ _ _ nd rfl (Or.inl rfl) (pv 5) Zmb (by first|exact Or.inl rfl|exact Or.inr rfl|assumption));case g9=>refine' @Zh _ _ _ ?ga;case ga=>refine' @Zn7 _ _ (3) _ _ _ _ _ _ nd rfl (Or.inl rfl) (Zm Yc (pv 4) (pv 5)) Zkj (by first|exact Or.inl rfl|exact Or.inr rfl|assumption)
 obtain ⟨p,rfl,hp⟩:=hv;refine ⟨_,rfl,p,_,rfl,hp.sq,rfl,_,_,rfl,_,_,rfl,rfl,?_⟩;refine ⟨_,rfl,l,rfl,⟨_,SqL.of hl⟩,?_⟩;refine Xr (n:=fs.length) (fun i σ H2=>H2=H∧∃ (z:Rat) (a b:Option V),z=x/(Zcc (fs.take i):Rat)∧z.num.natAbs<2^200000∧z.den<2^(4000*(i+1))∧σ=[some (.ref p),some (.ref l),some (.int z.num),some (.int z.den),a,b]) ⟨rfl,x,none,none,?_,hn,by simpa using hdn,rfl⟩ (fun i σ H2 hi p=>⟨_,V.int fs[i],SqL.of (p.1 ▸ hl),by simp [hi]⟩) (fun σ H2 p=>⟨_,SqL.of (p.1 ▸ hl),by simp⟩) (fun i y σ H2 H3 hi yl p=>?_) (fun σ H2 p=>?_)
 · rw [List.take_zero];show x=x/((1:Int):Rat)
   have:((1:Int):Rat)=1:=rfl
   rw [this];grind
 · obtain ⟨rfl,z,a',b',ez,zn,zd,rfl⟩:=p;obtain ⟨rfl,y2⟩:=yl;have ex:=y2 _ (SqL.of hl);rw [n8_,n0_ hi] at ex;cases ex
   obtain ⟨f0,f4⟩:=hf fs[i] (n13_ hi);have ls:=Zow (q:=z) f0;have hg:=FM.gcd_ne (t:=z.num) (b:=fs[i]) (by omega);have gz:(Int.gcd z.num fs[i])<2^4000:=n12_ (Nat.gcd_le_right _ (by omega)) f4;have gp:(0:Int)<(Int.gcd z.num fs[i]:Int):=by omega
   have jB:(fs[i].fdiv (Int.gcd z.num fs[i]:Int)).natAbs<2^4000:=Xl gp f4;have hi2:4000*(i+1)≤800000:=by omega
   refine ⟨_,rfl,_,rfl,z.num,fs[i],rfl,f4,?_⟩;refine ⟨_,rfl,_,rfl,_,_,rfl,rfl,⟨hg,up 8999 gz⟩,?_⟩;refine ⟨_,rfl,_,rfl,_,rfl,_,_,rfl,rfl,⟨hg,up 8999 gz⟩,_,_,rfl,rfl,⟨up 1000000 (show (z.den:Int).natAbs<2^(4000*(i+1)) from zd) (by omega),up 1000000 jB⟩,?_⟩;refine ⟨rfl,z/(fs[i]:Rat),some (.int fs[i]),some (.int (Int.gcd z.num fs[i])),?_,?_,?_,by rw [ls.1,ls.2];rfl⟩
   · rw [n36_ hi,Zom (fun y hy=>?_),ez]
     rcases n46_.mp hy with h|h
     · exact (hf y (n67_ h)).1
     · rw [n15_.mp h];exact f0
   · rw [ls.1];exact Xl gp zn
   · have:=FM.natAbs_mul_lt (show (z.den:Int).natAbs<2^(4000*(i+1)) from zd) jB
     rw [← ls.2] at this;exact n10_ (show _<_ from this) (n23_ (by decide) (by omega))
 · obtain ⟨rfl,z,a',b',ez,zn,zd,rfl⟩:=p;rw [n61_] at ez;refine ⟨_,rfl,_,rfl,z2_,fun p2 np2=>?_⟩;exact q _ _ (Same.new np2) ⟨p2,rfl,by rw [← ez];exact Ze⟩
abbrev Zga:Stmt:=top 33
theorem Zmk (F:Fun K "filled" "filled" Zga f fd) (Caz_:a14_ P w K mg base):FnOk P w K mg base CX0 42 f fd ["steps","found"] (Zhh K):=by
 have sc:FnScope ["steps","found","told","place","line"] ["steps","found"] (Zf Zga):=fsc (by decide +kernel);refine F.ok sc (fun vs H Q E h=>by obtain ⟨s,a,ss,us,steps,xs,rfl,_⟩:=h;rfl) fun cdv A outer s H vs Q E hr h=>?_;obtain ⟨s',a,ss,us,steps,xs,rfl,hs,als,ha,al,FO,q⟩:=h;have nd:=sc.nd;refine' ⟨_,?term,?read⟩
 case term=>refine' @Zc _ _ _ _ _ ?g1 ?g2;(case g1=>refine' @Zv _ _ (2) _ _ _ _ nd rfl (Or.inl rfl) (Yo Zfu rfl T.b_list Zmo (Za (pv 1) Zb rfl)) (by rfl) (by first|exact Or.inl rfl|exact Or.inr rfl|assumption));case g2=>refine' @Zc _ _ _ _ _ ?g3 (Zh (Zn (pv 2)));case g3=>refine' @Xi _ _ _ _ _ _ _ _ PassesOwn.never rfl (Zsg rfl T.b_reversed Zjg (Za (pv 0) Zb rfl)) ?g4 ?g5 (by intro _ ;rfl);(case g4=>refine' @Zy _ _ _ _ _ (2) rfl (Zd (Zi (i:=3) nd rfl (Or.inl rfl)) (Zd (Zi (i:=4) nd rfl (Or.inl rfl)) Zr)) (by rfl) (by rfl));case g5=>refine' @Zh _ _ _ ?g6;case g6=>refine' @Yn _ _ _ _ _ _ (Zj Caz_ hr (by decide) rfl (Za (pv 3) (Za (pv 4) (Za (pv 2) Zb rfl) rfl) rfl)) ?g7 (by rfl) (by rfl) (by rfl);case g7=>refine' @Zda _ _ _ _ _ _ _ (pv 2) (pv 3) X7 (by intro _ ;rfl)
 refine ⟨_,rfl,a,us,rfl,.inl (SqL.of ha),fun t nt _=>?_⟩;generalize gG:upd H t (.lst us)=H0;obtain ⟨s0,ht⟩:=gen_upd gG nt;have lss:=als.1;have nst:s'≠t:=Zl hs nt;refine ⟨_,rfl,s',ss,rfl,SqL.of (s0 _ _ hs),?_⟩;refine Xr (n:=ss.length) (fun i σ H2=>Keep t H0 H2∧∃ (ts:List V) (x y:Option V),H2 t=some (.lst ts)∧Al (IsQ K H2) ts (fil (steps.drop (ss.length-i)) xs)∧σ=[some (.ref s'),some (.ref a),some (.ref t),x,y]) ⟨Keep.refl _ _,us,none,none,ht,?_,rfl⟩ (fun i σ H2 hi p=>⟨ss,ss[ss.length-1-i],SqL.of (p.1 _ _ nst (s0 _ _ hs)),hi,n0_ (by omega)⟩) (fun σ H2 p=>rfl) (fun i y σ H2 H3 hi yl p=>?_) (fun σ H2 p=>?_)
 · rw [Nat.sub_zero,List.drop_of_length_le (by omega)];exact al.imp fun v x r=>hRQ _ _ _ _ s0.tk r
 · obtain ⟨kt,ts,x,y',ht2,alt,rfl⟩:=p;obtain ⟨rfl,y2⟩:=yl;have ey:=y2 _ (SqL.of (kt _ _ nst (s0 _ _ hs)));have hk:ss.length-1-i<steps.length:=by omega
   obtain ⟨stp,es,pp,l,rfl,hpp,hl⟩:=als.get ey;have npt:pp≠t:=Zl hpp nt;have nlt:l≠t:=Zl hl nt;have eg:steps.getD (ss.length-1-i) (0,[])=stp:=Zjd es;have PO:=FO.ok _ hk;rw [eg,show ss.length-1-i+1=ss.length-i by omega] at PO;refine ⟨pp,_,rfl,SqT.of (kt _ _ npt (s0 _ _ hpp)),rfl,_,_,rfl,_,_,rfl,rfl,?_⟩;refine ⟨_,rfl,_,rfl,_,rfl,stp.1,l,t,stp.2,ts,_,rfl,kt _ _ nlt (s0 _ _ hl),ht2,alt,PO,fun H4 v s4 hv=>?_⟩;have lt':=alt.1;have PL:=PO.lt;refine ⟨_,rfl,_,rfl,t,ts,(stp.1:Int),stp.1,rfl,rfl,s4 _ _ ht2,by unfold ixN;rw [if_pos (by omega),if_pos (by omega),n58_],?_⟩;refine ⟨fun b o n e=>by rw [Zp n];exact s4 _ _ (kt b o n e),ts.set stp.1 v,_,_,Ze,?_,rfl⟩
   have dr:steps.drop (ss.length-(i+1))=stp :: steps.drop (ss.length-i):=by
    have h1:=List.drop_eq_getElem_cons hk;rw [show ss.length-1-i+1=ss.length-i by omega] at h1;rw [show ss.length-(i+1)=ss.length-1-i by omega,h1]
    congr 1
    exact Option.some.inj ((n0_ hk).symm.trans es)
   rw [dr];show Al _ _ ((fil (steps.drop (ss.length-i)) xs).set stp.1 (putQ stp.1 stp.2 (fil (steps.drop (ss.length-i)) xs)))
   have tk5:Tk H4 (upd H4 t (.lst (ts.set stp.1 v))):=Tk.upd_lst (s4 _ _ ht2);refine ⟨by rw [n47_,n47_];exact lt',fun j w' x' e1 e2=>?_⟩;rw [List.getElem?_set] at e1 e2
   by_cases hj:stp.1=j
   · rw [if_pos hj] at e1 e2;rw [if_pos (by omega)] at e1 e2;cases e1;cases e2
     exact hRQ _ _ _ _ tk5 hv
   · rw [if_neg hj] at e1 e2;exact hRQ _ _ _ _ tk5 (hRQ _ _ _ _ s4.tk (alt.2 j w' x' e1 e2))
 · obtain ⟨kt,ts,x,y',ht2,alt,rfl⟩:=p;rw [Nat.sub_self,List.drop_zero] at alt;exact ⟨_,rfl,q H2 t ts (fun b o e=>kt _ _ (Zl e nt) (s0 _ _ e)) ht2 alt⟩
abbrev Zbt:Stmt:=top 23
theorem Zim (F:Fun K "places_of" "places_of" Zbt f fd):FnOk P w K mg base CX0 1 f fd ["rows"] (Zhb K):=by
 have sc:FnScope ["rows"] ["rows"] (Zf Zbt):=fsc (by decide +kernel);refine F.ok sc (fun vs H Q E h=>by obtain ⟨a,k,us,rows,rfl,_⟩:=h;rfl) fun cdv A outer s H vs Q E hr h=>?_;obtain ⟨a,k,us,rows,rfl,ha,al,q⟩:=h;refine' ⟨_,?term,?read⟩
 case term=>refine' @Zh _ _ _ ?g1;case g1=>refine' @Zn _ _ _ _ ?g2;case g2=>refine' @Zao _ _ _ _ _ _ _ _ ?g3 ?g4 Zg;(case g3=>refine' @Yg _ _ _ (pv 0) (fun _=>rfl));case g4=>refine' @Zk _ _ _ _ _ _ _ _ _ Zt rfl T.b_len Y6 ?g5 (by decide) (by decide) (by rfl) (by rfl);case g5=>refine' @Za _ _ _ _ _ ?g6 Zb rfl;case g6=>refine' @Z1 _ _ _ _ _ _ _ (Zl0 K rfl) (pv 0) Zg (fun _ _=>rfl)
 have lu:=al.1
 have tr:TruV K (.ref a) H (!us.isEmpty):=by
  cases k with
  | l=>exact .inl ⟨us,SqL.of ha,rfl⟩
  | t=>exact .inr (.inl ⟨us,SqT.of ha,rfl⟩)
 refine ⟨_,rfl,_,tr,?_⟩;cases us with
 | nil =>
   obtain rfl:rows=[]:=n86_.mp lu.symm;exact iteF q
 | cons u us =>
   cases rows with
   | nil=>simp at lu
   | cons r rows =>
     obtain ⟨p,ps,rfl,hp,alp⟩:=al.2 0 u r rfl rfl;refine iteT ⟨_,rfl,a,_,0,_,k,rfl,rfl,ha.sq,Yh (show (V.ref p :: us)[0]? = some (.ref p) from rfl),p,_,rfl,.inr (SqT.of hp),?_⟩;rw [alp.1];exact q
abbrev Zbj:Stmt:=top 34
theorem Zhw (F:Fun K "rights_to" "rights_to" Zbj f fd) (Ca3_:a15_ P w K mg base) (Cp_:a8_ P w K mg base):FnOk P w K mg base CX0 6 f fd ["rows","rights"] (Zeo K):=by
 have sc:FnScope ["rows","rights","scales"] ["rows","rights"] (Zf Zbj):=fsc (by decide +kernel);refine F.ok sc (fun vs H Q E h=>by obtain ⟨a,g,k,kg,us,gs,rows,rights,b,rfl,_⟩:=h;rfl) fun cdv A outer s H vs Q E hr h=>?_;obtain ⟨a,g,k,kg,us,gs,rows,rights,b,rfl,ha,al,hg,alg,RB,q⟩:=h;have nd:=sc.nd;refine' ⟨_,?term,?read⟩
 case term=>refine' @Zc _ _ _ _ _ ?g1 ?g2;(case g1=>refine' @X0 _ _ _ _ _ _ _ _ _ _ (["row"]) ([none]) _ _ _ _ _ _ rfl rfl (Zi (i:=2) nd rfl (Or.inl rfl)) (Z9 (by decide) rfl (by decide) rfl rfl) (Zbs K rfl (pv 0)) (fun _ _ _ _=>pgB 0) (fun _ _ _ _=>Zs) (fun _ _ _ _=>Zj Cp_ hr (by decide) rfl (Za (pv 0) Zb rfl)) (by intro _ ;rfl));case g2=>refine' @Zh _ _ _ ?g3;case g3=>refine' @Zn _ _ _ _ ?g4;case g4=>refine' @Xb _ _ _ _ _ _ _ (["right","many","common"]) ([none,none,none]) _ _ ((gTup K 2 (Yb (gTup K 2 (Yb (Z4 1) (Yb (Z4 2) gNil))) (Yb (Z4 0) gNil)))) _ _ rfl (Z9 (by decide) rfl (by decide) rfl rfl) (Zi1 rfl T.b_zip (Za (pv 2) (Za (pv 1) Zb rfl) rfl)) (fun _ _ _ _=>Zy (n:=2) rfl (Zd (Zy (n:=2) rfl (Zd (pgB 1) (Zd (pgB 2) Zr))) (Zd (pgB 0) Zr))) (fun _ _ _ _=>Zs) (fun _ _ _ _=>Zj Ca3_ hr (by decide) rfl (Za (Zu (Za (pv 1) Zb rfl)) (Za (Zu (Za (pv 0) Zb rfl)) (Za (pv 2) Zb rfl) rfl) rfl)) (by intro _ ;rfl)
 have lu:=al.1;have lg:=alg.1;have rl:=RB.rl;have n2:=RB.n;refine ⟨_,rfl,a,k,rfl,⟨_,ha.sq⟩,fun D nD=>?_⟩;refine lc_T (k:=k) (vs:=us) (IsSc K) IsSc.tk (rows.map scl) (by simp [lu]) (by omega) nD ha (fun i w H2 C hw s2 c=>?_) (fun H2 ss s2 e2 a2=>?_)
 · obtain ⟨row,er,p,ps,rfl,hp,alp⟩:=al.get hw;exact ⟨_,rfl,p,.t,ps,row,b,rfl,s2 _ _ hp,alp.imp fun v x r=>hRQ _ _ _ _ s2.tk r,RB.rb row (n4_ er),fun H5 v s5 h5=>c _ _ _ s5 (by rw [n8_,er];rfl) h5⟩
 have lss:=a2.1;rw [n2_] at lss;refine ⟨_,rfl,_,rfl,D,g,.l,kg,rfl,⟨_,SqL.of e2⟩,⟨_,(hg.same s2).sq⟩,fun E nE=>?_⟩;refine Zat (n:=rows.length) (IsQ K) (fun H1 H2 v x k e r=>hRQ _ _ _ _ (Zb6 k e) r) (fun i=>(rtv rows rights)[i]?) (by omega) (fun σ=>∃ a b c,σ=[a,b,c]) ⟨_,_,_,rfl⟩ nE (fun i H3 s hi=>⟨ss,gs,ss[i],gs[i],SqL.of (s _ _ e2),((hg.same s2).same s).sq,n0_ (by omega),n0_ (by omega)⟩) (fun H3 s=>⟨ss,gs,SqL.of (s _ _ e2),((hg.same s2).same s).sq,by omega⟩) (fun i x σ2 H3 H4 C N hi s3 eD y ok c n=>?_) (fun H3 es s3 e3 a3=>?_)
 · obtain ⟨a1,a2',a3,rfl⟩:=ok;obtain ⟨p,v,u,rfl,np,rfl,y1,y2⟩:=y;have ev:=y1 ss (SqL.of (s3 _ _ e2));have eu:=y2 gs ((hg.same s2).same s3).sq;obtain ⟨sc,es,p1,rfl,h1⟩:=a2.get ev;rw [n8_] at es;obtain ⟨row,er,rfl⟩:=n52_.mp es;obtain ⟨r,eg,f',rfl,hf⟩:=alg.get eu;have s4:Same H3 (upd H3 p (.tup [.ref p1,.ref f'])):=Same.new np;have S4:=s2.trans (s3.trans s4);have h1':SqT K (upd H3 p (.tup [.ref p1,.ref f'])) p1 [.int (scl row).1,.int (scl row).2]:=h1.elim (fun z=>SqT.of (s4 _ _ (s3 _ _ z))) KTu.sq;obtain ⟨m1,m2,m3⟩:=RB.mx (n4_ er) (n4_ eg);refine ⟨p,_,rfl,SqT.of Ze,rfl,_,_,rfl,p1,_,rfl,h1',rfl,_,_,rfl,_,_,rfl,rfl,_,_,rfl,rfl,?_⟩;refine X6 ?_;refine ⟨_,rfl,z1_,fun p5 np5=>?_⟩;have s5:Same _ (upd (upd H3 p (.tup [.ref p1,.ref f'])) p5 (.tup [.int (scl row).1])):=Same.new np5;have h5:upd (upd H3 p (.tup [.ref p1,.ref f'])) p5 (.tup [.int (scl row).1]) p5=some (.tup [.int (scl row).1]):=Ze;generalize upd (upd H3 p (.tup [.ref p1,.ref f'])) p5 (.tup [.int (scl row).1])=H5 at s5 h5 ⊢;refine ⟨_,rfl,z1_,fun p6 np6=>?_⟩;generalize gG:upd H5 p6 (.tup [.ref f'])=H6;obtain ⟨s6,h6⟩:=gen_upd gG np6;have S6:=S4.trans (s5.trans s6);refine ⟨_,rfl,p5,.t,[(scl row).1],p6,.t,[.ref f'],[r],b,(scl row).2,rfl,s6 _ _ h5,fun z hz=>?_,h6,?_,m1,m2,m3,fun H7 v s7 h7=>?_⟩
   · rw [n15_.mp hz];exact up _ (Zhj (RB.rb row (n4_ er))).2.1
   · refine ⟨rfl,fun j v' x' e1 e2=>?_⟩;cases j with
     | zero=>cases e1;cases e2;exact ⟨f',rfl,hf.imp (fun z=>S6 _ _ z) id⟩
     | succ j=>simp at e1
   · exact c _ _ _ _ ⟨_,_,_,rfl⟩ (s4.trans (s5.trans (s6.trans s7))) (by unfold rtv;rw [n18_,er,eg]) h7
 · rw [Z5 _ _ (by unfold rtv;rw [n22_];omega)] at a3;exact q H3 E es (s2.trans s3) (Zdh s2 nE) e3 a3
abbrev X8:Stmt:=top 37
theorem Zfw (F:Fun K "settled_by" "settled_by" X8 f fd) (N0:Zlp K mg "NOUGHT" 0 1) (Ca0_:a16_ P w K mg base):FnOk P w K mg base CX0 43 f fd ["steps","places","at"] (Zc9 K):=by
 have sc:FnScope ["steps","places","at","lines"] ["steps","places","at"] (Zf X8):=fsc (by decide +kernel);refine F.ok sc (fun vs H Q E h=>by obtain ⟨s,ss,steps,n,rfl,_⟩:=h;rfl) fun cdv A outer s H vs Q E hr h=>?_;obtain ⟨s',ss,steps,n,rfl,hs,als,h1k,n1k,hlen,FO,q⟩:=h;have nd:=sc.nd;obtain ⟨n_,hng,hnk⟩:=N0;refine' ⟨_,?term,?read⟩
 case term=>refine' @Zc _ _ _ _ _ ?g1 ?g2;(case g1=>refine' @X0 _ _ _ _ _ _ _ _ _ _ (["place","line","places","at"]) ([none,none,some 1,some 2]) _ _ ((gTup K 2 (Yb (Z4 0) (Yb (Z4 1) gNil)))) _ _ _ rfl rfl (Zi (i:=3) nd rfl (Or.inl rfl)) (Z7 (XN:=["steps","places","at","lines"]) (Scope.names (Zf X8)) rfl rfl rfl (fun _ h=>Z0 h) (by decide +kernel) rfl) (Yi (pv 0)) (fun _ _ _ _=>Zy (n:=2) rfl (Zd (pgB 0) (Zd (pgB 1) Zr))) (fun _ _ _ _=>Zs) (fun _ _ _ _=>Zu (Za (pv 0) (Za (Zm Zh6 (Zby (Zo0 K rfl) (pv 1) Zeb (Zdv (pv 2))) (Y4 (Za (Z1 (Zaa K rfl) (pv 1) (Zm Yx (pv 2) (pv 3)) (fun _ _=>rfl)) Zb rfl))) Zb rfl) rfl)) (by intro _ ;rfl));case g2=>refine' @Zh _ _ _ ?g3;case g3=>refine' @Zn _ _ _ _ ?g4;case g4=>refine' @Zj _ _ _ _ _ _ _ _ _ _ _ Ca0_ hr (by decide) rfl ?g5 (by decide) (by rfl) (by rfl);case g5=>refine' @Za _ _ _ _ _ (pv 3) ?g6 rfl;case g6=>refine' @Za _ _ _ _ _ ?g7 Zb rfl;case g7=>refine' @Zm _ _ _ _ _ _ _ _ Zmh ?g8 (pv 1);case g8=>refine' @Y4 _ _ _ _ ?g9;case g9=>refine' @Za _ _ _ _ _ ?ga Zb rfl;case ga=>refine' @Zdr _ _ _ _ _ rfl hng (show RelV (.ref n_) (Value.ref n_) from rfl) (by decide)
 have lss:=als.1;refine ⟨_,rfl,s',rfl,⟨_,SqL.of hs⟩,fun D nD=>?_⟩;refine Zat (n:=ss.length) (IsLnN fun b=>b=D) (fun H1 H2 v x k _ h=>h.keep fun b o n e=>k b o n e) (fun i=>(steps.map stI)[i]?) (by omega) (fun σ=>∃ a b,σ=[a,b,some (.int n),some (.int 0)]) ⟨_,_,rfl⟩ nD (fun j H2 s hj=>Zar (k:=.l) (show SK.l.At H2 s' _ from s _ _ hs) hj) (fun H2 s=>Y8 (k:=.l) (show SK.l.At H2 s' _ from s _ _ hs) (n9_ _)) (fun j x σ2 H2 H3 C N hj s2 eD y ok c n'=>?_) (fun H2 ts s2 e2 a2=>?_)
 · obtain ⟨a1,a2,rfl⟩:=ok;obtain ⟨wsD,eD⟩:=eD;obtain ⟨rfl,ex⟩:=Xk (k:=.l) (show SK.l.At H2 s' _ from s2 _ _ hs) y;obtain ⟨st,est,p,l,rfl,hp,hl⟩:=als.get ex;have ll:=hlen st (n4_ est);change H l=some (.lst (st.2.map V.int)) at hl;have hl2:=s2 _ _ hl;refine ⟨p,_,rfl,SqT.of (s2 _ _ hp),rfl,_,_,rfl,_,_,rfl,rfl,?_⟩;refine X6 ?_;refine ⟨_,rfl,_,rfl,_,rfl,_,rfl,l,_,rfl,SqL.of hl2,fun l4 nl4=>?_⟩;rw [Zof];generalize gG:upd H3 l4 (.lst ((st.2.map V.int).take n))=H4;obtain ⟨s4,h4⟩:=gen_upd gG nl4;refine ⟨_,rfl,_,rfl,_,rfl,_,_,rfl,rfl,l,_,(n:Int),_,rfl,rfl,SqL.of (s4 _ _ hl2),getI (by omega),z1_,fun l5 nl5=>?_⟩;generalize gG:upd H4 l5 (.lst [.int (st.2.getD n 0)])=H5;obtain ⟨s5,h5⟩:=gen_upd gG nl5;refine ⟨l4,l5,_,_,rfl,rfl,s5 _ _ h4,h5,by simp only [n96_,n2_,n33_,n73_,sizeLine_eq];omega,fun l6 nl6=>?_⟩
   have ecat:(st.2.map V.int).take n++[.int (st.2.getD n 0)]=st.2.map V.int:=by
    rw [n1_,n0_ (show n<st.2.length by omega),← List.map_take];show (st.2.take n).map V.int++[st.2[n]].map V.int=_
    rw [← n72_,← n36_ (show n<st.2.length by omega),List.take_of_length_le (by omega)]
   rw [ecat];generalize gG:upd H5 l6 (.lst (st.2.map V.int))=H6;obtain ⟨s6,h6⟩:=gen_upd gG nl6;refine ⟨z2_,fun p7 np7=>?_⟩;refine c _ _ _ (stI st) ⟨_,_,rfl⟩ (s4.trans (s5.trans (s6.trans (Same.new np7)))) (by rw [n8_,est];rfl) ⟨p7,l6,rfl,?_,?_,Ze,Same.new np7 _ _ h6⟩
   · intro z;rw [z,s6 _ _ (s5 _ _ (s4 _ _ eD))] at np7;cases np7
   · intro z;rw [z,s5 _ _ (s4 _ _ eD)] at nl6;cases nl6
 · rw [Z5 _ _ (by rw [n2_];exact lss)] at a2;refine ⟨_,rfl,z1_,fun l3 nl3=>?_⟩;generalize gG:upd H2 l3 (.lst [.ref n_])=H3;obtain ⟨s3,h3⟩:=gen_upd gG nl3;refine ⟨_,rfl,l3,(n:Int),_,rfl,rfl,h3,by omega,by omega,by simp only [n33_,n73_,n58_,sizeLine_eq];omega,fun l4 nl4=>?_⟩
   have er:(List.replicate (n:Int).toNat [V.ref n_]).flatten=List.replicate n (V.ref n_):=by
    rw [n58_];exact Zdl _ n
   rw [er];generalize gG:upd H3 l4 (.lst (List.replicate n (.ref n_)))=H4;obtain ⟨s4,h4⟩:=gen_upd gG nl4;have S24:=s3.trans s4;refine ⟨D,l4,ts,_,steps,List.replicate n 0,rfl,S24 _ _ e2,⟨by rw [a2.1,n2_],fun i v x e1 e2'=>?_⟩,h4,⟨by rw [n14_,n14_],fun i v x e1 e2'=>?_⟩,FO,fun H5 l us' s5 h5 a5=>q H5 l us' (s2.trans (S24.trans s5)) h5 a5⟩
   · have:=a2.2 i v (stI x) e1 (by rw [n8_,e2'];rfl)
     exact (this.ln).same S24
   · rw [n26_] at e1 e2';split at e1
     · rename_i hi
       rw [if_pos hi] at e2';cases e1;cases e2'
       exact ⟨n_,rfl,.inr hnk⟩
     · cases e1
abbrev Yj:Stmt:=top 38
theorem Zdu (F:Fun K "settled_each" "settled_each" Yj f fd) {Ph:Addr} (Caf_:a17_ P w K mg base) (Cq_:a11_ P w K mg base) (Cax_:a18_ P w K mg base) (Cn_:a19_ P w K mg base) (Cam_:a20_ P w K mg base) (Cag_:a21_ P w K mg base) (Cay_:Cal P w K mg base "stepped" 14 ["lines","places"] (Zct Ph)) (Ca4_:a22_ P w K mg base):FnOk P w K mg base CX0 44 f fd ["rows","columns"] (Zbm K Ph):=by
 have sc:FnScope ["rows","columns","places","ends","tops","lines","steps","left","found","at","parts","factors"] ["rows","columns"] (Zf Yj):=fsc (by decide +kernel);refine F.ok sc (fun vs H Q E h=>by obtain ⟨a,ca,g,k,kg,us,gs,rows,rights,b,c,rfl,_⟩:=h;rfl) fun cdv A outer s H vs Q E hr h=>?_;obtain ⟨a,ca,g,k,kg,us,gs,rows,rights,b,c,rfl,ha,al,hca,hg,alg,SO,tb,q⟩:=h;have nd:=sc.nd;refine' ⟨_,?term,?read⟩
 case term=>refine' @Zc _ _ _ _ _ ?g1 ?g2;(case g1=>refine' @Zv _ _ (2) _ _ _ _ nd rfl (Or.inr rfl) (Zj Cn_ hr (by decide) rfl (Za (pv 0) Zb rfl)) (by rfl) (by first|exact Or.inl rfl|exact Or.inr rfl|assumption));case g2=>refine' @Zc _ _ _ _ _ ?g3 ?g4;(case g3=>refine' @X0 _ _ _ _ _ _ _ _ _ _ (["rights","rows"]) ([none,some 0]) _ _ _ _ _ _ rfl rfl (Zi (i:=3) nd rfl (Or.inl rfl)) (Z7 (XN:=["rows","columns","places","ends","tops","lines","steps","left","found","at","parts","factors"]) (Scope.names (Zf Yj)) rfl rfl rfl (fun _ h=>Z0 h) (by decide +kernel) rfl) (Yi (pv 1)) (fun _ _ _ _=>pgB 0) (fun _ _ _ _=>Zs) (fun _ _ _ _=>Zj Cam_ hr (by decide) rfl (Za (pv 1) (Za (pv 0) Zb rfl) rfl)) (by intro _ ;rfl));case g4=>refine' @Zc _ _ _ _ _ ?g5 ?g6;(case g5=>refine' @Zv _ _ (4) _ _ _ _ nd rfl (Or.inr rfl) ?g7 (by rfl) (by first|exact Or.inl rfl|exact Or.inr rfl|assumption);case g7=>refine' @Xb _ _ _ _ _ _ _ (["parts"]) ([none]) _ _ _ _ _ rfl (Z9 (by decide) rfl (by decide) rfl rfl) (Yi (pv 3)) (fun _ _ _ _=>pgB 0) (fun _ _ _ _=>Zs) (fun _ _ _ _=>Z1 (Zai K rfl) (Zj Cq_ hr (by decide) rfl (Za (pv 0) Zb rfl)) Zg (fun _ _=>rfl)) (by intro _ ;rfl));case g6=>refine' @Zc _ _ _ _ _ ?g8 ?g9;(case g8=>refine' @X0 _ _ _ _ _ _ _ _ _ _ (["at","row","tops"]) ([none,none,some 4]) _ _ ((gTup K 2 (Yb (Z4 0) (Yb (Z4 1) gNil)))) _ _ _ rfl rfl (Zi (i:=5) nd rfl (Or.inl rfl)) (Z7 (XN:=["rows","columns","places","ends","tops","lines","steps","left","found","at","parts","factors"]) (Scope.names (Zf Yj)) rfl rfl rfl (fun _ h=>Z0 h) (by decide +kernel) rfl) (Zkt rfl T.b_enumerate (Za (pv 0) Zb rfl)) (fun _ _ _ _=>Zy (n:=2) rfl (Zd (Zi (i:=0) (show List.Nodup (["at","row","tops"]:List Str) by decide) rfl (Or.inr rfl) (Or.inl rfl)) (Zd (pgB 1) Zr))) (fun _ _ _ _=>Zs) (fun _ _ _ _=>Zm Zh6 (Zj Ca4_ hr (by decide) rfl (Za (pv 1) Zb rfl)) (Xb (N:=["column","at"]) (fr:=[none,some 0]) rfl (Z7 (XN:=["at","row","tops"]) (relN _ (Scope.names (Zf Yj))) rfl rfl rfl (fun _ h=>Zhz (by decide +kernel) h) (by decide +kernel) rfl) (Zou K rfl (pv 2)) (fun _ _ _ _=>pgB 0) (fun _ _ _ _=>Zs) (fun _ _ _ _=>Z1 (Zaa K rfl) (pv 0) (pv 1) (fun _ _=>rfl)))) (by intro _ ;rfl));case g9=>refine' @Zc _ _ _ _ _ ?ga ?gb;(case ga=>refine' @Yn _ _ _ _ _ _ (Zj Cay_ hr (by decide) rfl (Za (pv 5) (Za (pv 2) Zb rfl) rfl)) ?gc (by rfl) (by rfl) (by rfl);case gc=>refine' @Zy _ _ _ _ _ (2) rfl (Zd (Zi (i:=6) nd rfl (Or.inl rfl)) (Zd (Zi (i:=7) nd rfl (Or.inl rfl)) Zr)) (by rfl) (by rfl));case gb=>refine' @Zc _ _ _ _ _ ?gd ?ge;(case gd=>refine' @Zv _ _ (8) _ _ _ _ nd rfl (Or.inl rfl) ?gf (by rfl) (by first|exact Or.inl rfl|exact Or.inr rfl|assumption);case gf=>refine' @Y4 _ _ _ _ Zb);case ge=>refine' @Zc _ _ _ _ _ ?gg ?gh;(case gg=>refine' @Xi _ _ _ _ _ _ _ _ PassesOwn.never rfl (Zkt rfl T.b_enumerate (Za (pv 3) Zb rfl)) ?gi ?gj (by intro _ ;rfl);(case gi=>refine' @Zy _ _ _ _ _ (2) rfl (Zd (Zi (i:=9) nd rfl (Or.inr rfl)) (Zd (Zi (i:=10) nd rfl (Or.inl rfl)) Zr)) (by rfl) (by rfl));case gj=>refine' @Zh _ _ _ ?gk;case gk=>refine' @Yv _ _ _ _ _ _ _ _ ?gl ?gm ?gn;(case gl=>refine' @Yg _ _ _ ?go (fun _=>rfl);case go=>refine' @Zk _ _ _ _ _ _ _ _ _ (Znz rfl) rfl T.b_any Zsk ?gp (by decide) (by decide) (by rfl) (by rfl);case gp=>refine' @Za _ _ _ _ _ ?gq Zb rfl;case gq=>refine' @Xb _ _ _ _ _ _ _ (["line","places","at"]) ([none,some 2,some 9]) _ _ _ _ _ rfl (Z7 (XN:=["rows","columns","places","ends","tops","lines","steps","left","found","at","parts","factors"]) (Scope.names (Zf Yj)) rfl rfl rfl (fun _ h=>Z0 h) (by decide +kernel) rfl) (Yi (pv 7)) (fun _ _ _ _=>pgB 0) (fun _ _ _ _=>Zs) (fun _ _ _ _=>Zc1 Ze1 (Z1 (Zaa K rfl) (pv 0) (Zm Yx (pv 1) (pv 2)) (fun _ _=>rfl)) Zg (Zw _)) (by intro _ ;rfl));(case gm=>refine' @Zh _ _ _ ?gr;case gr=>refine' @Xw _ _ _ _ ?gs (by rfl);case gs=>refine' @Zdz _ _ _ _ _ _ _ _ _ _ _ _ PySem.F.plainAttrs_list PySem.F.slot_list_append PySem.F.type_list_append Y0 (pv 8) (Za Zc6 Zb rfl) (by rfl) (by rfl) (by rfl) (by rfl) (by rfl));case gn=>refine' @Zc _ _ _ _ _ ?gt ?gu;(case gt=>refine' @Zv _ _ (11) _ _ _ _ nd rfl (Or.inr rfl) ?gv (by rfl) (by first|exact Or.inl rfl|exact Or.inr rfl|assumption);case gv=>refine' @Zj _ _ _ _ _ _ _ _ _ _ _ Caf_ hr (by decide) rfl ?gw (by decide) (by rfl) (by rfl);case gw=>refine' @Za _ _ _ _ _ ?gx Zb rfl;case gx=>refine' @Xb _ _ _ _ _ _ _ (["top","bottom"]) ([none,none]) _ _ ((gTup K 2 (Yb (Z4 0) (Yb (Z4 1) gNil)))) _ _ rfl (Z9 (by decide) rfl (by decide) rfl rfl) (Yi (pv 10)) (fun _ _ _ _=>Zy (n:=2) rfl (Zd (pgB 0) (Zd (pgB 1) Zr))) (fun _ _ _ _=>Zs) (fun _ _ _ _=>pv 1) (by intro _ ;rfl));case gu=>refine' @Zh _ _ _ ?gy;case gy=>refine' @Xw _ _ _ _ ?gz (by rfl);case gz=>refine' @Zdz _ _ _ _ _ _ _ _ _ _ _ _ PySem.F.plainAttrs_list PySem.F.slot_list_append PySem.F.type_list_append Y0 (pv 8) ?g10 (by rfl) (by rfl) (by rfl) (by rfl) (by rfl);case g10=>refine' @Za _ _ _ _ _ ?g11 Zb rfl;case g11=>refine' @Yo _ _ _ _ _ _ _ _ _ Yd rfl T.b_tuple Yr ?g12 (by decide) (by decide) (by rfl) (by rfl);case g12=>refine' @Za _ _ _ _ _ ?g13 Zb rfl;case g13=>refine' @Xb _ _ _ _ _ _ _ (["part","factors"]) ([none,some 11]) _ _ _ _ _ rfl (Z7 (XN:=["rows","columns","places","ends","tops","lines","steps","left","found","at","parts","factors"]) (Scope.names (Zf Yj)) rfl rfl rfl (fun _ h=>Z0 h) (by decide +kernel) rfl) (Yi (Zj Cag_ hr (by decide) rfl (Za (pv 6) (Za (pv 2) (Za (pv 9) Zb rfl) rfl) rfl))) (fun _ _ _ _=>pgB 0) (fun _ _ _ _=>Zs) (fun _ _ _ _=>Zj Cax_ hr (by decide) rfl (Za (pv 0) (Za (pv 1) Zb rfl) rfl)) (by intro _ ;rfl));case gh=>refine' @Zh _ _ _ ?g14;case g14=>refine' @Zn _ _ _ _ ?g15;case g15=>refine' @Zu _ _ _ _ _ ?g16;case g16=>refine' @Za _ _ _ _ _ ?g17 (Za (pv 8) Zb rfl) rfl;case g17=>refine' @Xb _ _ _ _ _ _ _ (["place","line"]) ([none,none]) _ _ ((gTup K 2 (Yb (Z4 0) (Yb (Z4 1) gNil)))) _ _ rfl (Z9 (by decide) rfl (by decide) rfl rfl) (Yi (pv 6)) (fun _ _ _ _=>Zy (n:=2) rfl (Zd (pgB 0) (Zd (pgB 1) Zr))) (fun _ _ _ _=>Zs) (fun _ _ _ _=>pv 0) (by intro _ ;rfl)
 have lu:=al.1;have lg:=alg.1;have rl:=SO.rl;have n2:=SO.n;refine ⟨_,rfl,a,k,us,rows,rfl,ha,al,?_⟩;refine ⟨_,rfl,ca,rfl,⟨_,SqL.of hca⟩,fun D nD=>?_⟩;refine Zat (n:=1) (fun H v (x:List Rat)=>∃ l es,v=V.ref l∧l≠D∧H l=some (.lst es)∧Al (IsQ K H) es x) (fun H1 H2 v x k e ⟨l,es,e1,n,h,r⟩=>⟨l,es,e1,n,k _ _ n h,r.imp fun v x r=>hRQ _ _ _ _ (Zb6 k e) r⟩) (fun i=>some (rtv rows rights)) (by decide) (fun σ=>∃ x,σ=[x,some (.ref a)]) ⟨_,rfl⟩ nD (fun i H2 s hi=>Zar (k:=.l) (show SK.l.At H2 ca [.ref g] from s _ _ hca) hi) (fun H2 s=>Y8 (k:=.l) (show SK.l.At H2 ca [.ref g] from s _ _ hca) (n9_ _)) (fun i x σ2 H2 H3 C N hi s2 eD y ok c' n=>?_) (fun H2 us2 s2 e2 a2=>?_)
 · obtain ⟨a1,rfl⟩:=ok;obtain ⟨wsD,eD⟩:=eD;obtain ⟨rfl,ex⟩:=Xk (k:=.l) (show SK.l.At H2 ca [.ref g] from s2 _ _ hca) y;obtain rfl:i=0:=by omega
   cases ex
   refine Zbw ?_;refine ⟨_,rfl,_,rfl,a,g,k,kg,us,gs,rows,rights,b,rfl,ha.same s2,al.imp fun v x r=>IsQs.tk s2.tk r,hg.same s2,alg.imp fun v x r=>hRQ _ _ _ _ s2.tk r,SO.toRtB,fun H5 l es s5 nl hl ae=>?_⟩;exact c' _ _ _ _ ⟨_,rfl⟩ s5 rfl ⟨l,es,rfl,fun z=>(by rw [z,eD] at nl;cases nl),hl,ae⟩
 obtain ⟨le,es,rfl,nle,hle,ale⟩:∃ l es,us2=[V.ref l]∧l≠D∧H2 l=some (.lst es)∧Al (IsQ K H2) es (rtv rows rights):=by
  have h1:=a2.1
  match us2,h1 with
  | [u],_ =>
    obtain ⟨l,es,e1,r⟩:=a2.2 0 u _ rfl rfl;exact ⟨l,es,by rw [e1],r⟩
 clear a2;have lrt:(rtv rows rights).length=rows.length:=by unfold rtv;rw [n22_];omega
 have ha2:=ha.same s2;have al2:=al.imp fun v x (r:IsQs K H v x)=>IsQs.tk s2.tk r;have tb2:=tb.same s2;clear ha al hca hg alg nD;refine ⟨_,rfl,D,rfl,⟨_,SqL.of e2⟩,fun E nE=>?_⟩;refine Zat (n:=1) (fun H v (x:List Int)=>∃ l,v=V.ref l∧l≠E∧H l=some (.lst (x.map V.int))) (fun H1 H2 v x k e ⟨l,e1,n,h⟩=>⟨l,e1,n,k _ _ n h⟩) (fun i=>some (lvd (rtv rows rights))) (by decide) (fun σ=>∃ x,σ=[x]) ⟨_,rfl⟩ nE (fun i H3 s hi=>Zar (k:=.l) (show SK.l.At H3 D [.ref le] from s _ _ e2) hi) (fun H3 s=>Y8 (k:=.l) (show SK.l.At H3 D [.ref le] from s _ _ e2) (n9_ _)) (fun i x σ2 H3 H4 C N hi s3 eE y ok c' n=>?_) (fun H3 us3 s3 e3 a3=>?_)
 · obtain ⟨a1,rfl⟩:=ok;obtain ⟨wsE,eE⟩:=eE;obtain ⟨rfl,ex⟩:=Xk (k:=.l) (show SK.l.At H3 D [.ref le] from s3 _ _ e2) y;obtain rfl:i=0:=by omega
   cases ex
   refine Zbw ?_;refine ⟨_,rfl,le,.l,es,rtv rows rights,c,rfl,s3 _ _ hle,ale.imp fun v x r=>hRQ _ _ _ _ s3.tk r,SO.eb,fun H5 p l s5 nl hp hl=>?_⟩;exact ⟨p,_,0,_,rfl,rfl,SqT.of hp,rfl,c' _ _ _ _ ⟨_,rfl⟩ s5 rfl ⟨l,rfl,fun z=>(by rw [z,eE] at nl;cases nl),hl⟩⟩
 obtain ⟨lt,rfl,hlt⟩:∃ l,us3=[V.ref l]∧H3 l=some (.lst ((lvd (rtv rows rights)).map V.int)):=by
  have h1:=a3.1
  match us3,h1 with
  | [u],_ =>
    obtain ⟨l,e1,_,r⟩:=a3.2 0 u _ rfl rfl;exact ⟨l,by rw [e1],r⟩
 clear a3;have llv:(lvd (rtv rows rights)).length=rows.length:=by unfold lvd;rw [n2_,lrt]
 have S13:=s2.trans s3;have ha3:=ha2.same s3;have al3:=al2.imp fun v x (r:IsQs K H2 v x)=>IsQs.tk s3.tk r;have tb3:=tb2.same s3;have hD3:=s3 _ _ e2;have hle3:=s3 _ _ hle;have ale3:=ale.imp fun v x (r:IsQ K H2 v x)=>hRQ _ _ _ _ s3.tk r;clear ha2 al2 tb2 e2 hle ale nE;refine ⟨_,rfl,a,k,rfl,⟨_,ha3.sq⟩,fun F nF=>?_⟩;refine Zat (n:=rows.length) (fun H v (x:List Int)=>∃ l,v=V.ref l∧l≠F∧H l=some (.lst (x.map V.int))) (fun H1 H2 v x k e ⟨l,e1,n,h⟩=>⟨l,e1,n,k _ _ n h⟩) (fun i=>(lns rows rights)[i]?) (by omega) (fun σ=>∃ x y,σ=[x,y,some (.ref E)]) ⟨_,_,rfl⟩ nF (fun i H4 s hi=>⟨us,us[i],(ha3.same s).sq,n0_ (by omega)⟩) (fun H4 s=>⟨us,(ha3.same s).sq,lu⟩) (fun i x σ2 H4 H5 C N hi s4 eF y ok c' n=>?_) (fun H4 us4 s4 e4 a4=>?_)
 · obtain ⟨a1,a2,rfl⟩:=ok;obtain ⟨wsF,eF⟩:=eF;obtain ⟨p,w',rfl,np,rfl,y1⟩:=y;have ew:=y1 us ((ha3.same s4).sq);obtain ⟨row,er,pr,ps,rfl,hpr,alp⟩:=al3.get ew;generalize gG:upd H4 p (.tup [.int i,.ref pr])=H5;obtain ⟨s5,hp5⟩:=gen_upd gG np;have S5:=s4.trans s5;refine ⟨p,_,rfl,SqT.of hp5,rfl,_,_,rfl,_,_,rfl,rfl,?_⟩;refine X6 ?_;refine ⟨_,rfl,pr,.t,ps,row,b,rfl,S5 _ _ hpr,alp.imp fun v x r=>hRQ _ _ _ _ S5.tk r,SO.rb row (n4_ er),fun H6 l6 s6 nl6 h6=>?_⟩;have S6:=S5.trans s6;refine ⟨_,rfl,E,rfl,⟨_,SqL.of (S6 _ _ e3)⟩,fun G nG=>?_⟩;refine lc_T (k:=.l) (vs:=[.ref lt]) RI hRI [(lvd (rtv rows rights)).getD i 0] rfl (by show 1≤1000;decide) nG (show SK.l.At H6 E _ from S6 _ _ e3) (fun j w'' H7 C' hw s7 cc=>?_) (fun H7 us7 s7 e7 a7=>?_)
   · cases j with
     | zero =>
       cases hw
       exact ⟨_,rfl,_,rfl,lt,_,(i:Int),_,rfl,rfl,SqL.of (s7 _ _ (S6 _ _ hlt)),getI (by omega),cc _ _ _ (Same.refl _) rfl rfl⟩
     | succ j=>simp at hw
   · rw [a7.ints] at e7;refine ⟨l6,G,_,_,rfl,rfl,s7 _ _ h6,e7,?_,fun l8 nl8=>?_⟩
     · have:=Zal row;have:=SO.wd row (n4_ er);have:=SO.w;simp only [n2_,n33_,n73_,sizeLine_eq];omega
     have s8:=Same.new (o:=.lst ((wh row).map V.int++[(lvd (rtv rows rights)).getD i 0].map V.int)) nl8;refine c' _ _ _ (wh row++[(lvd (rtv rows rights)).getD i 0]) ⟨_,_,rfl⟩ (s5.trans (s6.trans (s7.trans s8))) ?_ ⟨l8,rfl,fun z=>?_,?_⟩
     · unfold lns;rw [n18_,er,n0_ (show i<(lvd (rtv rows rights)).length by omega),n1_,n0_ (show i<(lvd (rtv rows rights)).length by omega)];rfl
     · rw [z,s7 _ _ (s6 _ _ (s5 _ _ eF))] at nl8;cases nl8
     · rw [n72_];exact Ze
 have lln:(lns rows rights).length=rows.length:=by unfold lns;rw [n22_,llv];exact n65_ _
 rw [Z5 _ _ (by rw [lln])] at a4;refine ⟨_,rfl,_,rfl,F,us4,lns rows rights,wid rows,wid rows+1,rfl,e4,a4.imp fun v x ⟨l,e,_,h⟩=>⟨l,e,h⟩,SO.so,tb3.same s4,fun H5 p sa la ss ls kp5 tb5 hp5 hs5 as5 hl5 al5=>?_⟩;refine ⟨p,_,rfl,SqT.of hp5,rfl,_,_,rfl,_,_,rfl,rfl,?_⟩;refine ⟨z0_,fun fa nfa=>?_⟩
 have nPh:∀ {G:Hp} {b:Addr} {o:HO},TabF G Ph "head_of.<locals>.<lambda>" → (∀ ps,o≠HO.tbl ps)→G b=some o→b≠Ph:=fun t n e z=>by
  obtain ⟨ps,h,_⟩:=t;rw [z,h] at e;exact n _ (Option.some.inj e).symm
 have tb4:=tb3.same s4;have kq:∀ b o,(∀ ps,o≠HO.tbl ps)→H3 b=some o→H5 b=some o:=fun b o n e=>kp5 _ _ (nPh tb4 n (s4 _ _ e)) (s4 _ _ e);have tk35:Tk H3 H5:=fun b xs e=>kq _ _ (by intro ps z;cases z) e;have hD5:=kq _ _ (by intro ps z;cases z) hD3;have hle5:=kq _ _ (by intro ps z;cases z) hle3;have ale5:=ale3.imp fun v x (r:IsQ K H3 v x)=>hRQ _ _ _ _ tk35 r;have kH5:Xp Ph H H5:=fun b o n e=>kp5 b o n (s4 _ _ (s3 _ _ (s2 _ _ e)));clear ha3 al3 tb3 hD3 hle3 ale3 tb4 kq tk35 kp5 s4 a4 e4 nF e3 hlt;generalize gG:upd H5 fa (.lst [])=H6;obtain ⟨s6,hfa⟩:=gen_upd gG nfa;have nf:∀ {b:Addr} {o:HO},H5 b=some o→b≠fa:=fun e=>Zl e nfa;have lss:=as5.1;have lls:=al5.1;have lst:=(Zgy (lines:=lns rows rights) (wid rows));have wW:=SO.w;refine ⟨_,rfl,D,.l,rfl,⟨_,SqL.of (s6 _ _ hD5)⟩,?_⟩;refine Xr (n:=1) (fun i σ H2=>∃ x1 x2 x3,σ=[some (.ref a),some (.ref ca),some (.int (wid rows)),some (.ref D),some (.ref E),some (.ref F),some (.ref sa),some (.ref la),some (.ref fa),x1,x2,x3]∧Keep fa H6 H2∧∃ fs,H2 fa=some (.lst fs)∧(i=0→fs=[])∧(i≠0→∃ v,fs=[v]∧SolV K H2 v (slv rows rights))) ⟨_,_,_,rfl,Keep.refl _ _,[],hfa,fun _=>rfl,fun z=>absurd rfl z⟩ (fun i σ H2 hi p=>?_) (fun σ H2 p=>?_) (fun i x σ H2 H3' hi y p=>?_) (fun σ H2 p=>?_)
 · obtain ⟨_,_,_,_,k2,_⟩:=p;obtain rfl:i=0:=by omega
   exact ⟨[.ref le],.ref le,SqL.of (k2 _ _ (nf hD5) (s6 _ _ hD5)),rfl⟩
 · obtain ⟨_,_,_,_,k2,_⟩:=p;exact ⟨[.ref le],SqL.of (k2 _ _ (nf hD5) (s6 _ _ hD5)),rfl⟩
 · obtain rfl:i=0:=by omega
   obtain ⟨x1,x2,x3,rfl,k2,fs,hf,f0,_⟩:=p;obtain rfl:=f0 rfl;obtain ⟨p,w',rfl,np,rfl,y1⟩:=y;have ew:=y1 _ (SqL.of (k2 _ _ (nf hD5) (s6 _ _ hD5)));cases ew
   have s7:Same H2 (upd H2 p (.tup [.int 0,.ref le])):=Same.new np;have hp7:upd H2 p (.tup [.int 0,.ref le]) p=some (.tup [.int 0,.ref le]):=Ze;have hf7:=s7 _ _ hf;generalize upd H2 p (.tup [.int 0,.ref le])=H7 at s7 hp7 hf7 ⊢;have k57:∀ {b:Addr} {o:HO},H5 b=some o→H7 b=some o:=fun e=>s7 _ _ (k2 _ _ (nf e) (s6 _ _ e));have tk57:Tk H5 H7:=fun b xs e=>k57 e;refine ⟨p,_,rfl,SqT.of hp7,rfl,_,_,rfl,_,_,rfl,rfl,?_⟩;refine ⟨_,rfl,la,rfl,⟨_,SqL.of (k57 hl5)⟩,fun G nG=>?_⟩;have llm:ls.length=(stF rows rights).2.length:=by rw [lls,n2_];rfl
   refine lc_T (k:=.l) (vs:=ls) RB hRB ((stF rows rights).2.map fun x=>x.2.getD (wid rows) 0 != 0) (by rw [n2_];exact llm.symm) (by have:=lst.1;have:(lns rows rights).length=rows.length:=lln;rw [llm];show (stp (lns rows rights) (wid rows)).2.length≤_;omega) nG (show SK.l.At H7 la ls from k57 hl5) (fun j w'' H8 C' hw s8 cc=>?_) (fun H8 us8 s8 e8 a8=>?_)
   · obtain ⟨x,ex,l,rfl,hl⟩:=al5.get hw;rw [n8_] at ex;obtain ⟨ln,eln,rfl⟩:=n52_.mp ex;have LO:=SO.so.ok (wid rows) (n9_ _) ln (n4_ eln);have ll:=LO.len;refine ⟨_,rfl,_,rfl,_,rfl,_,_,rfl,rfl,l,_,(wid rows:Int),_,rfl,rfl,SqL.of (s8 _ _ (k57 hl)),getI (by omega),rfl,?_⟩;refine cc _ _ _ (Same.refl _) (by rw [n8_,show (stF rows rights).2=(stp (lns rows rights) (wid rows)).2 from rfl,eln];rfl) ?_;show V.bl (!decide (V.int (ln.2.getD (wid rows) 0)=V.int 0))=V.bl (ln.2.getD (wid rows) 0 != 0)
     congr 1
     by_cases hz:ln.2.getD (wid rows) 0=0
     · rw [hz];rfl
     · rw [n30_ fun z=>hz (V.int.inj z)];simpa using hz
   have e8':us8=((stF rows rights).2.map fun x=>x.2.getD (wid rows) 0 != 0).map V.bl:=a8.bls;rw [e8'] at e8;refine ⟨G,_,rfl,SqL.of e8,_,rfl,?_⟩;have eany:((stF rows rights).2.map fun x=>x.2.getD (wid rows) 0 != 0).any id=(stF rows rights).2.any fun x=>x.2.getD (wid rows) 0 != 0:=by rw [List.any_map];rfl
   rw [eany];refine ite2 (fun hy=>?_) (fun hy=>?_)
   · have esl:slv rows rights=none:=by unfold slv;rw [if_pos hy]
     refine ⟨_,rfl,.inl ⟨rfl,_,SqL.of (s8 _ _ hf7)⟩,fa,_,_,rfl,rfl,s8 _ _ hf7,by show 0<sizeLine;decide,?_⟩;refine ⟨_,_,_,rfl,fun b o n e=>?_,[.non],Ze,fun z=>(nomatch z),fun _=>⟨_,rfl,by rw [esl];rfl⟩⟩;rw [Zp n];exact s8 _ _ (s7 _ _ (k2 _ _ n e))
   · have esl:slv rows rights=some ((fil (stF rows rights).1 (List.replicate (wid rows) 0)).map fun x=>x/(Zcc (fct (bots (rtv rows rights))).2:Rat)):=by unfold slv;rw [if_neg hy]
     have k58:∀ {b:Addr} {o:HO},H5 b=some o→H8 b=some o:=fun e=>s8 _ _ (k57 e);have tk58:Tk H5 H8:=fun b xs e=>k58 e;have ale8:=ale5.imp fun v x (r:IsQ K H5 v x)=>hRQ _ _ _ _ tk58 r;have lse:=ale5.1;refine ⟨_,rfl,le,rfl,⟨_,SqL.of (k58 hle5)⟩,fun G2 nG2=>?_⟩;refine lc_Q (k:=.l) (us:=es) RI hRI (bots (rtv rows rights)) (by rw [n2_];exact lse.symm) (by omega) nG2 (show SK.l.At H8 le es from k58 hle5) ale8 (fun i x' H9 C ex s9 cc=>?_) (fun H9 us9 s9 e9 a9=>?_)
     · exact ⟨_,rfl,cc _ _ _ (Same.refl _) (by rw [n8_,ex];rfl) rfl⟩
     rw [a9.ints] at e9;refine ⟨G2,_,rfl,e9,fun x hx=>⟨(SO.eb.bots x hx).1,up _ (SO.eb.bots x hx).2 (by have:=SO.eb.b4;omega)⟩,by rw [n2_];omega,fun H10 m s10 hm=>?_⟩;have s810:=s9.trans s10;have k510:∀ {b:Addr} {o:HO},H5 b=some o→H10 b=some o:=fun e=>s810 _ _ (k58 e);have hf10:=s810 _ _ (s8 _ _ hf7);refine ⟨_,rfl,.inl ⟨rfl,_,SqL.of hf10⟩,?_⟩;refine ⟨_,rfl,_,rfl,_,rfl,sa,ss,(stF rows rights).1,wid rows,rfl,k510 hs5,as5.imp fun v x r=>(let ⟨p',l',e',h1,h2⟩:=r;⟨p',l',e',k510 h1,k510 h2⟩),?_,by omega,fun x hx=>Zku SO.so _ (n9_ _) x hx,SO.fo,fun H11 l11 us11 s11 h11 a11=>?_⟩
     · show (stp (lns rows rights) (wid rows)).1.length≤1000;omega
     have flen:(fil (stF rows rights).1 (List.replicate (wid rows) 0)).length=wid rows:=by
      have:∀ (L:List (Nat×List Int)) (xs:List Rat),(fil L xs).length=xs.length:=fun L xs=>by
       induction L with
       | nil=>rfl
       | cons x L ih=>show ((fil L xs).set _ _).length=_;rw [n47_,ih]
      rw [this,n14_]
     have lu11:=a11.1;refine ⟨l11,rfl,⟨_,SqL.of h11⟩,fun G3 nG3=>?_⟩;refine lc_T (k:=.l) (vs:=us11) IsQh (fun _ _ _ _ t r=>r.tk t) ((fil (stF rows rights).1 (List.replicate (wid rows) 0)).map fun x=>x/(Zcc (fct (bots (rtv rows rights))).2:Rat)) (by rw [n2_];exact lu11.symm) (by omega) nG3 (show SK.l.At H11 l11 us11 from h11) (fun j w'' H12 C' hw s12 cc=>?_) (fun H12 us12 s12 e12 a12=>?_)
     · obtain ⟨x,ex,rx⟩:=a11.get hw;obtain ⟨b1,b2⟩:=SO.fb x (n4_ ex);have fl:=Zq8 (bots (rtv rows rights));rw [n2_] at fl;exact ⟨_,rfl,_,rfl,w'',x,m,_,rfl,hRQ _ _ _ _ s12.tk rx,s12 _ _ (s11 _ _ hm),Ztv SO.eb,by omega,b1,b2,fun H13 v13 s13 r13=>cc _ _ _ s13 (by rw [n8_,ex];rfl) r13⟩
     have s812:=s810.trans (s11.trans s12);have hf12:=s812 _ _ (s8 _ _ hf7);refine ⟨G3,_,rfl,.inl ⟨SqL.of e12,fun t nt=>?_⟩⟩;have st:=Same.new (o:=.tup us12) nt;refine ⟨fa,_,_,rfl,rfl,st _ _ hf12,by show 0<sizeLine;decide,?_⟩;have ntf:t≠fa:=fun z=>by rw [z,hf12] at nt;cases nt
     refine ⟨_,_,_,rfl,fun b o n e=>?_,[.ref t],Ze,fun z=>(nomatch z),fun _=>⟨_,rfl,?_⟩⟩
     · rw [Zp n];exact st _ _ (s812 _ _ (s8 _ _ (s7 _ _ (k2 _ _ n e))))
     · rw [esl];refine ⟨t,us12,rfl,by rw [Zp ntf];exact Ze,a12.imp fun v x r=>?_⟩;exact (r.tk st.tk).tk (Tk.upd_lst (st _ _ hf12))
 · obtain ⟨x1,x2,x3,rfl,k2,fs,hf,_,f1⟩:=p;obtain ⟨v,rfl,hv⟩:=f1 (by decide);have k52:∀ {b:Addr} {o:HO},H5 b=some o→H2 b=some o:=fun e=>k2 _ _ (nf e) (s6 _ _ e);refine ⟨_,rfl,sa,rfl,⟨_,SqL.of (k52 hs5)⟩,fun G nG=>?_⟩;refine Zat (n:=ss.length) RI (fun _ _ _ _ _ _ e=>e) (fun i=>((tkn rows rights).map fun n:Nat=>(n:Int))[i]?) (by show _≤1000;rw [lss];show (stp (lns rows rights) (wid rows)).1.length≤1000;omega) (fun σ=>∃ x y,σ=[x,y]) ⟨_,_,rfl⟩ nG (fun i H3 s hi=>Zar (k:=.l) (show SK.l.At H3 sa ss from s _ _ (k52 hs5)) hi) (fun H3 s=>Y8 (k:=.l) (show SK.l.At H3 sa ss from s _ _ (k52 hs5)) (n9_ _)) (fun i x σ2 H3 H4 C N hi s3 eD y ok c' n=>?_) (fun H3 us3 s3 e3 a3=>?_)
   · obtain ⟨y1,y2,rfl⟩:=ok;obtain ⟨rfl,ex⟩:=Xk (k:=.l) (show SK.l.At H3 sa ss from s3 _ _ (k52 hs5)) y;obtain ⟨st,est,p',l',rfl,hp',hl'⟩:=as5.get ex;refine ⟨p',_,rfl,SqT.of (s3 _ _ (k52 hp')),rfl,_,_,rfl,_,_,rfl,rfl,?_⟩;refine X6 ?_;refine ⟨_,rfl,c' _ _ _ (st.1:Int) ⟨_,_,rfl⟩ (Same.refl _) ?_ rfl⟩;unfold tkn;rw [n8_,n8_,show (stF rows rights).1=(stp (lns rows rights) (wid rows)).1 from rfl,est];rfl
   · rw [Z5 _ _ (by unfold tkn;rw [n2_,n2_];exact lss)] at a3;rw [a3.ints,List.map_map] at e3;refine ⟨_,rfl,z2_,fun pp npp=>?_⟩;have s4:=Same.new (o:=.tup [.ref G,.ref fa]) npp;have s24:=s3.trans s4;have fin:=SolV.tk s24.tk hv;exact q _ pp G fa v (fun b o n e=>s24 _ _ (k52 (kH5 b o n e))) ((((tb5.same s6).keepL hfa k2).same s24)) Ze (s4 _ _ e3) (s24 _ _ hf) fin
abbrev Zdy:Stmt:=top 39
theorem Zll (F:Fun K "settled" "settled" Zdy f fd) {Ph:Addr} (Cw_:Cal P w K mg base "settled_each" 44 ["rows","columns"] (Zbm K Ph)):FnOk P w K mg base CX0 45 f fd ["rows","rights"] (Zba K Ph):=by
 have sc:FnScope ["rows","rights","taken","found"] ["rows","rights"] (Zf Zdy):=fsc (by decide +kernel);refine F.ok sc (fun vs H Q E h=>by obtain ⟨a,g,k,kg,us,gs,rows,rights,b,c,rfl,_⟩:=h;rfl) fun cdv A outer s H vs Q E hr h=>?_;obtain ⟨a,g,k,kg,us,gs,rows,rights,b,c,rfl,ha,al,hg,alg,SO,tb,q⟩:=h;have nd:=sc.nd;refine' ⟨_,?term,?read⟩
 case term=>refine' @Zc _ _ _ _ _ ?g1 ?g2;(case g1=>refine' @Yn _ _ _ _ _ _ ?g3 ?g4 (by rfl) (by rfl) (by rfl);(case g3=>refine' @Zj _ _ _ _ _ _ _ _ _ _ _ Cw_ hr (by decide) rfl ?g5 (by decide) (by rfl) (by rfl);case g5=>refine' @Za _ _ _ _ _ (pv 0) ?g6 rfl;case g6=>refine' @Za _ _ _ _ _ ?g7 Zb rfl;case g7=>refine' @Y4 _ _ _ _ (Za (pv 1) Zb rfl));case g4=>refine' @Zy _ _ _ _ _ (2) rfl (Zd (Zi (i:=2) nd rfl (Or.inl rfl)) (Zd (Zi (i:=3) nd rfl (Or.inl rfl)) Zr)) (by rfl) (by rfl));case g2=>refine' @Zh _ _ _ ?g8;case g8=>refine' @Zn _ _ _ _ ?g9;case g9=>refine' @Zu _ _ _ _ _ ?ga;case ga=>refine' @Za _ _ _ _ _ (pv 2) ?gb rfl;case gb=>refine' @Za _ _ _ _ _ ?gc Zb rfl;case gc=>refine' @Z1 _ _ _ _ _ _ _ Z2 (pv 3) Zg (fun _ _=>rfl)
 refine ⟨_,rfl,_,rfl,z1_,fun ca nca=>?_⟩;generalize gG:upd H ca (.lst [.ref g])=H1;obtain ⟨s1,hca⟩:=gen_upd gG nca;refine ⟨a,ca,g,k,kg,us,gs,rows,rights,b,c,rfl,ha.same s1,al.imp fun v x r=>IsQs.tk s1.tk r,hca,hg.same s1,alg.imp fun v x r=>hRQ _ _ _ _ s1.tk r,SO,tb.same s1,fun H2 p t f v kp tb2 hp ht hf sv=>?_⟩;refine ⟨p,_,rfl,SqT.of hp,rfl,_,_,rfl,_,_,rfl,rfl,?_⟩;refine ⟨_,rfl,_,rfl,f,_,0,_,rfl,rfl,SqL.of hf,rfl,z2_,fun p3 np3=>?_⟩;have s3:=Same.new (o:=.tup [.ref t,v]) np3;exact q _ p3 t v (fun b o n e=>s3 _ _ (kp b o n (s1 _ _ e))) (tb2.same s3) Ze (s3 _ _ ht) (SolV.tk s3.tk sv)
abbrev Zb1:Stmt:=top 40
theorem Znx (F:Fun K "mix_of" "mix_of" Zb1 f fd) (N0:Zlp K mg "NOUGHT" 0 1) (O1:Zlp K mg "ONE" 1 1) {Ph:Addr} (Cs_:Cal P w K mg base "settled" 45 ["rows","rights"] (Zba K Ph)):FnOk P w K mg base CX0 46 f fd ["rows","rights","taken"] (Zfx K Ph):=by
 have sc:FnScope ["rows","rights","taken","columns","goals"] ["rows","rights","taken"] (Zf Zb1):=fsc (by decide +kernel);refine F.ok sc (fun vs H Q E h=>by obtain ⟨a,g,t,k,us,gs,rows,rights,taken,b,c,rfl,_⟩:=h;rfl) fun cdv A outer s H vs Q E hr h=>?_;obtain ⟨a,g,t,k,us,gs,rows,rights,taken,b,c,rfl,ha,al,hg,alg,ht,r1k,t1k,hpl,SO,tb,q⟩:=h;have nd:=sc.nd;obtain ⟨n_,hng,hnk⟩:=N0;obtain ⟨o_,hog,hok⟩:=O1;refine' ⟨_,?term,?read⟩
 case term=>refine' @Zc _ _ _ _ _ ?g1 ?g2;(case g1=>refine' @X0 _ _ _ _ _ _ _ _ _ _ (["place","rows"]) ([none,some 0]) _ _ _ _ _ _ rfl rfl (Zi (i:=3) nd rfl (Or.inl rfl)) (Z7 (XN:=["rows","rights","taken","columns","goals"]) (Scope.names (Zf Zb1)) rfl rfl rfl (fun _ h=>Z0 h) (by decide +kernel) rfl) (Yi (pv 2)) (fun _ _ _ _=>Zi (i:=0) (show List.Nodup (["place","rows"]:List Str) by decide) rfl (Or.inr rfl) (Or.inl rfl)) (fun _ _ _ _=>Zs) (fun _ _ _ _=>Yo (Zes K rfl) rfl T.b_tuple Yr (Za (Xb (N:=["row","place"]) (fr:=[none,some 0]) rfl (Z7 (XN:=["place","rows"]) (relN _ (Scope.names (Zf Zb1))) rfl rfl rfl (fun _ h=>Zhz (by decide +kernel) h) (by decide +kernel) rfl) (Zbs K rfl (pv 1)) (fun _ _ _ _=>pgB 0) (fun _ _ _ _=>Zs) (fun _ _ _ _=>Z1 (Zai K rfl) (pv 0) (pv 1) (fun _ _=>rfl))) Zb rfl)) (by intro _ ;rfl));case g2=>refine' @Zc _ _ _ _ _ ?g3 ?g4;(case g3=>refine' @Zv _ _ (4) _ _ _ _ nd rfl (Or.inl rfl) ?g5 (by rfl) (by first|exact Or.inl rfl|exact Or.inr rfl|assumption);case g5=>refine' @Zm _ _ _ _ _ _ _ _ Zh6 ?g6 ?g7;(case g6=>refine' @Zm _ _ _ _ _ _ _ _ Zmh ?g8 (Zk Zt rfl T.b_len Y6 (Za (pv 3) Zb rfl));case g8=>refine' @Y4 _ _ _ _ ?g9;case g9=>refine' @Za _ _ _ _ _ ?ga Zb rfl;case ga=>refine' @Zdr _ _ _ _ _ rfl hng (show RelV (.ref n_) (Value.ref n_) from rfl) (by decide));case g7=>refine' @Y4 _ _ _ _ ?gb;case gb=>refine' @Za _ _ _ _ _ ?gc Zb rfl;case gc=>refine' @Zdr _ _ _ _ _ rfl hog (show RelV (.ref o_) (Value.ref o_) from rfl) (by decide));case g4=>refine' @Zh _ _ _ ?gd;case gd=>refine' @Zn _ _ _ _ ?ge;case ge=>refine' @Z1 _ _ _ _ _ _ _ Yp ?gf Zg (fun _ _=>rfl);case gf=>refine' @Zj _ _ _ _ _ _ _ _ _ _ _ Cs_ hr (by decide) rfl ?gg (by decide) (by rfl) (by rfl);case gg=>refine' @Za _ _ _ _ _ ?gh (Za (pv 4) Zb rfl) rfl;case gh=>refine' @Zm _ _ _ _ _ _ _ _ Zh6 (pv 3) ?gi;case gi=>refine' @Y4 _ _ _ _ (Za (pv 1) Zb rfl)
 have lu:=al.1;refine ⟨_,rfl,t,rfl,⟨_,SqL.of ht⟩,fun D nD=>?_⟩;refine lc_T (k:=.l) (vs:=taken.map fun n:Nat=>V.int n) (IsQs K) (fun _ _ _ _ t r=>IsQs.tk t r) (cols rows taken) (by unfold cols;rw [n2_,n2_]) (by rw [n2_];exact t1k) nD (show SK.l.At H t _ from ht) (fun i w' H2 C hw s2 cc=>?_) (fun H2 us2 s2 e2 a2=>?_)
 · rw [n8_] at hw;obtain ⟨pl,epl,rfl⟩:=n52_.mp hw;refine ⟨_,rfl,a,k,rfl,⟨_,(ha.same s2).sq⟩,fun E nE=>?_⟩;refine lc_T (k:=k) (vs:=us) (IsQ K) hRQ (rows.map fun r=>r.getD pl 0) (by rw [n2_];exact lu.symm) (by omega) nE (ha.same s2) (fun j w'' H3 C' hw s3 c3=>?_) (fun H3 us3 s3 e3 a3=>?_)
   · obtain ⟨row,er,pr,ps,rfl,hpr,alp⟩:=al.get hw;have lp:=alp.1;have lt:=hpl pl (n4_ epl) row (n4_ er);obtain ⟨u,eu,ru⟩:=alp.got (n0_ lt);have S3:=s2.trans s3;refine ⟨_,rfl,_,rfl,pr,ps,(pl:Int),u,rfl,rfl,SqT.of (S3 _ _ hpr),Yh eu,c3 _ _ (row.getD pl 0) (Same.refl _) (by rw [n8_,er];rfl) ?_⟩;rw [n1_,n0_ lt];exact hRQ _ _ _ _ S3.tk ru
   · refine ⟨E,us3,rfl,.inl ⟨SqL.of e3,fun p np=>?_⟩⟩;have s4:=Same.new (o:=.tup us3) np;refine cc _ _ (rows.map fun r=>r.getD pl 0) (s3.trans s4) (by unfold cols;rw [n8_,epl];rfl) ⟨p,us3,rfl,Ze,a3.imp fun v x r=>hRQ _ _ _ _ s4.tk r⟩
 have l2:=a2.1;have lc:(cols rows taken).length=taken.length:=by unfold cols;rw [n2_]
 refine ⟨z1_,fun l3 nl3=>?_⟩;generalize gG:upd H2 l3 (.lst [.ref n_])=H3;obtain ⟨s3,h3⟩:=gen_upd gG nl3;refine ⟨_,rfl,D,us2,rfl,.inl (SqL.of (s3 _ _ e2)),l3,(us2.length:Int),_,rfl,rfl,h3,by omega,by omega,by simp only [n33_,n73_,n58_,sizeLine_eq];omega,fun l4 nl4=>?_⟩
 have er:(List.replicate (us2.length:Int).toNat [V.ref n_]).flatten=List.replicate us2.length (V.ref n_):=by
  rw [n58_];exact Zdl _ us2.length
 rw [er];generalize gG:upd H3 l4 (.lst (List.replicate us2.length (.ref n_)))=H4;obtain ⟨s4,h4⟩:=gen_upd gG nl4;refine ⟨z1_,fun l5 nl5=>?_⟩;generalize gG:upd H4 l5 (.lst [.ref o_])=H5;obtain ⟨s5,h5⟩:=gen_upd gG nl5;refine ⟨l4,l5,_,_,rfl,rfl,s5 _ _ h4,h5,by simp only [n14_,n33_,n73_,sizeLine_eq];omega,fun l6 nl6=>?_⟩;generalize gG:upd H5 l6 (.lst (List.replicate us2.length (.ref n_)++[.ref o_]))=H6;obtain ⟨s6,h6⟩:=gen_upd gG nl6;have S26:=s3.trans (s4.trans (s5.trans s6));refine ⟨_,rfl,_,rfl,z1_,fun l7 nl7=>?_⟩;generalize gG:upd H6 l7 (.lst [.ref g])=H7;obtain ⟨s7,h7⟩:=gen_upd gG nl7;refine ⟨D,l7,_,_,rfl,rfl,s7 _ _ (S26 _ _ e2),h7,by simp only [n33_,n73_,sizeLine_eq];omega,fun l8 nl8=>?_⟩;generalize gG:upd H7 l8 (.lst (us2++[.ref g]))=H8;obtain ⟨s8,h8⟩:=gen_upd gG nl8;have S28:=S26.trans (s7.trans s8);have S18:=s2.trans S28;have aR:Al (IsQs K H8) (us2++[.ref g]) (cols rows taken++[rights]):=(a2.imp fun v x r=>IsQs.tk S28.tk r).snoc ⟨g,gs,rfl,S18 _ _ hg,alg.imp fun v x r=>hRQ _ _ _ _ S18.tk r⟩
 have aG:Al (IsQ K H8) (List.replicate us2.length (.ref n_)++[.ref o_]) (List.replicate taken.length 0++[1]):=by
  refine Al.snoc ⟨by rw [n14_,n14_];omega,fun i v x e1 e2'=>?_⟩ ⟨o_,rfl,.inr hok⟩;rw [n26_] at e1 e2';split at e1
  · rename_i hi
    rw [if_pos (by omega)] at e2';cases e1;cases e2'
    exact ⟨n_,rfl,.inr hnk⟩
  · cases e1
 refine ⟨_,rfl,l8,l6,.l,.l,_,_,_,_,b,c,rfl,h8,aR,s8 _ _ (s7 _ _ h6),aG,SO,tb.same S18,fun H9 p t' v kp tb9 hp ht' sv=>?_⟩;exact ⟨p,_,1,_,rfl,rfl,SqT.of hp,rfl,q H9 v (fun b o n e=>kp b o n (S18 _ _ e)) tb9 sv⟩
abbrev Zcz:Stmt:=top 14
theorem Zjf (F:Fun K "is_whole" "is_whole" Zcz f fd):FnOk P w K mg base CX0 1 f fd ["thing"] Zh4:=by
 have sc:FnScope ["thing"] ["thing"] (Zf Zcz):=fsc (by decide +kernel);refine F.ok sc (fun vs H Q E h=>by obtain ⟨N,k,v,d,rfl,_⟩:=h;rfl) fun cdv A outer s H vs Q E hr h=>?_;obtain ⟨N,k,v,d,rfl,h,q⟩:=h;refine' ⟨_,?term,?read⟩
 case term=>refine' @Zh _ _ _ ?g1;case g1=>refine' @Zn _ _ _ _ ?g2;case g2=>refine' @Zps _ _ _ _ _ _ _ (Zk Zaj rfl T.b_isinstance Yq (Za (pv 0) (Za (Zbr (v:=.ty "int") rfl T.b_int Zp2 rfl) Zb rfl) rfl)) ?g3;case g3=>refine' @Zpw _ _ _ _ _ ?g4;case g4=>refine' @Zrn _ _ _ _ (Zk Zaj rfl T.b_isinstance Yq (Za (pv 0) (Za (Zbr (v:=.ty "bool") rfl T.b_bool Zrd rfl) Zb rfl) rfl))
 cases h with
 | non=>exact ⟨_,rfl,_,_,_,_,rfl,TyOf.non,rfl,false,rfl,iteF q⟩
 | bl b=>exact ⟨_,rfl,_,_,_,_,rfl,TyOf.bl b,rfl,true,rfl,iteT ⟨_,rfl,_,_,_,_,rfl,TyOf.bl b,rfl,true,rfl,q⟩⟩
 | int hi=>exact ⟨_,rfl,_,_,_,_,rfl,TyOf.int _,rfl,true,rfl,iteT ⟨_,rfl,_,_,_,_,rfl,TyOf.int _,rfl,false,rfl,q⟩⟩
 | str x=>exact ⟨_,rfl,_,_,_,_,rfl,TyOf.str x,rfl,false,rfl,iteF q⟩
 | tup h r=>exact ⟨_,rfl,_,_,_,_,rfl,TyOf.tup h,rfl,false,rfl,iteF q⟩
 | lst h n m r=>exact ⟨_,rfl,_,_,_,_,rfl,TyOf.lst h,rfl,false,rfl,iteF q⟩
 | dic h=>exact ⟨_,rfl,_,_,_,_,rfl,TyOf.dK h,rfl,false,rfl,iteF q⟩
abbrev Zak:Stmt:=top 17
theorem Ze0 (F:Fun K "is_fraction" "is_fraction" Zak f fd) (Cb_:a4_ P w K mg base) (Cv_:a23_ P w K mg base):FnOk P w K mg base CX0 3 f fd ["thing"] Zpz:=by
 have sc:FnScope ["thing","top","bottom"] ["thing"] (Zf Zak):=fsc (by decide +kernel);refine F.ok sc (fun vs H Q E h=>by obtain ⟨N,k,v,d,rfl,_⟩:=h;rfl) fun cdv A outer s H vs Q E hr h=>?_;obtain ⟨N,k,v,d,rfl,h,hk,q⟩:=h;have nd:=sc.nd;refine' ⟨_,?term,?read⟩
 case term=>refine' @Zc _ _ _ _ _ ?g1 ?g2;(case g1=>refine' @Yv _ _ _ _ _ _ _ _ ?g3 (Zh (Zn Zcm)) Z3;case g3=>refine' @PW.pt _ _ _ ?g4;case g4=>refine' @Zex _ _ _ _ _ _ _ ?g5 ?g6;(case g5=>refine' @Xx _ _ _ _ ?g7;case g7=>refine' @Yg _ _ _ (Zk Zaj rfl T.b_isinstance Yq (Za (pv 0) (Za (Zbr (v:=.ty "tuple") rfl T.b_tuple Yr rfl) Zb rfl) rfl)) (fun _=>rfl));case g6=>refine' @Zd7 _ _ _ _ (Zq Ze1 (Zk Zt rfl T.b_len Y6 (Za (pv 0) Zb rfl)) Zg (Zw _)));case g2=>refine' @Zc _ _ _ _ _ ?g8 ?g9;(case g8=>refine' @Yn _ _ _ _ _ _ (pv 0) ?ga (by rfl) (by rfl) (by rfl);case ga=>refine' @Zy _ _ _ _ _ (2) rfl (Zd (Zi (i:=1) nd rfl (Or.inl rfl)) (Zd (Zi (i:=2) nd rfl (Or.inl rfl)) Zr)) (by rfl) (by rfl));case g9=>refine' @Zc _ _ _ _ _ ?gb (Zh (Zn (Zc1 Zez (Zj Cb_ hr (by decide) rfl (Za (pv 1) (Za (pv 2) Zb rfl) rfl)) Zg (Zw _))));case gb=>refine' @Yv _ _ _ _ _ _ _ _ ?gc (Zh (Zn Zcm)) Z3;case gc=>refine' @PW.pt _ _ _ ?gd;case gd=>refine' @Zex _ _ _ _ _ _ _ ?ge ?gf;(case ge=>refine' @Xx _ _ _ _ ?gg;case gg=>refine' @Yg _ _ _ (Zj Cv_ hr (by decide) rfl (Za (pv 1) Zb rfl)) (fun _=>rfl));case gf=>refine' @Zex _ _ _ _ _ _ _ ?gh ?gi;(case gh=>refine' @Xx _ _ _ _ ?gj;case gj=>refine' @Yg _ _ _ (Zj Cv_ hr (by decide) rfl (Za (pv 2) Zb rfl)) (fun _=>rfl));case gi=>refine' @Zd7 _ _ _ _ (Zq Zhp (pv 2) Zg (Zw _))
 rcases h.isT with ⟨p,xs,ds,rfl,rfl,hp,hs⟩|e
 case inr =>
  obtain ⟨t,ty,ki⟩:=h.ty (K:=K);refine ⟨_,rfl,_,_,t,_,rfl,ty,ki,_,rfl,?_⟩;rw [e];have z:isFr d=false:=by cases d<;>first|rfl|(cases e)
  rw [z] at q;exact iteT (iteT (q))
 refine ⟨_,rfl,_,_,_,_,rfl,TyOf.tup hp,rfl,true,rfl,iteF ?_⟩
 by_cases h2:xs.length=2
 case neg =>
  rw [hs.len0 h2] at q;refine ⟨_,rfl,p,_,rfl,.inr (SqT.of hp),rfl,_,rfl,?_⟩;rw [show decide (V.int (xs.length:Int)=V.int 2)=false from n30_ (fun z=>h2 (by have:=V.int.inj z;omega))];exact iteT q
 obtain ⟨x,y,d1,d2,rfl,rfl,k1,k2⟩:∃ x y d1 d2,xs=[x,y]∧ds=[d1,d2]∧Dt N H k x d1∧Dt N H k y d2:=by
  match xs,ds,hs,h2 with
  | [x,y],[d1,d2],.cons a (.cons b .nil),_=>exact ⟨x,y,d1,d2,rfl,rfl,a,b⟩
 refine ⟨_,rfl,p,_,rfl,.inr (SqT.of hp),rfl,false,rfl,iteF ?_⟩;refine ⟨_,rfl,p,_,rfl,SqT.of hp,rfl,_,_,rfl,_,_,rfl,rfl,?_⟩;refine ⟨_,rfl,N,k,x,d1,rfl,k1,_,rfl,?_⟩
 rcases k1.isI with ⟨i,rfl,rfl,hi⟩|e1
 case inr =>
  rw [e1];rw [fr_1 e1] at q;exact iteT (iteT q)
 refine iteF ?_;refine ⟨_,rfl,N,k,y,d2,rfl,k2,_,rfl,?_⟩
 rcases k2.isI with ⟨j,rfl,rfl,hj⟩|e2
 case inr =>
  rw [e2];rw [fr_2 e2] at q;exact iteT (iteT q)
 refine iteF ?_;refine ⟨_,rfl,_,_,rfl,rfl,_,rfl,?_⟩;have q':Q (.bl (decide (1≤j)&&decide (Int.gcd i j=1))) H:=q;refine ite2 (fun hlt=>?_) (fun hlt=>?_)
 · have z:¬ 1≤j:=by have:=n37_ hlt;omega
   rw [n30_ z] at q';exact q'
 · have z:1≤j:=by have:¬ j<1:=fun z=>hlt (n32_ z);omega
   rw [n32_ z,Bool.true_and] at q';refine ⟨_,rfl,_,rfl,_,_,rfl,Zrg hj hk,rfl,?_⟩;rw [show decide (V.int (Int.gcd i j:Int)=V.int 1)=decide (Int.gcd i j=1) from decide_eq_decide.mpr ⟨fun z=>by have:=V.int.inj z;omega,fun z=>by rw [z];rfl⟩];exact q'
abbrev Xm:Stmt:=top 18
theorem Zcq (F:Fun K "are_fractions" "are_fractions" Xm f fd) (Cab_:a24_ P w K mg base):FnOk P w K mg base CX0 4 f fd ["thing","many"] Zhy:=by
 have sc:FnScope ["thing","many"] ["thing","many"] (Zf Xm):=fsc (by decide +kernel);refine F.ok sc (fun vs H Q E h=>by obtain ⟨N,k,v,d,n,rfl,_⟩:=h;rfl) fun cdv A outer s H vs Q E hr h=>?_;obtain ⟨N,k,v,d,n,rfl,h,hk,hz,q⟩:=h;refine' ⟨_,?term,?read⟩
 case term=>refine' @Zc _ _ _ _ _ ?g1 ?g2;(case g1=>refine' @Yv _ _ _ _ _ _ _ _ ?g3 (Zh (Zn Zcm)) Z3;case g3=>refine' @PW.pt _ _ _ ?g4;case g4=>refine' @Zex _ _ _ _ _ _ _ ?g5 ?g6;(case g5=>refine' @Xx _ _ _ _ ?g7;case g7=>refine' @Yg _ _ _ (Zk Zaj rfl T.b_isinstance Yq (Za (pv 0) (Za (Zbr (v:=.ty "tuple") rfl T.b_tuple Yr rfl) Zb rfl) rfl)) (fun _=>rfl));case g6=>refine' @Zd7 _ _ _ _ (Zq Ze1 (Zk Zt rfl T.b_len Y6 (Za (pv 0) Zb rfl)) (pv 1) (Zw _)));case g2=>refine' @Zh _ _ _ ?g8;case g8=>refine' @Zn _ _ _ _ ?g9;case g9=>refine' @Zk _ _ _ _ _ _ _ _ _ (Zbv rfl) rfl T.b_all Zkv ?ga (by decide) (by decide) (by rfl) (by rfl);case ga=>refine' @Za _ _ _ _ _ ?gb Zb rfl;case gb=>refine' @Xb _ _ _ _ _ _ _ (["part"]) ([none]) _ _ _ _ _ rfl (Z9 (by decide) rfl (by decide) rfl rfl) (Zhm (pv 0)) (fun _ _ _ _=>pgB 0) (fun _ _ _ _=>Zs) (fun _ _ _ _=>Zj Cab_ hr (by decide) rfl (Za (pv 0) Zb rfl)) (by intro _ ;rfl)
 rcases h.isT with ⟨a,us,ds,rfl,rfl,ha,hs⟩|e
 case inr =>
  obtain ⟨t,ty,ki⟩:=h.ty (K:=K);refine ⟨_,rfl,_,_,t,_,rfl,ty,ki,_,rfl,?_⟩;rw [e];rw [Zo2 e] at q;exact iteT (iteT (q _ (Same.refl H)))
 refine ⟨_,rfl,_,_,_,_,rfl,TyOf.tup ha,rfl,true,rfl,iteF ?_⟩;have hl:=hs.len;have hz1:1+Xj ds≤1000:=hz;have h1000:us.length≤1000:=by have:=Zn3 ds;omega
 refine ⟨_,rfl,a,us,rfl,.inr (SqT.of ha),_,rfl,rfl,_,rfl,?_⟩
 by_cases hn:us.length=n
 case neg =>
  rw [show decide (V.int (us.length:Int)=V.int (n:Nat))=false from n30_ (fun z=>hn (by have:=V.int.inj z;omega))];rw [Zoy (by omega)] at q;exact iteT (q _ (Same.refl H))
 rw [n32_ (show V.int (us.length:Int)=V.int (n:Nat) by rw [hn])];refine iteF ?_;refine ⟨_,rfl,a,rfl,⟨_,SqT.of ha⟩,fun D nD=>?_⟩;refine lc_T (k:=.t) (vs:=us) RB hRB (ds.map isFr) (by simp [hl]) h1000 nD ha (fun i w H2 C hw s2 c=>?_) (fun H2 us' s2 e2 a2=>?_)
 · obtain ⟨dx,ed,hdx⟩:=hs.get hw;have zx:=Zpx ed;exact ⟨_,rfl,N,k,w,dx,rfl,hdx.same s2,hk,c _ _ (isFr dx) (Same.refl _) (by rw [n8_,ed];rfl) rfl⟩
 · rw [a2.bls] at e2;refine ⟨D,ds.map isFr,rfl,SqL.of e2,?_⟩;have z:(ds.map isFr).all id=ds.all isFr:=by rw [List.all_map];rfl
   rw [z];rw [Zpe (by omega)] at q;exact q _ s2
abbrev Zc8:Stmt:=top 23
theorem Zgm (F:Fun K "places_of" "places_of" Zc8 f fd):FnOk P w K mg base CX0 1 f fd ["rows"] Zfe:=by
 have sc:FnScope ["rows"] ["rows"] (Zf Zc8):=fsc (by decide +kernel);refine F.ok sc (fun vs H Q E h=>by obtain ⟨N,k,a,us,ds,rfl,_⟩:=h;rfl) fun cdv A outer s H vs Q E hr h=>?_;obtain ⟨N,k,a,us,ds,rfl,ha,hs,ht,q⟩:=h;refine' ⟨_,?term,?read⟩
 case term=>refine' @Zh _ _ _ ?g1;case g1=>refine' @Zn _ _ _ _ ?g2;case g2=>refine' @Zao _ _ _ _ _ _ _ _ ?g3 ?g4 Zg;(case g3=>refine' @Yg _ _ _ (pv 0) (fun _=>rfl));case g4=>refine' @Zk _ _ _ _ _ _ _ _ _ Zt rfl T.b_len Y6 ?g5 (by decide) (by decide) (by rfl) (by rfl);case g5=>refine' @Za _ _ _ _ _ ?g6 Zb rfl;case g6=>refine' @Z1 _ _ _ _ _ _ _ (Zl0 K rfl) (pv 0) Zg (fun _ _=>rfl)
 refine ⟨_,rfl,_,.inr (.inl ⟨us,SqT.of ha,rfl⟩),?_⟩;cases hs with
 | nil=>exact iteF q
 | cons h hs =>
   rename_i r us' ds' dx
   rcases h.isT with ⟨p,xs,es,rfl,rfl,hp,he⟩|e
   · refine iteT ⟨_,rfl,a,_,0,_,.t,rfl,rfl,SqT.of ha,Yh rfl,p,_,rfl,.inr (SqT.of hp),?_⟩;rw [he.len];exact q
   · have:=n56_.mp ht _ n5_
     rw [e] at this;cases this
abbrev Zbc:Stmt:=top 24
theorem Zi4 (F:Fun K "are_rows" "are_rows" Zbc f fd) (Ce_:a25_ P w K mg base) (Cah_:a26_ P w K mg base):FnOk P w K mg base CX0 5 f fd ["thing"] Zh8:=by
 have sc:FnScope ["thing","places"] ["thing"] (Zf Zbc):=fsc (by decide +kernel);refine F.ok sc (fun vs H Q E h=>by obtain ⟨N,k,v,d,rfl,_⟩:=h;rfl) fun cdv A outer s H vs Q E hr h=>?_;obtain ⟨N,k,v,d,rfl,h,hk,hz,q⟩:=h;have nd:=sc.nd;refine' ⟨_,?term,?read⟩
 case term=>refine' @Zc _ _ _ _ _ ?g1 ?g2;(case g1=>refine' @Yv _ _ _ _ _ _ _ _ ?g3 (Zh (Zn Zcm)) Z3;case g3=>refine' @PW.pt _ _ _ ?g4;case g4=>refine' @Zex _ _ _ _ _ _ _ ?g5 ?g6;(case g5=>refine' @Xx _ _ _ _ ?g7;case g7=>refine' @Yg _ _ _ (Zk Zaj rfl T.b_isinstance Yq (Za (pv 0) (Za (Zbr (v:=.ty "tuple") rfl T.b_tuple Yr rfl) Zb rfl) rfl)) (fun _=>rfl));case g6=>refine' @Zd7 _ _ _ _ (Zq Zdi (Zk Zt rfl T.b_len Y6 (Za (pv 0) Zb rfl)) (Zeg T.n_MOST_ROWS rfl) (Zw _)));case g2=>refine' @Zc _ _ _ _ _ ?g8 ?g9;(case g8=>refine' @Yv _ _ _ _ _ _ _ _ ?ga (Zh (Zn Zcm)) Z3;case ga=>refine' @Xx _ _ _ _ ?gb;case gb=>refine' @Yg _ _ _ ?gc (fun _=>rfl);case gc=>refine' @Zk _ _ _ _ _ _ _ _ _ (Zbv rfl) rfl T.b_all Zkv ?gd (by decide) (by decide) (by rfl) (by rfl);case gd=>refine' @Za _ _ _ _ _ ?ge Zb rfl;case ge=>refine' @Xb _ _ _ _ _ _ _ (["row"]) ([none]) _ _ _ _ _ rfl (Z9 (by decide) rfl (by decide) rfl rfl) (Zhm (pv 0)) (fun _ _ _ _=>pgB 0) (fun _ _ _ _=>Zs) (fun _ _ _ _=>Zk (Znw K rfl) rfl T.b_isinstance Yq (Za (pv 0) (Za (Zbr (v:=.ty "tuple") rfl T.b_tuple Yr rfl) Zb rfl) rfl)) (by intro _ ;rfl));case g9=>refine' @Zc _ _ _ _ _ ?gf ?gg;(case gf=>refine' @Zv _ _ (1) _ _ _ _ nd rfl (Or.inr rfl) (Zj Cah_ hr (by decide) rfl (Za (pv 0) Zb rfl)) (by rfl) (by first|exact Or.inl rfl|exact Or.inr rfl|assumption));case gg=>refine' @Zh _ _ _ ?gh;case gh=>refine' @Zn _ _ _ _ ?gi;case gi=>refine' @Zk _ _ _ _ _ _ _ _ _ (Zbv rfl) rfl T.b_all Zkv ?gj (by decide) (by decide) (by rfl) (by rfl);case gj=>refine' @Za _ _ _ _ _ ?gk Zb rfl;case gk=>refine' @Xb _ _ _ _ _ _ _ (["row","places"]) ([none,some 1]) _ _ _ _ _ rfl (Z7 (XN:=["thing","places"]) (Scope.names (Zf Zbc)) rfl rfl rfl (fun _ h=>Z0 h) (by decide +kernel) rfl) (Zhm (pv 0)) (fun _ _ _ _=>pgB 0) (fun _ _ _ _=>Zs) (fun _ _ _ _=>Zj Ce_ hr (by decide) rfl (Za (pv 0) (Za (pv 1) Zb rfl) rfl)) (by intro _ ;rfl)
 rcases h.isT with ⟨a,us,ds,rfl,rfl,ha,hs⟩|e
 case inr =>
  obtain ⟨t,ty,ki⟩:=h.ty (K:=K);refine ⟨_,rfl,_,_,t,_,rfl,ty,ki,_,rfl,?_⟩;rw [e];rw [Zpm e] at q;exact iteT (iteT (q _ (Same.refl H)))
 refine ⟨_,rfl,_,_,_,_,rfl,TyOf.tup ha,rfl,true,rfl,iteF ?_⟩;have hl:=hs.len;have hz1:1+Xj ds≤1000:=hz;have h1000:us.length≤1000:=by have:=Zn3 ds;omega
 refine ⟨_,rfl,a,us,rfl,.inr (SqT.of ha),_,_,rfl,rfl,_,rfl,?_⟩;have qe:∀ H',Same H H'→Q (.bl (decide (ds.length≤60)&&ds.all isT&&ds.all (Zbq (wd1 ds)))) H':=q;refine ite2 (fun h60=>?_) (fun h60=>?_)
 · have z:¬ ds.length≤60:=by have:(60:Int)<us.length:=n37_ h60;omega
   rw [n30_ z] at qe;exact qe _ (Same.refl H)
 have z:ds.length≤60:=by have:¬ (60:Int)<us.length:=fun z=>h60 (n32_ z);omega
 rw [n32_ z,Bool.true_and] at qe;refine ⟨_,rfl,a,rfl,⟨_,SqT.of ha⟩,fun D nD=>?_⟩;refine lc_T (k:=.t) (vs:=us) RB hRB (ds.map isT) (by simp [hl]) h1000 nD ha (fun i w H2 C hw s2 c=>?_) (fun H2 us' s2 e2 a2=>?_)
 · obtain ⟨dx,ed,hdx⟩:=hs.get hw;obtain ⟨t,ty,ki⟩:=(hdx.same s2).ty (K:=K);exact ⟨_,rfl,_,_,t,_,rfl,ty,ki,c _ _ (isT dx) (Same.refl _) (by rw [n8_,ed];rfl) rfl⟩
 rw [a2.bls] at e2;refine ⟨D,ds.map isT,rfl,SqL.of e2,_,rfl,?_⟩;have z2:(ds.map isT).all id=ds.all isT:=by rw [List.all_map];rfl
 rw [z2];cases hT:ds.all isT with
 | false =>
   rw [hT,Bool.false_and] at qe;exact iteT (qe _ s2)
 | true =>
   rw [hT,Bool.true_and] at qe;refine iteF ?_;refine ⟨_,rfl,N,k,a,us,ds,rfl,s2 _ _ ha,hs.same s2,hT,?_⟩;refine ⟨_,rfl,a,rfl,⟨_,SqT.of (s2 _ _ ha)⟩,fun E nE=>?_⟩;refine lc_T (k:=.t) (vs:=us) RB hRB (ds.map (Zbq (wd1 ds))) (by simp [hl]) h1000 nE (show SK.t.At H2 a us from s2 _ _ ha) (fun i w H3 C hw s3 c=>?_) (fun H3 us3 s3 e3 a3=>?_)
   · obtain ⟨dx,ed,hdx⟩:=hs.get hw;have zx:=Zpx ed;exact ⟨_,rfl,_,rfl,N,k,w,dx,wd1 ds,rfl,hdx.same (s2.trans s3),hk,n28_ zx hz,fun H5 s5=>c _ _ (Zbq (wd1 ds) dx) s5 (by rw [n8_,ed];rfl) rfl⟩
   · rw [a3.bls] at e3;refine ⟨E,_,rfl,SqL.of e3,?_⟩;have z3:(ds.map (Zbq (wd1 ds))).all id=ds.all (Zbq (wd1 ds)):=by rw [List.all_map];rfl
     rw [z3];exact qe _ (s2.trans s3)
abbrev Zad:Stmt:=top 25
theorem Zem (F:Fun K "look_at_rows" "look_at_rows" Zad f fd) (Ce_:a25_ P w K mg base) (Cap_:a27_ P w K mg base):FnOk P w K mg base CX0 6 f fd ["rows","rights"] Zkp:=by
 have sc:FnScope ["rows","rights"] ["rows","rights"] (Zf Zad):=fsc (by decide +kernel);refine F.ok sc (fun vs H Q E h=>by obtain ⟨v,u,ms,qs,rfl,_⟩:=h;rfl) fun cdv A outer s H vs Q E hr h=>?_;obtain ⟨v,u,ms,qs,rfl,h1,h2,R,q⟩:=h;refine' ⟨_,?term,?read⟩
 case term=>refine' @Zc _ _ _ _ _ ?g1 ?g2;(case g1=>refine' @Yv _ _ _ _ _ _ _ _ ?g3 Zd5 Z3;case g3=>refine' @Xx _ _ _ _ ?g4;case g4=>refine' @Yg _ _ _ (Zj Cap_ hr (by decide) rfl (Za (pv 0) Zb rfl)) (fun _=>rfl));case g2=>refine' @Zh _ _ _ ?g5;case g5=>refine' @Yv _ _ _ _ _ _ _ _ ?g6 Zd5 Z3;case g6=>refine' @Xx _ _ _ _ ?g7;case g7=>refine' @Yg _ _ _ (Zj Ce_ hr (by decide) rfl (Za (pv 1) (Za (Zk Zt rfl T.b_len Y6 (Za (pv 0) Zb rfl)) Zb rfl) rfl)) (fun _=>rfl)
 have g':(Zlf (X5 ms)&&Zbq (Zfv (X5 ms)) (rowD qs))=true:=Zry R;rw [n54_] at g';have D1:Dt (fun _=>False) H 411 v (X5 ms):=Zj6 h1 R.b.1;have D2:Dt (fun _=>False) H 411 u (rowD qs):=Zd2 h2 R.b.2;obtain ⟨n1,n2⟩:=R.nz;obtain ⟨a,us,rfl,ha,al⟩:=h1;have lu:=al.1;refine ⟨_,rfl,_,411,_,_,rfl,D1,by decide,by omega,fun H1 s1=>⟨_,rfl,?_⟩⟩;rw [g'.1];refine iteF ?_;refine ⟨_,rfl,_,rfl,a,us,rfl,.inr (SqT.of (s1 _ _ ha)),_,411,u,rowD qs,Zfv (X5 ms),by rw [show us.length=Zfv (X5 ms) by show us.length=(ms.map rowD).length;rw [n2_];exact lu],D2.same s1,by decide,by omega,fun H2 s2=>⟨_,rfl,?_⟩⟩;rw [g'.2];exact iteF (q _ (s1.trans s2))
abbrev Zdn:Stmt:=top 41
theorem Zhx (F:Fun K "solved" "solved" Zdn f fd) {Ph:Addr} (Cx_:a28_ P w K mg base) (Ca1_:Cal P w K mg base "mix_of" 46 ["rows","rights","taken"] (Zfx K Ph)) (Cn_:a19_ P w K mg base) (Cs_:Cal P w K mg base "settled" 45 ["rows","rights"] (Zba K Ph)):FnOk P w K mg base CX0 47 f fd ["rows","rights"] (Za0 Ph):=by
 have sc:FnScope ["rows","rights","taken","solution","frees"] ["rows","rights"] (Zf Zdn):=fsc (by decide +kernel);refine F.ok sc (fun vs H Q E h=>by obtain ⟨v,u,ms,qs,rfl,_⟩:=h;rfl) fun cdv A outer s H vs Q E hr h=>?_;obtain ⟨v,u,ms,qs,rfl,h1,h2,R,tb,q⟩:=h;have nd:=sc.nd;refine' ⟨_,?term,?read⟩
 case term=>refine' @Zc _ _ _ _ _ ?g1 ?g2;(case g1=>refine' @Xw _ _ _ _ (Zj Cx_ hr (by decide) rfl (Za (pv 0) (Za (pv 1) Zb rfl) rfl)) (by rfl));case g2=>refine' @Zc _ _ _ _ _ ?g3 ?g4;(case g3=>refine' @Yn _ _ _ _ _ _ (Zj Cs_ hr (by decide) rfl (Za (pv 0) (Za (pv 1) Zb rfl) rfl)) ?g5 (by rfl) (by rfl) (by rfl);case g5=>refine' @Zy _ _ _ _ _ (2) rfl (Zd (Zi (i:=2) nd rfl (Or.inr rfl)) (Zd (Zi (i:=3) nd rfl (Or.inl rfl)) Zr)) (by rfl) (by rfl));case g4=>refine' @Zc _ _ _ _ _ ?g6 ?g7;(case g6=>refine' @Yv _ _ _ _ _ _ _ _ (Zq Zny (pv 3) Zc6 (Zw _)) (Zh (Zn (Zu (Za Zju (Za (Zj Ca1_ hr (by decide) rfl (Za (pv 0) (Za (pv 1) (Za (pv 2) Zb rfl) rfl) rfl)) Zb rfl) rfl)))) Z3);case g7=>refine' @Zc _ _ _ _ _ ?g8 (Zh (Zn (Zu (Za Zju (Za (pv 3) (Za (Yo Yd rfl T.b_tuple Yr (Za (pv 4) Zb rfl)) Zb rfl) rfl) rfl))));case g8=>refine' @X0 _ _ _ _ _ _ _ _ _ _ (["place","taken"]) ([none,some 2]) _ _ _ _ _ _ rfl rfl (Zi (i:=4) nd rfl (Or.inl rfl)) (Z7 (XN:=["rows","rights","taken","solution","frees"]) (Scope.names (Zf Zdn)) rfl rfl rfl (fun _ h=>Z0 h) (by decide +kernel) rfl) ?g9 (fun _ _ _ _=>pgB 0) (fun _ _ _ _=>Za7 (Zq (Zb0 K rfl) (pv 0) (pv 1) rfl)) (fun _ _ _ _=>pv 0) (by intro _ ;rfl);case g9=>refine' @Yz _ _ _ _ _ _ rfl T.b_range (Za (Zj Cn_ hr (by decide) rfl (Za (pv 0) Zb rfl)) Zb rfl) (by rfl)
 refine ⟨_,rfl,_,rfl,v,u,ms,qs,rfl,h1,h2,R,fun H1 s1=>?_⟩;obtain ⟨p,us,rfl,hp,al1⟩:=(h1.tk s1.tk).qs (K:=K);obtain ⟨r,gs,rfl,hr',alg1⟩:=(h2.tk s1.tk).qs (K:=K);have S1:=R.sys;have m6:=R.m7;have w4:=R.w6;have wW:=S1.w;obtain ⟨tl,tlt⟩:=R.tk;refine ⟨_,rfl,_,rfl,p,r,.t,.t,us,gs,ms,qs,411,1000,rfl,hp,al1,hr',alg1,S1.se,tb.same s1,fun H2 pp t w' kp tb2 hpp ht sv=>?_⟩
 have np:∀ {G:Hp} {b:Addr} {o:HO},TabF G Ph "head_of.<locals>.<lambda>" → (∀ ps,o≠HO.tbl ps)→G b=some o→b≠Ph:=fun t n e z=>by
  obtain ⟨ps,h,_⟩:=t;rw [z,h] at e;exact n _ (Option.some.inj e).symm
 have k12:∀ b o,(∀ ps,o≠HO.tbl ps)→H1 b=some o→H2 b=some o:=fun b o n e=>kp b o (np (tb.same s1) n e) e;have tk12:Tk H1 H2:=fun b xs e=>k12 b _ (by intro ps z;cases z) e;have al2:=al1.imp fun v x (r:IsQs K H1 v x)=>IsQs.tk tk12 r;have alg2:=alg1.imp fun v x (r:IsQ K H1 v x)=>hRQ _ _ _ _ tk12 r;have hp2:=k12 _ _ (by intro ps z;cases z) hp;have hr2:=k12 _ _ (by intro ps z;cases z) hr';have kp2:Xp Ph H H2:=fun b o n e=>kp b o n (s1 _ _ e);refine ⟨pp,_,rfl,SqT.of hpp,rfl,_,_,rfl,_,_,rfl,rfl,?_⟩;refine ⟨_,rfl,rfl,_,rfl,?_⟩;cases es:slv ms qs with
 | none =>
   rw [es] at sv;obtain rfl:w'=.non:=sv;rw [n32_ rfl];refine iteT ?_;obtain ⟨ys,ey,ly,mx,sm⟩:=R.mix es;refine ⟨_,rfl,_,rfl,_,rfl,p,r,t,.t,us,gs,ms,qs,tkn ms qs,411,1000,rfl,hp2,al2,hr2,alg2,ht,by omega,by omega,fun p' hp' r' hr''=>by rw [R.wd r' hr''];exact tlt p' hp',R.mixS.se,tb2,fun H3 v3 kp3 tb3 sv3=>?_⟩;rw [ey] at sv3;obtain ⟨b,bs,rfl,hb,alb⟩:=id sv3;refine ⟨z2_,fun p4 np4=>?_⟩;have s4:=Same.new (o:=.tup [.str "none",.ref b]) np4;exact q _ p4 (fun b o n e=>s4 _ _ (kp3 b o n (kp2 b o n e))) (tb3.same s4) (.inr ⟨b,ys,Ze,IsRh.tk s4.tk sv3,es,ey,mx,sm⟩)
 | some xs =>
   rw [es] at sv;obtain ⟨b,bs,rfl,hb,alb⟩:=id sv;have lx:=Zm7 es;rw [n30_ (by intro z;cases z)];refine iteF ?_;refine ⟨_,rfl,p,.t,us,ms,rfl,hp2,al2,?_⟩;refine ⟨_,rfl,by omega,by omega,fun D nD=>?_⟩
   have hfl:((tkn ms qs).map fun n:Nat=>V.int n).all Zer=true:=n56_.mpr fun x hx=>by
    obtain ⟨n,_,rfl⟩:=n19_.mp hx;rfl
   refine Zat (n:=wid ms) (fun _ v (x:Int)=>v=V.int x) (fun _ _ _ _ _ _ e=>e) (fun i=>if (!inV (.int (0+(i:Int))) ((tkn ms qs).map fun n:Nat=>V.int n))=true then some (0+(i:Int)) else none) (by omega) (fun σ=>∃ x,σ=[x,some (.ref t)]) ⟨_,rfl⟩ nD (fun i H3 s hi=>hi) (fun H3 s=>n9_ _) (fun i x σ2 H3 H4 C N' hi s3 eD y ok c' n'=>?_) (fun H3 us3 s3 e3 a3=>?_)
   · obtain ⟨a1,rfl⟩:=ok;obtain ⟨rfl,rfl⟩:=y;unfold Z4;refine ⟨_,rfl,_,rfl,t,_,rfl,.inl (SqL.of (s3 _ _ ht)),rfl,hfl,_,rfl,?_⟩;show if (!inV (.int (0+(i:Int))) ((tkn ms qs).map fun n:Nat=>V.int n))=true then _ else _
     by_cases hz:(!inV (.int (0+(i:Int))) ((tkn ms qs).map fun n:Nat=>V.int n))=true
     · rw [if_pos hz];exact ⟨_,rfl,c' _ _ _ _ ⟨_,rfl⟩ (Same.refl _) (if_pos hz) rfl⟩
     · rw [if_neg hz];exact n' _ _ ⟨_,rfl⟩ (Same.refl _) (if_neg hz)
   · generalize hF:(List.range (wid ms)).filterMap (fun i:Nat=>if (!inV (.int (0+(i:Int))) ((tkn ms qs).map fun n:Nat=>V.int n))=true then some (0+(i:Int)) else none)=F at a3;have u3:us3=F.map V.int:=Al.ints (ns:=F) a3;subst u3;refine ⟨_,rfl,_,rfl,D,_,rfl,.inl ⟨SqL.of e3,fun p4 np4=>?_⟩⟩;have s4:=Same.new (o:=.tup (F.map V.int)) np4;have a4:upd H3 p4 (.tup (F.map V.int)) p4=some (.tup (F.map V.int)):=Ze;refine ⟨z3_,fun p5 np5=>?_⟩;have s5:=Same.new (o:=.tup [.str "solved",.ref b,.ref p4]) np5;have s35:=s3.trans (s4.trans s5);exact q _ p5 (fun b o n e=>s35 _ _ (kp2 b o n e)) (tb2.same s35) (.inl ⟨b,p4,xs,Ze,IsRh.tk s35.tk sv,by rw [show frs ms qs=F from hF];exact s5 _ _ a4,es⟩)
abbrev Zac:Stmt:=top 43
theorem Zd6 (F:Fun K "_law_cell_at" "_law_cell_at" Zac f fd):FnOk P w K mg base CX0 1 f fd ["_law_script","_law_k"] (Zl5 K):=by
 have sc:FnScope ["_law_script","_law_k"] ["_law_script","_law_k"] (Zf Zac):=fsc (by decide +kernel);refine F.ok sc (fun vs H Q E h=>by obtain ⟨a,ns,k,rfl,_⟩:=h;rfl) fun cdv A outer s H vs Q E hr h=>?_;obtain ⟨a,ns,k,rfl,hS,q⟩:=h;refine' ⟨_,?term,?read⟩
 case term=>refine' @Zc _ _ _ _ _ ?g1 (Zh (Zn Zg));case g1=>refine' @Yv _ _ _ _ _ _ _ _ (Zq Zhp (pv 1) (Zk Zt rfl T.b_len Y6 (Za (pv 0) Zb rfl)) (Zw _)) ?g2 Z3;case g2=>refine' @Zh _ _ _ ?g3;case g3=>refine' @Zn _ _ _ _ ?g4;case g4=>refine' @Z1 _ _ _ _ _ _ _ Z2 (pv 0) (pv 1) (fun _ _=>rfl)
 refine ⟨_,rfl,_,rfl,a,_,rfl,.inl hS,_,_,rfl,rfl,_,rfl,?_⟩;refine ite2 (fun hlt=>?_) (fun _=>q 0)
 have hk:k<ns.length:=by
  have z:=n37_ hlt;rw [n2_] at z;omega
 exact ⟨_,rfl,_,rfl,a,_,_,_,rfl,rfl,hS,Yh (by rw [n8_,n0_ hk];rfl),q _⟩
abbrev Zaz:Stmt:=top 44
theorem Zgh (F:Fun K "_law_state" "_law_state" Zaz f fd) (Cy_:a29_ P w K mg base):FnOk P w K mg base CX0 2 f fd ["_law_script","_law_k"] (Zj9 K):=by
 have sc:FnScope ["_law_script","_law_k","_law_cell"] ["_law_script","_law_k"] (Zf Zaz):=fsc (by decide +kernel);refine F.ok sc (fun vs H Q E h=>by obtain ⟨a,ns,k,rfl,_⟩:=h;rfl) fun cdv A outer s H vs Q E hr h=>?_;obtain ⟨a,ns,k,rfl,hS,q⟩:=h;have nd:=sc.nd;refine' ⟨_,?term,?read⟩
 case term=>refine' @Zc _ _ _ _ _ ?g1 ?g2;(case g1=>refine' @Zv _ _ (2) _ _ _ _ nd rfl (Or.inl rfl) (Zj Cy_ hr (by decide) rfl (Za (pv 0) (Za (pv 1) Zb rfl) rfl)) (by rfl) (by first|exact Or.inl rfl|exact Or.inr rfl|assumption));case g2=>refine' @Zh _ _ _ ?g3;case g3=>refine' @Zn _ _ _ _ ?g4;case g4=>refine' @Y4 _ _ _ _ (Za (Zk (Zcb rfl) rfl T.b_max Zjt (Za Zg (Za (Zm Zau (pv 2) (Zm Zpy Zg Zg)) Zb rfl) rfl)) (Za (Zm Yx (Zm Xz (pv 2) Zg) Zg) (Za Zg Zb rfl) rfl) rfl)
 refine ⟨_,rfl,_,rfl,a,ns,k,rfl,hS,fun c=>?_⟩;refine ⟨_,rfl,_,_,rfl,rfl,⟨by decide,by decide,by decide⟩,_,_,rfl,rfl,_,_,rfl,?_⟩;refine ⟨_,rfl,_,_,rfl,rfl,(by show (2147483629:Int)≠0;decide),_,_,rfl,rfl,(z3_),fun p hp=>q p _ hp (Same.new hp) ⟨_,_,_,Ze,?_,?_⟩⟩
 · have:=n68_ c (b:=2147483629) (by decide)
   omega
 · have:=n98_ c (b:=2147483629) (by decide)
   omega
abbrev Zap:Stmt:=top 45
theorem Zet (F:Fun K "_law_choice" "_law_choice" Zap f fd):FnOk P w K mg base CX0 1 f fd ["_law_state_here","_law_many"] Zg4:=by
 have sc:FnScope ["_law_state_here","_law_many","_law_found","_law_mixed"] ["_law_state_here","_law_many"] (Zf Zap):=fsc (by decide +kernel);refine F.ok sc (fun vs H Q E h=>by obtain ⟨l,m,rfl,_⟩:=h;rfl) fun cdv A outer s H vs Q E hr h=>?_;obtain ⟨l,m,rfl,⟨s0,s1,s2,hl,h0,h1⟩,hm,hz,q⟩:=h;have nd:=sc.nd;refine' ⟨_,?term,?read⟩
 case term=>refine' @Zc _ _ _ _ _ ?g1 ?g2;(case g1=>refine' @Yv _ _ _ _ _ _ _ _ ?g3 ?g4 Z3;(case g3=>refine' @Zq _ _ _ _ _ _ _ _ Zdi ?g5 Zg (Zw _);case g5=>refine' @Z1 _ _ _ _ _ _ _ Z2 (pv 0) Zg (fun _ _=>rfl));case g4=>refine' @Zc _ _ _ _ _ ?g6 ?g7;(case g6=>refine' @Zv _ _ (2) _ _ _ _ nd rfl (Or.inl rfl) ?g8 (by rfl) (by first|exact Or.inl rfl|exact Or.inr rfl|assumption);case g8=>refine' @Zm _ _ _ _ _ _ _ _ Xz ?g9 (pv 1);case g9=>refine' @Z1 _ _ _ _ _ _ _ Z2 (pv 0) Zg (fun _ _=>rfl));case g7=>refine' @Zc _ _ _ _ _ ?ga (Zh (Zn (pv 2)));case ga=>refine' @Yn _ _ _ _ _ _ ?gb ?gc (by rfl) (by rfl) (by rfl);(case gb=>refine' @Zm _ _ _ _ _ _ _ _ Yc ?gd (pv 1);case gd=>refine' @Z1 _ _ _ _ _ _ _ Z2 (pv 0) Zg (fun _ _=>rfl));case gc=>refine' @Zda _ _ _ _ _ _ _ (pv 0) Zg X7 (by intro _ ;rfl));case g2=>refine' @Zc _ _ _ _ _ ?ge ?gf;(case ge=>refine' @Yn _ _ _ _ _ _ ?gg ?gh (by rfl) (by rfl) (by rfl);(case gg=>refine' @Zm _ _ _ _ _ _ _ _ Yx ?gi Zg;case gi=>refine' @Z1 _ _ _ _ _ _ _ Z2 (pv 0) Zg (fun _ _=>rfl));case gh=>refine' @Zda _ _ _ _ _ _ _ (pv 0) Zg X7 (by intro _ ;rfl));case gf=>refine' @Zc _ _ _ _ _ ?gj ?gk;(case gj=>refine' @Yn _ _ _ _ _ _ ?gl ?gm (by rfl) (by rfl) (by rfl);(case gl=>refine' @Zm _ _ _ _ _ _ _ _ Xz ?gn Zg;case gn=>refine' @Zm _ _ _ _ _ _ _ _ Yx ?go ?gp;(case go=>refine' @Zm _ _ _ _ _ _ _ _ Yx ?gq Zg;case gq=>refine' @Zm _ _ _ _ _ _ _ _ Zx ?gr Zg;case gr=>refine' @Z1 _ _ _ _ _ _ _ Z2 (pv 0) Zg (fun _ _=>rfl));case gp=>refine' @Z1 _ _ _ _ _ _ _ Z2 (pv 0) Zg (fun _ _=>rfl));case gm=>refine' @Zda _ _ _ _ _ _ _ (pv 0) Zg X7 (by intro _ ;rfl));case gk=>refine' @Zc _ _ _ _ _ ?gs ?gt;(case gs=>refine' @Zv _ _ (3) _ _ _ _ nd rfl (Or.inl rfl) ?gu (by rfl) (by first|exact Or.inl rfl|exact Or.inr rfl|assumption);case gu=>refine' @Zm _ _ _ _ _ _ _ _ Xz ?gv Zg;case gv=>refine' @Zm _ _ _ _ _ _ _ _ Yx ?gw Zg;case gw=>refine' @Zm _ _ _ _ _ _ _ _ Yx ?gx ?gy;(case gx=>refine' @Zm _ _ _ _ _ _ _ _ Zx ?gz ?g10;(case gz=>refine' @Z1 _ _ _ _ _ _ _ Z2 (pv 0) Zg (fun _ _=>rfl));case g10=>refine' @Z1 _ _ _ _ _ _ _ Z2 (pv 0) Zg (fun _ _=>rfl));case gy=>refine' @Zm _ _ _ _ _ _ _ _ Zx Zg ?g11;case g11=>refine' @Z1 _ _ _ _ _ _ _ Z2 (pv 0) Zg (fun _ _=>rfl));case gt=>refine' @Zc _ _ _ _ _ ?g12 (Zh (Zn (Zm Xz (Zm Yc (pv 3) Zg) (pv 1))));case g12=>refine' @Zv _ _ (3) _ _ _ _ nd rfl (Or.inl rfl) (Zm Xz (Zm Yx (Zm Zx (pv 3) (pv 3)) (Zm Zx Zg (pv 3))) Zg) (by rfl) (by first|exact Or.inl rfl|exact Or.inr rfl|assumption)
 have hm0:m≠0:=by omega
 refine ⟨_,rfl,l,_,0,_,rfl,rfl,SqL.of hl,rfl,_,_,rfl,rfl,_,rfl,?_⟩;refine ite2 (fun _=>?_) (fun _=>?_)
 · refine ⟨_,rfl,l,_,0,_,rfl,rfl,SqL.of hl,rfl,_,rfl,_,_,rfl,rfl,hm0,?_⟩;refine ⟨_,rfl,l,_,0,_,rfl,rfl,SqL.of hl,rfl,_,rfl,_,_,rfl,rfl,⟨hm0,hz⟩,?_⟩;refine ⟨_,rfl,l,_,0,0,rfl,rfl,hl,rfl,?_⟩;exact ⟨_,rfl,q _ _ (n68_ _ hm) (n98_ _ hm) Keep.upd ⟨_,_,_,Ze,h0,h1⟩⟩
 ·
  refine ⟨_,rfl,l,_,2,_,rfl,rfl,SqL.of hl,rfl,_,_,rfl,rfl,?_⟩;refine ⟨_,rfl,l,_,2,2,rfl,rfl,hl,rfl,?_⟩;refine ⟨_,rfl,l,_,1,_,rfl,rfl,SqL.of Ze,rfl,_,_,rfl,rfl,mulS (by rw [p64];omega) (by decide),_,_,rfl,rfl,?_⟩;refine ⟨_,rfl,l,_,2,_,rfl,rfl,SqL.of Ze,rfl,_,_,rfl,rfl,_,_,rfl,rfl,(by show (2147483647:Int)≠0;decide),?_⟩;refine ⟨_,rfl,l,_,1,1,rfl,rfl,Ze,rfl,?_⟩;generalize hs:Int.fmod (s1*48271+29+(s2+1)) 2147483647=u;have u0:0≤u:=by rw [← hs];exact n68_ _ (by decide)
  have u1:u<2147483647:=by rw [← hs];exact n98_ _ (by decide)
  refine ⟨_,rfl,l,_,1,_,rfl,rfl,SqL.of Ze,rfl,_,rfl,l,_,1,_,rfl,rfl,SqL.of Ze,rfl,u,u,by rw [← hs],by rw [← hs],mulS (by rw [p64];omega) (by rw [p64];omega),?_⟩;refine ⟨_,rfl,l,_,1,_,rfl,rfl,SqL.of Ze,rfl,39373,u,rfl,by rw [← hs],mulS (by decide) (by rw [p64];omega),_,_,rfl,rfl,_,_,rfl,rfl,_,_,rfl,rfl,(by show (2147483629:Int)≠0;decide),?_⟩;generalize hv:Int.fmod (u*u+39373*u+7) 2147483629=v;have v0:0≤v:=by rw [← hv];exact n68_ _ (by decide)
  have v1:v<2147483629:=by rw [← hv];exact n98_ _ (by decide)
  refine ⟨_,rfl,_,rfl,v,v,by rw [← hv],by rw [← hv],mulS (by rw [p64];omega) (by rw [p64];omega),_,rfl,50021,v,rfl,by rw [← hv],mulS (by decide) (by rw [p64];omega),_,_,rfl,rfl,_,_,rfl,rfl,(by show (2147483587:Int)≠0;decide),?_⟩;refine ⟨_,rfl,_,_,rfl,rfl,⟨by decide,Xo (by decide)⟩,_,rfl,_,_,rfl,rfl,hm0,?_⟩;exact q _ _ (n68_ _ hm) (n98_ _ hm) (Keep.upd.trans Keep.upd) ⟨_,u,_,by rw [← hs];exact Ze,u0,by omega⟩
abbrev Zco:Stmt:=top 46
theorem Zi6 (F:Fun K "_law_low" "_law_low" Zco f fd):FnOk P w K mg base CX0 1 f fd ["_law_top","_law_bottom"] Zp7:=by
 have sc:FnScope ["_law_top","_law_bottom","_law_one","_law_other"] ["_law_top","_law_bottom"] (Zf Zco):=fsc (by decide +kernel);refine F.ok sc (fun vs H Q E h=>by obtain ⟨t,b,rfl,_⟩:=h;rfl) fun cdv A outer s H vs Q E hr h=>?_;obtain ⟨t,b,rfl,hb,hz,q⟩:=h;have nd:=sc.nd;refine' ⟨_,?term,?read⟩
 case term=>refine' @Zc _ _ _ _ _ ?g1 ?g2;(case g1=>refine' @Zb9 _ _ (2) (3) _ _ _ _ _ _ _ _ _ _ _ rfl nd rfl rfl (by decide) rfl rfl (Za (Zk Y2 rfl T.b_abs Zaf (Za (pv 0) Zb rfl)) (Za (Zk Y2 rfl T.b_abs Zaf (Za (pv 1) Zb rfl)) Zb rfl) rfl) rfl (by rfl));case g2=>refine' @Zc _ _ _ _ _ ?g3 ?g4;(case g3=>refine' @Zbd _ _ _ _ _ _ PassesOwn.never (Zq Zdi (pv 3) Zg (Zw _)) ?g5;case g5=>refine' @Zh _ _ _ ?g6;case g6=>refine' @Zb9 _ _ (2) (3) _ _ _ _ _ _ _ _ _ _ _ rfl nd rfl rfl (by decide) rfl rfl (Za (pv 3) (Za (Zm Xz (pv 2) (pv 3)) Zb rfl) rfl) rfl (by rfl));case g4=>refine' @Zh _ _ _ ?g7;case g7=>refine' @Zn _ _ _ _ ?g8;case g8=>refine' @Zu _ _ _ _ _ ?g9;case g9=>refine' @Za _ _ _ _ _ ?ga (Za (Zm Yc (Zk Y2 rfl T.b_abs Zaf (Za (pv 1) Zb rfl)) (pv 2)) Zb rfl) rfl;case ga=>refine' @Zao _ _ _ _ _ _ _ _ (Zq Zdi (pv 1) Zg (Zw _)) (Zm Yc (pv 0) (pv 2)) (Zm Zau Zg (Zm Yc (pv 0) (pv 2)))
 have hg:=FM.gcd_ne (t:=t) hb;have hgz:(Int.gcd t b)<2^8999:=n12_ (Nat.gcd_le_right _ (Int.natAbs_pos.mpr hb)) (Zqd hz);have ab:∀ x:Int,(if x<0 then -x else x)=(x.natAbs:Int):=fun x=>by split<;>omega
 refine ⟨_,rfl,t,rfl,_,rfl,b,rfl,_,_,rfl,?_⟩
 refine Zbg (fun σ H'=>∃ x y:Int,σ=[some (.int t),some (.int b),some (.int x),some (.int y)]∧H'=H∧0≤x∧0≤y∧Int.gcd x y=Int.gcd t b) (fun σ _=>match σ with|[_,_,_,some (.int y)]=>y.natAbs|_=>0)
  ⟨_,_,rfl,rfl,by rw [ab];omega,by rw [ab];omega,by rw [ab,ab];simp [Int.gcd]⟩ ?_ ?_
 · rintro σ H' ⟨x,y,rfl,rfl,hx,hy,e⟩
   refine ⟨_,rfl,_,_,rfl,rfl,_,rfl,?_⟩;refine ite2 (fun hlt=>?_) (fun hlt=>?_)
   · have hy':0<y:=n37_ hlt;have hy0:y≠0:=by omega
     refine ⟨_,rfl,_,rfl,_,rfl,x,y,rfl,rfl,hy0,_,_,rfl,⟨y,x.fmod y,rfl,rfl,hy,n68_ _ hy',by rw [FM.gcd_fmod hy0];exact e⟩,FM.fmod_abs_lt hy0⟩
   · have hy':¬ 0<y:=fun z=>hlt (n32_ z);have y0:y=0:=by omega
     subst y0;have x0:x=(Int.gcd t b:Int):=by rw [← e,Int.gcd_zero_right];omega
     subst x0;refine ⟨_,rfl,_,_,rfl,rfl,_,rfl,?_⟩
     have fin:∀ n:Int,n=(if 0<b then t.fdiv (Int.gcd t b:Int) else 0-t.fdiv (Int.gcd t b:Int))→∀ p,H' p=none→Q (.ref p) (upd H' p (.tup [.int n,.int (Int.fdiv (if b<0 then -b else b) (Int.gcd t b:Int))])):=by
      rintro n rfl p hp
      rw [ab,FM.low_num hb,FM.low_den hb];exact q p _ (Same.new hp) Ze
     refine ite2 (fun hlt=>?_) (fun hlt=>?_)
     · have hb':0<b:=n37_ hlt;refine ⟨_,rfl,_,rfl,_,_,rfl,rfl,⟨hg,hgz⟩,_,rfl,b,rfl,_,rfl,_,_,rfl,rfl,⟨hg,hgz⟩,z2_,?_⟩;exact fin _ (by rw [if_pos hb'])
     · have hb':¬ 0<b:=fun z=>hlt (n32_ z);refine ⟨_,rfl,_,rfl,_,_,rfl,rfl,⟨hg,hgz⟩,_,_,rfl,rfl,_,rfl,b,rfl,_,rfl,_,_,rfl,rfl,⟨hg,hgz⟩,z2_,?_⟩;exact fin _ (by rw [if_neg hb'])
 · rintro σ H' Q1 Q2 hq ⟨v,e,i,j,e1,e2,k,e3,q'⟩
   exact ⟨v,e,i,j,e1,e2,k,e3,hq _ _ q'⟩
abbrev Zen:Stmt:=top 46
theorem Zhi (F:Fun K "_law_low" "_law_low" Zen f fd) (PT:P.given.tree=none):FnOk P w K mg base CX0 40 f fd ["_law_top","_law_bottom"] Znv:=by
 have sc:FnScope ["_law_top","_law_bottom","_law_one","_law_other"] ["_law_top","_law_bottom"] (Zf Zen):=fsc (by decide +kernel);refine F.ok sc (fun vs H Q E h=>by obtain ⟨t,b,rfl,_⟩:=h;rfl) fun cdv A outer s H vs Q E hr h=>?_;obtain ⟨t,b,rfl,hb,q⟩:=h;have nd:=sc.nd;refine' ⟨_,?term,?read⟩
 case term=>refine' @Zc _ _ _ _ _ ?g1 ?g2;(case g1=>refine' @Zb9 _ _ (2) (3) _ _ _ _ _ _ _ _ _ _ _ rfl nd rfl rfl (by decide) rfl rfl (Za (Zk Y2 rfl T.b_abs Zaf (Za (pv 0) Zb rfl)) (Za (Zk Y2 rfl T.b_abs Zaf (Za (pv 1) Zb rfl)) Zb rfl) rfl) rfl (by rfl));case g2=>refine' @Zc _ _ _ _ _ ?g3 ?g4;(case g3=>refine' @Zbd _ _ _ _ _ _ PassesOwn.never (Zq Zdi (pv 3) Zg (Zw _)) ?g5;case g5=>refine' @Zh _ _ _ ?g6;case g6=>refine' @Zb9 _ _ (2) (3) _ _ _ _ _ _ _ _ _ _ _ rfl nd rfl rfl (by decide) rfl rfl (Za (pv 3) (Za (Zm Xz (pv 2) (pv 3)) Zb rfl) rfl) rfl (by rfl));case g4=>refine' @Zh _ _ _ ?g7;case g7=>refine' @Zn _ _ _ _ ?g8;case g8=>refine' @Zu _ _ _ _ _ ?g9;case g9=>refine' @Za _ _ _ _ _ ?ga (Za (Zm (Zbx PT rfl rfl rfl (Zod hr)) (Zk Y2 rfl T.b_abs Zaf (Za (pv 1) Zb rfl)) (pv 2)) Zb rfl) rfl;case ga=>refine' @Zao _ _ _ _ _ _ _ _ (Zq Zdi (pv 1) Zg (Zw _)) (Zm (Zbx PT rfl rfl rfl (Zod hr)) (pv 0) (pv 2)) (Zm Zau Zg (Zm (Zbx PT rfl rfl rfl (Zod hr)) (pv 0) (pv 2)))
 have hg:=FM.gcd_ne (t:=t) hb;have ab:∀ x:Int,(if x<0 then -x else x)=(x.natAbs:Int):=fun x=>by split<;>omega
 refine ⟨_,rfl,t,rfl,_,rfl,b,rfl,_,_,rfl,?_⟩
 refine Zbg (fun σ H'=>∃ x y:Int,σ=[some (.int t),some (.int b),some (.int x),some (.int y)]∧H'=H∧0≤x∧0≤y∧Int.gcd x y=Int.gcd t b) (fun σ _=>match σ with|[_,_,_,some (.int y)]=>y.natAbs|_=>0)
  ⟨_,_,rfl,rfl,by rw [ab];omega,by rw [ab];omega,by rw [ab,ab];simp [Int.gcd]⟩ ?_ ?_
 · rintro σ H' ⟨x,y,rfl,rfl,hx,hy,e⟩
   refine ⟨_,rfl,_,_,rfl,rfl,_,rfl,?_⟩;refine ite2 (fun hlt=>?_) (fun hlt=>?_)
   · have hy':0<y:=n37_ hlt;have hy0:y≠0:=by omega
     refine ⟨_,rfl,_,rfl,_,rfl,x,y,rfl,rfl,hy0,_,_,rfl,⟨y,x.fmod y,rfl,rfl,hy,n68_ _ hy',by rw [FM.gcd_fmod hy0];exact e⟩,FM.fmod_abs_lt hy0⟩
   · have hy':¬ 0<y:=fun z=>hlt (n32_ z);have y0:y=0:=by omega
     subst y0;have x0:x=(Int.gcd t b:Int):=by rw [← e,Int.gcd_zero_right];omega
     subst x0;refine ⟨_,rfl,_,_,rfl,rfl,_,rfl,?_⟩
     have fin:∀ n:Int,n=(if 0<b then t.fdiv (Int.gcd t b:Int) else 0-t.fdiv (Int.gcd t b:Int))→∀ p,H' p=none→Q (.ref p) (upd H' p (.tup [.int n,.int (Int.fdiv (if b<0 then -b else b) (Int.gcd t b:Int))])):=by
      rintro n rfl p hp
      rw [ab,FM.low_num hb,FM.low_den hb];exact q p _ (Same.new hp) Ze
     refine ite2 (fun hlt=>?_) (fun hlt=>?_)
     · have hb':0<b:=n37_ hlt;refine ⟨_,rfl,_,rfl,_,_,rfl,rfl,hg,_,rfl,b,rfl,_,rfl,_,_,rfl,rfl,hg,z2_,?_⟩;exact fin _ (by rw [if_pos hb'])
     · have hb':¬ 0<b:=fun z=>hlt (n32_ z);refine ⟨_,rfl,_,rfl,_,_,rfl,rfl,hg,_,_,rfl,rfl,_,rfl,b,rfl,_,rfl,_,_,rfl,rfl,hg,z2_,?_⟩;exact fin _ (by rw [if_neg hb'])
 · rintro σ H' Q1 Q2 hq ⟨v,e,i,j,e1,e2,k,e3,q'⟩
   exact ⟨v,e,i,j,e1,e2,k,e3,hq _ _ q'⟩
abbrev Zcd:Stmt:=top 47
theorem Zja (F:Fun K "_law_add" "_law_add" Zcd f fd) (Cd_:a30_ P w K mg base):FnOk P w K mg base CX0 41 f fd ["_law_one","_law_other"] (Zkg (·+·)):=by
 have sc:FnScope ["_law_one","_law_other"] ["_law_one","_law_other"] (Zf Zcd):=fsc (by decide +kernel);refine F.ok sc (fun vs H Q E h=>by obtain ⟨p,r,x,y,rfl,_⟩:=h;rfl) fun cdv A outer s H vs Q E hr h=>?_;obtain ⟨p,r,x,y,rfl,h1,h2,hx,hy,q⟩:=h;refine' ⟨_,?term,?read⟩
 case term=>refine' @Zh _ _ _ ?g1;case g1=>refine' @Zn _ _ _ _ ?g2;case g2=>refine' @Zj _ _ _ _ _ _ _ _ _ _ _ Cd_ hr (by decide) rfl ?g3 (by decide) (by rfl) (by rfl);case g3=>refine' @Za _ _ _ _ _ ?g4 ?g5 rfl;(case g4=>refine' @Zm _ _ _ _ _ _ _ _ Yx ?g6 ?g7;(case g6=>refine' @Zm _ _ _ _ _ _ _ _ Zbn ?g8 ?g9;(case g8=>refine' @Z1 _ _ _ _ _ _ _ Yp (pv 0) Zg (fun _ _=>rfl));case g9=>refine' @Z1 _ _ _ _ _ _ _ Yp (pv 1) Zg (fun _ _=>rfl));case g7=>refine' @Zm _ _ _ _ _ _ _ _ Zbn ?ga ?gb;(case ga=>refine' @Z1 _ _ _ _ _ _ _ Yp (pv 1) Zg (fun _ _=>rfl));case gb=>refine' @Z1 _ _ _ _ _ _ _ Yp (pv 0) Zg (fun _ _=>rfl));case g5=>refine' @Za _ _ _ _ _ ?gc Zb rfl;case gc=>refine' @Zm _ _ _ _ _ _ _ _ Zbn ?gd ?ge;(case gd=>refine' @Z1 _ _ _ _ _ _ _ Yp (pv 0) Zg (fun _ _=>rfl));case ge=>refine' @Z1 _ _ _ _ _ _ _ Yp (pv 1) Zg (fun _ _=>rfl)
 refine ⟨_,rfl,p,_,0,_,rfl,rfl,SqT.of h1,rfl,_,rfl,r,_,1,_,rfl,rfl,SqT.of h2,rfl,_,_,rfl,rfl,cND hx hy,_,rfl,r,_,0,_,rfl,rfl,SqT.of h2,rfl,_,rfl,p,_,1,_,rfl,rfl,SqT.of h1,rfl,_,_,rfl,rfl,cND hy hx,_,_,rfl,rfl,_,rfl,p,_,1,_,rfl,rfl,SqT.of h1,rfl,_,rfl,r,_,1,_,rfl,rfl,SqT.of h2,rfl,_,_,rfl,rfl,cDD hx hy,_,_,rfl,FM.mul_ne,?_⟩;rw [FM.add_eq];exact q
abbrev Zcf:Stmt:=top 48
theorem Zjh (F:Fun K "_law_neg" "_law_neg" Zcf f fd):FnOk P w K mg base CX0 1 f fd ["_law_one"] Zp5:=by
 have sc:FnScope ["_law_one"] ["_law_one"] (Zf Zcf):=fsc (by decide +kernel);refine F.ok sc (fun vs H Q E h=>by obtain ⟨p,x,rfl,_⟩:=h;rfl) fun cdv A outer s H vs Q E hr h=>?_;obtain ⟨p,x,rfl,h1,q⟩:=h;refine' ⟨_,?term,?read⟩
 case term=>refine' @Zh _ _ _ ?g1;case g1=>refine' @Zn _ _ _ _ ?g2;case g2=>refine' @Zu _ _ _ _ _ ?g3;case g3=>refine' @Za _ _ _ _ _ ?g4 ?g5 rfl;(case g4=>refine' @Zm _ _ _ _ _ _ _ _ Zau Zg ?g6;case g6=>refine' @Z1 _ _ _ _ _ _ _ Yp (pv 0) Zg (fun _ _=>rfl));case g5=>refine' @Za _ _ _ _ _ ?g7 Zb rfl;case g7=>refine' @Z1 _ _ _ _ _ _ _ Yp (pv 0) Zg (fun _ _=>rfl)
 refine ⟨_,rfl,p,_,0,_,rfl,rfl,SqT.of h1,rfl,_,_,rfl,rfl,_,rfl,p,_,1,_,rfl,rfl,SqT.of h1,rfl,z2_,fun z nz=>q z _ (Same.new nz) ?_⟩;rw [Ze];have e1:(-x).num=0-x.num:=by rw [Rat.neg_num];omega
 have e2:(-x).den=x.den:=rfl;show _=some (HO.tup [V.int (-x).num,V.int (-x).den])
 rw [e1,e2]
abbrev Zcj:Stmt:=top 49
theorem Zji (F:Fun K "_law_mul" "_law_mul" Zcj f fd) (Cd_:a30_ P w K mg base):FnOk P w K mg base CX0 41 f fd ["_law_one","_law_other"] (Zkg (·*·)):=by
 have sc:FnScope ["_law_one","_law_other"] ["_law_one","_law_other"] (Zf Zcj):=fsc (by decide +kernel);refine F.ok sc (fun vs H Q E h=>by obtain ⟨p,r,x,y,rfl,_⟩:=h;rfl) fun cdv A outer s H vs Q E hr h=>?_;obtain ⟨p,r,x,y,rfl,h1,h2,hx,hy,q⟩:=h;refine' ⟨_,?term,?read⟩
 case term=>refine' @Zh _ _ _ ?g1;case g1=>refine' @Zn _ _ _ _ ?g2;case g2=>refine' @Zj _ _ _ _ _ _ _ _ _ _ _ Cd_ hr (by decide) rfl ?g3 (by decide) (by rfl) (by rfl);case g3=>refine' @Za _ _ _ _ _ ?g4 ?g5 rfl;(case g4=>refine' @Zm _ _ _ _ _ _ _ _ Zbn ?g6 ?g7;(case g6=>refine' @Z1 _ _ _ _ _ _ _ Yp (pv 0) Zg (fun _ _=>rfl));case g7=>refine' @Z1 _ _ _ _ _ _ _ Yp (pv 1) Zg (fun _ _=>rfl));case g5=>refine' @Za _ _ _ _ _ ?g8 Zb rfl;case g8=>refine' @Zm _ _ _ _ _ _ _ _ Zbn ?g9 ?ga;(case g9=>refine' @Z1 _ _ _ _ _ _ _ Yp (pv 0) Zg (fun _ _=>rfl));case ga=>refine' @Z1 _ _ _ _ _ _ _ Yp (pv 1) Zg (fun _ _=>rfl)
 refine ⟨_,rfl,p,_,0,_,rfl,rfl,SqT.of h1,rfl,_,rfl,r,_,0,_,rfl,rfl,SqT.of h2,rfl,_,_,rfl,rfl,cNN hx hy,_,rfl,p,_,1,_,rfl,rfl,SqT.of h1,rfl,_,rfl,r,_,1,_,rfl,rfl,SqT.of h2,rfl,_,_,rfl,rfl,cDD hx hy,_,_,rfl,FM.mul_ne,?_⟩;rw [FM.mul_eq];exact q
abbrev Zcy:Stmt:=top 50
theorem Zir (F:Fun K "_law_div" "_law_div" Zcy f fd) (Cd_:a30_ P w K mg base):FnOk P w K mg base CX0 41 f fd ["_law_one","_law_other"] Zjr:=by
 have sc:FnScope ["_law_one","_law_other"] ["_law_one","_law_other"] (Zf Zcy):=fsc (by decide +kernel);refine F.ok sc (fun vs H Q E h=>by obtain ⟨p,r,x,y,rfl,_⟩:=h;rfl) fun cdv A outer s H vs Q E hr h=>?_;obtain ⟨p,r,x,y,rfl,h1,h2,hx,hy,hn,q⟩:=h;refine' ⟨_,?term,?read⟩
 case term=>refine' @Zh _ _ _ ?g1;case g1=>refine' @Zn _ _ _ _ ?g2;case g2=>refine' @Zj _ _ _ _ _ _ _ _ _ _ _ Cd_ hr (by decide) rfl ?g3 (by decide) (by rfl) (by rfl);case g3=>refine' @Za _ _ _ _ _ ?g4 ?g5 rfl;(case g4=>refine' @Zm _ _ _ _ _ _ _ _ Zbn ?g6 ?g7;(case g6=>refine' @Z1 _ _ _ _ _ _ _ Yp (pv 0) Zg (fun _ _=>rfl));case g7=>refine' @Z1 _ _ _ _ _ _ _ Yp (pv 1) Zg (fun _ _=>rfl));case g5=>refine' @Za _ _ _ _ _ ?g8 Zb rfl;case g8=>refine' @Zm _ _ _ _ _ _ _ _ Zbn ?g9 ?ga;(case g9=>refine' @Z1 _ _ _ _ _ _ _ Yp (pv 0) Zg (fun _ _=>rfl));case ga=>refine' @Z1 _ _ _ _ _ _ _ Yp (pv 1) Zg (fun _ _=>rfl)
 refine ⟨_,rfl,p,_,0,_,rfl,rfl,SqT.of h1,rfl,_,rfl,r,_,1,_,rfl,rfl,SqT.of h2,rfl,_,_,rfl,rfl,cND hx hy,_,rfl,p,_,1,_,rfl,rfl,SqT.of h1,rfl,_,rfl,r,_,0,_,rfl,rfl,SqT.of h2,rfl,_,_,rfl,rfl,cDN hx hy,_,_,rfl,Int.mul_ne_zero (FM.den_ne x) (FM.num_ne hn),?_⟩;rw [FM.div_eq];exact q
abbrev Za5:Stmt:=top 51
theorem Zf0 (F:Fun K "_law_total" "_law_total" Za5 f fd) (Ci_:a31_ P w K mg base):FnOk P w K mg base CX0 42 f fd ["_law_some"] Zmi:=by
 have sc:FnScope ["_law_some","_law_found","_law_one"] ["_law_some"] (Zf Za5):=fsc (by decide +kernel);refine F.ok sc (fun vs H Q E h=>by obtain ⟨a,us,qs,c,A,rfl,_⟩:=h;rfl) fun cdv A outer s H vs Q E hr h=>?_;obtain ⟨a,us,qs,c,A',rfl,ha,al,hD,hc,c9,A9,h8,q⟩:=h;have nd:=sc.nd;refine' ⟨_,?term,?read⟩
 case term=>refine' @Zc _ _ _ _ _ ?g1 ?g2;(case g1=>refine' @Zv _ _ (1) _ _ _ _ nd rfl (Or.inl rfl) (Zu (Za Zg (Za Zg Zb rfl) rfl)) (by rfl) (by first|exact Or.inl rfl|exact Or.inr rfl|assumption));case g2=>refine' @Zc _ _ _ _ _ ?g3 (Zh (Zn (pv 1)));case g3=>refine' @Xi _ _ _ _ _ _ _ _ PassesOwn.never rfl (Yi (pv 0)) (Zi (i:=2) nd rfl (Or.inl rfl)) ?g4 (by intro _ ;rfl);case g4=>refine' @Zh _ _ _ ?g5;case g5=>refine' @Zv _ _ (1) _ _ _ _ nd rfl (Or.inl rfl) (Zj Ci_ hr (by decide) rfl (Za (pv 1) (Za (pv 2) Zb rfl) rfl)) (by rfl) (by first|exact Or.inl rfl|exact Or.inr rfl|assumption)
 have hl:=al.1;refine ⟨z2_,fun z nz=>?_⟩;have s1:Same H (upd H z (.tup [.int 0,.int 1])):=Same.new nz;have e1:upd H z (.tup [.int 0,.int 1]) z=some (.tup (rt 0)):=Ze;generalize upd H z (.tup [.int 0,.int 1])=H1 at s1 e1 ⊢;refine ⟨_,rfl,a,rfl,⟨_,SqL.of (s1 _ _ ha)⟩,?_⟩;refine Xr (n:=qs.length) (fun i σ H2=>Same H H2∧∃ v x,σ=[some (.ref a),some v,x]∧IsQh H2 v (qs.take i).sum) ⟨s1,_,_,rfl,z,rfl,e1⟩ (fun i σ H2 hi p=>⟨us,us[i]'(by omega),SqL.of (p.1 _ _ ha),n0_ (by omega)⟩) (fun σ H2 p=>⟨us,SqL.of (p.1 _ _ ha),by omega⟩) (fun i x σ H2 H3 hi y p=>?_) (fun σ H2 p=>?_)
 · obtain ⟨s2,v,x',rfl,p,rfl,hp⟩:=p;obtain ⟨rfl,y2⟩:=y;obtain ⟨g,eg,r,rfl,hr'⟩:=al.get (y2 us (SqL.of (s2 _ _ ha)));have hg:=hD g (n4_ eg);have ht:=Zmj (qs.take i) fun x hx=>hD x (n67_ hx);have hlen:(qs.take i).length*A'≤8*A':=n82_ _ (by rw [n96_];omega);refine ⟨_,rfl,_,rfl,p,r,_,g,rfl,hp,s2 _ _ hr',(ht.b hc c9 (by omega)).mono (by decide),(hg.b hc c9 (by omega)).mono (by decide),fun w H4 s4 hw=>?_⟩;refine ⟨s2.trans s4,_,_,rfl,w,rfl,?_⟩;rw [hw,List.take_succ,eg];show _=some (HO.tup (rt ((qs.take i)++[g]).sum))
   rw [Zpa]
 · obtain ⟨s2,v,x',rfl,hv⟩:=p;rw [n61_] at hv;exact ⟨_,rfl,q _ _ s2 hv⟩
abbrev Zcs:Stmt:=top 52
theorem Zis (F:Fun K "_law_dot" "_law_dot" Zcs f fd) (Cj_:a32_ P w K mg base) (Cai_:a33_ P w K mg base):FnOk P w K mg base CX0 43 f fd ["_law_row_here","_law_other"] Zjk:=by
 have sc:FnScope ["_law_row_here","_law_other"] ["_law_row_here","_law_other"] (Zf Zcs):=fsc (by decide +kernel);refine F.ok sc (fun vs H Q E h=>by obtain ⟨v,w,kx,ky,us,ws,xs,ys,a,b,A,B,rfl,_⟩:=h;rfl) fun cdv A outer s H vs Q E hr h=>?_;obtain ⟨v,w',kx,ky,us,ws,xs,ys,a,b,A',B,rfl,hv,al,hw,bl,hx,hy,a1,b1,c9,AB,A9,B9,x8,xy,q⟩:=h;refine' ⟨_,?term,?read⟩
 case term=>refine' @Zh _ _ _ ?g1;case g1=>refine' @Zn _ _ _ _ ?g2;case g2=>refine' @Zj _ _ _ _ _ _ _ _ _ _ _ Cai_ hr (by decide) rfl ?g3 (by decide) (by rfl) (by rfl);case g3=>refine' @Za _ _ _ _ _ ?g4 Zb rfl;case g4=>refine' @Xb _ _ _ _ _ _ _ (["_law_one","_law_its"]) ([none,none]) _ _ ((gTup K 2 (Yb (Z4 0) (Yb (Z4 1) gNil)))) _ _ rfl (Z9 (by decide) rfl (by decide) rfl rfl) (Zi1 rfl T.b_zip (Za (pv 0) (Za (pv 1) Zb rfl) rfl)) (fun _ _ _ _=>Zy (n:=2) rfl (Zd (pgB 0) (Zd (pgB 1) Zr))) (fun _ _ _ _=>Zs) (fun _ _ _ _=>Zj Cj_ hr (by decide) rfl (Za (pv 0) (Za (pv 1) Zb rfl) rfl)) (by intro _ ;rfl)
 have hl:=al.1;have hl':=bl.1;refine ⟨_,rfl,_,rfl,v,w',kx,ky,rfl,⟨_,hv.sq⟩,⟨_,hw.sq⟩,fun E nE=>?_⟩;have b9:b.natAbs<2^9000:=n12_ (by rw [n38_];exact Nat.le_mul_of_pos_left _ (by omega)) c9;have a9:a.natAbs<2^9000:=n12_ (by rw [n38_];exact Nat.le_mul_of_pos_right _ (by omega)) c9;refine Zat (n:=us.length) IsQh (fun H1 H2 v x k e r=>r.tk (Zb6 k e)) (fun i=>(List.zipWith (·*·) xs ys)[i]?) (by omega) (fun σ=>∃ a b,σ=[a,b]) ⟨_,_,rfl⟩ nE (fun i H3 s hi=>⟨us,ws,us[i],ws[i],(hv.same s).sq,(hw.same s).sq,n0_ hi,n0_ (by omega)⟩) (fun H3 s=>⟨us,ws,(hv.same s).sq,(hw.same s).sq,by omega⟩) (fun i x σ2 H3 H4 C N hi s3 eD y ok c n=>?_) (fun H3 es s3 e3 a3=>?_)
 · obtain ⟨u1,u2,rfl⟩:=ok;obtain ⟨p,vv,uu,rfl,np,rfl,y1,y2⟩:=y;have ev:=y1 us ((hv.same s3).sq);have eu:=y2 ws ((hw.same s3).sq);obtain ⟨x,ex,px,rfl,hpx⟩:=al.get ev;obtain ⟨y,ey,py,rfl,hpy⟩:=bl.get eu;have s4:Same H3 (upd H3 p (.tup [.ref px,.ref py])):=Same.new np;have S4:=s3.trans s4;refine ⟨p,_,rfl,SqT.of Ze,rfl,_,_,rfl,_,_,rfl,rfl,?_⟩;refine X6 ?_;exact ⟨_,rfl,_,rfl,px,py,x,y,rfl,S4 _ _ hpx,S4 _ _ hpy,((hx x (n4_ ex)).b a1 a9 A9).mono (by decide),((hy y (n4_ ey)).b b1 b9 B9).mono (by decide),fun z H5 s5 hz=>c _ _ _ _ ⟨_,_,rfl⟩ (s4.trans s5) (by rw [n18_,ex,ey]) ⟨z,rfl,hz⟩⟩
 · rw [Z5 _ _ (by rw [n22_];omega)] at a3;refine ⟨E,es,_,a*b,A'*B,rfl,e3,a3,fun z hz=>?_,?_,c9,AB,by rw [n22_];omega,fun H5 r s5 hr=>q _ _ (s3.trans s5) hr⟩
   · obtain ⟨i,hi⟩:=n45_.mp hz;rw [n18_] at hi;split at hi
     · rename_i x y ex ey
       cases hi
       exact (hx x (n4_ ex)).mul (hy y (n4_ ey))
     · cases hi
   · have:=Int.mul_pos (show 0<a by omega) (show 0<b by omega)
     omega
abbrev Xu:Stmt:=top 53
theorem Zdd (F:Fun K "_law_fraction" "_law_fraction" Xu f fd) (Ca_:a34_ P w K mg base) (Caq_:a35_ P w K mg base):FnOk P w K mg base CX0 2 f fd ["_law_state_here"] (Zh2 44):=by
 have sc:FnScope ["_law_state_here","_law_top","_law_way"] ["_law_state_here"] (Zf Xu):=fsc (by decide +kernel);refine F.ok sc (fun vs H Q E h=>by obtain ⟨l,rfl,_⟩:=h;rfl) fun cdv A outer s H vs Q E hr h=>?_;obtain ⟨l,rfl,hl,q⟩:=h;have nd:=sc.nd;refine' ⟨_,?term,?read⟩
 case term=>refine' @Zc _ _ _ _ _ ?g1 ?g2;(case g1=>refine' @Zv _ _ (1) _ _ _ _ nd rfl (Or.inl rfl) (Zm Zau (Zj Ca_ hr (by decide) rfl (Za (pv 0) (Za Zg Zb rfl) rfl)) Zg) (by rfl) (by first|exact Or.inl rfl|exact Or.inr rfl|assumption));case g2=>refine' @Zc _ _ _ _ _ ?g3 ?g4;(case g3=>refine' @Zv _ _ (2) _ _ _ _ nd rfl (Or.inl rfl) (Zj Ca_ hr (by decide) rfl (Za (pv 0) (Za Zg Zb rfl) rfl)) (by rfl) (by first|exact Or.inl rfl|exact Or.inr rfl|assumption));case g4=>refine' @Zc _ _ _ _ _ ?g5 ?g6;(case g5=>refine' @Yv _ _ _ _ _ _ _ _ (Zq Zhp (pv 2) Zg (Zw _)) ?g7 Z3;case g7=>refine' @Zh _ _ _ ?g8;case g8=>refine' @Zn _ _ _ _ ?g9;case g9=>refine' @Z1 _ _ _ _ _ _ _ Z2 ?ga (pv 2) (fun _ _=>rfl);case ga=>refine' @Y4 _ _ _ _ (Za (Zu (Za Zg (Za Zg Zb rfl) rfl)) (Za (Zu (Za Zg (Za Zg Zb rfl) rfl)) (Za (Zu (Za (pv 1) (Za Zg Zb rfl) rfl)) Zb rfl) rfl) rfl));case g6=>refine' @Zh _ _ _ ?gb;case gb=>refine' @Zn _ _ _ _ ?gc;case gc=>refine' @Zj _ _ _ _ _ _ _ _ _ _ _ Caq_ hr (by decide) rfl ?gd (by decide) (by rfl) (by rfl);case gd=>refine' @Za _ _ _ _ _ ?ge (Za (Zm Yx Zg (Zj Ca_ hr (by decide) rfl (Za (pv 0) (Za Zg Zb rfl) rfl))) Zb rfl) rfl;case ge=>refine' @Zm _ _ _ _ _ _ _ _ Zx (pv 1) ?gf;case gf=>refine' @Z1 _ _ _ _ _ _ _ Z2 ?gg (Yo Znu rfl T.b_int Zp2 (Za (Zc1 Zez (Zj Ca_ hr (by decide) rfl (Za (pv 0) (Za Zg Zb rfl) rfl)) Zg (Zw _)) Zb rfl)) (fun _ _=>rfl);case gg=>refine' @Y4 _ _ _ _ (Za Zg (Za (Zm Yx (Zm Zpy Zg Zg) Zg) Zb rfl) rfl)
 refine ⟨_,rfl,l,19,rfl,hl,by decide,Xo (by decide),fun r1 H1 a1 b1 k1 l1=>?_⟩;refine ⟨_,_,rfl,rfl,?_⟩;refine ⟨_,rfl,l,5,rfl,l1,by decide,Xo (by decide),fun r2 H2 a2 b2 k2 l2=>?_⟩;refine ⟨_,rfl,_,_,rfl,rfl,_,rfl,?_⟩;have k12:=k1.trans k2;refine ite2 (fun hlt=>?_) (fun hlt=>?_)
 · have hlt':r2<3:=n37_ hlt;refine ⟨z2_,?_⟩;intro p3 n3;generalize hH3:upd H2 p3 _=H3;have S3:Same H2 H3:=by (rw [← hH3];exact Same.new n3)
   have A3:=(congrFun hH3 p3).symm;rw [Ze] at A3;refine ⟨z2_,?_⟩;intro p4 n4;generalize hH4:upd H3 p4 _=H4;have S4:Same H3 H4:=by (rw [← hH4];exact Same.new n4)
   have A4:=(congrFun hH4 p4).symm;rw [Ze] at A4;refine ⟨_,rfl,z2_,?_⟩;intro p5 n5;generalize hH5:upd H4 p5 _=H5;have S5:Same H4 H5:=by (rw [← hH5];exact Same.new n5)
   have A5:=(congrFun hH5 p5).symm;rw [Ze] at A5;refine ⟨z3_,?_⟩;intro p6 n6;generalize hH6:upd H5 p6 _=H6;have S6:Same H5 H6:=by (rw [← hH6];exact Same.new n6)
   have A6:=(congrFun hH6 p6).symm;rw [Ze] at A6;refine ⟨_,rfl,?_⟩;have hk:Keep l H H6:=k12.trans (((S3.trans S4).trans (S5.trans S6)).keep);have l6:StAt H6 l:=l2.same ((S3.trans S4).trans (S5.trans S6));have B3:=S6 _ _ (S5 _ _ (S4 _ _ A3));have B4:=S6 _ _ (S5 _ _ A4);have B5:=S6 _ _ A5;have hr2:r2=0∨r2=1∨r2=2:=by omega
   have w1:=FM.whole (r1-9)
   rcases hr2 with rfl|rfl|rfl
   · exact ⟨p6,_,0,_,rfl,rfl,SqL.of A6,rfl,q _ p3 0 hk l6 B3 ⟨⟨by decide,by decide⟩,by decide⟩⟩
   · exact ⟨p6,_,1,_,rfl,rfl,SqL.of A6,rfl,q _ p4 1 hk l6 B4 ⟨⟨by decide,by decide⟩,by decide⟩⟩
   · refine ⟨p6,_,2,_,rfl,rfl,SqL.of A6,rfl,q _ p5 (Rat.divInt (r1-9) 1) hk l6 (by rw [rt,w1.1,w1.2];exact B5) ⟨⟨?_,?_⟩,Zqv _ (by decide) (by decide)⟩⟩
     · rw [w1.1];show _<17592186044416;omega
     · have:=w1.2;show _<17592186044416;omega
 · refine ⟨_,rfl,?_⟩;refine ⟨_,_,rfl,rfl,⟨by decide,by decide,by decide⟩,_,_,rfl,rfl,z2_,?_⟩;intro p3 n3;generalize hH3:upd H2 p3 _=H3;have S3:Same H2 H3:=by (rw [← hH3];exact Same.new n3)
   have A3:=(congrFun hH3 p3).symm;rw [Ze] at A3;refine ⟨_,rfl,l,9,rfl,l2.same S3,by decide,Xo (by decide),fun r4 H4 a4 b4 k4 l4=>?_⟩;refine ⟨rfl,.inr ⟨_,rfl,?_⟩⟩;have B3:=k4 _ _ (fun z=>l2.ne n3 z.symm) A3;have hk4:Keep l H H4:=k12.trans (S3.keep.trans k4)
   by_cases h0:V.int r4=V.int 0
   · rw [n32_ h0];refine ⟨p3,_,_,_,rfl,rfl,SqL.of B3,rfl,?_⟩;have hz:(10^Int.toNat 12+7:Int).natAbs≤1000000000007:=by decide
     refine ⟨_,_,rfl,rfl,mulS (by rw [p64];omega) (by decide),?_⟩;refine ⟨_,rfl,l,6,rfl,l4,by decide,Xo (by decide),fun r5 H5 a5 b5 k5 l5=>⟨_,_,rfl,rfl,_,_,rfl,by omega,Xo (by rw [p64];omega),fun p H6 s6 at6=>?_⟩⟩;refine q _ p _ (hk4.trans (k5.trans s6.keep)) (l5.same s6) at6 ⟨FM.B_divInt (by omega) ?_ ?_,Zqv _ (by omega) (by omega)⟩
     · rw [n38_];have h9:(r1-9).natAbs≤9:=by omega
       have:=Nat.mul_le_mul h9 hz
       show _<17592186044416
       omega
     · show _<17592186044416
       omega
   · rw [n30_ h0];refine ⟨p3,_,_,_,rfl,rfl,SqL.of B3,rfl,?_⟩;have hz:(1:Int).natAbs≤1000000000007:=by decide
     refine ⟨_,_,rfl,rfl,mulS (by rw [p64];omega) (by decide),?_⟩;refine ⟨_,rfl,l,6,rfl,l4,by decide,Xo (by decide),fun r5 H5 a5 b5 k5 l5=>⟨_,_,rfl,rfl,_,_,rfl,by omega,Xo (by rw [p64];omega),fun p H6 s6 at6=>?_⟩⟩;refine q _ p _ (hk4.trans (k5.trans s6.keep)) (l5.same s6) at6 ⟨FM.B_divInt (by omega) ?_ ?_,Zqv _ (by omega) (by omega)⟩
     · rw [n38_];have h9:(r1-9).natAbs≤9:=by omega
       have:=Nat.mul_le_mul h9 hz
       show _<17592186044416
       omega
     · show _<17592186044416
       omega
abbrev Zbf:Stmt:=top 54
theorem Zje (F:Fun K "_law_row" "_law_row" Zbf f fd) (Cc_:a36_ P w K mg base):FnOk P w K mg base CX0 3 f fd ["_law_state_here","_law_many"] Znt:=by
 have sc:FnScope ["_law_state_here","_law_many"] ["_law_state_here","_law_many"] (Zf Zbf):=fsc (by decide +kernel);refine F.ok sc (fun vs H Q E h=>by obtain ⟨l,n,rfl,_⟩:=h;rfl) fun cdv A outer s H vs Q E hr h=>?_;obtain ⟨l,n,rfl,hl,h1000,q⟩:=h;refine' ⟨_,?term,?read⟩
 case term=>refine' @Zh _ _ _ ?g1;case g1=>refine' @Zn _ _ _ _ ?g2;case g2=>refine' @Yo _ _ _ _ _ _ _ _ _ Yd rfl T.b_tuple Yr ?g3 (by decide) (by decide) (by rfl) (by rfl);case g3=>refine' @Za _ _ _ _ _ ?g4 Zb rfl;case g4=>refine' @Xb _ _ _ _ _ _ _ (["_law_turn","_law_state_here"]) ([none,some 0]) _ _ _ _ _ rfl (Z7 (XN:=["_law_state_here","_law_many"]) (Scope.names (Zf Zbf)) rfl rfl rfl (fun _ h=>Z0 h) (by decide +kernel) rfl) ?g5 (fun _ _ _ _=>pgB 0) (fun _ _ _ _=>Zs) (fun _ _ _ _=>Zj Cc_ hr (by decide) rfl (Za (pv 1) Zb rfl)) (by intro _ ;rfl);case g5=>refine' @Yz _ _ _ _ _ _ rfl T.b_range (Za (pv 1) Zb rfl) (by rfl)
 refine ⟨_,rfl,n,rfl,by omega,by omega,fun D nD=>?_⟩;refine Zjb (n:=n) (l:=l) (fun H v (x:Rat)=>IsQh H v x∧Dv 60 (2^50) x) (fun H1 H2 v x t r=>⟨r.1.tk t,r.2⟩) h1000 (fun σ=>∃ u,σ=[u,some (.ref l)]) ⟨_,rfl⟩ nD hl (fun i H2 k hi=>hi) (fun H2 k=>n9_ _) (fun i x σ2 H2 H3 C hi k2 l2 y o c=>?_) (fun H2 vs ys k2 l2 e2 hy a2=>?_)
 · obtain ⟨u,rfl⟩:=o;obtain ⟨rfl,rfl⟩:=y;exact ⟨_,rfl,l,rfl,l2,fun H5 p x k5 l5 hp hB=>c _ _ _ x ⟨_,rfl⟩ k5 l5 ⟨⟨p,rfl,hp⟩,Zo5 hB.1 hB.2⟩⟩
 · refine ⟨D,vs,rfl,.inl ⟨SqL.of e2,fun t nt=>?_⟩⟩;have s3:Same H2 (upd H2 t (.tup vs)):=Same.new nt;refine q _ _ ys (k2.trans s3.keep) (l2.same s3) ⟨t,vs,rfl,Ze,a2.imp fun v x r=>r.1.tk s3.tk⟩ hy (fun x hx=>?_);obtain ⟨i,hi,e⟩:=n55_ hx;obtain ⟨v,_,r⟩:=a2.got (show ys[i]? = some x by rw [n0_ hi,e]);exact r.2
abbrev Y5:Stmt:=top 55
theorem Zef (F:Fun K "_law_cleared" "_law_cleared" Y5 f fd) (Ci_:a31_ P w K mg base) (Car_:a37_ P w K mg base) (Cj_:a32_ P w K mg base) (Cas_:a38_ P w K mg base):FnOk P w K mg base CX0 42 f fd ["_law_table","_law_done","_law_at"] Zd1:=by
 have sc:FnScope ["_law_table","_law_done","_law_at","_law_lead","_law_own","_law_found","_law_k","_law_row_here","_law_by"] ["_law_table","_law_done","_law_at"] (Zf Y5):=fsc (by decide +kernel);refine F.ok sc (fun vs H Q E h=>by obtain ⟨N,a,us,T',dn,pl,S,w,rfl,_⟩:=h;rfl) fun cdv A outer s H vs Q E hr h=>?_;obtain ⟨N,a,us,T',dn,pl,S,w',rfl,hN,ha,al,hd,t7,hp,w6,TB,hS,hz,q⟩:=h;have nd:=sc.nd;have hu:=Zi3 hr;refine' ⟨_,?term,?read⟩
 case term=>refine' @Zc _ _ _ _ _ ?g1 ?g2;(case g1=>refine' @Zv _ _ (3) _ _ _ _ nd rfl (Or.inr rfl) ?g3 (by rfl) (by first|exact Or.inl rfl|exact Or.inr rfl|assumption);case g3=>refine' @Z1 _ _ _ _ _ _ _ Z2 ?g4 (pv 2) (fun _ _=>rfl);case g4=>refine' @Z1 _ _ _ _ _ _ _ Z2 (pv 0) (pv 1) (fun _ _=>rfl));case g2=>refine' @Zc _ _ _ _ _ ?g5 ?g6;(case g5=>refine' @X0 _ _ _ _ _ _ _ _ _ _ (["_law_one","_law_lead"]) ([none,some 3]) _ _ _ _ _ _ rfl rfl (Zi (i:=4) nd rfl (Or.inl rfl)) (Z7 (XN:=["_law_table","_law_done","_law_at","_law_lead","_law_own","_law_found","_law_k","_law_row_here","_law_by"]) (Scope.names (Zf Y5)) rfl rfl rfl (fun _ h=>Z0 h) (by decide +kernel) rfl) ?g7 (fun _ _ _ _=>pgB 0) (fun _ _ _ _=>Zs) (fun _ _ _ _=>Zj Car_ hr (by decide) rfl (Za (pv 0) (Za (pv 1) Zb rfl) rfl)) (by intro _ ;rfl);case g7=>refine' @Yi _ _ _ _ ?g8;case g8=>refine' @Z1 _ _ _ _ _ _ _ Z2 (pv 0) (pv 1) (fun _ _=>rfl));case g6=>refine' @Zc _ _ _ _ _ ?g9 ?ga;(case g9=>refine' @Zv _ _ (5) _ _ _ _ nd rfl (Or.inl rfl) ?gb (by rfl) (by first|exact Or.inl rfl|exact Or.inr rfl|assumption);case gb=>refine' @Y4 _ _ _ _ Zb);case ga=>refine' @Zc _ _ _ _ _ ?gc (Zh (Zn (pv 5)));case gc=>refine' @Xi _ _ _ _ _ _ _ _ PassesOwn.never rfl ?gd ?ge ?gf (by intro _ ;rfl);(case gd=>refine' @Ziy _ _ _ _ .l _ _ _ _ rfl T.b_enumerate (Za (pv 0) Zb rfl) (by rfl));(case ge=>refine' @Zy _ _ _ _ _ (2) rfl (Zd (Zi (i:=6) nd rfl (Or.inl rfl)) (Zd (Zi (i:=7) nd rfl (Or.inl rfl)) Zr)) (by rfl) (by rfl));case gf=>refine' @Zh _ _ _ ?gg;case gg=>refine' @Yv _ _ _ _ _ _ _ _ (Zq Zez (pv 6) (pv 1) (Zw _)) ?gh ?gi;(case gh=>refine' @Zh _ _ _ ?gj;case gj=>refine' @Xw _ _ _ _ ?gk (by rfl);case gk=>refine' @Zdz _ _ _ _ _ _ _ _ _ _ _ _ PySem.F.plainAttrs_list PySem.F.slot_list_append PySem.F.type_list_append Y0 (pv 5) (Za (pv 4) Zb rfl) (by rfl) (by rfl) (by rfl) (by rfl) (by rfl));case gi=>refine' @Zh _ _ _ ?gl;case gl=>refine' @Yv _ _ _ _ _ _ _ _ ?gm ?gn ?go;(case gm=>refine' @Zq _ _ _ _ _ _ _ _ (Zma hu) ?gp (Zu (Za Zg (Za Zg Zb rfl) rfl)) (Zw _);case gp=>refine' @Z1 _ _ _ _ _ _ _ Z2 (pv 7) (pv 2) (fun _ _=>rfl));(case gn=>refine' @Zh _ _ _ ?gq;case gq=>refine' @Xw _ _ _ _ ?gr (by rfl);case gr=>refine' @Zdz _ _ _ _ _ _ _ _ _ _ _ _ PySem.F.plainAttrs_list PySem.F.slot_list_append PySem.F.type_list_append Y0 (pv 5) (Za (pv 7) Zb rfl) (by rfl) (by rfl) (by rfl) (by rfl) (by rfl));case go=>refine' @Zc _ _ _ _ _ ?gs ?gt;(case gs=>refine' @Zv _ _ (8) _ _ _ _ nd rfl (Or.inr rfl) ?gu (by rfl) (by first|exact Or.inl rfl|exact Or.inr rfl|assumption);case gu=>refine' @Zj _ _ _ _ _ _ _ _ _ _ _ Cas_ hr (by decide) rfl ?gv (by decide) (by rfl) (by rfl);case gv=>refine' @Za _ _ _ _ _ ?gw Zb rfl;case gw=>refine' @Z1 _ _ _ _ _ _ _ Z2 (pv 7) (pv 2) (fun _ _=>rfl));case gt=>refine' @Zh _ _ _ ?gx;case gx=>refine' @Xw _ _ _ _ ?gy (by rfl);case gy=>refine' @Zdz _ _ _ _ _ _ _ _ _ _ _ _ PySem.F.plainAttrs_list PySem.F.slot_list_append PySem.F.type_list_append Y0 (pv 5) ?gz (by rfl) (by rfl) (by rfl) (by rfl) (by rfl);case gz=>refine' @Za _ _ _ _ _ ?g10 Zb rfl;case g10=>refine' @Xb _ _ _ _ _ _ _ (["_law_one","_law_its","_law_by"]) ([none,none,some 8]) _ _ ((gTup K 2 (Yb (Z4 0) (Yb (Z4 1) gNil)))) _ _ rfl (Z7 (XN:=["_law_table","_law_done","_law_at","_law_lead","_law_own","_law_found","_law_k","_law_row_here","_law_by"]) (Scope.names (Zf Y5)) rfl rfl rfl (fun _ h=>Z0 h) (by decide +kernel) rfl) ?g11 (fun _ _ _ _=>Zy (n:=2) rfl (Zd (pgB 0) (Zd (pgB 1) Zr))) (fun _ _ _ _=>Zs) (fun _ _ _ _=>Zj Ci_ hr (by decide) rfl (Za (pv 0) (Za (Zj Cj_ hr (by decide) rfl (Za (pv 2) (Za (pv 1) Zb rfl) rfl)) Zb rfl) rfl)) (by intro _ ;rfl);case g11=>refine' @Zia _ _ _ _ .l .l _ _ _ _ _ rfl T.b_zip (Za (pv 7) (Za (pv 4) Zb rfl) rfl) (by rfl) (by rfl)
 have lu:=al.1;obtain ⟨ld,bd⟩:=TB dn hd;have eT:=Zc5 hd;rw [eT] at ld bd;obtain ⟨vd,evd,rd,dus,rfl,_,hrd,ald⟩:=al.got (n0_ hd);have ldu:=ald.1;have hpl:pl<T'[dn].length:=by omega
 obtain ⟨vl,evl,pl0,rfl,hpl0⟩:=ald.got (n0_ hpl);have el:(rwT T' dn).getD pl 0=T'[dn][pl]:=by rw [eT,n1_,n0_ hpl];rfl
 have ho:owT T' dn pl=T'[dn].map fun x=>x/T'[dn][pl]:=by unfold owT;rw [el,eT]
 rw [el] at hz;have lo:(owT T' dn pl).length=w'+1:=by rw [ho,n2_];exact ld
 have bl:FM.B S T'[dn][pl]:=bd _ (n13_ _)
 have bo:∀ q∈owT T' dn pl,FM.B (S+S) q:=fun q hq=>by
  rw [ho] at hq;obtain ⟨x,hx,rfl⟩:=n19_.mp hq;exact FM.B_div hz (bd x hx) bl
 refine ⟨_,rfl,_,rfl,a,us,dn,.ref rd,rfl,rfl,SqL.of ha,Yh evd,_,rfl,rd,dus,pl,.ref pl0,rfl,rfl,SqL.of hrd,Yh evl,Xq (σ':=[some (.ref a),some (.int dn),some (.int pl),some (.ref pl0),none,none,none,none,none]) rfl ?_⟩;refine ⟨_,rfl,_,rfl,a,us,dn,.ref rd,rfl,rfl,SqL.of ha,Yh evd,rd,rfl,⟨_,SqL.of hrd⟩,fun O nO=>?_⟩;refine lc_T (k:=.l) (vs:=dus) IsQh (fun _ _ _ _ t r=>r.tk t) (owT T' dn pl) (by rw [lo];omega) (by omega) nO (show SK.l.At H rd dus from hrd) (fun j v H2 C hv s2 c=>?_) (fun H2 ous s2 e2 a2=>?_)
 · obtain ⟨x,ex,px,rfl,hx⟩:=ald.get hv;exact ⟨_,rfl,_,rfl,px,pl0,x,_,rfl,s2 _ _ hx,s2 _ _ hpl0,(bd x (n4_ ex)).mono (by omega),bl.mono (by omega),hz,fun z H3 s3 hz'=>c _ _ _ s3 (by rw [ho,n8_,ex];rfl) ⟨z,rfl,hz'⟩⟩
 refine gset (σ':=[some (.ref a),some (.int dn),some (.int pl),some (.ref pl0),some (.ref O),none,none,none,none]) rfl ?_;refine ⟨z0_,fun F nF=>?_⟩;generalize gG:upd H2 F (.lst [])=H3;obtain ⟨s3,e3⟩:=gen_upd gG nF;have s03:=s2.trans s3;have nF0:H F=none:=Zdh s2 nF;refine gset (σ':=[some (.ref a),some (.int dn),some (.int pl),some (.ref pl0),some (.ref O),some (.ref F),none,none,none]) rfl ?_;refine ⟨_,rfl,a,rfl,⟨_,SqL.of (s03 _ _ ha)⟩,?_⟩;have nOF:O≠F:=fun z=>by rw [z,nF] at e2;cases e2
 obtain ⟨f,hf⟩:∃ f:Nat→List Rat,f=fun k=>if k=dn then owT T' dn pl else clr1 (owT T' dn pl) pl (rwT T' k):=⟨_,rfl⟩
 refine Xr (n:=us.length) (fun i σ H4=>Keep F H3 H4∧(∃ y6 y7 y8,σ=[some (.ref a),some (.int dn),some (.int pl),some (.ref pl0),some (.ref O),some (.ref F),y6,y7,y8])∧∃ fs,H4 F=some (.lst fs)∧fs.length=i∧Al (IsRlN (fun c=>N c∨c=F) H4) fs ((List.range i).map f)) ⟨Keep.refl _ _,⟨_,_,_,rfl⟩,[],e3,rfl,.nil⟩ (fun i σ H4 hi p=>⟨us,us[i],SqL.of (p.1 _ _ (Zl ha nF0) (s03 _ _ ha)),n0_ hi⟩) (fun σ H4 p=>⟨us,SqL.of (p.1 _ _ (Zl ha nF0) (s03 _ _ ha)),rfl⟩) (fun i x σ H4 H4' hi y p=>?_) (fun σ H4 p=>?_)
 · obtain ⟨k4,⟨y6,y7,y8,rfl⟩,fs,eF,lF,aF⟩:=p;obtain ⟨g,x,rfl,ng,rfl,yx⟩:=y;have naF:a≠F:=Zl ha nF0;have ha4:=k4 _ _ naF (s03 _ _ ha);have ex:=yx us (SqL.of ha4);obtain ⟨row,er,ri,rus,rfl,nNr,hri,alr⟩:=al.get ex;have hik:i<T'.length:=by omega
   have et:rwT T' i=row:=by rw [Zc5 hik];rw [n0_ hik] at er;exact Option.some.inj er
   obtain ⟨lr,br⟩:=TB i hik;rw [et] at lr br;have lru:=alr.1;have nri:ri≠F:=Zl hri nF0;have t34:Tk H3 H4:=Tk.of_keep k4 e3;have t04:Tk H H4:=s03.tk.trans t34;generalize gG:upd H4 g (.tup [.int i,.ref ri])=H5;obtain ⟨s5,e5⟩:=gen_upd gG ng;have eF5:=s5 _ _ eF;have aF5:=aF.imp fun v r (h:IsRlN (fun c=>N c∨c=F) H4 v r)=>h.same s5;have hri5:=s5 _ _ (k4 _ _ nri (s03 _ _ hri));have alr5:=alr.imp fun v q (r:IsQh H v q)=>r.tk (t04.trans s5.tk);have hO5:=s5 _ _ (k4 _ _ nOF (s3 _ _ e2));have aO5:=a2.imp fun v q (r:IsQh H2 v q)=>r.tk ((s3.tk.trans t34).trans s5.tk);refine ⟨g,_,rfl,SqT.of e5,rfl,_,_,rfl,_,_,rfl,rfl,Xq (σ':=[some (.ref a),some (.int dn),some (.int pl),some (.ref pl0),some (.ref O),some (.ref F),some (.int (i:Nat)),some (.ref ri),y8]) rfl ?_⟩;have k5:Keep F H3 H5:=k4.trans s5.keep
   have done:∀ {H6:Hp} {v:V} {y:Option V},Same H5 H6→IsRlN (fun c=>N c∨c=F) H6 v (f i)→(Keep F H3 (upd H6 F (.lst (fs++[v])))∧(∃ y6 y7 y8,[some (.ref a),some (.int dn),some (.int pl),some (.ref pl0),some (.ref O),some (.ref F),some (.int (i:Nat)),some (.ref ri),y]=[some (.ref a),some (.int dn),some (.int pl),some (.ref pl0),some (.ref O),some (.ref F),y6,y7,y8])∧∃ fs',upd H6 F (.lst (fs++[v])) F=some (.lst fs')∧fs'.length=i+1∧Al (IsRlN (fun c=>N c∨c=F) (upd H6 F (.lst (fs++[v])))) fs' ((List.range (i+1)).map f)):=fun {H6 v y} s6 hv=>by
    have eF6:=s6 _ _ eF5;refine ⟨fun b o n e=>by rw [Zp n];exact s6 _ _ (k5 b o n e),⟨_,_,_,rfl⟩,_,Ze,by rw [n20_,lF];rfl,?_⟩;rw [n92_,n72_];exact (aF5.imp fun v r h=>(h.same s6).upd (.inr rfl) eF6).snoc (hv.upd (.inr rfl) eF6)
   have fi:f i=if i=dn then owT T' dn pl else clr1 (owT T' dn pl) pl row:=by rw [hf];show (if i=dn then _ else clr1 _ _ (rwT T' i))=_;rw [et]
   by_cases hid:i=dn
   · refine ⟨_,rfl,_,rfl,rfl,true,congrArg V.bl (by rw [decide_eq_true_eq,hid]),iteT ?_⟩;refine ⟨_,rfl,.inl ⟨rfl,_,SqL.of eF5⟩,_,rfl,F,fs,.ref O,rfl,rfl,eF5,by rw [sizeLine_eq];omega,?_⟩;exact done (Same.refl _) (by rw [fi,if_pos hid];exact ⟨O,ous,rfl,fun z=>z.elim (hN O nO) nOF,hO5,aO5⟩)
   · refine ⟨_,rfl,_,rfl,rfl,false,congrArg V.bl (n30_ fun z=>by injection z with z;omega),iteF ?_⟩;rw [if_neg hid] at fi;have hpr:pl<row.length:=by omega
     obtain ⟨vp,evp,pp,rfl,hpp⟩:=alr5.got (n0_ hpr);have gp:row.getD pl 0=row[pl]:=by rw [n1_,n0_ hpr];rfl
     refine ⟨_,rfl,_,rfl,ri,rus,pl,.ref pp,rfl,rfl,SqL.of hri5,Yh evp,z2_,fun z6 nz6=>?_⟩;have s6:Same H5 (upd H5 z6 (.tup [.int 0,.int 1])):=Same.new nz6;have e6:upd H5 z6 (.tup [.int 0,.int 1]) z6=some (.tup (rt 0)):=Ze;generalize upd H5 z6 (.tup [.int 0,.int 1])=H6 at s6 e6 ⊢
     by_cases h0:row[pl]=0
     · refine ⟨pp,z6,row[pl],0,rfl,rfl,s6 _ _ hpp,e6,true,congrArg V.bl (by rw [h0];decide),iteT ?_⟩;refine ⟨_,rfl,.inl ⟨rfl,_,SqL.of (s6 _ _ eF5)⟩,_,rfl,F,fs,.ref ri,rfl,rfl,s6 _ _ eF5,by rw [sizeLine_eq];omega,?_⟩;exact done s6 (by rw [fi,Znq (by omega) (by rw [gp];exact h0)];exact ⟨ri,rus,rfl,fun z=>z.elim nNr nri,s6 _ _ hri5,alr5.imp fun v q r=>r.tk s6.tk⟩)
     · refine ⟨pp,z6,row[pl],0,rfl,rfl,s6 _ _ hpp,e6,false,congrArg V.bl (by simp [h0]),iteF ?_⟩;refine ⟨_,rfl,_,rfl,ri,rus,pl,.ref pp,rfl,rfl,SqL.of (s6 _ _ hri5),Yh evp,pp,row[pl],rfl,s6 _ _ hpp,fun pn H7 s7 hpn=>?_⟩;have s57:=s6.trans s7;refine gset (σ':=[some (.ref a),some (.int dn),some (.int pl),some (.ref pl0),some (.ref O),some (.ref F),some (.int (i:Nat)),some (.ref ri),some (.ref pn)]) rfl ?_;refine ⟨_,rfl,.inl ⟨rfl,_,SqL.of (s57 _ _ eF5)⟩,_,rfl,_,rfl,ri,O,rfl,⟨_,SqL.of (s57 _ _ hri5)⟩,⟨_,SqL.of (s57 _ _ hO5)⟩,fun E nE=>?_⟩;have bn:FM.B S (-row[pl]):=FM.B_neg (br _ (n13_ _));refine lc_Z (k:=.l) (l:=.l) (vs:=rus) (ws:=ous) IsQh (fun _ _ _ _ t r=>r.tk t) (clr1 (owT T' dn pl) pl row) (by unfold clr1;rw [n22_];have:=a2.1;omega) (by omega) nE (show SK.l.At H7 ri rus from s57 _ _ hri5) (show SK.l.At H7 O ous from s57 _ _ hO5) (fun j v w H8 C hv hw s8 c8=>?_) (fun H8 us8 s8 e8 a8=>?_)
       · obtain ⟨x,ex',px,rfl,hx⟩:=alr5.get hv;obtain ⟨y,ey,py,rfl,hy⟩:=aO5.get hw;have bx:=br x (n4_ ex');have by':=bo y (n4_ ey)
         refine ⟨_,rfl,_,rfl,_,rfl,pn,py,-row[pl],y,rfl,s8 _ _ hpn,s8 _ _ (s57 _ _ hy),bn.mono (by omega),by'.mono (by omega),fun z9 H9 s9 h9=>?_⟩;exact ⟨px,z9,x,_,rfl,s9 _ _ (s8 _ _ (s57 _ _ hx)),h9,bx.mono (by omega),(FM.B_mul bn by').mono (by omega),fun z H10 s10 hz10=>c8 _ _ _ (s9.trans s10) (by unfold clr1;rw [n18_,ex',ey,gp]) ⟨z,rfl,hz10⟩⟩
       have s58:=s57.trans s8;have nEF:E≠F:=fun z=>by rw [z,s57 _ _ eF5] at nE;cases nE
       have nE0:H E=none:=by
        cases e:H E with
        | none=>rfl
        | some o=>rw [s57 _ _ (s5 _ _ (k4 _ _ nEF (s03 _ _ e)))] at nE;cases nE
       refine ⟨F,fs,.ref E,rfl,rfl,s58 _ _ eF5,by rw [sizeLine_eq];omega,?_⟩;exact done s58 (by rw [fi];exact ⟨E,us8,rfl,fun z=>z.elim (hN E nE0) nEF,e8,a8⟩)
 · obtain ⟨k4,⟨y6,y7,y8,rfl⟩,fs,eF,lF,aF⟩:=p;refine ⟨_,rfl,q H4 F fs (fun b o e=>k4 b o (Zl e nF0) (s03 _ _ e)) nF0 eF ?_⟩
   have:gcl T' dn pl=(List.range us.length).map f:=by unfold gcl;rw [lu,hf]
   rw [this];exact aF
abbrev Xh:Stmt:=top 56
theorem Zdx (F:Fun K "_law_reduced" "_law_reduced" Xh f fd) (Cz_:a39_ P w K mg base):FnOk P w K mg base CX0 43 f fd ["_law_lines","_law_rights_own"] Zdt:=by
 have sc:FnScope ["_law_lines","_law_rights_own","_law_table","_law_spots","_law_wide","_law_at","_law_done","_law_some"] ["_law_lines","_law_rights_own"] (Zf Xh):=fsc (by decide +kernel);refine F.ok sc (fun vs H Q E h=>by obtain ⟨v,u,ms,qs,rfl,_⟩:=h;rfl) fun cdv A outer s H vs Q E hr h=>?_;obtain ⟨v,u,ms,qs,rfl,h1,h2,R,q⟩:=h;have nd:=sc.nd;have hu:=Zi3 hr;refine' ⟨_,?term,?read⟩
 case term=>refine' @Zc _ _ _ _ _ ?g1 ?g2;(case g1=>refine' @Yn _ _ _ _ _ _ ?g3 ?g4 (by rfl) (by rfl) (by rfl);(case g3=>refine' @Zu _ _ _ _ _ ?g5;case g5=>refine' @Za _ _ _ _ _ ?g6 ?g7 rfl;(case g6=>refine' @Xb _ _ _ _ _ _ _ (["_law_row_here","_law_right_here"]) ([none,none]) _ _ ((gTup K 2 (Yb (Z4 0) (Yb (Z4 1) gNil)))) _ _ rfl (Z9 (by decide) rfl (by decide) rfl rfl) ?g8 (fun _ _ _ _=>Zy (n:=2) rfl (Zd (pgB 0) (Zd (pgB 1) Zr))) (fun _ _ _ _=>Zs) (fun _ _ _ _=>Zm Zh6 (Yo (Zin K rfl) rfl T.b_list Zmo (Za (pv 0) Zb rfl)) (Y4 (Za (pv 1) Zb rfl))) (by intro _ ;rfl);case g8=>refine' @Zia _ _ _ _ .t .t _ _ _ _ _ rfl T.b_zip (Za (pv 0) (Za (pv 1) Zb rfl) rfl) (by rfl) (by rfl));case g7=>refine' @Za _ _ _ _ _ ?g9 Zb rfl;case g9=>refine' @Y4 _ _ _ _ Zb);case g4=>refine' @Zy _ _ _ _ _ (2) rfl (Zd (Zi (i:=2) nd rfl (Or.inr rfl)) (Zd (Zi (i:=3) nd rfl (Or.inl rfl)) Zr)) (by rfl) (by rfl));case g2=>refine' @Zc _ _ _ _ _ ?ga ?gb;(case ga=>refine' @Zv _ _ (4) _ _ _ _ nd rfl (Or.inl rfl) ?gc (by rfl) (by first|exact Or.inl rfl|exact Or.inr rfl|assumption);case gc=>refine' @Zao _ _ _ _ _ _ _ _ (Zq Zdi (Zk Zt rfl T.b_len Y6 (Za (pv 0) Zb rfl)) Zg (Zw _)) ?gd Zg;case gd=>refine' @Zk _ _ _ _ _ _ _ _ _ Zt rfl T.b_len Y6 ?ge (by decide) (by decide) (by rfl) (by rfl);case ge=>refine' @Za _ _ _ _ _ ?gf Zb rfl;case gf=>refine' @Z1 _ _ _ _ _ _ _ Yp (pv 0) Zg (fun _ _=>rfl));case gb=>refine' @Zc _ _ _ _ _ ?gg (Zh (Zn (Zu (Za (pv 2) (Za (pv 3) (Za (pv 4) Zb rfl) rfl) rfl))));case gg=>refine' @Xi _ _ _ _ _ _ _ _ PassesOwn.never rfl ?gh (Zi (i:=5) nd rfl (Or.inr rfl)) ?gi (by intro _ ;rfl);(case gh=>refine' @Yz _ _ _ _ _ _ rfl T.b_range (Za (pv 4) Zb rfl) (by rfl));case gi=>refine' @Zc _ _ _ _ _ ?gj ?gk;(case gj=>refine' @Zv _ _ (6) _ _ _ _ nd rfl (Or.inl rfl) (Zk Zt rfl T.b_len Y6 (Za (pv 3) Zb rfl)) (by rfl) (by first|exact Or.inl rfl|exact Or.inr rfl|assumption));case gk=>refine' @Zc _ _ _ _ _ ?gl ?gm;(case gl=>refine' @X0 _ _ _ _ _ _ _ _ _ _ (["_law_k","_law_table","_law_at"]) ([none,some 2,some 5]) _ _ _ _ _ _ rfl rfl (Zi (i:=7) nd rfl (Or.inl rfl)) (Z7 (XN:=["_law_lines","_law_rights_own","_law_table","_law_spots","_law_wide","_law_at","_law_done","_law_some"]) (Scope.names (Zf Xh)) rfl rfl rfl (fun _ h=>Z0 h) (by decide +kernel) rfl) ?gn (fun _ _ _ _=>pgB 0) (fun _ _ _ _=>Za7 (Zq (Znb hu) (Z1 (Zaa K rfl) (Z1 (Zaa K rfl) (pv 1) (pv 0) (fun _ _=>rfl)) (pv 2) (fun _ _=>rfl)) (Zu (Za Zg (Za Zg Zb rfl) rfl)) (Zw _))) (fun _ _ _ _=>pv 0) (by intro _ ;rfl);case gn=>refine' @Zn0 _ _ _ _ _ _ _ rfl T.b_range (Za (pv 6) (Za (Zk Zt rfl T.b_len Y6 (Za (pv 2) Zb rfl)) Zb rfl) rfl) (by rfl) (by rfl));case gm=>refine' @Zh _ _ _ ?go;case go=>refine' @Yv _ _ _ _ _ _ _ _ ?gp ?gq Z3;(case gp=>refine' @Zq _ _ _ _ _ _ _ _ (Zjq (Nat.lt_of_succ_lt hu)) (pv 7) ?gr (Zw _);case gr=>refine' @Y4 _ _ _ _ Zb);case gq=>refine' @Zc _ _ _ _ _ ?gs ?gt;(case gs=>refine' @Yn _ _ _ _ _ _ ?gu ?gv (by rfl) (by rfl) (by rfl);(case gu=>refine' @Zu _ _ _ _ _ ?gw;case gw=>refine' @Za _ _ _ _ _ ?gx ?gy rfl;(case gx=>refine' @Z1 _ _ _ _ _ _ _ Z2 (pv 2) ?gz (fun _ _=>rfl);case gz=>refine' @Z1 _ _ _ _ _ _ _ Z2 (pv 7) Zg (fun _ _=>rfl));case gy=>refine' @Za _ _ _ _ _ ?g10 Zb rfl;case g10=>refine' @Z1 _ _ _ _ _ _ _ Z2 (pv 2) (pv 6) (fun _ _=>rfl));case gv=>refine' @Zy _ _ _ _ _ (2) rfl ?g11 (by rfl) (by rfl);case g11=>refine' @Zd _ _ _ _ _ ?g12 ?g13 (by rfl);(case g12=>refine' @Zda _ _ _ _ _ _ _ (pv 2) (pv 6) X7 (by intro _ ;rfl));case g13=>refine' @Zd _ _ _ _ _ ?g14 Zr (by rfl);case g14=>refine' @Zda _ _ _ _ _ _ _ (pv 2) ?g15 X7 (by intro _ ;rfl);case g15=>refine' @Z1 _ _ _ _ _ _ _ Z2 (pv 7) Zg (fun _ _=>rfl));case gt=>refine' @Zc _ _ _ _ _ ?g16 ?g17;(case g16=>refine' @Zv _ _ (2) _ _ _ _ nd rfl (Or.inr rfl) (Zj Cz_ hr (by decide) rfl (Za (pv 2) (Za (pv 6) (Za (pv 5) Zb rfl) rfl) rfl)) (by rfl) (by first|exact Or.inl rfl|exact Or.inr rfl|assumption));case g17=>refine' @Zh _ _ _ ?g18;case g18=>refine' @Xw _ _ _ _ ?g19 (by rfl);case g19=>refine' @Zdz _ _ _ _ _ _ _ _ _ _ _ _ PySem.F.plainAttrs_list PySem.F.slot_list_append PySem.F.type_list_append Y0 (pv 3) (Za (pv 5) Zb rfl) (by rfl) (by rfl) (by rfl) (by rfl) (by rfl)
 obtain ⟨pr,us,rfl,hpr,al⟩:=id h1;obtain ⟨pu,gs,rfl,hpu,alg⟩:=id h2;have lu:=al.1;have lg:=alg.1;have rl:=R.rl;have m7:=R.m7;have w6:=R.w6;have wd:=R.wd;have lT:(tab ms qs).length=ms.length:=Zel rl
 have hT:∀ k,k<(tab ms qs).length→(rwT (tab ms qs) k).length=wid ms+1:=fun k hk=>by
  rw [lT] at hk;rw [Zcg rl hk,n20_,wd _ (n13_ hk)];rfl
 have BT:TbB 411 (wid ms) (tab ms qs):=fun k hk=>⟨hT k hk,fun q hq=>by
  rw [lT] at hk;rw [Zcg rl hk] at hq
  rcases n46_.mp hq with hq|hq
  · exact (R.rb _ (n13_ hk) q hq).b
  · rw [n15_.mp hq];exact (R.gb _ (n13_ _)).b⟩
 refine ⟨_,rfl,_,rfl,pr,pu,rfl,⟨_,SqT.of hpr⟩,⟨_,SqT.of hpu⟩,fun A nA=>?_⟩;refine Zat (n:=us.length) (fun H v row=>IsRlN (· = A) H v row) (fun H1 H2 v x k e ⟨b,bs,e1,n,h3,h4⟩=>⟨b,bs,e1,n,k _ _ n h3,h4.imp fun _ _ r=>r.tk (Zb6 k e)⟩) (fun i=>(tab ms qs)[i]?) (by omega) (fun σ=>∃ a b,σ=[a,b]) ⟨_,_,rfl⟩ nA (fun i H3 s hi=>⟨us,gs,us[i],gs[i],SqT.of (s _ _ hpr),SqT.of (s _ _ hpu),n0_ hi,n0_ (by omega)⟩) (fun H3 s=>⟨us,gs,SqT.of (s _ _ hpr),SqT.of (s _ _ hpu),by omega⟩) (fun i x σ2 H3 H4 C N hi s3 eD y ok c n=>?_) (fun H2 tus s2 e2 a2=>?_)
 · obtain ⟨u1,u2,rfl⟩:=ok;obtain ⟨p,vv,uu,rfl,np,rfl,y1,y2⟩:=y;obtain ⟨row,er,pm,mu,rfl,hpm,alm⟩:=al.get (y1 us (SqT.of (s3 _ _ hpr)));obtain ⟨g,eg,pg,rfl,hpg⟩:=alg.get (y2 gs (SqT.of (s3 _ _ hpu)));obtain ⟨wsA,eA⟩:=eD;generalize gG:upd H3 p (.tup [.ref pm,.ref pg])=H5;obtain ⟨s4,h4⟩:=gen_upd gG np;refine ⟨p,_,rfl,SqT.of h4,rfl,_,_,rfl,_,_,rfl,rfl,?_⟩;refine X6 ?_;refine ⟨_,rfl,pm,mu,rfl,.inr (SqT.of (s4 _ _ (s3 _ _ hpm))),fun l1 n1 _=>?_⟩;generalize gG:upd H5 l1 (.lst mu)=H6;obtain ⟨s5,h5⟩:=gen_upd gG n1;refine ⟨_,rfl,z1_,fun l2 n2=>?_⟩;generalize gG:upd H6 l2 (.lst [.ref pg])=H7;obtain ⟨s6,h6⟩:=gen_upd gG n2;have lmu:mu.length=wid ms:=by rw [alm.1];exact wd row (n4_ er)
   refine ⟨l1,l2,mu,[.ref pg],rfl,rfl,s6 _ _ h5,h6,by simp only [n33_,n73_,sizeLine_eq];omega,fun l3 n3=>?_⟩;have s7:=Same.new (o:=.lst (mu++[.ref pg])) n3;have s37:=((s4.trans s5).trans s6).trans s7;have t07:=s3.tk.trans s37.tk;exact c _ _ _ (row++[g]) ⟨_,_,rfl⟩ s37 (by unfold tab;rw [n18_,er,eg]) ⟨l3,_,rfl,(fun z=>by rw [show l3=A from z,s6 _ _ (s5 _ _ (s4 _ _ eA))] at n3;cases n3),Ze,(alm.imp fun v q r=>r.tk t07).snoc ⟨pg,rfl,t07 _ _ hpg⟩⟩
 rw [Z5 _ _ (by rw [lT];exact lu)] at a2;refine ⟨z0_,fun sp nsp=>?_⟩;generalize gG:upd H2 sp (.lst [])=H3;obtain ⟨s3,e3⟩:=gen_upd gG nsp;have s03:=s2.trans s3;have nsp0:H sp=none:=Zdh s2 nsp;have nAs:A≠sp:=Zl e2 nsp;refine ⟨z2_,fun p3 np3=>?_⟩;generalize gG:upd H3 p3 (.tup [.ref A,.ref sp])=H4;obtain ⟨s4,e4⟩:=gen_upd gG np3;have s04:=s03.trans s4;refine ⟨p3,_,rfl,SqT.of e4,rfl,_,_,rfl,_,_,rfl,rfl,Xq (σ':=[some (.ref pr),some (.ref pu),some (.ref A),some (.ref sp),none,none,none,none]) rfl ?_⟩
 have a4:Al (IsRlN (fun b=>b=A∨b=sp) H4) tus (tab ms qs):=a2.imp fun v r h=>by
  obtain ⟨b,bs,e1,n,h3,h4⟩:=h;exact ⟨b,bs,e1,(fun z=>Or.elim z n fun z=>by rw [z,nsp] at h3;cases h3),(s3.trans s4) _ _ h3,h4.imp fun _ _ r=>r.tk (s3.trans s4).tk⟩
 refine ⟨_,rfl,pr,us,rfl,.inr (SqT.of (s04 _ _ hpr)),_,_,rfl,rfl,_,rfl,Zsd (v:=V.int (wid ms)) ?_ (fun hb r=>?_) (fun hb r=>?_)⟩
 rotate_left
 · have pos:0<us.length:=by have:=n37_ hb;omega
   obtain ⟨v0,ev0,p0,ps0,rfl,hp0,al0⟩:=al.got (n0_ (show 0<ms.length by omega));have lp0:ps0.length=wid ms:=by rw [al0.1];exact wd _ (n13_ _)
   exact ⟨_,rfl,pr,us,0,.ref p0,rfl,rfl,SqT.of (s04 _ _ hpr),Yh ev0,p0,ps0,rfl,.inr (SqT.of (s04 _ _ hp0)),by rw [lp0];exact r⟩
 · have m0:ms=[]:=n86_.mp (by have:=of_decide_eq_false (Bool.eq_false_iff.mpr hb);omega);have w0:wid ms=0:=by rw [m0];rfl
   rw [w0] at r;exact r
 refine gset (σ':=[some (.ref pr),some (.ref pu),some (.ref A),some (.ref sp),some (.int (wid ms)),none,none,none]) rfl ?_;have nA0:=nA;refine ⟨_,rfl,(wid ms:Int),rfl,by omega,by omega,?_⟩;refine Zae (fun i σ H5=>∃ tb x5 x6 x7 tus,σ=[some (.ref pr),some (.ref pu),some (.ref tb),some (.ref sp),some (.int (wid ms)),x5,x6,x7]∧Same H H5∧H tb=none∧tb≠sp∧H5 tb=some (.lst tus)∧Al (IsRlN (fun b=>b=tb∨b=sp) H5) tus (gj (tab ms qs) i).1∧H5 sp=some (.lst ((gj (tab ms qs) i).2.map fun n:Nat=>V.int n))) ⟨A,_,_,_,tus,rfl,s04,nA0,nAs,(s3.trans s4) _ _ e2,a4,s4 _ _ e3⟩ ?_ ?_
 rotate_left
 · rintro σ H5 ⟨tb,x5,x6,x7,tus,rfl,s5,ntb,nts,htb,aT,hsp⟩
   rw [n58_] at aT hsp;refine ⟨_,rfl,_,rfl,_,rfl,z3_,fun p6 np6=>?_⟩;have s6:Same H5 (upd H5 p6 (.tup [.ref tb,.ref sp,.int (wid ms)])):=Same.new np6;exact q _ p6 tb sp tus (s5.trans s6) Ze (s6 _ _ htb) (aT.imp fun v r h=>(h.same s6).rl) (s6 _ _ hsp)
 rintro i σ H5 hi ⟨tb,x5,x6,x7,tus,rfl,s5,ntb,nts,htb,aT,hsp⟩
 have hi':i<wid ms:=by omega
 have J:=Zoq hT i (by omega);have GB:=gj_B BT i (by omega);have SBl:=Zto (show i≤6 by omega);have gs1:gj (tab ms qs) (i+1)=gj1 (gj (tab ms qs) i) i:=Zi0;rw [gs1];generalize gj (tab ms qs) i=G at *;have e0:(0:Int)+(i:Int)=((i:Nat):Int):=by omega
 refine gset (σ':=[some (.ref pr),some (.ref pu),some (.ref tb),some (.ref sp),some (.int (wid ms)),some (.int (i:Nat)),x6,x7]) (by rw [e0];rfl) ?_;have Jls:=J.ls;have lG:G.1.length=ms.length:=by rw [J.len,lT]
 have ltu:tus.length=G.1.length:=aT.1
 have gj1e:gj1 G i=match Zgx G.1 G.2.length i with
  | none=>G
  | some k=>(gcl (swp G.1 G.2.length k) G.2.length i,G.2++[i]):=rfl
 generalize hdn:G.2.length=dn at *;refine ⟨_,rfl,sp,_,rfl,.inl (SqL.of hsp),gset (σ':=[some (.ref pr),some (.ref pu),some (.ref tb),some (.ref sp),some (.int (wid ms)),some (.int (i:Nat)),some (.int (dn:Nat)),x7]) (by rw [n2_,hdn];rfl) ?_⟩;refine ⟨_,rfl,_,rfl,tb,tus,rfl,.inl (SqL.of htb),(dn:Int),(tus.length:Int),rfl,⟨by omega,by omega,by omega,by omega⟩,fun F nF=>?_⟩;refine Zat (n:=G.1.length-dn) (fun _ v (x:Nat)=>v=V.int x) (fun _ _ _ _ _ _ e=>e) (fun j=>if (rwT G.1 (dn+j)).getD i 0=0 then none else some (dn+j)) (by omega) (fun σ=>∃ x,σ=[x,some (.ref tb),some (.int (i:Nat))]) ⟨_,rfl⟩ nF (fun j H6 s hj=>by show j<((tus.length:Int)-dn).toNat;omega) (fun H6 s=>by show ((tus.length:Int)-dn).toNat≤_;omega) (fun j x σ2 H6' H6 C N hj s6 eD y ok c n=>?_) (fun H6 fus s6 e6 a6=>?_)
 · obtain ⟨u1,rfl⟩:=ok;obtain ⟨rfl,rfl⟩:=y;unfold Z4;have hk:dn+j<G.1.length:=by omega
   obtain ⟨lr,br⟩:=GB (dn+j) hk;obtain ⟨vr,evr,rk,rus,rfl,nr,hrk,alr⟩:=aT.got (n0_ hk);rw [Zc5 hk] at lr;have hil:i<G.1[dn+j].length:=by omega
   obtain ⟨ve,eve,pe,rfl,hpe⟩:=alr.got (n0_ hil);have gv:(rwT G.1 (dn+j)).getD i 0=G.1[dn+j][i]:=by rw [Zc5 hk,n1_,n0_ hil];rfl
   refine ⟨_,rfl,_,rfl,tb,tus,((dn+j:Nat):Int),.ref rk,rfl,rfl,SqL.of (s6 _ _ htb),Yh evr,_,rfl,rk,rus,i,.ref pe,rfl,rfl,SqL.of (s6 _ _ hrk),Yh eve,z2_,fun z nz=>?_⟩;have s7:Same H6 (upd H6 z (.tup [.int 0,.int 1])):=Same.new nz;have h7:upd H6 z (.tup [.int 0,.int 1]) z=some (.tup (rt 0)):=Ze;generalize upd H6 z (.tup [.int 0,.int 1])=H7 at s7 h7 ⊢
   by_cases h0:G.1[dn+j][i]=0
   · exact ⟨pe,z,G.1[dn+j][i],0,rfl,rfl,s7 _ _ (s6 _ _ hpe),h7,false,congrArg V.bl (by rw [h0];decide),iteF (n _ _ ⟨_,rfl⟩ s7 (by rw [gv,if_pos h0]))⟩
   · exact ⟨pe,z,G.1[dn+j][i],0,rfl,rfl,s7 _ _ (s6 _ _ hpe),h7,true,congrArg V.bl (by simp [h0]),iteT ⟨_,rfl,c _ _ _ (dn+j) ⟨_,rfl⟩ s7 (by rw [gv,if_neg h0]) rfl⟩⟩
 have u6:=Zsf a6;have eS:fus=(Zkd G.1 dn i).map fun n:Nat=>V.int n:=u6;clear u6;have s56:=s5.trans s6;have htb6:=s6 _ _ htb;have hsp6:=s6 _ _ hsp;have aT6:=aT.imp fun v r (h:IsRlN (fun b=>b=tb∨b=sp) H5 v r)=>h.same s6;refine gset (σ':=[some (.ref pr),some (.ref pu),some (.ref tb),some (.ref sp),some (.int (wid ms)),some (.int (i:Nat)),some (.int (dn:Nat)),some (.ref F)]) rfl ?_;refine ⟨_,rfl,z0_,fun E nE=>?_⟩;generalize gG:upd H6 E (.lst [])=H7;obtain ⟨s7,h7⟩:=gen_upd gG nE;have s57:=s56.trans s7;refine ⟨F,E,fus,rfl,rfl,SqL.of (s7 _ _ e6),SqL.of h7,_,rfl,?_⟩;cases ef:Zgx G.1 dn i with
 | none =>
   have fe:fus=[]:=by rw [eS,List.head?_eq_none_iff.mp ef];rfl
   rw [n32_ fe];refine iteF ?_;rw [ef] at gj1e;exact ⟨tb,_,_,_,tus,rfl,s57,ntb,nts,s7 _ _ htb6,by rw [gj1e];exact aT6.imp fun v r h=>h.same s7,by rw [gj1e];exact s7 _ _ hsp6⟩
 | some k =>
   obtain ⟨hdk,hk,hz⟩:=Zcv ef;rw [ef] at gj1e;have hd:dn<G.1.length:=by omega
   obtain ⟨rest,fe⟩:∃ rest,fus=V.int (k:Nat) :: rest:=by
    obtain ⟨r,er⟩:=List.head?_eq_some_iff.mp ef;exact ⟨_,by rw [eS,er];rfl⟩
   rw [n30_ (show ¬ fus=[] by rw [fe];simp)];refine iteT ?_;have e60:atI fus 0=some (V.int (k:Nat)):=by rw [fe];exact Yh (j:=0) rfl
   have hF7:=s7 _ _ e6;have htb7:=s7 _ _ htb6;have ek:=n0_ (show k<tus.length by omega);have ed:=n0_ (show dn<tus.length by omega);refine ⟨_,rfl,_,rfl,F,fus,0,.int (k:Nat),rfl,rfl,SqL.of hF7,e60,tb,tus,(k:Nat),tus[k],rfl,rfl,SqL.of htb7,Yh ek,_,rfl,_,rfl,tb,tus,(dn:Nat),tus[dn],rfl,rfl,SqL.of htb7,Yh ed,z2_,fun p8 np8=>?_⟩;generalize gG:upd H7 p8 (.tup [tus[k],tus[dn]])=H8;obtain ⟨s8,h8⟩:=gen_upd gG np8;have s58:=s57.trans s8;have htb8:=s8 _ _ htb7;have hF8:=s8 _ _ hF7;have nFt:F≠tb:=fun z=>by rw [z,htb] at nF;cases nF
   have hsp8:=s8 _ _ (s7 _ _ hsp6);have aT8:=aT6.imp fun v r (h:IsRlN (fun b=>b=tb∨b=sp) H6 v r)=>(h.same s7).same s8;have hF9:upd H8 tb (.lst (tus.set dn tus[k])) F=some (.lst fus):=by rw [Zp nFt];exact hF8
   refine ⟨p8,_,rfl,SqT.of h8,rfl,_,_,rfl,_,rfl,_,rfl,tb,tus,(dn:Int),dn,rfl,rfl,htb8,Zjw (by omega) (by omega),_,_,rfl,_,rfl,_,rfl,F,fus,0,.int (k:Nat),rfl,rfl,SqL.of hF9,e60,tb,tus.set dn tus[k],(k:Int),k,rfl,rfl,Ze,Zjw (by omega) (by rw [n47_];omega),rfl,?_⟩;rw [Zqi];have tkU:∀ {ys:List V},Tk H8 (upd H8 tb (.lst ys)):=fun {ys}=>Tk.upd_lst htb8
   have aU:Al (IsRlN (fun b=>b=tb∨b=sp) (upd H8 tb (.lst ((tus.set dn tus[k]).set k tus[dn])))) ((tus.set dn tus[k]).set k tus[dn]) (swp G.1 dn k):=by
    have a9:=aT8.imp fun v r h=>IsRlN.upd (ys:=(tus.set dn tus[k]).set k tus[dn]) (.inl rfl) htb8 h;obtain ⟨w1,e1,r1⟩:=a9.got (n0_ hk);obtain ⟨w2,e2,r2⟩:=a9.got (n0_ hd);rw [ek] at e1;cases e1;rw [ed] at e2;cases e2;unfold swp;rw [Zc5 hk,Zc5 hd];exact Zge (Zge a9 r1) r2
   have KU:Same H (upd H8 tb (.lst ((tus.set dn tus[k]).set k tus[dn]))):=fun b o e=>by rw [Zp (Zl e ntb)];exact s58 _ _ e
   have hspU:upd H8 tb (.lst ((tus.set dn tus[k]).set k tus[dn])) sp=some (.lst (G.2.map fun n:Nat=>V.int n)):=by rw [Zp (Ne.symm nts)];exact hsp8
   have htbU:upd H8 tb (.lst ((tus.set dn tus[k]).set k tus[dn])) tb=some (.lst ((tus.set dn tus[k]).set k tus[dn])):=Ze;generalize upd H8 tb (.lst ((tus.set dn tus[k]).set k tus[dn]))=H9 at aU KU hspU htbU ⊢
   have lz:(rwT (swp G.1 dn k) dn).getD i 0≠0:=by
    rw [Zav hd hk];split
    · rename_i z;rw [← z];exact hz
    · rw [if_pos rfl];exact hz
   refine ⟨_,rfl,_,rfl,_,rfl,(fun b=>b=tb∨b=sp),tb,_,swp G.1 dn k,dn,i,sB i,wid ms,rfl,(fun b hb z=>?_),htbU,aU,by rw [Za4];exact hd,by rw [Za4];omega,by omega,by omega,Zsu hd hk GB,by show _≤50000000;omega,lz,fun H10 nb us10 s10 nnb hnb a10=>?_⟩
   · rcases z with rfl|rfl
     · rw [htbU] at hb;cases hb
     · rw [hspU] at hb;cases hb
   refine gset (σ':=[some (.ref pr),some (.ref pu),some (.ref nb),some (.ref sp),some (.int (wid ms)),some (.int (i:Nat)),some (.int (dn:Nat)),some (.ref F)]) rfl ?_;have hsp10:=s10 _ _ hspU;have nnb0:H nb=none:=Zdh KU nnb;have nbs:nb≠sp:=fun z=>by rw [z,hspU] at nnb;cases nnb
   refine ⟨_,rfl,.inl ⟨rfl,_,SqL.of hsp10⟩,_,rfl,sp,_,.int (i:Nat),rfl,rfl,hsp10,by rw [sizeLine_eq,n2_];omega,?_⟩;refine ⟨nb,_,_,_,us10,rfl,fun b o e=>by rw [Zp (Zl e nsp0)];exact s10 _ _ (KU _ _ e),nnb0,nbs,by rw [Zp nbs];exact hnb,?_,?_⟩
   · rw [gj1e];exact a10.imp fun v r h=>(h.to (N':=fun b=>b=nb∨b=sp) fun b z=>z.elim .inr fun z=>.inl (.inr z)).upd (.inr rfl) hsp10
   · rw [gj1e,Ze,n72_];rfl
abbrev Xg:Stmt:=top 57
theorem Zeq (F:Fun K "_law_solved" "_law_solved" Xg f fd) (Caa_:a40_ P w K mg base):FnOk P w K mg base CX0 44 f fd ["_law_lines","_law_rights_own"] Zfi:=by
 have sc:FnScope ["_law_lines","_law_rights_own","_law_table","_law_spots","_law_wide","_law_values","_law_k","_law_at"] ["_law_lines","_law_rights_own"] (Zf Xg):=fsc (by decide +kernel);refine F.ok sc (fun vs H Q E h=>by obtain ⟨v,u,ms,qs,rfl,_⟩:=h;rfl) fun cdv A outer s H vs Q E hr h=>?_;obtain ⟨v,u,ms,qs,rfl,h1,h2,R,q⟩:=h;have nd:=sc.nd;have hu:=Zi3 hr;refine' ⟨_,?term,?read⟩
 case term=>refine' @Zc _ _ _ _ _ ?g1 ?g2;(case g1=>refine' @Yn _ _ _ _ _ _ (Zj Caa_ hr (by decide) rfl (Za (pv 0) (Za (pv 1) Zb rfl) rfl)) ?g3 (by rfl) (by rfl) (by rfl);case g3=>refine' @Zy _ _ _ _ _ (3) rfl (Zd (Zi (i:=2) nd rfl (Or.inl rfl)) (Zd (Zi (i:=3) nd rfl (Or.inr rfl)) (Zd (Zi (i:=4) nd rfl (Or.inr rfl)) Zr))) (by rfl) (by rfl));case g2=>refine' @Zc _ _ _ _ _ ?g4 ?g5;(case g4=>refine' @Yv _ _ _ _ _ _ _ _ ?g6 (Zh (Zn Zc6)) Z3;case g6=>refine' @Zq _ _ _ _ _ _ _ _ (Zjq (Nat.lt_of_succ_lt hu)) ?g7 ?g8 (Zw _);(case g7=>refine' @Xb _ _ _ _ _ _ _ (["_law_row_here","_law_wide"]) ([none,some 4]) _ _ _ _ _ rfl (Z7 (XN:=["_law_lines","_law_rights_own","_law_table","_law_spots","_law_wide","_law_values","_law_k","_law_at"]) (Scope.names (Zf Xg)) rfl rfl rfl (fun _ h=>Z0 h) (by decide +kernel) rfl) ?g9 (fun _ _ _ _=>pgB 0) (fun _ _ _ _=>Za7 (Zq (Znb hu) (Z1 (Zaa K rfl) (pv 0) (pv 1) (fun _ _=>rfl)) (Zu (Za Zg (Za Zg Zb rfl) rfl)) (Zw _))) (fun _ _ _ _=>pv 0) (by intro _ ;rfl);case g9=>refine' @Yi _ _ _ _ ?ga;case ga=>refine' @Zby _ _ _ _ _ _ _ _ _ _ Zf3 (pv 2) (Zdv (Zk Zt rfl T.b_len Y6 (Za (pv 3) Zb rfl))) Zeb);case g8=>refine' @Y4 _ _ _ _ Zb);case g5=>refine' @Zc _ _ _ _ _ ?gb ?gc;(case gb=>refine' @Zv _ _ (5) _ _ _ _ nd rfl (Or.inl rfl) ?gd (by rfl) (by first|exact Or.inl rfl|exact Or.inr rfl|assumption);case gd=>refine' @Zm _ _ _ _ _ _ _ _ Zmh ?ge (pv 4);case ge=>refine' @Y4 _ _ _ _ (Za (Zu (Za Zg (Za Zg Zb rfl) rfl)) Zb rfl));case gc=>refine' @Zc _ _ _ _ _ ?gf ?gg;(case gf=>refine' @Xi _ _ _ _ _ _ _ _ PassesOwn.never rfl ?gh ?gi ?gj (by intro _ ;rfl);(case gh=>refine' @Ziy _ _ _ _ .l _ _ _ _ rfl T.b_enumerate (Za (pv 3) Zb rfl) (by rfl));(case gi=>refine' @Zy _ _ _ _ _ (2) rfl (Zd (Zi (i:=6) nd rfl (Or.inl rfl)) (Zd (Zi (i:=7) nd rfl (Or.inl rfl)) Zr)) (by rfl) (by rfl));case gj=>refine' @Zh _ _ _ ?gk;case gk=>refine' @Yn _ _ _ _ _ _ ?gl ?gm (by rfl) (by rfl) (by rfl);(case gl=>refine' @Z1 _ _ _ _ _ _ _ Z2 ?gn (pv 4) (fun _ _=>rfl);case gn=>refine' @Z1 _ _ _ _ _ _ _ Z2 (pv 2) (pv 6) (fun _ _=>rfl));case gm=>refine' @Zda _ _ _ _ _ _ _ (pv 5) (pv 7) X7 (by intro _ ;rfl));case gg=>refine' @Zh _ _ _ ?go;case go=>refine' @Zn _ _ _ _ ?gp;case gp=>refine' @Zu _ _ _ _ _ ?gq;case gq=>refine' @Za _ _ _ _ _ (Yo Yd rfl T.b_tuple Yr (Za (pv 5) Zb rfl)) ?gr rfl;case gr=>refine' @Za _ _ _ _ _ ?gs Zb rfl;case gs=>refine' @Yo _ _ _ _ _ _ _ _ _ Yd rfl T.b_tuple Yr ?gt (by decide) (by decide) (by rfl) (by rfl);case gt=>refine' @Za _ _ _ _ _ ?gu Zb rfl;case gu=>refine' @Xb _ _ _ _ _ _ _ (["_law_at","_law_spots"]) ([none,some 3]) _ _ _ _ _ rfl (Z7 (XN:=["_law_lines","_law_rights_own","_law_table","_law_spots","_law_wide","_law_values","_law_k","_law_at"]) (Scope.names (Zf Xg)) rfl rfl rfl (fun _ h=>Z0 h) (by decide +kernel) rfl) ?gv (fun _ _ _ _=>pgB 0) (fun _ _ _ _=>Za7 (Zq (Zb0 K rfl) (pv 0) (pv 1) rfl)) (fun _ _ _ _=>pv 0) (by intro _ ;rfl);case gv=>refine' @Yz _ _ _ _ _ _ rfl T.b_range (Za (pv 4) Zb rfl) (by rfl)
 obtain ⟨gm,gl',gs1,gn⟩:=Zqx R.sys.rg;have w6:=R.w6;have m7:=R.m7;have lT:(tab ms qs).length=ms.length:=Zel R.rl
 have J:=Zoq (T0:=tab ms qs) (w:=wid ms) (fun k hk=>by
  rw [lT] at hk;rw [Zcg R.rl hk,n20_,R.wd _ (n13_ hk)];rfl) (wid ms) (n9_ _)
 refine ⟨_,rfl,_,rfl,v,u,ms,qs,rfl,h1,h2,R,fun H1 p tb sp us s1 hp htb aT hsp=>?_⟩;generalize gj (tab ms qs) (wid ms)=G at *;have lG:G.1.length=ms.length:=by rw [J.len,lT]
 have ltu:us.length=G.1.length:=aT.1;have Jls:=J.ls;refine ⟨p,_,rfl,SqT.of hp,rfl,_,_,rfl,_,_,rfl,_,_,rfl,rfl,Xq (σ':=[some v,some u,some (.ref tb),some (.ref sp),some (.int (wid ms)),none,none,none]) rfl ?_⟩
 have pick:∀ k (hk:k<G.1.length),∃ rk rus pe,us[k]? = some (.ref rk)∧H1 rk=some (.lst rus)∧rus[wid ms]? = some (.ref pe)∧H1 pe=some (.tup (rt ((rwT G.1 k).getD (wid ms) 0))):=fun k hk=>by
  obtain ⟨vr,evr,rk,rus,rfl,hrk,alr⟩:=aT.got (n0_ hk);have lr:=J.rl k hk;rw [Zc5 hk] at lr;have hil:wid ms<G.1[k].length:=by omega
  obtain ⟨ve,eve,pe,rfl,hpe⟩:=alr.got (n0_ hil);exact ⟨rk,rus,pe,evr,hrk,eve,by rw [Zc5 hk,n1_,n0_ hil];exact hpe⟩
 refine ⟨_,rfl,_,rfl,sp,_,rfl,.inl (SqL.of hsp),_,rfl,tb,us,rfl,SqL.of htb,fun l2 nl2=>?_⟩;rw [n2_,Zgj];generalize gG:upd H1 l2 (.lst (us.drop G.2.length))=H2;obtain ⟨s2,h2'⟩:=gen_upd gG nl2;refine ⟨l2,rfl,⟨_,SqL.of h2'⟩,fun F nF=>?_⟩;refine Zat (n:=(us.drop G.2.length).length) (fun _ _ (x:Nat)=>True) (fun _ _ _ _ _ _ e=>e) (fun j=>if (rwT G.1 (G.2.length+j)).getD (wid ms) 0=0 then none else some j) (by rw [n69_];omega) (fun σ=>∃ x,σ=[x,some (.int (wid ms))]) ⟨_,rfl⟩ nF (fun j H3 s hj=>Zar (k:=.l) (show SK.l.At H3 l2 _ from s _ _ h2') hj) (fun H3 s=>Y8 (k:=.l) (show SK.l.At H3 l2 _ from s _ _ h2') (n9_ _)) (fun j x σ2 H3' H3 C N hj s3 eD y ok c n=>?_) (fun H3 fus s3 e3 a3=>?_)
 · obtain ⟨u1,rfl⟩:=ok;obtain ⟨rfl,ex⟩:=Xk (k:=.l) (show SK.l.At _ l2 _ from s3 _ _ h2') y;rw [n69_] at hj;rw [List.getElem?_drop] at ex;obtain ⟨rk,rus,pe,e1,hrk,e2,hpe⟩:=pick (G.2.length+j) (by omega);rw [e1] at ex;cases ex
   have s13:=s2.trans s3;unfold Z4;refine ⟨_,rfl,_,rfl,rk,rus,(wid ms:Nat),.ref pe,rfl,rfl,SqL.of (s13 _ _ hrk),Yh e2,z2_,fun z nz=>?_⟩;have s7:=Same.new (o:=.tup [.int 0,.int 1]) nz
   by_cases h0:(rwT G.1 (G.2.length+j)).getD (wid ms) 0=0
   · exact ⟨pe,z,_,0,rfl,rfl,s7 _ _ (s13 _ _ hpe),Ze,false,congrArg V.bl (by rw [h0];decide),iteF (n _ _ ⟨_,rfl⟩ s7 (if_pos h0))⟩
   · exact ⟨pe,z,_,0,rfl,rfl,s7 _ _ (s13 _ _ hpe),Ze,true,congrArg V.bl (by rw [n30_ h0];rfl),iteT ⟨_,rfl,c _ _ _ j ⟨_,rfl⟩ s7 (if_neg h0) trivial⟩⟩
 have lf:=a3.1;refine ⟨z0_,fun E nE=>?_⟩;generalize gG:upd H3 E (.lst [])=H4;obtain ⟨s4,h4⟩:=gen_upd gG nE;have s14:=(s2.trans s3).trans s4;refine ⟨F,E,fus,rfl,rfl,SqL.of (s4 _ _ e3),SqL.of h4,_,rfl,?_⟩
 by_cases hall:∀ k,G.2.length≤k→k<ms.length→(rwT G.1 k).getD (wid ms) 0=0
 rotate_left
 · obtain ⟨k,hk⟩:=Classical.not_forall.mp hall;obtain ⟨k1,hk⟩:=Classical.not_forall.mp hk;obtain ⟨k2,hk⟩:=Classical.not_forall.mp hk;have e0:=gn k k1 k2 hk
   have fne:¬ fus=[]:=fun z=>by
    rw [z] at lf
    have:=List.filterMap_eq_nil_iff.mp (n86_.mp lf.symm) (k-G.2.length) (n90_.mpr (by rw [n69_];omega))
    rw [show G.2.length+(k-G.2.length)=k by omega,if_neg hk] at this;cases this
   rw [n30_ fne];refine iteT ?_;exact q _ .non (s1.trans s14) (by rw [e0];rfl)
 have fe:fus=[]:=n86_.mp (by
  rw [lf];refine n86_.mpr (List.filterMap_eq_nil_iff.mpr fun j hj=>?_)
  have:=n90_.mp hj
  rw [n69_] at this;exact if_pos (hall _ (by omega) (by omega)))
 rw [n32_ fe];refine iteF ?_;have es:=gs1 hall;have s04:=s1.trans s14;refine ⟨z2_,fun z5 nz5=>?_⟩;have s5:Same H4 (upd H4 z5 (.tup [.int 0,.int 1])):=Same.new nz5;have h5:upd H4 z5 (.tup [.int 0,.int 1]) z5=some (.tup (rt 0)):=Ze;generalize upd H4 z5 (.tup [.int 0,.int 1])=H5 at s5 h5 ⊢;refine ⟨z1_,fun y6 ny6=>?_⟩;generalize gG:upd H5 y6 (.lst [.ref z5])=H6;obtain ⟨s6,h6⟩:=gen_upd gG ny6;refine ⟨_,rfl,y6,(wid ms:Int),_,rfl,rfl,h6,by omega,by omega,by simp only [n33_,n73_,n58_,sizeLine_eq];omega,fun V7 nV7=>?_⟩;rw [n58_,Zdl];generalize gG:upd H6 V7 (.lst (List.replicate (wid ms) (.ref z5)))=H7;obtain ⟨s7,h7⟩:=gen_upd gG nV7;have s46:=s5.trans s6;have s17:=(s14.trans s46).trans s7;have s07:=s1.trans s17;have nV0:H V7=none:=Zdh (s04.trans s46) nV7;have nV1:H1 V7=none:=Zdh (s14.trans s46) nV7;refine gset (σ':=[some v,some u,some (.ref tb),some (.ref sp),some (.int (wid ms)),some (.ref V7),none,none]) rfl ?_;refine ⟨_,rfl,sp,rfl,⟨_,SqL.of (s17 _ _ hsp)⟩,?_⟩;obtain ⟨vals,hv⟩:∃ vals:List Rat,vals=(List.range G.2.length).map fun j=>(rwT G.1 j).getD (wid ms) 0:=⟨_,rfl⟩;have lv:vals.length=G.2.length:=by rw [hv];simp
 refine Xr (n:=G.2.length) (fun i σ H8=>Keep V7 H7 H8∧(∃ y6 y7,σ=[some v,some u,some (.ref tb),some (.ref sp),some (.int (wid ms)),some (.ref V7),y6,y7])∧∃ fs,H8 V7=some (.lst fs)∧Al (IsQh H8) fs (putR (G.2.take i) (vals.take i) (List.replicate (wid ms) 0))) ⟨Keep.refl _ _,⟨_,_,rfl⟩,_,h7,?_⟩ (fun i σ H8 hi p=>⟨_,V.int ((G.2[i]:Nat):Int),SqL.of (p.1 _ _ (Zl hsp nV1) (s17 _ _ hsp)),by rw [n8_,n0_ hi];rfl⟩) (fun σ H8 p=>⟨_,SqL.of (p.1 _ _ (Zl hsp nV1) (s17 _ _ hsp)),by rw [n2_]⟩) (fun i x σ H8 H8' hi y p=>?_) (fun σ H8 p=>?_)
 · rw [List.take_zero,List.take_zero]
   exact ⟨by rw [Za9,n14_,n14_],fun j v x e1 e2=>by
    rw [n26_] at e1;have e2:(List.replicate (wid ms) (0:Rat))[j]? = some x:=e2;rw [n26_] at e2;split at e1
    · rename_i hj;rw [if_pos hj] at e2;cases e1;cases e2;exact ⟨z5,rfl,s7 _ _ (s6 _ _ h5)⟩
    · cases e1⟩
 · obtain ⟨k8,⟨y6',y7',rfl⟩,fs,eV,aV⟩:=p;obtain ⟨g,x,rfl,ng,rfl,yx⟩:=y;have ex:=yx _ (SqL.of (k8 _ _ (Zl hsp nV1) (s17 _ _ hsp)));rw [n8_,n0_ hi] at ex;cases ex
   obtain ⟨at_,hat⟩:∃ m:Nat,m=G.2[i]:=⟨_,rfl⟩;have atl:at_<wid ms:=by rw [hat];exact gl' _ (n13_ hi)
   rw [show (fun n:Nat=>V.int (n:Int)) G.2[i]=V.int (at_:Nat) by rw [hat]];generalize gG:upd H8 g (.tup [.int i,.int (at_:Nat)])=H9;obtain ⟨s9,h9⟩:=gen_upd gG ng;refine ⟨g,_,rfl,SqT.of h9,rfl,_,_,rfl,_,_,rfl,rfl,Xq (σ':=[some v,some u,some (.ref tb),some (.ref sp),some (.int (wid ms)),some (.ref V7),some (.int (i:Nat)),some (.int (at_:Nat))]) rfl ?_⟩;obtain ⟨rk,rus,pe,e1,hrk,e2,hpe⟩:=pick i (by omega);have up9:∀ {b:Addr} {o:HO},H1 b=some o→H9 b=some o:=fun e=>s9 _ _ (k8 _ _ (Zl e nV1) (s17 _ _ e));have lfs:fs.length=wid ms:=by rw [aV.1,Za9];simp
   have eV9:=s9 _ _ eV;refine ⟨_,rfl,_,rfl,tb,us,(i:Nat),.ref rk,rfl,rfl,SqL.of (up9 htb),Yh e1,_,rfl,rk,rus,(wid ms:Nat),.ref pe,rfl,rfl,SqL.of (up9 hrk),Yh e2,_,rfl,_,rfl,V7,fs,(at_:Int),at_,rfl,rfl,eV9,Zjw (by omega) (by omega),?_⟩;have tkU:Tk H9 (upd H9 V7 (.lst (fs.set at_ (.ref pe)))):=Tk.upd_lst eV9;refine ⟨fun b o n e=>by rw [Zp n];exact s9 _ _ (k8 b o n e),⟨_,_,rfl⟩,_,Ze,?_⟩;rw [Zil _ _ _ i hi (by omega),← hat];refine Zge (aV.imp fun v q r=>(r.tk s9.tk).tk tkU) ⟨pe,rfl,?_⟩
   have ev:vals[i]'(by omega)=(rwT G.1 i).getD (wid ms) 0:=by
    have:vals[i]? = some ((rwT G.1 i).getD (wid ms) 0):=by rw [hv,n8_,List.getElem?_range hi];rfl
    rw [n0_ (by omega)] at this;exact Option.some.inj this
   rw [ev];exact tkU _ _ (up9 hpe)
 · obtain ⟨k8,⟨y6',y7',rfl⟩,fs,eV,aV⟩:=p;have tv:vals.take G.2.length=vals:=by rw [← lv,n61_]
   rw [n61_,tv] at aV;have aV:Al (IsQh H8) fs (gjv G (wid ms)):=by unfold gjv;rw [← hv];exact aV
   have up8:∀ {b:Addr} {o:HO},H1 b=some o→H8 b=some o:=fun e=>k8 _ _ (Zl e nV1) (s17 _ _ e);refine ⟨_,rfl,V7,fs,rfl,.inl ⟨SqL.of eV,fun t9 n9=>?_⟩⟩;generalize gG:upd H8 t9 (.tup fs)=H9;obtain ⟨s9,h9⟩:=gen_upd gG n9;have hsp9:=s9 _ _ (up8 hsp);refine ⟨_,rfl,(wid ms:Int),rfl,by omega,by omega,fun D nD=>?_⟩
   have hfl:(G.2.map fun n:Nat=>V.int n).all Zer=true:=n56_.mpr fun x hx=>by
    obtain ⟨n,_,rfl⟩:=n19_.mp hx;rfl
   refine Zat (n:=wid ms) (fun _ v (x:Int)=>v=V.int x) (fun _ _ _ _ _ _ e=>e) (fun i=>if (!inV (.int (0+(i:Int))) (G.2.map fun n:Nat=>V.int n))=true then some (0+(i:Int)) else none) (by omega) (fun σ=>∃ x,σ=[x,some (.ref sp)]) ⟨_,rfl⟩ nD (fun i H3 s hi=>hi) (fun H3 s=>n9_ _) (fun i x σ2 Ha' Ha C N' hi sa eD y ok c' n'=>?_) (fun Ha us3 sa ea aa=>?_)
   · obtain ⟨a1,rfl⟩:=ok;obtain ⟨rfl,rfl⟩:=y;unfold Z4;refine ⟨_,rfl,_,rfl,sp,_,rfl,.inl (SqL.of (sa _ _ hsp9)),rfl,hfl,_,rfl,?_⟩;show if (!inV (.int (0+(i:Int))) (G.2.map fun n:Nat=>V.int n))=true then _ else _
     by_cases hz:(!inV (.int (0+(i:Int))) (G.2.map fun n:Nat=>V.int n))=true
     · rw [if_pos hz];exact ⟨_,rfl,c' _ _ _ _ ⟨_,rfl⟩ (Same.refl _) (if_pos hz) rfl⟩
     · rw [if_neg hz];exact n' _ _ ⟨_,rfl⟩ (Same.refl _) (if_neg hz)
   have eF:(List.range (wid ms)).filterMap (fun i:Nat=>if (!inV (.int (0+(i:Int))) (G.2.map fun n:Nat=>V.int n))=true then some (0+(i:Int)) else none)=frs ms qs:=by
    unfold frs;refine Zgc fun i hi=>?_;rw [Zgo,Zgo,decide_eq_decide.mpr (gm i (n90_.mp hi))]
   rw [eF] at aa;have u3:us3=(frs ms qs).map V.int:=Al.ints aa;subst u3;refine ⟨D,_,rfl,.inl ⟨SqL.of ea,fun tb' nb'=>?_⟩⟩;have sb:=Same.new (o:=.tup ((frs ms qs).map V.int)) nb';have hb:upd Ha tb' (.tup ((frs ms qs).map V.int)) tb'=some (.tup ((frs ms qs).map V.int)):=Ze;refine ⟨z2_,fun pc nc=>?_⟩;have sc':=Same.new (o:=.tup [.ref t9,.ref tb']) nc;have s9c:=sa.trans (sb.trans sc');have S:Same H8 _:=s9.trans s9c;refine q _ (.ref pc) (fun b o e=>S _ _ (k8 b o (Zl e nV0) (s07 _ _ e))) ?_;rw [es];exact ⟨pc,t9,tb',rfl,Ze,⟨t9,fs,rfl,s9c _ _ h9,aV.imp fun v x r=>r.tk S.tk⟩,sc' _ _ hb⟩
abbrev Zbu:Stmt:=top 58
theorem Zg2 (F:Fun K "_law_same" "_law_same" Zbu f fd):FnOk P w K mg base CX0 1 f fd ["_law_found","_law_due"] Zkm:=by
 have sc:FnScope ["_law_found","_law_due"] ["_law_found","_law_due"] (Zf Zbu):=fsc (by decide +kernel);refine F.ok sc (fun vs H Q E h=>by obtain ⟨N,k,v,u,ds,rfl,_⟩:=h;rfl) fun cdv A outer s H vs Q E hr h=>?_;obtain ⟨N,k,v,u,ds,rfl,h1,h2,hk,hn,hd,hz,q⟩:=h;refine' ⟨_,?term,?read⟩
 case term=>refine' @Zh _ _ _ (Zn (Zc1 Zez (Zk (Za8 hr) rfl T.b_repr Zgl (Za (pv 0) Zb rfl)) (Zk (Za8 hr) rfl T.b_repr Zgl (Za (pv 1) Zb rfl)) (Zw _)))
 refine ⟨_,rfl,N,k,v,ds,rfl,h1,hk,hn,hd,hz,_,rfl,N,k,u,ds,rfl,h2,hk,hn,hd,hz,rfl,?_⟩;rw [n32_ rfl];exact q
abbrev Xc:Stmt:=top 59
theorem Zho (F:Fun K "_law_rows" "_law_rows" Xc f fd) (Ci_:a31_ P w K mg base) (Ca_:a34_ P w K mg base) (Cl_:a41_ P w K mg base) (Cc_:a36_ P w K mg base) (Cj_:a32_ P w K mg base) (Cat_:a42_ P w K mg base):FnOk P w K mg base CX0 45 f fd ["_law_state_here"] Zk0:=by
 have sc:FnScope ["_law_state_here","_law_wide","_law_lines","_law_few","_law_turn","_law_way","_law_one","_law_by","_law_other","_law_values","_law_rights_own"] ["_law_state_here"] (Zf Xc):=fsc (by decide +kernel);refine F.ok sc (fun vs H Q E h=>by obtain ⟨l,rfl,_⟩:=h;rfl) fun cdv A outer s H vs Q E hr h=>?_;obtain ⟨l,rfl,hl,q⟩:=h;have nd:=sc.nd;have hu:=Zi3 hr;refine' ⟨_,?term,?read⟩
 case term=>refine' @Zc _ _ _ _ _ ?g1 ?g2;(case g1=>refine' @Zb9 _ _ (1) (2) _ _ _ _ _ _ _ _ _ _ _ rfl nd rfl rfl (by decide) rfl rfl ?g3 rfl (by rfl);case g3=>refine' @Za _ _ _ _ _ (Zj Ca_ hr (by decide) rfl (Za (pv 0) (Za Zg Zb rfl) rfl)) ?g4 rfl;case g4=>refine' @Za _ _ _ _ _ ?g5 Zb rfl;case g5=>refine' @Y4 _ _ _ _ Zb);case g2=>refine' @Zc _ _ _ _ _ ?g6 ?g7;(case g6=>refine' @Zv _ _ (3) _ _ _ _ nd rfl (Or.inr rfl) ?g8 (by rfl) (by first|exact Or.inl rfl|exact Or.inr rfl|assumption);case g8=>refine' @Xb _ _ _ _ _ _ _ (["_law_place","_law_state_here"]) ([none,some 0]) _ _ _ _ _ rfl (Z7 (XN:=["_law_state_here","_law_wide","_law_lines","_law_few","_law_turn","_law_way","_law_one","_law_by","_law_other","_law_values","_law_rights_own"]) (Scope.names (Zf Xc)) rfl rfl rfl (fun _ h=>Z0 h) (by decide +kernel) rfl) ?g9 (fun _ _ _ _=>pgB 0) (fun _ _ _ _=>Zs) (fun _ _ _ _=>Zj Ca_ hr (by decide) rfl (Za (pv 1) (Za Zg Zb rfl) rfl)) (by intro _ ;rfl);case g9=>refine' @Yz _ _ _ _ _ _ rfl T.b_range (Za (pv 1) Zb rfl) (by rfl));case g7=>refine' @Zc _ _ _ _ _ ?ga ?gb;(case ga=>refine' @Xi _ _ _ _ _ _ _ _ PassesOwn.never rfl ?gc (Zi (i:=4) nd rfl (Or.inl rfl)) ?gd (by intro _ ;rfl);(case gc=>refine' @Yz _ _ _ _ _ _ rfl T.b_range (Za (Zj Ca_ hr (by decide) rfl (Za (pv 0) (Za Zg Zb rfl) rfl)) Zb rfl) (by rfl));case gd=>refine' @Zc _ _ _ _ _ ?ge ?gf;(case ge=>refine' @Zv _ _ (5) _ _ _ _ nd rfl (Or.inr rfl) (Zj Ca_ hr (by decide) rfl (Za (pv 0) (Za Zg Zb rfl) rfl)) (by rfl) (by first|exact Or.inl rfl|exact Or.inr rfl|assumption));case gf=>refine' @Zh _ _ _ ?gg;case gg=>refine' @Yv _ _ _ _ _ _ _ _ ?gh ?gi ?gj;(case gh=>refine' @PW.pt _ _ _ ?gk;case gk=>refine' @Zfk _ _ _ _ _ _ _ (Zq Zez (pv 5) Zg (Zw _)) ?gl;case gl=>refine' @Zcu _ _ _ _ ?gm;case gm=>refine' @Zq _ _ _ _ _ _ _ _ (Zjq (Nat.lt_of_succ_lt hu)) (pv 2) ?gn (Zw _);case gn=>refine' @Y4 _ _ _ _ Zb);(case gi=>refine' @Zc _ _ _ _ _ ?go ?gp;(case go=>refine' @Yn _ _ _ _ _ _ ?gq ?gr (by rfl) (by rfl) (by rfl);(case gq=>refine' @Zu _ _ _ _ _ ?gs;case gs=>refine' @Za _ _ _ _ _ ?gt (Za (Zj Cc_ hr (by decide) rfl (Za (pv 0) Zb rfl)) Zb rfl) rfl;case gt=>refine' @Z1 _ _ _ _ _ _ _ Z2 (pv 2) (Zj Ca_ hr (by decide) rfl (Za (pv 0) (Za (Zk Zt rfl T.b_len Y6 (Za (pv 2) Zb rfl)) Zb rfl) rfl)) (fun _ _=>rfl));case gr=>refine' @Zy _ _ _ _ _ (2) rfl (Zd (Zi (i:=6) nd rfl (Or.inl rfl)) (Zd (Zi (i:=7) nd rfl (Or.inr rfl)) Zr)) (by rfl) (by rfl));case gp=>refine' @Zc _ _ _ _ _ ?gu ?gv;(case gu=>refine' @Zv _ _ (8) _ _ _ _ nd rfl (Or.inl rfl) ?gw (by rfl) (by first|exact Or.inl rfl|exact Or.inr rfl|assumption);case gw=>refine' @Z1 _ _ _ _ _ _ _ Z2 (pv 2) (Zj Ca_ hr (by decide) rfl (Za (pv 0) (Za (Zk Zt rfl T.b_len Y6 (Za (pv 2) Zb rfl)) Zb rfl) rfl)) (fun _ _=>rfl));case gv=>refine' @Zh _ _ _ ?gx;case gx=>refine' @Xw _ _ _ _ ?gy (by rfl);case gy=>refine' @Zdz _ _ _ _ _ _ _ _ _ _ _ _ PySem.F.plainAttrs_list PySem.F.slot_list_append PySem.F.type_list_append Y0 (pv 2) ?gz (by rfl) (by rfl) (by rfl) (by rfl) (by rfl);case gz=>refine' @Za _ _ _ _ _ ?g10 Zb rfl;case g10=>refine' @Yo _ _ _ _ _ _ _ _ _ Yd rfl T.b_tuple Yr ?g11 (by decide) (by decide) (by rfl) (by rfl);case g11=>refine' @Za _ _ _ _ _ ?g12 Zb rfl;case g12=>refine' @Xb _ _ _ _ _ _ _ (["_law_mine","_law_its","_law_by"]) ([none,none,some 7]) _ _ ((gTup K 2 (Yb (Z4 0) (Yb (Z4 1) gNil)))) _ _ rfl (Z7 (XN:=["_law_state_here","_law_wide","_law_lines","_law_few","_law_turn","_law_way","_law_one","_law_by","_law_other","_law_values","_law_rights_own"]) (Scope.names (Zf Xc)) rfl rfl rfl (fun _ h=>Z0 h) (by decide +kernel) rfl) ?g13 (fun _ _ _ _=>Zy (n:=2) rfl (Zd (pgB 0) (Zd (pgB 1) Zr))) (fun _ _ _ _=>Zs) (fun _ _ _ _=>Zj Ci_ hr (by decide) rfl (Za (pv 0) (Za (Zj Cj_ hr (by decide) rfl (Za (pv 2) (Za (pv 1) Zb rfl) rfl)) Zb rfl) rfl)) (by intro _ ;rfl);case g13=>refine' @Zia _ _ _ _ .t .t _ _ _ _ _ rfl T.b_zip (Za (pv 6) (Za (pv 8) Zb rfl) rfl) (by rfl) (by rfl));case gj=>refine' @Zh _ _ _ ?g14;case g14=>refine' @Xw _ _ _ _ ?g15 (by rfl);case g15=>refine' @Zdz _ _ _ _ _ _ _ _ _ _ _ _ PySem.F.plainAttrs_list PySem.F.slot_list_append PySem.F.type_list_append Y0 (pv 2) ?g16 (by rfl) (by rfl) (by rfl) (by rfl) (by rfl);case g16=>refine' @Za _ _ _ _ _ ?g17 Zb rfl;case g17=>refine' @Yo _ _ _ _ _ _ _ _ _ Yd rfl T.b_tuple Yr ?g18 (by decide) (by decide) (by rfl) (by rfl);case g18=>refine' @Za _ _ _ _ _ ?g19 Zb rfl;case g19=>refine' @Xb _ _ _ _ _ _ _ (["_law_place","_law_few","_law_way","_law_state_here"]) ([none,some 3,some 5,some 0]) _ _ _ _ _ rfl (Z7 (XN:=["_law_state_here","_law_wide","_law_lines","_law_few","_law_turn","_law_way","_law_one","_law_by","_law_other","_law_values","_law_rights_own"]) (Scope.names (Zf Xc)) rfl rfl rfl (fun _ h=>Z0 h) (by decide +kernel) rfl) ?g1a (fun _ _ _ _=>pgB 0) (fun _ _ _ _=>Zs) (fun _ _ _ _=>Zao (Zq Ze1 (Z1 (Zaa K rfl) (pv 1) (pv 0) (fun _ _=>rfl)) (Zm Xz (pv 2) Zg) (Zw _)) (Zj Cc_ hr (by decide) rfl (Za (pv 3) Zb rfl)) (Zu (Za Zg (Za Zg Zb rfl) rfl))) (by intro _ ;rfl);case g1a=>refine' @Yz _ _ _ _ _ _ rfl T.b_range (Za (pv 1) Zb rfl) (by rfl));case gb=>refine' @Zc _ _ _ _ _ ?g1b ?g1c;(case g1b=>refine' @Zv _ _ (9) _ _ _ _ nd rfl (Or.inr rfl) (Zj Cat_ hr (by decide) rfl (Za (pv 0) (Za (pv 1) Zb rfl) rfl)) (by rfl) (by first|exact Or.inl rfl|exact Or.inr rfl|assumption));case g1c=>refine' @Zc _ _ _ _ _ ?g1d ?g1e;(case g1d=>refine' @X0 _ _ _ _ _ _ _ _ _ _ (["_law_row_here","_law_values"]) ([none,some 9]) _ _ _ _ _ _ rfl rfl (Zi (i:=10) nd rfl (Or.inl rfl)) (Z7 (XN:=["_law_state_here","_law_wide","_law_lines","_law_few","_law_turn","_law_way","_law_one","_law_by","_law_other","_law_values","_law_rights_own"]) (Scope.names (Zf Xc)) rfl rfl rfl (fun _ h=>Z0 h) (by decide +kernel) rfl) (Yi (pv 2)) (fun _ _ _ _=>pgB 0) (fun _ _ _ _=>Zs) (fun _ _ _ _=>Zj Cl_ hr (by decide) rfl (Za (pv 0) (Za (pv 1) Zb rfl) rfl)) (by intro _ ;rfl));case g1e=>refine' @Zc _ _ _ _ _ ?g1f (Zh (Zn (Zu (Za (Yo Yd rfl T.b_tuple Yr (Za (pv 2) Zb rfl)) (Za (Yo Yd rfl T.b_tuple Yr (Za (pv 10) Zb rfl)) Zb rfl) rfl))));case g1f=>refine' @Yv _ _ _ _ _ _ _ _ ?g1g ?g1h Z3;(case g1g=>refine' @PW.pt _ _ _ ?g1i;case g1i=>refine' @Zfk _ _ _ _ _ _ _ ?g1j ?g1k;(case g1j=>refine' @Zq _ _ _ _ _ _ _ _ (Zjq (Nat.lt_of_succ_lt hu)) (pv 10) ?g1l (Zw _);case g1l=>refine' @Y4 _ _ _ _ Zb);case g1k=>refine' @Zcu _ _ _ _ (Zq Zez (Zj Ca_ hr (by decide) rfl (Za (pv 0) (Za Zg Zb rfl) rfl)) Zg (Zw _)));case g1h=>refine' @Zh _ _ _ ?g1m;case g1m=>refine' @Yn _ _ _ _ _ _ (Zj Cc_ hr (by decide) rfl (Za (pv 0) Zb rfl)) ?g1n (by rfl) (by rfl) (by rfl);case g1n=>refine' @Zda _ _ _ _ _ _ _ (pv 10) (Zj Ca_ hr (by decide) rfl (Za (pv 0) (Za (Zk Zt rfl T.b_len Y6 (Za (pv 10) Zb rfl)) Zb rfl) rfl)) X7 (by intro _ ;rfl)
 refine ⟨_,rfl,l,7,rfl,hl,by decide,Xo (by decide),fun r H1 r0 r1 k1 st1=>?_⟩;obtain ⟨wn,rfl⟩:=n75_ r0;have wn6:wn≤6:=by omega
 refine ⟨z0_,fun D nD=>?_⟩;have nDl:D≠l:=st1.neN nD;have nDH:H D=none:=Zhu k1 st1 nD;have k2:Keep l H (upd H1 D (.lst [])):=k1.trans (Keep.new nD);have st2:StAt (upd H1 D (.lst [])) l:=st1.new nD;have e2:upd H1 D (.lst []) D=some (.lst []):=Ze;generalize upd H1 D (.lst [])=H2 at k2 st2 e2 ⊢;refine ⟨_,_,rfl,Xq (σ':=[some (.ref l),some (.int wn),some (.ref D),none,none,none,none,none,none,none,none]) rfl ?_⟩;refine ⟨_,rfl,wn,rfl,by omega,by omega,fun F nF=>?_⟩;have nFl:F≠l:=st2.neN nF;have nDF:D≠F:=fun z=>by rw [z,nF] at e2;cases e2
 refine Zjb (n:=wn) (l:=l) (fun H v (x:Int)=>v=V.int x) (fun _ _ _ _ _ e=>e) (by omega) (fun σ=>∃ u,σ=[u,some (.ref l)]) ⟨_,rfl⟩ nF st2 (fun i H2 k hi=>hi) (fun H2 k=>n9_ _) (fun i x σ2 Ha Hb C hi ka la y o c=>?_) (fun H3 fv fs k3 st3 e3 hy a3=>?_)
 · obtain ⟨u,rfl⟩:=o;obtain ⟨rfl,rfl⟩:=y;exact ⟨_,rfl,l,3,rfl,la,by decide,Xo (by decide),fun r Hc r0 r1 kc lc=>c _ _ _ r ⟨_,rfl⟩ kc lc rfl⟩
 have lfv:=a3.1;refine gset (σ':=[some (.ref l),some (.int wn),some (.ref D),some (.ref F),none,none,none,none,none,none,none]) rfl ?_;refine ⟨_,rfl,l,8,rfl,st3,by decide,Xo (by decide),fun r' H4 r0' r1' k4 st4=>?_⟩;obtain ⟨mn,rfl⟩:=n75_ r0';refine ⟨(mn:Int),rfl,by omega,by omega,?_⟩;have K24:=k2.trans (k3.trans k4);refine Zae (fun i σ H5=>∃ x4 x5 x6 x7 x8 us' ms',σ=[some (.ref l),some (.int wn),some (.ref D),some (.ref F),x4,x5,x6,x7,x8,none,none]∧Keep l H H5∧StAt H5 l∧H5 D=some (.lst us')∧H5 F=some (.lst fv)∧Al (IsRh H5) us' ms'∧ms'.length=i∧(∀ m∈ms',m.length=wn)∧(∀ m∈ms',∀ q∈m,Dv (60^i) (2^(51*i)) q)) ⟨_,_,_,_,_,[],[],rfl,K24,st4,k4 _ _ nDl (k3 _ _ nDl e2),k4 _ _ nFl e3,.nil,rfl,(fun _ h=>by cases h),fun _ h=>by cases h⟩ (fun i σ H5 hi p=>?_) (fun σ H5 p=>?_)
 · obtain ⟨x4,x5,x6,x7,x8,us0,ms0,rfl,K5,st5,e5,f5,a5,l5,w5,d5⟩:=p;have i7:i<7:=by omega
   have lu':=a5.1;refine gset (σ':=[some (.ref l),some (.int wn),some (.ref D),some (.ref F),some (.int (0+(i:Int))),x5,x6,x7,x8,none,none]) rfl ?_;refine ⟨_,rfl,l,4,rfl,st5,by decide,Xo (by decide),fun rw' H6 w0 w1 k6 st6=>gset (σ':=[some (.ref l),some (.int wn),some (.ref D),some (.ref F),some (.int (0+(i:Int))),some (.int rw'),x6,x7,x8,none,none]) rfl ?_⟩;have e6:=k6 _ _ nDl e5;have f6:=k6 _ _ nFl f5;have a6:Al (IsRh H6) us0 ms0:=a5.imp fun v m r=>r.tk (tkS k6 st5);have K6:Keep l H H6:=K5.trans k6
   have put:∀ {H8:Hp} {t:Addr} {us8:List V} {m8:List Rat} {σ:L2.St},(∃ x4 x5 x6 x7 x8,σ=[some (.ref l),some (.int wn),some (.ref D),some (.ref F),x4,x5,x6,x7,x8,none,none])→Keep l H6 H8→StAt H8 l→H8 t=some (.tup us8)→Al (IsQh H8) us8 m8→m8.length=wn→(∀ z∈m8,Dv (60^(i+1)) (2^(51*(i+1))) z)→∃ x4 x5 x6 x7 x8 us' ms',σ=[some (.ref l),some (.int wn),some (.ref D),some (.ref F),x4,x5,x6,x7,x8,none,none]∧Keep l H (upd H8 D (.lst (us0++[.ref t])))∧StAt (upd H8 D (.lst (us0++[.ref t]))) l∧upd H8 D (.lst (us0++[.ref t])) D=some (.lst us')∧upd H8 D (.lst (us0++[.ref t])) F=some (.lst fv)∧Al (IsRh (upd H8 D (.lst (us0++[.ref t])))) us' ms'∧ms'.length=i+1∧(∀ m∈ms',m.length=wn)∧(∀ m∈ms',∀ q∈m,Dv (60^(i+1)) (2^(51*(i+1))) q):=fun {H8 t us8 m8 σ} hσ k8 st8 ht a8 lm dm=>by
    obtain ⟨y4,y5,y6,y7,y8,rfl⟩:=hσ;have e8:=k8 _ _ nDl e6;have tk9:Tk H8 (upd H8 D (.lst (us0++[.ref t]))):=Tk.upd_lst e8;refine ⟨_,_,_,_,_,us0++[.ref t],ms0++[m8],rfl,fun b o n e=>by rw [Zp (Zl e nDH)];exact k8 _ _ n (K6 b o n e),st8.keep Keep.upd (Ne.symm nDl),Ze,by rw [Zp nDF.symm];exact k8 _ _ nFl f6,((a6.imp fun v m r=>(r.tk (tkS k8 st6)).tk tk9).snoc ⟨t,us8,rfl,tk9 _ _ ht,a8.imp fun v x r=>r.tk tk9⟩),by rw [n20_,l5];rfl,fun m hm=>?_,fun m hm z hz=>?_⟩
    · rcases n46_.mp hm with hm|hm
      · exact w5 m hm
      · rw [n15_.mp hm];exact lm
    · rcases n46_.mp hm with hm|hm
      · exact Zp1 (d5 m hm z hz)
      · rw [n15_.mp hm] at hz;exact dm z hz
   refine Zmz (fun c H7=>Same H6 H7∧(c=true→us0≠[])) (fun H7 h7=>?_) (fun H7 h7=>?_) (fun Q k=>?_)
   rotate_right
   · refine ⟨_,rfl,rfl,_,rfl,?_⟩;refine ite2 (fun _=>?_) (fun _=>k false _ ⟨Same.refl _,fun z=>by cases z⟩);refine ⟨_,rfl,z0_,fun e1 ne1=>?_⟩;have s8:=Same.new (o:=.lst []) ne1;exact ⟨D,e1,us0,rfl,rfl,SqL.of (s8 _ _ e6),SqL.of Ze,_,rfl,k _ _ ⟨s8,fun z=>by simpa using z⟩⟩
   · obtain ⟨s7,c7⟩:=h7;have pos:0<us0.length:=List.length_pos_iff.mpr (c7 rfl);have e7:=s7 _ _ e6;have st7:=st6.same s7;refine ⟨_,rfl,_,rfl,_,rfl,D,us0,rfl,.inl (SqL.of e7),l,us0.length,rfl,st7,by omega,Xo (by rw [p64];omega),fun ra H8 ra0 ra1 k8 st8=>?_⟩;obtain ⟨na,rfl⟩:=n75_ ra0;have na':na<ms0.length:=by omega
     have e8:=k8 _ _ nDl e7;have t68:Tk H6 H8:=fun b xs e=>tkS k8 st7 _ _ (s7 _ _ e);obtain ⟨va,eva,pa,vsa,rfl,hpa,ala⟩:=(a6.imp fun v m r=>r.tk t68).got (n0_ na');refine ⟨D,us0,na,.ref pa,rfl,rfl,SqL.of e8,Yh eva,?_⟩;refine ⟨_,rfl,l,rfl,st8,fun H9 pc c k9 st9 hpc hB=>?_⟩;have cv:=Zo5 hB.1 hB.2;refine ⟨z2_,fun pp npp=>?_⟩;generalize gG:upd H9 pp (.tup [.ref pa,.ref pc])=H10;obtain ⟨s10,h10⟩:=gen_upd gG npp;have st10:=st9.same s10;have e10:=s10 _ _ (k9 _ _ nDl e8);refine ⟨pp,_,rfl,SqT.of h10,rfl,_,_,rfl,_,_,rfl,rfl,Xq (σ':=[some (.ref l),some (.int wn),some (.ref D),some (.ref F),some (.int (0+(i:Int))),some (.int rw'),some (.ref pa),some (.ref pc),x8,none,none]) rfl ?_⟩;refine ⟨_,rfl,_,rfl,_,rfl,D,us0,rfl,.inl (SqL.of e10),l,us0.length,rfl,st10,by omega,Xo (by rw [p64];omega),fun rb H11 rb0 rb1 k11 st11=>?_⟩;obtain ⟨nb,rfl⟩:=n75_ rb0;have nb':nb<ms0.length:=by omega
     have e11:=k11 _ _ nDl e10;have t810:Tk H8 H10:=fun b xs e=>s10 _ _ (tkS k9 st8 _ _ e);have t811:Tk H8 H11:=fun b xs e=>tkS k11 st10 _ _ (t810 _ _ e);have K611:Keep l H6 H11:=((s7.keep.trans (k8.trans k9)).trans s10.keep).trans k11;obtain ⟨vb,evb,pb,vsb,rfl,hpb,alb⟩:=(a6.imp fun v m r=>(r.tk t68).tk t811).got (n0_ nb');have hpa11:=t811 _ _ hpa;have ala11:=ala.imp fun v x r=>r.tk t811;have hpc11:H11 pc=some (.tup (rt c)):=tkS k11 st10 _ _ (s10 _ _ hpc);have la:=ala.1;have lb:=alb.1;have wa:=w5 _ (n13_ na');have wb:=w5 _ (n13_ nb');refine ⟨D,us0,nb,.ref pb,rfl,rfl,SqL.of e11,Yh evb,gset (σ':=[some (.ref l),some (.int wn),some (.ref D),some (.ref F),some (.int (0+(i:Int))),some (.int rw'),some (.ref pa),some (.ref pc),some (.ref pb),none,none]) rfl ?_⟩;refine ⟨_,rfl,.inl ⟨rfl,_,SqL.of e11⟩,_,rfl,_,rfl,pa,pb,rfl,⟨_,SqT.of hpa11⟩,⟨_,SqT.of hpb⟩,fun E nE=>?_⟩;refine lc_Z (k:=.t) (l:=.t) (vs:=vsa) (ws:=vsb) IsQh (fun _ _ _ _ t r=>r.tk t) (List.zipWith (fun x y=>x+c*y) ms0[na] ms0[nb]) (by rw [n22_];omega) (by omega) nE hpa11 hpb (fun j v w Ha C hv hw sa ca=>?_) (fun H12 us12 s12 e12 a12=>?_)
     · obtain ⟨x,ex,px,rfl,hx⟩:=ala11.get hv;obtain ⟨y,ey,py,rfl,hy⟩:=alb.get hw;have bx:=b7 (Zqs (d5 _ (n13_ na') x (n4_ ex)) (by omega));have by':=b7 (Zqs (d5 _ (n13_ nb') y (n4_ ey)) (by omega))
       exact ⟨_,rfl,_,rfl,_,rfl,pc,py,c,y,rfl,sa _ _ hpc11,sa _ _ hy,hB.1.mono (by decide),by'.mono (by decide),fun z Hb sb hz=>⟨px,z,x,_,rfl,sb _ _ (sa _ _ hx),hz,bx.mono (by decide),(FM.B_mul hB.1 by').mono (by decide),fun z' Hc sc hz'=>ca _ _ _ (sb.trans sc) (by rw [n18_,ex,ey]) ⟨z',rfl,hz'⟩⟩⟩
     refine ⟨E,us12,rfl,.inl ⟨SqL.of e12,fun t nt=>?_⟩⟩;generalize gG:upd H12 t (.tup us12)=H13;obtain ⟨s13,h13⟩:=gen_upd gG nt;have s1113:=s12.trans s13;refine ⟨D,_,_,rfl,rfl,s1113 _ _ e11,by rw [sizeLine_eq];omega,?_⟩;refine put ⟨_,_,_,_,_,rfl⟩ (K611.trans s1113.keep) (st11.same s1113) h13 (a12.imp fun v x r=>r.tk s13.tk) (by rw [n22_];omega) fun z hz=>?_;obtain ⟨j,hj⟩:=n45_.mp hz;rw [n18_] at hj;split at hj
     · rename_i x y ex ey
       cases hj
       exact Zsj (d5 _ (n13_ na') x (n4_ ex)) (d5 _ (n13_ nb') y (n4_ ey)) cv
     · cases hj
   · obtain ⟨s7,_⟩:=h7;have e7:=s7 _ _ e6;have f7:=s7 _ _ f6;have st7:=st6.same s7;refine ⟨_,rfl,.inl ⟨rfl,_,SqL.of e7⟩,_,rfl,wn,rfl,by omega,by omega,fun E nE=>?_⟩;refine Zjb (n:=wn) (l:=l) (fun H v (x:Rat)=>IsQh H v x∧Dv 60 (2^50) x) (fun H1 H2 v x t r=>⟨r.1.tk t,r.2⟩) (by omega) (fun σ=>∃ u,σ=[u,some (.ref F),some (.int rw'),some (.ref l)]) ⟨_,rfl⟩ nE st7 (fun i H2 k hi=>hi) (fun H2 k=>n9_ _) (fun j x σ2 Ha Hb C hj ka la y o c=>?_) (fun H8 us8 ys k8 st8 e8 hy a8=>?_)
     · obtain ⟨u,rfl⟩:=o;obtain ⟨rfl,rfl⟩:=y;obtain ⟨vf,evf,ef⟩:=a3.got (n0_ (show j<fs.length by omega));subst ef;refine ⟨_,rfl,_,rfl,F,fv,(0+(j:Int)),_,rfl,rfl,SqL.of (ka _ _ nFl f7),by rw [Int.zero_add];exact Yh evf,_,rfl,rw',3,rfl,rfl,(by decide:(3:Int)≠0),rfl,_,rfl,?_⟩;refine ite2 (fun _=>?_) (fun _=>?_)
       · exact ⟨_,rfl,l,rfl,la,fun H5 p x k5 l5 hp hB=>c _ _ _ x ⟨_,rfl⟩ k5 l5 ⟨⟨p,rfl,hp⟩,Zo5 hB.1 hB.2⟩⟩
       · exact ⟨z2_,fun p np=>c _ _ _ 0 ⟨_,rfl⟩ (Keep.new np) (la.new np) ⟨⟨p,rfl,Ze⟩,Dv.zero⟩⟩
     refine ⟨E,us8,rfl,.inl ⟨SqL.of e8,fun t nt=>?_⟩⟩;generalize gG:upd H8 t (.tup us8)=H9;obtain ⟨s9,h9⟩:=gen_upd gG nt;refine ⟨D,_,_,rfl,rfl,s9 _ _ (k8 _ _ nDl e7),by rw [sizeLine_eq];omega,?_⟩;refine put ⟨_,_,_,_,_,rfl⟩ ((s7.keep.trans k8).trans s9.keep) (st8.same s9) h9 (a8.imp fun v x r=>r.1.tk s9.tk) hy fun z hz=>?_;obtain ⟨j,hj,e⟩:=n55_ hz;obtain ⟨v,_,r⟩:=a8.got (show ys[j]? = some z by rw [n0_ hj,e]);exact Zsz i r.2
 · obtain ⟨x4,x5,x6,x7,x8,us',ms',rfl,K5,st5,e5,f5,a5,l5,w5,d5⟩:=p;have l7:ms'.length≤7:=by rw [l5];show Int.toNat _≤7;omega
   have d7:∀ m∈ms',∀ q∈m,Dv (60^7) (2^(51*7)) q:=fun m hm q hq=>Zqs (d5 m hm q hq) (by show Int.toNat _≤7;omega);refine ⟨_,rfl,_,rfl,l,wn,rfl,st5,by omega,fun H6 vv vs k6 st6 hvv lvv dvv=>?_⟩;have a6:Al (IsRh H6) us' ms':=a5.imp fun v m r=>r.tk (tkS k6 st5);have e6:=k6 _ _ nDl e5;have lu':=a6.1;obtain ⟨pv,vu,rfl,hpv,alv⟩:=hvv;refine gset (σ':=[some (.ref l),some (.int wn),some (.ref D),some (.ref F),x4,x5,x6,x7,x8,some (.ref pv),none]) rfl ?_;refine ⟨_,rfl,D,rfl,⟨_,SqL.of e6⟩,fun E nE=>?_⟩;refine Zat (n:=us'.length) IsQh (fun H1 H2 v x k e r=>r.tk (Zb6 k e)) (fun i=>(ms'.map fun m=>rdot m vs)[i]?) (by omega) (fun σ=>∃ a,σ=[a,some (.ref pv)]) ⟨_,rfl⟩ nE (fun i H3 s hi=>Zar (k:=.l) (show SK.l.At H3 D us' from s _ _ e6) hi) (fun H3 s=>Y8 (k:=.l) (show SK.l.At H3 D us' from s _ _ e6) (n9_ _)) (fun i x σ2 H7 H8 C N hi s7 eD y ok c n=>?_) (fun H7 es s7 e7 a7=>?_)
   · obtain ⟨u1,rfl⟩:=ok;obtain ⟨rfl,ex⟩:=Xk (k:=.l) (show SK.l.At H7 D us' from s7 _ _ e6) y;obtain ⟨m,em,pm,mu,rfl,hpm,alm⟩:=a6.get ex;have mm:=n4_ em;refine Zbw ?_;refine ⟨_,rfl,_,rfl,pm,pv,.t,.t,mu,vu,m,vs,60^7,60,2^(51*7),2^50,rfl,s7 _ _ hpm,alm.imp fun v x r=>r.tk s7.tk,s7 _ _ hpv,alv.imp fun v x r=>r.tk s7.tk,d7 m mm,dvv,by decide,by decide,?_,?_,n41_ (by decide) (by decide),n41_ (by decide) (by decide),by rw [w5 m mm];omega,by rw [w5 m mm,lvv],fun H9 r s9 hr=>c _ _ _ _ ⟨_,rfl⟩ s9 (by rw [n8_,em];rfl) hr⟩
     · exact n10_ (show ((60:Int)^7*60).natAbs<2^50 by decide) (n23_ (by decide) (by decide))
     rw [← n63_];show 2^3*_<_
     rw [← n63_];exact n41_ (by decide) (by decide)
   rw [Z5 _ _ (by rw [n2_];exact lu')] at a7
   have dR:∀ z∈ms'.map (fun m=>rdot m vs),DW z:=fun z hz=>by
    obtain ⟨m,hm,rfl⟩:=n19_.mp hz
    have:=Zmj (c:=60^7*60) (A:=2^(51*7)*2^50) (List.zipWith (·*·) m vs) fun z hz=>by
     obtain ⟨j,hj⟩:=n45_.mp hz;rw [n18_] at hj;split at hj
     · rename_i x y ex ey
       cases hj
       exact (d7 m hm x (n4_ ex)).mul (dvv y (n4_ ey))
     · cases hj
    refine (show Dv 167961600000000 _ (rdot m vs) from this).mono ?_;have l4:(List.zipWith (·*·) m vs).length≤2^3:=by rw [n22_,w5 m hm];show _≤8;omega
    exact n28_ (n82_ _ l4) (by rw [← n63_,← n63_];exact n23_ (by decide) (by decide))
   have rok:∀ gs:List Rat,gs.length=ms'.length→(∀ z∈gs,DW z)→RowsOk ms' gs:=fun gs h1 h2=>by
    have w:∀ m∈ms',m.length=wid ms':=fun m hm=>by
     rw [w5 m hm];cases ms' with
     | nil=>cases hm
     | cons m0 ms0=>exact (w5 m0 n5_).symm
    refine ⟨w,?_,l7,h1,fun m hm q hq=>?_,h2⟩
    · cases hms:ms' with
      | nil=>exact n60_ _
      | cons m0 ms0 =>
        have:=w5 m0 (by rw [hms];exact n5_)
        show m0.length≤6
        omega
    · have:=(d7 m hm q hq).times (e:=60)
      exact (show Dv 167961600000000 _ q from this).mono (n28_ (n53_ _ (show (60:Int).natAbs≤2^6 by decide)) (by rw [← n63_];exact n23_ (by decide) (by decide)))
   have K7:Keep l H H7:=(K5.trans k6).trans s7.keep;have st7:=st6.same s7;have a7m:Al (IsRh H7) us' ms':=a6.imp fun v m r=>r.tk s7.tk;have e7D:=s7 _ _ e6;have nEl:E≠l:=st6.neN nE;have nEH:H E=none:=Zhu (K5.trans k6) st6 nE;have nDE:D≠E:=fun z=>by rw [z,nE] at e6;cases e6
   have les:=a7.1;rw [n2_] at les;refine gset (σ':=[some (.ref l),some (.int wn),some (.ref D),some (.ref F),x4,x5,x6,x7,x8,some (.ref pv),some (.ref E)]) rfl ?_;refine Zmz (fun c H9=>Keep l H7 H9∧StAt H9 l∧(c=true→es≠[])) (fun H9 h9=>?_) (fun H9 h9=>?_) (fun Q k=>?_)
   rotate_right
   · refine ⟨_,rfl,z0_,fun e1 ne1=>?_⟩;generalize gG:upd H7 e1 (.lst [])=H8;obtain ⟨s8,e18⟩:=gen_upd gG ne1;refine ⟨E,e1,es,rfl,rfl,SqL.of (s8 _ _ e7),SqL.of e18,_,rfl,?_⟩;refine ite2 (fun z=>?_) (fun _=>k _ _ ⟨s8.keep,st7.same s8,fun z=>by cases z⟩);exact ⟨_,rfl,l,3,rfl,st7.same s8,by decide,Xo (by decide),fun r2 H9 r20 r21 k9 st9=>⟨rfl,_,rfl,k _ _ ⟨s8.keep.trans k9,st9,fun _=>by simpa using z⟩⟩⟩
   · obtain ⟨k9,st9,c9⟩:=h9;have K9:=K7.trans k9;have e9D:=k9 _ _ nDl e7D;have e9E:=k9 _ _ nEl e7;have tk79:Tk H7 H9:=tkS k9 st7;refine ⟨_,rfl,l,rfl,st9,fun H10 pf xf k10 st10 hpf hB=>?_⟩;have e10E:=k10 _ _ nEl e9E;have e10D:=k10 _ _ nDl e9D;have pe:0<es.length:=List.length_pos_iff.mpr (c9 rfl);refine ⟨_,rfl,_,rfl,_,rfl,E,es,rfl,.inl (SqL.of e10E),l,es.length,rfl,st10,by omega,Xo (by rw [p64];omega),fun rc H11 rc0 rc1 k11 st11=>?_⟩;obtain ⟨nc,rfl⟩:=n75_ rc0;have nc':nc<es.length:=by omega
     have e11E:=k11 _ _ nEl e10E;have e11D:=k11 _ _ nDl e10D;have tk711:Tk H7 H11:=fun b xs e=>tkS k11 st10 _ _ (tkS k10 st9 _ _ (tk79 _ _ e));have hpf11:=tkS k11 st10 _ _ hpf;have K11:=(K9.trans k10).trans k11;refine ⟨E,es,(nc:Int),nc,rfl,rfl,e11E,Zjw (by omega) (by omega),?_⟩;have tkU:Tk H11 (upd H11 E (.lst (es.set nc (.ref pf)))):=Tk.upd_lst e11E;have fv:=Zo5 hB.1 hB.2;have KU:Keep l H (upd H11 E (.lst (es.set nc (.ref pf)))):=fun b o n e=>by rw [Zp (Zl e nEH)];exact K11 b o n e
     have al_set:Al (IsQh (upd H11 E (.lst (es.set nc (.ref pf))))) (es.set nc (.ref pf)) ((ms'.map fun m=>rdot m vs).set nc xf):=Zge (a7.imp fun v x r=>(r.tk tk711).tk tkU) ⟨pf,rfl,tkU _ _ hpf11⟩
     have dS:∀ z∈(ms'.map fun m=>rdot m vs).set nc xf,DW z:=fun z hz=>by
      rcases List.mem_or_eq_of_mem_set hz with hz|rfl
      · exact dR z hz
      · have:=fv.times (e:=60^7)
        exact (show Dv 167961600000000 _ z from this).mono (n28_ (n53_ _ (show ((60:Int)^7).natAbs≤2^42 by decide)) (by rw [← n63_];exact n23_ (by decide) (by decide)))
     refine ⟨_,rfl,D,us',rfl,.inl ⟨SqL.of (by rw [Zp nDE];exact e11D),fun t1 n1=>?_⟩⟩;have z1:=Same.new (o:=.tup us') n1;refine ⟨_,rfl,E,(es.set nc (.ref pf)),rfl,.inl ⟨SqL.of (z1 _ _ Ze),fun t2 n2=>?_⟩⟩;have z2:=Same.new (o:=.tup (es.set nc (.ref pf))) n2;refine ⟨z2_,fun p3 n3=>?_⟩;have z3:=Same.new (o:=.tup [.ref t1,.ref t2]) n3;have z23:=z2.trans z3;have z13:=z1.trans z23;exact q _ p3 (.ref t1) (.ref t2) ms' ((ms'.map fun m=>rdot m vs).set nc xf) (KU.trans z13.keep) (((st11.keep Keep.upd (Ne.symm nEl))).same z13) Ze ⟨t1,us',rfl,z23 _ _ Ze,((a7m.imp fun v m r=>(r.tk tk711).tk tkU)).imp fun v m r=>r.tk z13.tk⟩ ⟨t2,(es.set nc (.ref pf)),rfl,z3 _ _ Ze,(al_set).imp fun v x r=>r.tk z13.tk⟩ (rok _ (by rw [n47_,n2_]) dS)
   · obtain ⟨k9,st9,_⟩:=h9;have tk79:Tk H7 H9:=tkS k9 st7;refine ⟨_,rfl,D,us',rfl,.inl ⟨SqL.of (k9 _ _ nDl e7D),fun t1 n1=>?_⟩⟩;have z1:=Same.new (o:=.tup us') n1;refine ⟨_,rfl,E,es,rfl,.inl ⟨SqL.of (z1 _ _ (k9 _ _ nEl e7)),fun t2 n2=>?_⟩⟩;have z2:=Same.new (o:=.tup es) n2;refine ⟨z2_,fun p3 n3=>?_⟩;have z3:=Same.new (o:=.tup [.ref t1,.ref t2]) n3;have z23:=z2.trans z3;have z13:=z1.trans z23;exact q _ p3 (.ref t1) (.ref t2) ms' (ms'.map fun m=>rdot m vs) ((K7.trans k9).trans z13.keep) ((st9).same z13) Ze ⟨t1,us',rfl,z23 _ _ Ze,((a7m.imp fun v m r=>r.tk tk79)).imp fun v m r=>r.tk z13.tk⟩ ⟨t2,es,rfl,z3 _ _ Ze,((a7.imp fun v m r=>r.tk tk79)).imp fun v x r=>r.tk z13.tk⟩ (rok _ (by rw [n2_]) dR)
abbrev Y7:Stmt:=top 60
theorem Zc2 (F:Fun K "_law_mix_right" "_law_mix_right" Y7 f fd) (Cl_:a41_ P w K mg base) (Cd_:a30_ P w K mg base):FnOk P w K mg base CX0 45 f fd ["_law_lines","_law_rights_own","_law_mix"] Zmw:=by
 have sc:FnScope ["_law_lines","_law_rights_own","_law_mix","_law_place"] ["_law_lines","_law_rights_own","_law_mix"] (Zf Y7):=fsc (by decide +kernel);refine F.ok sc (fun vs H Q E h=>by obtain ⟨v,u,a,ms,qs,ys,rfl,_⟩:=h;rfl) fun cdv A outer s H vs Q E hr h=>?_;obtain ⟨v,u,a,ms,qs,ys,rfl,h1,h2,h3,R,M,S,q⟩:=h;have nd:=sc.nd;have hu:=Zi3 hr;refine' ⟨_,?term,?read⟩
 case term=>refine' @Zc _ _ _ _ _ ?g1 ?g2;(case g1=>refine' @Yv _ _ _ _ _ _ _ _ ?g3 (Zh (Zn Zcm)) Z3;case g3=>refine' @PW.pt _ _ _ ?g4;case g4=>refine' @Zex _ _ _ _ _ _ _ ?g5 ?g6;(case g5=>refine' @Xx _ _ _ _ ?g7;case g7=>refine' @Yg _ _ _ (Zk Zaj rfl T.b_isinstance Yq (Za (pv 2) (Za (Zbr (v:=.ty "tuple") rfl T.b_tuple Yr rfl) Zb rfl) rfl)) (fun _=>rfl));case g6=>refine' @Zex _ _ _ _ _ _ _ (Zq Ze1 (Zk Zt rfl T.b_len Y6 (Za (pv 2) Zb rfl)) (Zk Zt rfl T.b_len Y6 (Za (pv 0) Zb rfl)) (Zw _)) ?g8;case g8=>refine' @Zd7 _ _ _ _ (Zq (Zma hu) (Zj Cl_ hr (by decide) rfl (Za (pv 2) (Za (pv 1) Zb rfl) rfl)) (Zu (Za Zg (Za Zg Zb rfl) rfl)) (Zw _)));case g2=>refine' @Zc _ _ _ _ _ ?g9 ?ga;(case g9=>refine' @Xi _ _ _ _ _ _ _ _ PassesOwn.never rfl ?gb (Zi (i:=3) nd rfl (Or.inr rfl)) ?gc (by intro _ ;rfl);(case gb=>refine' @Yz _ _ _ _ _ _ rfl T.b_range ?gd (by rfl);case gd=>refine' @Za _ _ _ _ _ ?ge Zb rfl;case ge=>refine' @Zk _ _ _ _ _ _ _ _ _ Zt rfl T.b_len Y6 ?gf (by decide) (by decide) (by rfl) (by rfl);case gf=>refine' @Za _ _ _ _ _ ?gg Zb rfl;case gg=>refine' @Z1 _ _ _ _ _ _ _ Yp (pv 0) Zg (fun _ _=>rfl));case gc=>refine' @Zh _ _ _ ?gh;case gh=>refine' @Yv _ _ _ _ _ _ _ _ ?gi (Zh (Zn Zcm)) Z3;case gi=>refine' @Zq _ _ _ _ _ _ _ _ (Znb hu) ?gj (Zu (Za Zg (Za Zg Zb rfl) rfl)) (Zw _);case gj=>refine' @Zj _ _ _ _ _ _ _ _ _ _ _ Cl_ hr (by decide) rfl ?gk (by decide) (by rfl) (by rfl);case gk=>refine' @Za _ _ _ _ _ (pv 2) ?gl rfl;case gl=>refine' @Za _ _ _ _ _ ?gm Zb rfl;case gm=>refine' @Xb _ _ _ _ _ _ _ (["_law_row_here","_law_place"]) ([none,some 3]) _ _ _ _ _ rfl (Z7 (XN:=["_law_lines","_law_rights_own","_law_mix","_law_place"]) (Scope.names (Zf Y7)) rfl rfl rfl (fun _ h=>Z0 h) (by decide +kernel) rfl) (Zhm (pv 0)) (fun _ _ _ _=>pgB 0) (fun _ _ _ _=>Zs) (fun _ _ _ _=>Z1 (Zai K rfl) (pv 0) (pv 1) (fun _ _=>rfl)) (by intro _ ;rfl));case ga=>refine' @Zh _ _ _ ?gn;case gn=>refine' @Zn _ _ _ _ ?go;case go=>refine' @Zk _ _ _ _ _ _ _ _ _ (Zbv rfl) rfl T.b_all Zkv ?gp (by decide) (by decide) (by rfl) (by rfl);case gp=>refine' @Za _ _ _ _ _ ?gq Zb rfl;case gq=>refine' @Xb _ _ _ _ _ _ _ (["_law_one"]) ([none]) _ _ _ _ _ rfl (Z9 (by decide) rfl (by decide) rfl rfl) (Zhm (pv 2)) (fun _ _ _ _=>pgB 0) (fun _ _ _ _=>Zs) (fun _ _ _ _=>Zc1 (Zma hu) (Zj Cd_ hr (by decide) rfl (Za (Z1 (Zai K rfl) (pv 0) Zg (fun _ _=>rfl)) (Za (Z1 (Zai K rfl) (pv 0) Zg (fun _ _=>rfl)) Zb rfl) rfl)) (pv 0) (Zw _)) (by intro _ ;rfl)
 obtain ⟨va,vus,rfl,hva,alr⟩:=h1;obtain ⟨ua,uus,rfl,hua,alg⟩:=h2;obtain ⟨a',yus,e',hya,aly⟩:=h3;injection e' with e'
 subst e';have ly:=aly.1;have lv:=alr.1;have lM:=M.1;have m7:=R.m7;have w6:=R.w6;have rl:=R.rl
 have mp:0<ms.length:=by
  cases e:ms with
  | nil =>
    rw [e] at lM;rw [n86_.mp (show ys.length=0 from lM)] at M;exact absurd Z6 M.2.1
  | cons m r=>rw [n33_];omega
 obtain ⟨C,c1,cB,hC⟩:=S
 have dot:∀ {H1:Hp} {kx ky:SK} {x y:Addr} {us ws:List V} {zs:List Rat} {Q:VK},kx.At H1 x us→Al (IsQh H1) us ys→ky.At H1 y ws→Al (IsQh H1) ws zs→(∀ z∈zs,DW z)→zs.length=ms.length→(∀ (H':Hp) (r:V),Same H1 H'→IsQh H' r (rdot ys zs)→Q r H')→Zjk [.ref x,.ref y] H1 Q E0:=fun {H1 kx ky x y us ws zs Q} hx ax hy az dz lz k=>by
  refine ⟨x,y,kx,ky,us,ws,ys,zs,C,167961600000000,2^2905,2^410,rfl,hx,ax,hy,az,hC,dz,c1,by decide,?_,?_,n41_ (by decide) (by decide),n41_ (by decide) (by decide),by omega,by omega,k⟩
  · rw [n38_];exact n12_ (Nat.mul_le_mul cB (show (167961600000000:Int).natAbs≤2^48 by decide)) (by rw [← n63_];exact n41_ (by decide) (by decide))
  · show 2^3*_<_
    rw [← n63_,← n63_];exact n41_ (by decide) (by decide)
 refine ⟨_,rfl,_,_,_,_,rfl,TyOf.tup hya,rfl,true,rfl,iteF ?_⟩;refine ⟨_,rfl,a,yus,rfl,.inr (SqT.of hya),_,rfl,va,vus,rfl,.inr (SqT.of hva),rfl,false,congrArg V.bl (by rw [ly,lv,lM];simp),iteF ?_⟩;refine ⟨_,rfl,_,rfl,dot (kx:=.t) (ky:=.t) hya aly hua alg R.gb rl fun H1 r s1 hr=>?_⟩;obtain ⟨pr,rfl,hpr⟩:=hr;refine ⟨z2_,fun z nz=>?_⟩;have s2:Same H1 (upd H1 z (.tup [.int 0,.int 1])):=Same.new nz;have h2:upd H1 z (.tup [.int 0,.int 1]) z=some (.tup (rt 0)):=Ze;generalize upd H1 z (.tup [.int 0,.int 1])=H2 at s2 h2 ⊢;refine ⟨pr,z,_,0,rfl,rfl,s2 _ _ hpr,h2,false,congrArg V.bl (n30_ M.2.1),iteF ?_⟩;have s02:=s1.trans s2;obtain ⟨v0,ev0,p0,us0,rfl,hp0,al0⟩:=alr.got (n0_ mp);have l0:us0.length=wid ms:=by rw [al0.1];exact R.wd _ (n13_ mp)
 refine ⟨_,rfl,va,vus,0,.ref p0,rfl,rfl,SqT.of (s02 _ _ hva),Yh ev0,p0,us0,rfl,.inr (SqT.of (s02 _ _ hp0)),(us0.length:Int),rfl,by omega,by omega,?_⟩;refine Zae (fun i σ H3=>Same H H3∧∃ x,σ=[some (.ref va),some (.ref ua),some (.ref a),x]) ⟨s02,_,rfl⟩ (fun i σ H3 hi p=>?_) (fun σ H3 p=>?_)
 · obtain ⟨s3,x,rfl⟩:=p;have iw:i<wid ms:=by omega
   refine gset (σ':=[some (.ref va),some (.ref ua),some (.ref a),some (.int (0+(i:Int)))]) rfl ?_;refine ⟨_,rfl,_,rfl,va,rfl,⟨_,SqT.of (s3 _ _ hva)⟩,fun E nE=>?_⟩;refine lc_T (k:=.t) (vs:=vus) IsQh (fun _ _ _ _ t r=>r.tk t) (ms.map fun m=>m.getD i 0) (by rw [n2_];omega) (by omega) nE (show SK.t.At H3 va vus from s3 _ _ hva) (fun j v H4 C hv s4 c=>?_) (fun H4 eus s4 e4 a4=>?_)
   · obtain ⟨m,em,pm,mus,rfl,hpm,alm⟩:=alr.get hv;have mm:=n4_ em;have im:i<m.length:=by rw [R.wd m mm];exact iw
     obtain ⟨ve,eve,pe,rfl,hpe⟩:=alm.got (n0_ im);have s34:=s3.trans s4;exact ⟨_,rfl,_,rfl,pm,mus,(0+(i:Int)),.ref pe,rfl,rfl,SqT.of (s34 _ _ hpm),by rw [Int.zero_add];exact Yh eve,c _ _ _ (Same.refl _) (by rw [n8_,em];rfl) ⟨pe,rfl,by show H4 pe=some (.tup (rt (m.getD i 0)));rw [n1_,n0_ im];exact s34 _ _ hpe⟩⟩
   have s34:=s3.trans s4;refine dot (kx:=.t) (ky:=.l) (s34 _ _ hya) (aly.imp fun v x r=>r.tk s34.tk) e4 a4 (fun z hz=>?_) (by rw [n2_]) fun H5 r s5 hr=>?_
   · obtain ⟨m,hm,rfl⟩:=n19_.mp hz;have im:i<m.length:=by rw [R.wd m hm];exact iw
     rw [n1_,n0_ im];exact R.rb m hm _ (n13_ im)
   obtain ⟨pr,rfl,hpr⟩:=hr;refine ⟨z2_,fun z nz=>?_⟩;have s6:=Same.new (o:=.tup [.int 0,.int 1]) nz;exact ⟨pr,z,_,0,rfl,rfl,s6 _ _ hpr,Ze,false,congrArg V.bl (by rw [Zb3,M.2.2 i iw];decide),iteF ⟨(s34.trans s5).trans s6,_,rfl⟩⟩
 · obtain ⟨s3,x,rfl⟩:=p;refine ⟨_,rfl,a,rfl,⟨_,SqT.of (s3 _ _ hya)⟩,fun E nE=>?_⟩;refine lc_T (k:=.t) (vs:=yus) RB hRB (List.replicate ys.length true) (by rw [n14_];omega) (by omega) nE (show SK.t.At H3 a yus from s3 _ _ hya) (fun j v H4 C hv s4 c=>?_) (fun H4 eus s4 e4 a4=>?_)
   · obtain ⟨y,ey,py,rfl,hy⟩:=aly.get hv;have hy4:=s4 _ _ (s3 _ _ hy);refine ⟨_,rfl,py,rt y,0,.int y.num,rfl,rfl,SqT.of hy4,rfl,_,rfl,py,rt y,1,.int y.den,rfl,rfl,SqT.of hy4,rfl,y.num,y.den,rfl,FM.den_ne y,fun pl H5 s5 hl=>?_⟩;rw [Rat.num_divInt_den] at hl;exact ⟨_,rfl,pl,py,y,y,rfl,rfl,hl,s5 _ _ hy4,c _ _ true s5 (by rw [n26_,if_pos (n11_.mp ey).1]) (congrArg V.bl (by simp))⟩
   have eb:eus=(List.replicate ys.length true).map V.bl:=Al.bls a4;subst eb;refine ⟨E,_,rfl,SqL.of e4,?_⟩;rw [show (List.replicate ys.length true).all id=true from n56_.mpr fun x hx=>by rw [List.eq_of_mem_replicate hx];rfl];exact q _ (s3.trans s4)
abbrev Za2:Stmt:=top 61
theorem Zg0 (F:Fun K "_law_right" "_law_right" Za2 f fd) {Ph:Addr} (Cu_:a43_ P w K mg base) (Ct_:a44_ P w K mg base) (Cac_:a45_ P w K mg base) (Caj_:Cal P w K mg base "solved" 47 ["rows","rights"] (Za0 Ph)) (Ca2_:CalS P w K mg base "solved" 47 "rows" "rights" (Za0 Ph)):FnOk P w K mg base CX0 48 f fd ["_law_lines","_law_rights_own"] (Zgd Ph):=by
 have sc:FnScope ["_law_lines","_law_rights_own","_law_due","_law_kept","_law_found"] ["_law_lines","_law_rights_own"] (Zf Za2):=fsc (by decide +kernel);refine F.ok sc (fun vs H Q E h=>by obtain ⟨v,u,ms,qs,rfl,_⟩:=h;rfl) fun cdv A outer s H vs Q E hr h=>?_;obtain ⟨v,u,ms,qs,rfl,h1,h2,R,th,q⟩:=h;have nd:=sc.nd;refine' ⟨_,?term,?read⟩
 case term=>refine' @Zc _ _ _ _ _ ?g1 ?g2;(case g1=>refine' @Zb9 _ _ (2) (3) _ _ _ _ _ _ _ _ _ _ _ rfl nd rfl rfl (by decide) rfl rfl (Za (Zj Cac_ hr (by decide) rfl (Za (pv 0) (Za (pv 1) Zb rfl) rfl)) (Za (Zk (Za8 hr) rfl T.b_repr Zgl (Za (Zu (Za (pv 0) (Za (pv 1) Zb rfl) rfl)) Zb rfl)) Zb rfl) rfl) rfl (by rfl));case g2=>refine' @Zc _ _ _ _ _ ?g3 ?g4;(case g3=>refine' @Xi _ _ _ _ _ _ _ _ PassesOwn.never rfl ?g5 (Zi (i:=4) nd rfl (Or.inl rfl)) ?g6 (by intro _ ;rfl);(case g5=>refine' @Yi _ _ _ _ ?g7;case g7=>refine' @Y4 _ _ _ _ ?g8;case g8=>refine' @Za _ _ _ _ _ (Zj Caj_ hr (by decide) rfl (Za (pv 0) (Za (pv 1) Zb rfl) rfl)) ?g9 rfl;case g9=>refine' @Za _ _ _ _ _ ?ga Zb rfl;case ga=>refine' @Zqt _ _ _ _ _ _ _ _ _ _ _ Ca2_ hr (by decide) rfl ?gb (by rfl) (by rfl) (by decide) (by rfl);case gb=>refine' @Zn8 _ _ _ _ _ _ _ (pv 1) ?gc;case gc=>refine' @Zn8 _ _ _ _ _ _ _ (pv 0) Zrq);case g6=>refine' @Zc _ _ _ _ _ ?gd ?ge;(case gd=>refine' @Yv _ _ _ _ _ _ _ _ ?gf (Zh (Zn Zcm)) Z3;case gf=>refine' @PW.pt _ _ _ ?gg;case gg=>refine' @Zfk _ _ _ _ _ _ _ (Zq Znm (pv 2) Zc6 (Zw _)) ?gh;case gh=>refine' @Zcu _ _ _ _ ?gi;case gi=>refine' @Xx _ _ _ _ ?gj;case gj=>refine' @Yg _ _ _ ?gk (fun _=>rfl);case gk=>refine' @Zj _ _ _ _ _ _ _ _ _ _ _ Ct_ hr (by decide) rfl ?gl (by decide) (by rfl) (by rfl);case gl=>refine' @Za _ _ _ _ _ (pv 4) ?gm rfl;case gm=>refine' @Za _ _ _ _ _ ?gn Zb rfl;case gn=>refine' @Zu _ _ _ _ _ ?go;case go=>refine' @Za _ _ _ _ _ Zju ?gp rfl;case gp=>refine' @Za _ _ _ _ _ ?gq ?gr rfl;(case gq=>refine' @Z1 _ _ _ _ _ _ _ Yp (pv 2) Zg (fun _ _=>rfl));case gr=>refine' @Za _ _ _ _ _ ?gs Zb rfl;case gs=>refine' @Z1 _ _ _ _ _ _ _ Yp (pv 2) Zg (fun _ _=>rfl));case ge=>refine' @Zc _ _ _ _ _ ?gt ?gu;(case gt=>refine' @Yv _ _ _ _ _ _ _ _ ?gv (Zh (Zn Zcm)) Z3;case gv=>refine' @PW.pt _ _ _ ?gw;case gw=>refine' @Zfk _ _ _ _ _ _ _ (Zq Zny (pv 2) Zc6 (Zw _)) ?gx;case gx=>refine' @Zcu _ _ _ _ ?gy;case gy=>refine' @PW.pt _ _ _ ?gz;case gz=>refine' @Zex _ _ _ _ _ _ _ (Zq Ze1 (Zk Zt rfl T.b_len Y6 (Za (pv 4) Zb rfl)) Zg (Zw _)) ?g10;case g10=>refine' @Zd7 _ _ _ _ ?g11;case g11=>refine' @Zq _ _ _ _ _ _ _ _ Ze1 ?g12 Zju (Zw _);case g12=>refine' @Z1 _ _ _ _ _ _ _ Yp (pv 4) Zg (fun _ _=>rfl));case gu=>refine' @Zh _ _ _ ?g13;case g13=>refine' @Yv _ _ _ _ _ _ _ _ ?g14 (Zh (Zn Zcm)) Z3;case g14=>refine' @PW.pt _ _ _ ?g15;case g15=>refine' @Zfk _ _ _ _ _ _ _ (Zq Zny (pv 2) Zc6 (Zw _)) ?g16;case g16=>refine' @Zcu _ _ _ _ ?g17;case g17=>refine' @Xx _ _ _ _ ?g18;case g18=>refine' @Yg _ _ _ ?g19 (fun _=>rfl);case g19=>refine' @Zj _ _ _ _ _ _ _ _ _ _ _ Cu_ hr (by decide) rfl ?g1a (by decide) (by rfl) (by rfl);case g1a=>refine' @Za _ _ _ _ _ (pv 0) ?g1b rfl;case g1b=>refine' @Za _ _ _ _ _ (pv 1) ?g1c rfl;case g1c=>refine' @Za _ _ _ _ _ ?g1d Zb rfl;case g1d=>refine' @Z1 _ _ _ _ _ _ _ Yp (pv 4) Zg (fun _ _=>rfl));case g4=>refine' @Zh _ _ _ ?g1e;case g1e=>refine' @Zn _ _ _ _ ?g1f;case g1f=>refine' @Zps _ _ _ _ _ _ _ (Zj Ct_ hr (by decide) rfl (Za (Zj Caj_ hr (by decide) rfl (Za (pv 0) (Za (pv 1) Zb rfl) rfl)) (Za (pv 4) Zb rfl) rfl)) (Zpw (Zc1 Zez (Zk (Za8 hr) rfl T.b_repr Zgl (Za (Zu (Za (pv 0) (Za (pv 1) Zb rfl) rfl)) Zb rfl)) (pv 3) (Zw _)))
 obtain ⟨n1,n2,n3⟩:=Zo4 R;obtain ⟨m1,m2,m3⟩:=Zpn R;refine ⟨_,rfl,_,rfl,v,u,ms,qs,rfl,h1,h2,R,fun H1 r s1 due=>?_⟩;refine ⟨_,rfl,_,rfl,z2_,fun p np=>?_⟩;generalize gG:upd H1 p (.tup [v,u])=H2;obtain ⟨s2,e2⟩:=gen_upd gG np;have s02:=s1.trans s2;refine ⟨(fun _=>False),411,.ref p,_,rfl,Zne R e2 (h1.tk s02.tk) (h2.tk s02.tk),by decide,m1,m2,m3,_,_,rfl,Xq (σ':=[some v,some u,some r,some (.str (PyData.tuple [X5 ms,rowD qs]).shown),none]) rfl ?_⟩;have th2:=th.same s02;refine ⟨_,rfl,_,rfl,v,u,ms,qs,rfl,h1.tk s02.tk,h2.tk s02.tk,R,th2,fun H3 p1 kp3 th3 T1=>?_⟩;have t03:Tk H H3:=fun b us e=>Zoz th2 kp3 _ _ (s02 _ _ e);refine ⟨_,rfl,_,rfl,_,_,rfl,v,u,ms,qs,rfl,h1.tk t03,h2.tk t03,R,th3,fun H4 p2 kp4 th4 T2=>?_⟩;have t34:=Zoz th3 kp4;refine ⟨z2_,fun L nL=>?_⟩;generalize gG:upd H4 L (.lst [.ref p1,.ref p2])=H5;obtain ⟨s5,e5⟩:=gen_upd gG nL;have T1':=(T1.tk t34).tk s5.tk;have T2':=T2.tk s5.tk;have t05:Tk H H5:=fun b us e=>s5 _ _ (t34 _ _ (t03 _ _ e));have t15:Tk H1 H5:=fun b us e=>s5 _ _ (t34 _ _ (Zoz th2 kp3 _ _ (s2 _ _ e)));have kp5:Xp Ph H H5:=fun b o n e=>s5 _ _ (kp4 b o n (kp3 b o n (s02 _ _ e)));have th5:=th4.same s5;refine ⟨L,rfl,⟨_,SqL.of e5⟩,?_⟩;refine Xr (n:=2) (fun i σ H6=>Same H5 H6∧∃ x,σ=[some v,some u,some r,some (.str (PyData.tuple [X5 ms,rowD qs]).shown),x]∧(0<i→∃ pf,x=some (.ref pf)∧Told H6 pf ms qs)) ⟨Same.refl _,_,rfl,fun z=>by omega⟩ (fun i σ H6 hi p=>⟨_,[V.ref p1,.ref p2][i]'hi,SqL.of (p.1 _ _ e5),n0_ hi⟩) (fun σ H6 p=>⟨_,SqL.of (p.1 _ _ e5),n9_ _⟩) (fun i x σ H6 H6' hi y p=>?_) (fun σ H6 p=>?_)
 · obtain ⟨s6,x',rfl,hx⟩:=p;obtain ⟨rfl,yx⟩:=y;have ex:=yx _ (SqL.of (s6 _ _ e5))
   obtain ⟨pf,rfl,TF⟩:∃ pf,x=.ref pf∧Told H6' pf ms qs:=by
    match i,hi,ex with
    | 0,_,ex=>cases ex;exact ⟨p1,rfl,T1'.tk s6.tk⟩
    | 1,_,ex=>cases ex;exact ⟨p2,rfl,T2'.tk s6.tk⟩
   refine gset (σ':=[some v,some u,some r,some (.str (PyData.tuple [X5 ms,rowD qs]).shown),some (.ref pf)]) rfl ?_;have t16:Tk H1 H6':=fun b us e=>s6 _ _ (t15 _ _ e);have t06:Tk H H6':=fun b us e=>s6 _ _ (t05 _ _ e);cases es:slv ms qs with
   | none =>
     rw [es] at due;have due:r=.non:=due;subst due
     rcases TF with ⟨a,f,xs,_,_,_,z⟩|⟨a,ys,hp,hr',_,em,mx,sm⟩
     · rw [es] at z;cases z
     refine ⟨_,rfl,rfl,false,congrArg V.bl (by simp),iteF (iteF ?_)⟩;refine ⟨_,rfl,rfl,true,congrArg V.bl (by simp),iteT ⟨_,rfl,pf,_,rfl,.inr (SqT.of hp),rfl,false,congrArg V.bl (by simp),iteF ⟨_,rfl,pf,_,0,_,rfl,rfl,SqT.of hp,rfl,rfl,false,congrArg V.bl (by decide),iteF ?_⟩⟩⟩;exact ⟨_,rfl,rfl,true,congrArg V.bl (by simp),iteT ⟨_,rfl,_,rfl,_,rfl,pf,_,1,.ref a,rfl,rfl,SqT.of hp,rfl,v,u,a,ms,qs,ys,rfl,h1.tk t06,h2.tk t06,hr',R,mx,sm,fun H7 s7=>⟨true,rfl,iteF ⟨s6.trans s7,_,rfl,fun _=>⟨pf,rfl,.inr ⟨a,ys,s7 _ _ hp,hr'.tk s7.tk,es,em,mx,sm⟩⟩⟩⟩⟩⟩
   | some xs =>
     rw [es] at due;obtain ⟨pd,a,f,rfl,hd,ha,hf⟩:=due;have hd6:=t16 _ _ hd;refine ⟨_,rfl,rfl,true,congrArg V.bl (by simp),iteT ⟨_,rfl,_,rfl,pd,_,0,.ref a,rfl,rfl,SqT.of hd6,rfl,_,rfl,pd,_,1,.ref f,rfl,rfl,SqT.of hd6,rfl,z3_,fun pt npt=>?_⟩⟩;generalize gG:upd H6' pt (.tup [.str "solved",.ref a,.ref f])=H7;obtain ⟨s7,e7⟩:=gen_upd gG npt;refine ⟨(fun _=>False),2906,.ref pf,.ref pt,Zeu ms qs,rfl,(TF.tk s7.tk).dt R,Zhe R e7 ((ha.tk t16).tk s7.tk) (s7 _ _ (t16 _ _ hf)) es,by decide,n1,n2,n3,true,rfl,iteF ?_⟩;refine ⟨_,rfl,rfl,false,congrArg V.bl (by simp),iteF (iteF ?_)⟩;exact ⟨_,rfl,rfl,false,congrArg V.bl (by simp),iteF (iteF ⟨s6.trans s7,_,rfl,fun _=>⟨pf,rfl,TF.tk s7.tk⟩⟩)⟩
 · obtain ⟨s6,x,rfl,hx⟩:=p;obtain ⟨pf,rfl,TF⟩:=hx (by decide);have th6:=th5.same s6;have t06:Tk H H6:=fun b us e=>s6 _ _ (t05 _ _ e);refine ⟨_,rfl,_,rfl,v,u,ms,qs,rfl,h1.tk t06,h2.tk t06,R,th6,fun H7 p7 kp7 th7 T7=>?_⟩;have t67:=Zoz th6 kp7;have t07:Tk H H7:=fun b us e=>t67 _ _ (t06 _ _ e);refine ⟨_,rfl,(fun _=>False),2906,.ref p7,.ref pf,_,rfl,T7.dt R,(TF.tk t67).dt R,by decide,n1,n2,n3,true,rfl,iteT ?_⟩;refine ⟨_,rfl,_,rfl,z2_,fun p8 np8=>?_⟩;generalize gG:upd H7 p8 (.tup [v,u])=H8;obtain ⟨s8,e8⟩:=gen_upd gG np8;have t08:Tk H H8:=fun b us e=>s8 _ _ (t07 _ _ e);refine ⟨(fun _=>False),411,.ref p8,_,rfl,Zne R e8 (h1.tk t08) (h2.tk t08),by decide,m1,m2,m3,_,rfl,rfl,?_⟩;rw [n32_ rfl];exact q _ (fun b o n e=>s8 _ _ (kp7 b o n (s6 _ _ (kp5 b o n e)))) (th7.same s8)
abbrev Zf7:Stmt:=top 62
theorem Zse (F:Fun K "law" "law" Zf7 f fd) {Ph:Addr} (Ck_:Cal P w K mg base "_law_right" 48 ["_law_lines","_law_rights_own"] (Zgd Ph)) (Can_:a46_ P w K mg base) (Cak_:a47_ P w K mg base):FnOk P w K mg base CX0 49 f fd ["_law_script"] (Zkh K Ph):=by
 have sc:FnScope ["_law_script","_law_k","_law_state_here","_law_turn","_law_lines","_law_rights_own"] ["_law_script"] (Zf Zf7):=fsc (by decide +kernel);refine F.ok sc (fun vs H Q E h=>by obtain ⟨a,ns,rfl,_⟩:=h;rfl) fun cdv A outer s H vs Q E hr h=>?_;obtain ⟨a,ns,rfl,hS,hlen,th,q⟩:=h;have nd:=sc.nd;refine' ⟨_,?term,?read⟩
 case term=>refine' @Zc _ _ _ _ _ ?g1 ?g2;(case g1=>refine' @Yv _ _ _ _ _ _ _ _ ?g3 (Zh (Zn Zcm)) Z3;case g3=>refine' @PW.pt _ _ _ ?g4;case g4=>refine' @Zex _ _ _ _ _ _ _ ?g5 ?g6;(case g5=>refine' @Xx _ _ _ _ ?g7;case g7=>refine' @Yg _ _ _ (Zj Ck_ hr (by decide) rfl (Za (Zu Zb) (Za (Zu Zb) Zb rfl) rfl)) (fun _=>rfl));case g6=>refine' @Zex _ _ _ _ _ _ _ ?g8 ?g9;(case g8=>refine' @Xx _ _ _ _ ?ga;case ga=>refine' @Yg _ _ _ (Zj Ck_ hr (by decide) rfl (Za (Zu (Za (Zu Zb) Zb rfl)) (Za (Zu (Za (Zu (Za Zg (Za Zg Zb rfl) rfl)) Zb rfl)) Zb rfl) rfl)) (fun _=>rfl));case g9=>refine' @Zd7 _ _ _ _ ?gb;case gb=>refine' @Xx _ _ _ _ ?gc;case gc=>refine' @Yg _ _ _ (Zj Ck_ hr (by decide) rfl (Za (Zu (Za (Zu Zb) (Za (Zu Zb) Zb rfl) rfl)) (Za (Zu (Za (Zu (Za Zg (Za Zg Zb rfl) rfl)) (Za (Zu (Za Zg (Za Zg Zb rfl) rfl)) Zb rfl) rfl)) Zb rfl) rfl)) (fun _=>rfl));case g2=>refine' @Zc _ _ _ _ _ ?gd (Zh (Zn Zcm));case gd=>refine' @Xi _ _ _ _ _ _ _ _ PassesOwn.never rfl ?ge (Zi (i:=1) nd rfl (Or.inl rfl)) ?gf (by intro _ ;rfl);(case ge=>refine' @Yz _ _ _ _ _ _ rfl T.b_range (Za (Zk (Zcb rfl) rfl T.b_max Zjt (Za Zg (Za (Zk (Zek rfl) rfl T.b_min Zka (Za (Zk Zt rfl T.b_len Y6 (Za (pv 0) Zb rfl)) (Za Zg Zb rfl) rfl)) Zb rfl) rfl)) Zb rfl) (by rfl));case gf=>refine' @Zc _ _ _ _ _ ?gg ?gh;(case gg=>refine' @Zv _ _ (2) _ _ _ _ nd rfl (Or.inl rfl) (Zj Cak_ hr (by decide) rfl (Za (pv 0) (Za (pv 1) Zb rfl) rfl)) (by rfl) (by first|exact Or.inl rfl|exact Or.inr rfl|assumption));case gh=>refine' @Zh _ _ _ ?gi;case gi=>refine' @Xi _ _ _ _ _ _ _ _ PassesOwn.never rfl ?gj (Zi (i:=3) nd rfl (Or.inl rfl)) ?gk (by intro _ ;rfl);(case gj=>refine' @Yz _ _ _ _ _ _ rfl T.b_range (Za Zg Zb rfl) (by rfl));case gk=>refine' @Zc _ _ _ _ _ ?gl ?gm;(case gl=>refine' @Yn _ _ _ _ _ _ (Zj Can_ hr (by decide) rfl (Za (pv 2) Zb rfl)) ?gn (by rfl) (by rfl) (by rfl);case gn=>refine' @Zy _ _ _ _ _ (2) rfl (Zd (Zi (i:=4) nd rfl (Or.inl rfl)) (Zd (Zi (i:=5) nd rfl (Or.inl rfl)) Zr)) (by rfl) (by rfl));case gm=>refine' @Zh _ _ _ ?go;case go=>refine' @Yv _ _ _ _ _ _ _ _ ?gp (Zh (Zn Zcm)) Z3;case gp=>refine' @Xx _ _ _ _ ?gq;case gq=>refine' @Yg _ _ _ (Zj Ck_ hr (by decide) rfl (Za (pv 4) (Za (pv 5) Zb rfl) rfl)) (fun _=>rfl)
 refine ⟨z0_,fun p1 np1=>?_⟩;generalize gG:upd H p1 (.tup [])=Ha;obtain ⟨zp1,yp1⟩:=gen_upd gG np1;refine ⟨z0_,fun p2 np2=>?_⟩;generalize gG:upd Ha p2 (.tup [])=Hb;obtain ⟨zp2,yp2⟩:=gen_upd gG np2;have s1:=zp1.trans zp2;refine ⟨.ref p1,.ref p2,[],[],rfl,⟨p1,[],rfl,zp2 _ _ yp1,.nil⟩,⟨p2,[],rfl,yp2,.nil⟩,ok0,th.same s1,fun Hc kc thc=>⟨true,rfl,iteF ?_⟩⟩;refine ⟨z0_,fun q1 nq1=>?_⟩;generalize gG:upd Hc q1 (.tup [])=Hd;obtain ⟨zq1,yq1⟩:=gen_upd gG nq1;refine ⟨z1_,fun q2 nq2=>?_⟩;generalize gG:upd Hd q2 (.tup [.ref q1])=He;obtain ⟨zq2,yq2⟩:=gen_upd gG nq2;refine ⟨z2_,fun q3 nq3=>?_⟩;generalize gG:upd He q3 (.tup [.int 0,.int 1])=Hf;obtain ⟨zq3,yq3⟩:=gen_upd gG nq3;refine ⟨z1_,fun q4 nq4=>?_⟩;generalize gG:upd Hf q4 (.tup [.ref q3])=Hg;obtain ⟨zq4,yq4⟩:=gen_upd gG nq4;have s34:=zq3.trans zq4;have s24:=zq2.trans s34;have s2:=zq1.trans s24;refine ⟨.ref q2,.ref q4,[[]],[0],rfl,⟨q2,_,rfl,s34 _ _ yq2,Al.one ⟨q1,_,rfl,s24 _ _ yq1,.nil⟩⟩,⟨q4,_,rfl,yq4,Al.one ⟨q3,rfl,zq4 _ _ yq3⟩⟩,ok1,thc.same s2,fun Hh kh thh=>⟨true,rfl,iteF ?_⟩⟩;refine ⟨z0_,fun r1 nr1=>?_⟩;generalize gG:upd Hh r1 (.tup [])=Hi;obtain ⟨zr1,yr1⟩:=gen_upd gG nr1;refine ⟨z0_,fun r2 nr2=>?_⟩;generalize gG:upd Hi r2 (.tup [])=Hj;obtain ⟨zr2,yr2⟩:=gen_upd gG nr2;refine ⟨z2_,fun r3 nr3=>?_⟩;generalize gG:upd Hj r3 (.tup [.ref r1,.ref r2])=Hk;obtain ⟨zr3,yr3⟩:=gen_upd gG nr3;refine ⟨z2_,fun r4 nr4=>?_⟩;generalize gG:upd Hk r4 (.tup [.int 0,.int 1])=Hl;obtain ⟨zr4,yr4⟩:=gen_upd gG nr4;refine ⟨z2_,fun r5 nr5=>?_⟩;generalize gG:upd Hl r5 (.tup [.int 1,.int 2])=Hm;obtain ⟨zr5,yr5⟩:=gen_upd gG nr5;refine ⟨z2_,fun r6 nr6=>?_⟩;generalize gG:upd Hm r6 (.tup [.ref r4,.ref r5])=Hn;obtain ⟨zr6,yr6⟩:=gen_upd gG nr6;have s56:=zr5.trans zr6;have s46:=zr4.trans s56;have s36:=zr3.trans s46;have s26:=zr2.trans s36;have s3:=zr1.trans s26;refine ⟨.ref r3,.ref r6,[[],[]],[0,Rat.divInt 1 2],rfl,⟨r3,_,rfl,s46 _ _ yr3,Al.two ⟨r1,_,rfl,s26 _ _ yr1,.nil⟩ ⟨r2,_,rfl,s36 _ _ yr2,.nil⟩⟩,⟨r6,_,rfl,yr6,Al.two ⟨r4,rfl,s56 _ _ yr4⟩ ⟨r5,rfl,zr6 _ _ yr5⟩⟩,ok2,thh.same s3,fun Ho ko tho=>⟨true,rfl,iteF ?_⟩⟩;have K0:Xp Ph H Ho:=fun b o n e=>ko b o n (s3 _ _ (kh b o n (s2 _ _ (kc b o n (s1 _ _ e)))));have hSo:=Zp0 hS K0 th;refine ⟨_,rfl,a,_,rfl,.inl hSo,_,_,rfl,_,_,rfl,_,rfl,?_,?_,?_⟩
 · split<;>(try split)<;>omega
 · rw [n2_];split<;>(try split)<;>omega
 refine Zae (fun i σ H1=>∃ x1 x2 x3 x4 x5,σ=[some (.ref a),x1,x2,x3,x4,x5]∧Xp Ph H H1∧TabF H1 Ph "head_of.<locals>.<lambda>") ⟨_,_,_,_,_,rfl,K0,tho⟩ ?_ ?_
 rotate_left
 · rintro σ H1 ⟨x1,x2,x3,x4,x5,rfl,_⟩
   exact q H1
 rintro i σ H1 _ ⟨x1,x2,x3,x4,x5,rfl,kp1,th1⟩
 have hS1:=Zp0 hS kp1 th;refine ⟨_,rfl,_,rfl,a,ns,i,by rw [Int.zero_add],hS1,fun l H2 nl s2 st2=>?_⟩;refine ⟨_,rfl,by omega,by omega,?_⟩;refine Zae (fun i σ H3=>∃ x1 x3 x4 x5,σ=[some (.ref a),x1,some (.ref l),x3,x4,x5]∧StAt H3 l∧Xp Ph H1 H3∧TabF H3 Ph "head_of.<locals>.<lambda>") ⟨_,_,_,_,rfl,st2,fun _ _ _ e=>s2 _ _ e,th1.same s2⟩ ?_ ?_
 rotate_left
 · rintro σ H3 ⟨x1,x3,x4,x5,rfl,st3,kp3,th3⟩
   exact ⟨_,_,_,_,_,rfl,fun b o n e=>kp3 b o n (kp1 b o n e),th3⟩
 rintro i2 σ H3 _ ⟨x1,x3,x4,x5,rfl,st3,kp3,th3⟩
 refine ⟨_,rfl,l,rfl,st3,fun H4 pp v u ms qs k4 st4 hpp hv hu' R=>?_⟩;obtain ⟨_,el3⟩:=st3.lst';have th4:=th3.keepL el3 k4;refine ⟨pp,_,rfl,SqT.of hpp,rfl,_,_,rfl,_,_,rfl,rfl,Xq (σ':=[some (.ref a),x1,some (.ref l),some (.int (0+(i2:Int))),some v,some u]) rfl ?_⟩;refine ⟨_,rfl,_,rfl,v,u,ms,qs,rfl,hv,hu',R,th4,fun H5 kp5 th5=>⟨true,rfl,iteF ⟨_,_,_,_,rfl,?_,fun b o n e=>kp5 b o n (k4 _ _ (Zl e nl) (kp3 b o n e)),th5⟩⟩⟩;obtain ⟨c1,c2,c3,e,r⟩:=st4;exact ⟨c1,c2,c3,Zs3 th4 kp5 (by intro ps z;cases z) e,r⟩
end
def BkK (K:PySem.W.Frag):Prop:=∃ (bm:Addr) (o:Obj),PySem.W.nsIn K mainGlobals "__builtins__" = some (some (.ref bm))∧bm≠builtinsNs∧bm≠mainGlobals∧K.lookup bm=some o∧o.cls=.type "module" ∧ o.dict=some builtinsNs∧o.data=.plain
theorem BkK.blt {K:PySem.W.Frag} {h:Heap} {mg:Str→Option Value} (z:BkK K) (X:K.In h) (G:h.Ns mainGlobals mg):BltK K mg:=let ⟨bm,o,e,r⟩:=z;⟨bm,o,n89_ X G e,r⟩
structure Lk (K:PySem.W.Frag) (b:Str) (st:Stmt) (f:Addr):Prop where
 fn:∃ fd,Fun K b b st f fd
 a:PySem.W.nsIn K mainGlobals b=some (some (.ref f))
 k:PySem.W.keepIn K (.ref f)=true
theorem Zty {K:PySem.W.Frag} {b:Str} {st:Stmt} {f:Addr} {od an:Option Addr} {sl:Array (Option Value)} {oc kV dc pm cd ct:Value} (a:PySem.W.nsIn K mainGlobals b=some (some (.ref f))) (l:K.lookup f=some ⟨oc,od,.func (PySem.W.fnOf b b (Xa st) (Yw st) (Zf st) .none kV dc pm an cd ct),sl⟩) (c:PySem.W.codeIn K cd b=true) (k:PySem.W.keepIn K (.ref f)=true):Lk K b st f:=⟨⟨_,Zm2 (st:=st) l c k⟩,a,k⟩
theorem Lk.cal {P:Program} {w:World} {K:PySem.W.Frag} {h:Heap} {mg:Str→Option Value} {base:Heap} {b:Str} {st:Stmt} {f:Addr} {k:Nat} {ps:List Str} {sp:Sp} (L:Lk K b st f) (X:K.In h) (G:h.Ns mainGlobals mg) (ok:∀ {fd},Fun K b b st f fd→FnOk P w K mg base CX0 k f fd ps sp) (hb:∀ (kV doc pm:Value) (an:Option Addr) (cdv ct:Value) (us:List Value),us.length=ps.length→bindArgs (PySem.W.fnOf b b (Xa st) (Yw st) (Zf st) .none kV doc pm an cdv ct) ⟨us,[]⟩=pure (ps.zip us)):Cal P w K mg base b k ps sp :=
 let ⟨_,F⟩:=L.fn
 ⟨f,_,ok F,n89_ X G L.a,L.k,F.binds (ps:=ps) hb⟩
theorem ln1 {P:List Value→Prop} (h:∀ x0,P [x0]):∀ us:List Value,us.length=1→P us:=fun us e=>match us,e with|[x0],_=>h x0
theorem ln2 {P:List Value→Prop} (h:∀ x0 x1,P [x0,x1]):∀ us:List Value,us.length=2→P us:=fun us e=>match us,e with|[x0,x1],_=>h x0 x1
theorem ln3 {P:List Value→Prop} (h:∀ x0 x1 x2,P [x0,x1,x2]):∀ us:List Value,us.length=3→P us:=fun us e=>match us,e with|[x0,x1,x2],_=>h x0 x1 x2
theorem ln4 {P:List Value→Prop} (h:∀ x0 x1 x2 x3,P [x0,x1,x2,x3]):∀ us:List Value,us.length=4→P us:=fun us e=>match us,e with|[x0,x1,x2,x3],_=>h x0 x1 x2 x3
theorem Zs1 {l:PySem.W.OpenLaw} {w:World} {K:PySem.W.Frag} {h:Heap} {mg:Str→Option Value} {fa:Addr} (X:K.In h) (G:h.Ns mainGlobals mg) (hfa:mg "law" = some (.ref fa))
 {f_0:Addr} (h_0:Lk K "plain_divisor" Xs f_0)
 {f_1:Addr} (h_1:Lk K "few_steps" Zbo f_1)
 {f_2:Addr} (h_2:Lk K "mixed_by" Zck f_2)
 {f_3:Addr} (h_3:Lk K "shrinking" Zay f_3)
 {f_4:Addr} (h_4:Lk K "divisor" Zcp f_4)
 {f_5:Addr} (h_5:Lk K "reduced" Zd8 f_5)
 {f_6:Addr} (h_6:Lk K "multiple" Zc0 f_6)
 {f_7:Addr} (h_7:Lk K "in_common" Zbl f_7)
 {f_8:Addr} (h_8:Lk K "scale_of" Zcr f_8)
 {f_9:Addr} (h_9:Lk K "whole" Zgw f_9)
 {f_10:Addr} (h_10:Lk K "cleared" Za3 f_10)
 {f_11 cc_11 P_11:Addr} {od_11 an_11:Option Addr} {sl_11:Array (Option Value)} {oc_11 kV_11 dc_11 pm_11 ct_11:Value} (hd_11:PySem.W.codeHdIn K cc_11 P_11=true)
 (a_11:PySem.W.nsIn K mainGlobals "head_of" = some (some (.ref f_11)))
 (l_11:K.lookup f_11=some ⟨oc_11,od_11,.func (PySem.W.fnOf "head_of" "head_of" (Xa Xv) (Yw Xv) (Zf Xv) .none kV_11 dc_11 pm_11 an_11 (.ref cc_11) ct_11),sl_11⟩)
 (c_11:PySem.W.codeIn K (.ref cc_11) "head_of" = true) (k_11:PySem.W.keepIn K (.ref f_11)=true)
 {f_12:Addr} (h_12:Lk K "stepped" Zb8 f_12)
 {f_13:Addr} (h_13:Lk K "levelled" Zbi f_13)
 {f_14:Addr} {od_14 an_14:Option Addr} {sl_14:Array (Option Value)} {oc_14 kV_14 dc_14 pm_14 cd_14 ct_14:Value}
 {dT_14:Addr} {dt_14:Tok} {dn_14:Nat} {oo_14:Option Addr} {os_14:Array (Option Value)} {occ_14:Value}
 (a_14:PySem.W.nsIn K mainGlobals "mixed" = some (some (.ref f_14)))
 (l_14:K.lookup f_14=some ⟨oc_14,od_14,.func (PySem.W.fnOf "mixed" "mixed" (Xa Zcn) (Yw Zcn) (Zf Zcn) (.ref dT_14) kV_14 dc_14 pm_14 an_14 cd_14 ct_14),sl_14⟩)
 (c_14:PySem.W.codeIn K cd_14 "mixed" = true) (k_14:PySem.W.keepIn K (.ref f_14)=true)
 (t_14:K.lookup dT_14=some ⟨occ_14,oo_14,.seq #[.int 1 dt_14] dn_14,os_14⟩)
 {f_15:Addr} (h_15:Lk K "put_at" Zdm f_15)
 {f_16:Addr} (h_16:Lk K "factors_of" Zaw f_16)
 {f_17:Addr} (h_17:Lk K "lowered" Zej f_17)
 {f_18:Addr} (h_18:Lk K "filled" Zga f_18)
 {f_19:Addr} (h_19:Lk K "places_of" Zbt f_19)
 {f_20:Addr} (h_20:Lk K "rights_to" Zbj f_20)
 {f_21:Addr} (h_21:Lk K "settled_by" X8 f_21)
 {f_22:Addr} (h_22:Lk K "settled_each" Yj f_22)
 {f_23:Addr} (h_23:Lk K "settled" Zdy f_23)
 {f_24:Addr} (h_24:Lk K "mix_of" Zb1 f_24)
 {f_25:Addr} (h_25:Lk K "is_whole" Zcz f_25)
 {f_26:Addr} (h_26:Lk K "is_fraction" Zak f_26)
 {f_27:Addr} (h_27:Lk K "are_fractions" Xm f_27)
 {f_28:Addr} (h_28:Lk K "are_rows" Zbc f_28)
 {f_29:Addr} (h_29:Lk K "look_at_rows" Zad f_29)
 {f_30:Addr} (h_30:Lk K "solved" Zdn f_30)
 {f_31:Addr} (h_31:Lk K "_law_cell_at" Zac f_31)
 {f_32:Addr} (h_32:Lk K "_law_state" Zaz f_32)
 {f_33:Addr} (h_33:Lk K "_law_choice" Zap f_33)
 {f_34:Addr} (h_34:Lk K "_law_low" Zco f_34)
 {f_35:Addr} (h_35:Lk K "_law_add" Zcd f_35)
 {f_36:Addr} (h_36:Lk K "_law_neg" Zcf f_36)
 {f_37:Addr} (h_37:Lk K "_law_mul" Zcj f_37)
 {f_38:Addr} (h_38:Lk K "_law_div" Zcy f_38)
 {f_39:Addr} (h_39:Lk K "_law_total" Za5 f_39)
 {f_40:Addr} (h_40:Lk K "_law_dot" Zcs f_40)
 {f_41:Addr} (h_41:Lk K "_law_fraction" Xu f_41)
 {f_42:Addr} (h_42:Lk K "_law_row" Zbf f_42)
 {f_43:Addr} (h_43:Lk K "_law_cleared" Y5 f_43)
 {f_44:Addr} (h_44:Lk K "_law_reduced" Xh f_44)
 {f_45:Addr} (h_45:Lk K "_law_solved" Xg f_45)
 {f_46:Addr} (h_46:Lk K "_law_same" Zbu f_46)
 {f_47:Addr} (h_47:Lk K "_law_rows" Xc f_47)
 {f_48:Addr} (h_48:Lk K "_law_mix_right" Y7 f_48)
 {f_49:Addr} (h_49:Lk K "_law_right" Za2 f_49)
 {f_law:Addr} {od_law an_law:Option Addr} {sl_law:Array (Option Value)} {oc_law kV_law dc_law pm_law cd_law ct_law:Value}
 (a_law:PySem.W.nsIn K mainGlobals "law" = some (some (.ref f_law)))
 (l_law:K.lookup f_law=some ⟨oc_law,od_law,.func (PySem.W.fnOf "law" "law" (Xa Zf7) (Yw Zf7) (Zf Zf7) .none kV_law dc_law pm_law an_law cd_law ct_law),sl_law⟩)
 (c_law:PySem.W.codeIn K cd_law "law" = true) (k_law:PySem.W.keepIn K (.ref f_law)=true)
 (z_abs:PySem.W.nsIn K mainGlobals "abs" = some none)
 (z_all:PySem.W.nsIn K mainGlobals "all" = some none)
 (z_any:PySem.W.nsIn K mainGlobals "any" = some none)
 (z_bool:PySem.W.nsIn K mainGlobals "bool" = some none)
 (z_divmod:PySem.W.nsIn K mainGlobals "divmod" = some none)
 (z_enumerate:PySem.W.nsIn K mainGlobals "enumerate" = some none)
 (z_int:PySem.W.nsIn K mainGlobals "int" = some none)
 (z_isinstance:PySem.W.nsIn K mainGlobals "isinstance" = some none)
 (z_len:PySem.W.nsIn K mainGlobals "len" = some none)
 (z_list:PySem.W.nsIn K mainGlobals "list" = some none)
 (z_max:PySem.W.nsIn K mainGlobals "max" = some none)
 (z_min:PySem.W.nsIn K mainGlobals "min" = some none)
 (z_range:PySem.W.nsIn K mainGlobals "range" = some none)
 (z_repr:PySem.W.nsIn K mainGlobals "repr" = some none)
 (z_reversed:PySem.W.nsIn K mainGlobals "reversed" = some none)
 (z_sum:PySem.W.nsIn K mainGlobals "sum" = some none)
 (z_tuple:PySem.W.nsIn K mainGlobals "tuple" = some none)
 (z_zip:PySem.W.nsIn K mainGlobals "zip" = some none)
 {tn_FEW_BITS:Tok} (n_FEW_BITS:PySem.W.nsIn K mainGlobals "FEW_BITS" = some (some (.int 200 tn_FEW_BITS)))
 {tn_GREAT_BITS:Tok} (n_GREAT_BITS:PySem.W.nsIn K mainGlobals "GREAT_BITS" = some (some (.int 4000 tn_GREAT_BITS)))
 {tn_MOST_ROWS:Tok} (n_MOST_ROWS:PySem.W.nsIn K mainGlobals "MOST_ROWS" = some (some (.int 60 tn_MOST_ROWS)))
 (bk:BkK K)
 {pr_N0:Addr} (gp_N0:PySem.W.nsIn K mainGlobals "NOUGHT" = some (some (.ref pr_N0))) (ep_N0:KTu K pr_N0 [.int 0,.int 1])
 {pr_O1:Addr} (gp_O1:PySem.W.nsIn K mainGlobals "ONE" = some (some (.ref pr_O1))) (ep_O1:KTu K pr_O1 [.int 1,.int 1])
 (PT:l.prog.given.tree=none:=by rfl)
 : ∃ fd:FuncData,(∀ (s:Shared) (v:Value),BindsTo s fd ⟨[v],[]⟩ [("_law_script",v)])∧∀ base:Heap,K.In base→base.Ns mainGlobals mg→FnOk l.prog w K mg base CX0 49 fa fd ["_law_script"] (Zkh K P_11):=by
 have e:=hfa.symm.trans (n89_ X G a_law);cases e
 have T:Bt mg:=⟨n43_ X G z_abs,n43_ X G z_all,n43_ X G z_any,n43_ X G z_bool,n43_ X G z_divmod,n43_ X G z_enumerate,n43_ X G z_int,n43_ X G z_isinstance,n43_ X G z_len,n43_ X G z_list,n43_ X G z_max,n43_ X G z_min,n43_ X G z_range,n43_ X G z_repr,n43_ X G z_reversed,n43_ X G z_sum,n43_ X G z_tuple,n43_ X G z_zip,⟨_,n89_ X G n_FEW_BITS⟩,⟨_,n89_ X G n_GREAT_BITS⟩,⟨_,n89_ X G n_MOST_ROWS⟩⟩;have N0:Zlp K mg "NOUGHT" 0 1:=⟨pr_N0,n89_ X G gp_N0,ep_N0⟩;have O1:Zlp K mg "ONE" 1 1:=⟨pr_O1,n89_ X G gp_O1,ep_O1⟩;have BK:BltK K mg:=bk.blt X G;have F_11:=Zm2 (st:=Xv) l_11 c_11 k_11;have F_14:=Zq0 (st:=Zcn) l_14 c_14 k_14;obtain ⟨_,F_30⟩:=h_30.fn;have F_law:=Zm2 (st:=Zf7) l_law c_law k_law;refine ⟨PySem.W.fnOf "law" "law" (Xa Zf7) (Yw Zf7) (Zf Zf7) .none kV_law dc_law pm_law an_law cd_law ct_law,fun s v=>.of_eq rfl,fun base _ _=>?_⟩;have C_0:a2_ l.prog w K mg base:=h_0.cal X G (fun F=>Zdg T F) fun _ _ _ _ _ _=>ln2 fun _ _=>rfl;have C_1:a0_ l.prog w K mg base:=h_1.cal X G (fun F=>Zh3 T F) fun _ _ _ _ _ _=>ln2 fun _ _=>rfl;have C_2:a1_ l.prog w K mg base:=h_2.cal X G (fun F=>Zio T F) fun _ _ _ _ _ _=>ln3 fun _ _ _=>rfl;have C_x3:Cal l.prog w K mg base "shrinking" 2 ["one","other"] (Zag 0):=h_3.cal X G (fun F=>Zf5 T F C_1 C_2) fun _ _ _ _ _ _=>ln2 fun _ _=>rfl;have C_x4:Cal l.prog w K mg base "shrinking" 3 ["one","other"] (Zag 1):=h_3.cal X G (fun F=>Yt (n:=0) T F C_1 C_2 C_x3) fun _ _ _ _ _ _=>ln2 fun _ _=>rfl;have C_x5:Cal l.prog w K mg base "shrinking" 4 ["one","other"] (Zag 2):=h_3.cal X G (fun F=>Yt (n:=1) T F C_1 C_2 C_x4) fun _ _ _ _ _ _=>ln2 fun _ _=>rfl;have C_x6:Cal l.prog w K mg base "shrinking" 5 ["one","other"] (Zag 3):=h_3.cal X G (fun F=>Yt (n:=2) T F C_1 C_2 C_x5) fun _ _ _ _ _ _=>ln2 fun _ _=>rfl;have C_x7:Cal l.prog w K mg base "shrinking" 6 ["one","other"] (Zag 4):=h_3.cal X G (fun F=>Yt (n:=3) T F C_1 C_2 C_x6) fun _ _ _ _ _ _=>ln2 fun _ _=>rfl;have C_x8:Cal l.prog w K mg base "shrinking" 7 ["one","other"] (Zag 5):=h_3.cal X G (fun F=>Yt (n:=4) T F C_1 C_2 C_x7) fun _ _ _ _ _ _=>ln2 fun _ _=>rfl;have C_x9:Cal l.prog w K mg base "shrinking" 8 ["one","other"] (Zag 6):=h_3.cal X G (fun F=>Yt (n:=5) T F C_1 C_2 C_x8) fun _ _ _ _ _ _=>ln2 fun _ _=>rfl;have C_x10:a3_ l.prog w K mg base:=h_3.cal X G (fun F=>Yt (n:=6) T F C_1 C_2 C_x9) fun _ _ _ _ _ _=>ln2 fun _ _=>rfl;have C_x11:a5_ l.prog w K mg base:=h_4.cal X G (fun F=>Zi2 T F C_2 C_0 C_x10) fun _ _ _ _ _ _=>ln2 fun _ _=>rfl
 have C_4:a4_ l.prog w K mg base:=h_4.cal X G (fun F=>Zk6 T F C_0) fun _ _ _ _ _ _=>ln2 fun _ _=>rfl;have C_5:a12_ l.prog w K mg base:=h_5.cal X G (fun F=>Zk4 T F C_4) fun _ _ _ _ _ _=>ln2 fun _ _=>rfl;have C_x14:a13_ l.prog w K mg base:=h_5.cal X G (fun F=>Zit T F PT C_x11) fun _ _ _ _ _ _=>ln2 fun _ _=>rfl;have C_6:a7_ l.prog w K mg base:=h_6.cal X G (fun F=>Zi7 T F C_4) fun _ _ _ _ _ _=>ln1 fun _=>rfl;have C_7:a6_ l.prog w K mg base:=h_7.cal X G (fun F=>Zh9 T F C_4) fun _ _ _ _ _ _=>ln2 fun _ _=>rfl;have C_x17:a9_ l.prog w K mg base:=h_7.cal X G (fun F=>Zfz T F C_x11) fun _ _ _ _ _ _=>ln2 fun _ _=>rfl;have C_8:a8_ l.prog w K mg base:=h_8.cal X G (fun F=>Ziu T F O1 C_7 C_6) fun _ _ _ _ _ _=>ln1 fun _=>rfl;have C_9:a22_ l.prog w K mg base:=h_9.cal X G (fun F=>Zoo T F C_8) fun _ _ _ _ _ _=>ln1 fun _=>rfl;have C_10:a10_ l.prog w K mg base:=h_10.cal X G (fun F=>Zlr T F C_x17) fun _ _ _ _ _ _=>ln4 fun _ _ _ _=>rfl;have C_11:Cal l.prog w K mg base "head_of" 5 ["left","place"] (Zi5 P_11):=⟨f_11,_,Zlx T F_11 rfl (fun _ Y=>PySem.W.codeHd_of_K Y hd_11) BK,n89_ X G a_11,k_11,F_11.binds (ps:=["left","place"]) fun _ _ _ _ _ _=>ln2 fun _ _=>rfl⟩;have C_12:Cal l.prog w K mg base "stepped" 14 ["lines","places"] (Zct P_11):=h_12.cal X G (fun F=>Zlt T F C_10 C_11) fun _ _ _ _ _ _=>ln2 fun _ _=>rfl;have C_13:a11_ l.prog w K mg base:=h_13.cal X G (fun F=>Ziq T F C_6) fun _ _ _ _ _ _=>ln1 fun _=>rfl
 have C_14:a15_ l.prog w K mg base:=⟨f_14,_,Zoh T F_14 C_13 C_5,n89_ X G a_14,k_14,fun s us KX hl=>(by
  have h1:us.length=3:=by simpa using hl
  match us,h1 with
  | [u0,u1,u2],_=>first|exact .of_eq rfl|exact BindsTo.of_defaults (T:=dT_14) (items:=#[.int 1 dt_14]) rfl (KX _ _ t_14) rfl rfl rfl)⟩
 have C_15:a14_ l.prog w K mg base:=h_15.cal X G (fun F=>Zoa T F C_6 C_x14) fun _ _ _ _ _ _=>ln3 fun _ _ _=>rfl;have C_16:a17_ l.prog w K mg base:=h_16.cal X G (fun F=>Zgi T F C_4) fun _ _ _ _ _ _=>ln1 fun _=>rfl;have C_17:a18_ l.prog w K mg base:=h_17.cal X G (fun F=>Zlv T F C_4) fun _ _ _ _ _ _=>ln2 fun _ _=>rfl;have C_18:a16_ l.prog w K mg base:=h_18.cal X G (fun F=>Zmk T F C_15) fun _ _ _ _ _ _=>ln2 fun _ _=>rfl;have C_19:a19_ l.prog w K mg base:=h_19.cal X G (fun F=>Zim T F) fun _ _ _ _ _ _=>ln1 fun _=>rfl;have C_20:a20_ l.prog w K mg base:=h_20.cal X G (fun F=>Zhw T F C_14 C_8) fun _ _ _ _ _ _=>ln2 fun _ _=>rfl;have C_21:a21_ l.prog w K mg base:=h_21.cal X G (fun F=>Zfw T F N0 C_18) fun _ _ _ _ _ _=>ln3 fun _ _ _=>rfl;have C_22:Cal l.prog w K mg base "settled_each" 44 ["rows","columns"] (Zbm K P_11):=h_22.cal X G (fun F=>Zdu T F C_16 C_13 C_17 C_19 C_20 C_21 C_12 C_9) fun _ _ _ _ _ _=>ln2 fun _ _=>rfl;have C_23:Cal l.prog w K mg base "settled" 45 ["rows","rights"] (Zba K P_11):=h_23.cal X G (fun F=>Zll T F C_22) fun _ _ _ _ _ _=>ln2 fun _ _=>rfl;have C_24:Cal l.prog w K mg base "mix_of" 46 ["rows","rights","taken"] (Zfx K P_11):=h_24.cal X G (fun F=>Znx T F N0 O1 C_23) fun _ _ _ _ _ _=>ln3 fun _ _ _=>rfl;have C_25:a23_ l.prog w K mg base:=h_25.cal X G (fun F=>Zjf T F) fun _ _ _ _ _ _=>ln1 fun _=>rfl;have C_26:a24_ l.prog w K mg base:=h_26.cal X G (fun F=>Ze0 T F C_4 C_25) fun _ _ _ _ _ _=>ln1 fun _=>rfl;have C_x37:a25_ l.prog w K mg base:=h_27.cal X G (fun F=>Zcq T F C_26) fun _ _ _ _ _ _=>ln2 fun _ _=>rfl;have C_x38:a26_ l.prog w K mg base:=h_19.cal X G (fun F=>Zgm T F) fun _ _ _ _ _ _=>ln1 fun _=>rfl;have C_28:a27_ l.prog w K mg base:=h_28.cal X G (fun F=>Zi4 T F C_x37 C_x38) fun _ _ _ _ _ _=>ln1 fun _=>rfl;have C_29:a28_ l.prog w K mg base:=h_29.cal X G (fun F=>Zem T F C_x37 C_28) fun _ _ _ _ _ _=>ln2 fun _ _=>rfl;have K_30:CalS l.prog w K mg base "solved" 47 "rows" "rights" (Za0 P_11):=⟨f_30,_,Zhx T F_30 C_29 C_24 C_19 C_23,n89_ X G h_30.a,h_30.k,fun s u v _=>by (obtain ⟨_,_,_,_,_,_,_,_,_,e,_,_⟩:=F_30.ex;subst e;exact .of_eq rfl)⟩;have C_30:Cal l.prog w K mg base "solved" 47 ["rows","rights"] (Za0 P_11):=h_30.cal X G (fun F=>Zhx T F C_29 C_24 C_19 C_23) fun _ _ _ _ _ _=>ln2 fun _ _=>rfl;have C_31:a29_ l.prog w K mg base:=h_31.cal X G (fun F=>Zd6 T F) fun _ _ _ _ _ _=>ln2 fun _ _=>rfl
 have C_32:a47_ l.prog w K mg base:=h_32.cal X G (fun F=>Zgh T F C_31) fun _ _ _ _ _ _=>ln2 fun _ _=>rfl;have C_33:a34_ l.prog w K mg base:=h_33.cal X G (fun F=>Zet T F) fun _ _ _ _ _ _=>ln2 fun _ _=>rfl;have C_34:a35_ l.prog w K mg base:=h_34.cal X G (fun F=>Zi6 T F) fun _ _ _ _ _ _=>ln2 fun _ _=>rfl;have C_x46:a30_ l.prog w K mg base:=h_34.cal X G (fun F=>Zhi T F PT) fun _ _ _ _ _ _=>ln2 fun _ _=>rfl;have C_35:a31_ l.prog w K mg base:=h_35.cal X G (fun F=>Zja T F C_x46) fun _ _ _ _ _ _=>ln2 fun _ _=>rfl;have C_36:a38_ l.prog w K mg base:=h_36.cal X G (fun F=>Zjh T F) fun _ _ _ _ _ _=>ln1 fun _=>rfl;have C_37:a32_ l.prog w K mg base:=h_37.cal X G (fun F=>Zji T F C_x46) fun _ _ _ _ _ _=>ln2 fun _ _=>rfl;have C_38:a37_ l.prog w K mg base:=h_38.cal X G (fun F=>Zir T F C_x46) fun _ _ _ _ _ _=>ln2 fun _ _=>rfl;have C_39:a33_ l.prog w K mg base:=h_39.cal X G (fun F=>Zf0 T F C_35) fun _ _ _ _ _ _=>ln1 fun _=>rfl;have C_40:a41_ l.prog w K mg base:=h_40.cal X G (fun F=>Zis T F C_37 C_39) fun _ _ _ _ _ _=>ln2 fun _ _=>rfl;have C_41:a36_ l.prog w K mg base:=h_41.cal X G (fun F=>Zdd T F C_33 C_34) fun _ _ _ _ _ _=>ln1 fun _=>rfl;have C_42:a42_ l.prog w K mg base:=h_42.cal X G (fun F=>Zje T F C_41) fun _ _ _ _ _ _=>ln2 fun _ _=>rfl;have C_43:a39_ l.prog w K mg base:=h_43.cal X G (fun F=>Zef T F C_35 C_38 C_37 C_36) fun _ _ _ _ _ _=>ln3 fun _ _ _=>rfl;have C_44:a40_ l.prog w K mg base:=h_44.cal X G (fun F=>Zdx T F C_43) fun _ _ _ _ _ _=>ln2 fun _ _=>rfl;have C_45:a45_ l.prog w K mg base:=h_45.cal X G (fun F=>Zeq T F C_44) fun _ _ _ _ _ _=>ln2 fun _ _=>rfl;have C_46:a44_ l.prog w K mg base:=h_46.cal X G (fun F=>Zg2 T F) fun _ _ _ _ _ _=>ln2 fun _ _=>rfl;have C_47:a46_ l.prog w K mg base:=h_47.cal X G (fun F=>Zho T F C_35 C_33 C_40 C_41 C_37 C_42) fun _ _ _ _ _ _=>ln1 fun _=>rfl;have C_48:a43_ l.prog w K mg base:=h_48.cal X G (fun F=>Zc2 T F C_40 C_x46) fun _ _ _ _ _ _=>ln3 fun _ _ _=>rfl
 have C_49:Cal l.prog w K mg base "_law_right" 48 ["_law_lines","_law_rights_own"] (Zgd P_11):=h_49.cal X G (fun F=>Zg0 T F C_48 C_46 C_45 C_30 K_30) fun _ _ _ _ _ _=>ln2 fun _ _=>rfl;exact Zse T F_law C_49 C_47 C_32
theorem walk {l:PySem.W.OpenLaw} {q:Program} {loose:List Str} {XP:(Str→Option Value)→Heap→Prop} {YP:World→Heap→Prop} {d:DefRec} {K:Params→PySem.W.Frag} {c1 c2 P1 P2:Addr} (hn:l.most=some 63) (hdf:d.params.defaults=[])
 (hY:∀ (w:World) (h:Heap),YP w h→(K w.params).In h∧h.get? P1=some (PySem.W.tabObj #[])∧h.get? P2=some (PySem.W.tabObj #[]))
 (hc:∀ P,PySem.W.codeHdIn (K P) c1 P1=true∧PySem.W.codeHdIn (K P) c2 P2=true∧(K P).lookup P1=none∧(K P).lookup P2=none)
 (F:∀ (w:World) (mg:Str→Option Value) (fa:Addr) (h:Heap),(K w.params).In h→h.Ns mainGlobals mg→mg d.name=some (.ref fa) →
   ∃ fd:FuncData,(∀ (s:Shared) (u:Value),BindsTo s fd ⟨[u],[]⟩ [("_law_script",u)])∧∀ base:Heap,(K w.params).In base→base.Ns mainGlobals mg→FnOk l.prog w (K w.params) mg base CX0 49 fa fd ["_law_script"] (Zkh (K w.params) P2)) (him:importsNone q=true:=by decide +kernel) :
 PySem.W.WalkO q loose XP YP l.row.toRowW d [] (fun f vs=>PySem.call f vs) :=
 L2.Zor (n:=63) (k:=49) (x := "_law_script") (sp:=fun w=>Zkh (K w.params) P2) hn (by decide) hdf ⟨rfl,by decide,by decide,rfl⟩ hY hc F (fun _ _ a ns hl hS e1 e2=>⟨a,ns,rfl,hS,hl,Zpp e2,fun _=>rfl⟩) him
end My

namespace My
open PySem PySem.W PyProof.Rows L2
set_option maxRecDepth 1000000
set_option maxHeartbeats 0
def gE (P:Params) (n:Str) (t:Tok) (v:Value):DictEntry:=⟨PySem.PyData.keyHash P n,.str n t,v⟩
def gR (P:Params) (n:Str) (t:Tok) (a:Addr):DictEntry:=gE P n t (.ref a)
def fO (n:Str) (i:Nat) (m:Str) (mt:Tok) (c:Addr) (dv:Value):Obj:={ cls:=.type "function",data:=.func (PySem.W.fnOf n n (Xa (top i)) (Yw (top i)) (Zf (top i)) dv .none .none (.str m mt) none (.ref c) .none) }
def cO (n:Str) (a:Tok) (l k:Int) (r s:Addr) (u v:Value) (t:Nat):Obj:={ cls:=.type "code",data:=.fields (Array.mk [.str n a,.str n (a+1),.str "/claim/cut.py" (a+2),.int l 0,.int k 0,.int 0 0,.int 0 0,.int 3 0,.ref r,.bool true,.int 181 0,.ref (r+1),.none,u,v,.ref s,.int t 0,.int l 0,.str "/claim/cut.py" (t+1)]) }
def dR (n:Str) (i:Nat) (m:Str) (mt a:Tok) (l k:Int) (r:Addr) (t:Nat):Frag:=[(r+6,fO n i m mt (r+5) .none),(r+5,cO n a l k r (r+4) (.ref (r+2)) (.ref (r+3)) t)]
def dN (n:Str) (i:Nat) (m:Str) (mt a:Tok) (l k:Int) (r:Addr) (t:Nat):Frag:=[(r+4,fO n i m mt (r+3) .none),(r+3,cO n a l k r (r+2) .none .none t)]
def Zr2 (s:Stmt):Pos:=match s with|.FunctionDef _ _ _ _ _ _ _ _ _ p=>p|_=>⟨0,0,0,0⟩
def m0:Str := "platerest.divisors"
def m1:Str := "platerest.quotients"
def m2:Str := "platerest.rows"
def m3:Str := "law_platerest_k10_rows_solved"
noncomputable def kK (P:Params):Frag:=(3,{ cls:=.type "dict",data:=(.dict #[gE P "__name__" 165 (.str "law_platerest_k10_rows_solved" 502),
gE P "__doc__" 166 (.none),
gE P "__package__" 167 (.none),
gE P "__loader__" 168 (.builtin "__main__.__loader__#opaque"),
gE P "__spec__" 169 (.none),
gR P "__annotations__" 170 6,
gR P "__builtins__" 171 4,
gE P "__file__" 173 (.str "/claim/cut.py" 172),
gE P "__cached__" 174 (.none),
gE P "GREAT_BITS" 190 (.int 4000 189),
gE P "FEW_BITS" 192 (.int 200 191),
gR P "plain_divisor" 200 21,
gR P "few_steps" 215 28,
gR P "mixed_by" 230 35,
gR P "shrinking" 250 42,
gR P "divisor" 259 49,
gR P "PlateError" 279 59,
gR P "NoRows" 295 72,
gR P "NOUGHT" 300 75,
gR P "ONE" 303 76,
gR P "is_whole" 310 83,
gR P "multiple" 319 90,
gR P "reduced" 328 97,
gR P "is_fraction" 337 104,
gR P "are_fractions" 343 109,
gR P "levelled" 349 114,
gR P "mixed" 356 120,
gE P "MOST_ROWS" 360 (.int 60 359),
gR P "places_of" 367 127,
gR P "are_rows" 373 132,
gR P "look_at_rows" 381 139,
gR P "in_common" 391 146,
gR P "scale_of" 397 151,
gR P "whole" 403 156,
gR P "head_of" 409 161,
gR P "cleared" 415 166,
gR P "stepped" 421 171,
gR P "put_at" 427 176,
gR P "filled" 438 183,
gR P "rights_to" 444 188,
gR P "factors_of" 455 195,
gR P "lowered" 467 202,
gR P "settled_by" 473 207,
gR P "settled_each" 479 212,
gR P "settled" 489 219,
gR P "mix_of" 495 224,
gR P "solved" 501 229,
gR P "_law_cell_at" 511 236,
gR P "_law_state" 520 243,
gR P "_law_choice" 530 250,
gR P "_law_low" 540 257,
gR P "_law_add" 548 264,
gR P "_law_neg" 555 271,
gR P "_law_mul" 563 278,
gR P "_law_div" 571 285,
gR P "_law_total" 580 292,
gR P "_law_dot" 586 297,
gR P "_law_fraction" 595 304,
gR P "_law_row" 601 309,
gR P "_law_cleared" 607 314,
gR P "_law_reduced" 613 319,
gR P "_law_solved" 619 324,
gR P "_law_same" 627 331,
gR P "_law_rows" 633 336,
gR P "_law_mix_right" 639 341,
gR P "_law_right" 650 348,
gR P "law" 662 355] 67) }) :: (dR "plain_divisor" 3 m0 187 193 4 2 15 198 ++
dR "few_steps" 4 m0 187 201 8 2 22 213 ++
dR "mixed_by" 5 m0 187 216 16 3 29 228 ++
dR "shrinking" 6 m0 187 231 27 2 36 248 ++
dR "divisor" 7 m0 187 251 35 2 43 257 ++
dR "reduced" 16 m1 296 320 56 2 91 326 ++
dR "multiple" 15 m1 296 311 51 1 84 317 ++
dR "in_common" 26 m2 357 382 94 2 140 389 ++
dN "scale_of" 27 m2 357 392 101 1 147 395 ++
dN "whole" 28 m2 357 398 104 1 152 401 ++
dN "cleared" 30 m2 357 410 110 4 162 413 ++
dN "head_of" 29 m2 357 404 107 2 157 407 ++
dN "stepped" 31 m2 357 416 120 2 167 419 ++
dN "levelled" 19 m1 296 344 72 1 110 347 ++
[(120,fO "mixed" 20 m1 296 119 (.ref 115)),(119,cO "mixed" 351 75 3 116 118 (.none) (.none) 354),(115,{ cls:=.type "tuple",data:=.seq #[.int 1 350] 0 })] ++
dN "put_at" 32 m2 357 422 130 3 172 425 ++
dR "factors_of" 35 m2 357 445 143 1 189 453 ++
dR "lowered" 36 m2 357 456 152 2 196 465 ++
dR "filled" 33 m2 357 428 135 2 177 436 ++
dR "places_of" 23 m2 357 361 80 1 121 365 ++
dN "rights_to" 34 m2 357 439 140 2 184 442 ++
dN "settled_by" 37 m2 357 468 159 3 203 471 ++
dN "settled_each" 38 m2 357 474 162 2 208 477 ++
dR "settled" 39 m2 357 480 176 2 213 487 ++
dN "mix_of" 40 m2 357 490 179 3 220 493 ++
dR "is_whole" 14 m1 296 304 49 1 77 308 ++
dR "is_fraction" 17 m1 296 329 61 1 98 335 ++
dN "are_fractions" 18 m1 296 338 68 2 105 341 ++
dN "are_rows" 24 m2 357 368 82 1 128 371 ++
dR "look_at_rows" 25 m2 357 374 89 2 133 379 ++
dN "solved" 41 m2 357 496 183 2 225 499 ++
dR "_law_cell_at" 43 m3 502 504 191 2 230 509 ++
dR "_law_state" 44 m3 502 512 195 2 237 518 ++
dR "_law_choice" 45 m3 502 521 198 2 244 528 ++
dR "_law_low" 46 m3 502 531 208 2 251 538 ++
dR "_law_add" 47 m3 502 541 213 2 258 546 ++
dR "_law_neg" 48 m3 502 549 215 1 265 553 ++
dR "_law_mul" 49 m3 502 556 217 2 272 561 ++
dR "_law_div" 50 m3 502 564 219 2 279 569 ++
dR "_law_total" 51 m3 502 572 221 1 286 578 ++
dN "_law_dot" 52 m3 502 581 226 2 293 584 ++
dR "_law_fraction" 53 m3 502 587 228 1 298 593 ++
dN "_law_row" 54 m3 502 596 234 2 305 599 ++
dN "_law_cleared" 55 m3 502 602 236 3 310 605 ++
dN "_law_reduced" 56 m3 502 608 249 2 315 611 ++
dN "_law_solved" 57 m3 502 614 260 2 320 617 ++
dR "_law_same" 58 m3 502 620 268 2 325 625 ++
dN "_law_rows" 59 m3 502 628 270 1 332 631 ++
dN "_law_mix_right" 60 m3 502 634 286 3 337 637 ++
dR "_law_right" 61 m3 502 640 293 2 342 648 ++
dR "law" 62 m3 502 651 303 1 349 660 ++
[(75,{ cls:=.type "tuple",data:=.seq #[.int 0 298,.int 1 299] 0 })] ++
[(76,{ cls:=.type "tuple",data:=.seq #[.int 1 301,.int 1 302] 0 })] ++
[(4,{ cls:=.type "module",dict:=some builtinsNs })])
def kA:List Addr:=[3,21,20,28,27,35,34,42,41,49,48,97,96,90,89,146,145,151,150,156,155,166,165,161,160,171,170,114,113,120,119,115,176,175,195,194,202,201,183,182,127,126,188,187,207,206,212,211,219,218,224,223,83,82,104,103,109,108,132,131,139,138,229,228,236,235,243,242,250,249,257,256,264,263,271,270,278,277,285,284,292,291,297,296,304,303,309,308,314,313,319,318,324,323,331,330,336,335,341,340,348,347,355,354,75,76,4]
theorem kAs:∀ P,kA=(kK P).map (·.1):=fun _=>by kernel_rfl
def kT:List Addr:=[158]
theorem kb (P:Params):BkK (kK P):=⟨4,{ cls:=.type "module",dict:=some builtinsNs },by kernel_rfl,by decide,by decide,by kernel_rfl,rfl,rfl,rfl⟩
theorem h3:∀ w os,(topK pw 4114 w os).map (fun s=>(kA.map s.abs.heap.get?,kT.map s.abs.heap.get?))=some (((kK w.params).map fun p=>some p.2,kT.map fun _=>some (tabObj #[]))):=fun w os=>by
  unfold topK topStub;rw [PySem.W.Fast.te4652649595001227023,PySem.W.Fast.te14364793385576792824,PySem.W.Fast.te17154629097778926822,PySem.W.Fast.te12822647523644345616]
  kernel_rfl
theorem left:LeftO pw qq ll (fun s=>xlAt qq [] s&&recOk (RowW.records (OpenRow.toRowW rr)) s) (Hook.obs (kmHook kK kA kAs kT)) (Hook.val (kmHook kK kA kAs kT)) 4114 :=
  Zip (T0:=bootT) (life:={}) (by kernel_rfl) (by kernel_rfl) (fun s=>by kernel_rfl) Zpf Zl8 (Zig (R:=topK pw 4114) h1 h2 h3)
theorem lk4 {P:Params} {b:Str} {i:Nat} {f:Addr} (c:Addr) (m:Str) (mt:Tok) (h:((kK P).lookup f,PySem.W.nsIn (kK P) mainGlobals b,PySem.W.codeIn (kK P) (.ref c) b,PySem.W.keepIn (kK P) (.ref f))=(some (fO b i m mt c .none),some (some (.ref f)),true,true)):Lk (kK P) b (top i) f:=Zty (Prod.mk.inj (Prod.mk.inj h).2).1 (Prod.mk.inj h).1 (Prod.mk.inj (Prod.mk.inj (Prod.mk.inj h).2).2).1 (Prod.mk.inj (Prod.mk.inj (Prod.mk.inj h).2).2).2
theorem Zcl (P:Params):PySem.W.codeHdIn (kK P) 160 158=true:=by kernel_rfl
theorem Zlh (P:Params):(kK P).lookup 161=some (fO "head_of" 29 m2 357 160 .none):=by kernel_rfl
theorem Zlb (P:Params):PySem.W.nsIn (kK P) mainGlobals "head_of" = some (some (.ref 161)):=by kernel_rfl
theorem Zk7 (P:Params):PySem.W.codeIn (kK P) (.ref 160) "head_of" = true:=by kernel_rfl
theorem Zlj (P:Params):PySem.W.keepIn (kK P) (.ref 161)=true:=by kernel_rfl
theorem Zos (P:Params):(kK P).lookup 120=some (fO "mixed" 20 m1 296 119 (.ref 115)):=by kernel_rfl
theorem Zol (P:Params):PySem.W.nsIn (kK P) mainGlobals "mixed" = some (some (.ref 120)):=by kernel_rfl
theorem Zoi (P:Params):PySem.W.codeIn (kK P) (.ref 119) "mixed" = true:=by kernel_rfl
theorem Zph (P:Params):PySem.W.keepIn (kK P) (.ref 120)=true:=by kernel_rfl
theorem Zog (P:Params):(kK P).lookup 115=some ⟨.type "tuple",none,.seq #[.int 1 350] 0,#[]⟩:=by kernel_rfl
theorem Zs6 (P:Params):(kK P).lookup 355=some (fO "law" 62 m3 502 354 .none):=by kernel_rfl
theorem Zsq (P:Params):PySem.W.nsIn (kK P) mainGlobals "law" = some (some (.ref 355)):=by kernel_rfl
theorem Zr6 (P:Params):PySem.W.codeIn (kK P) (.ref 354) "law" = true:=by kernel_rfl
theorem Zsp (P:Params):PySem.W.keepIn (kK P) (.ref 355)=true:=by kernel_rfl
theorem kt75 (P:Params):(kK P).lookup 75=some ({ cls:=.type "tuple",data:=.seq #[.int 0 298,.int 1 299] 0 }:Obj):=by kernel_rfl
theorem ke75 (P:Params):KTu (kK P) 75 [.int 0,.int 1]:=⟨_,_,_,kt75 P,rfl,rfl,(by show 2≤sizeLine;decide),(.cons ⟨_,rfl⟩ (.cons ⟨_,rfl⟩ .nil))⟩
theorem kt76 (P:Params):(kK P).lookup 76=some ({ cls:=.type "tuple",data:=.seq #[.int 1 301,.int 1 302] 0 }:Obj):=by kernel_rfl
theorem ke76 (P:Params):KTu (kK P) 76 [.int 1,.int 1]:=⟨_,_,_,kt76 P,rfl,rfl,(by show 2≤sizeLine;decide),(.cons ⟨_,rfl⟩ (.cons ⟨_,rfl⟩ .nil))⟩
theorem hcL:∀ P,PySem.W.codeHdIn (kK P) 160 158=true∧PySem.W.codeHdIn (kK P) 160 158=true∧(kK P).lookup 158=none∧(kK P).lookup 158=none:=fun P=>⟨Zcl P,Zcl P,by kernel_rfl,by kernel_rfl⟩
def dL:DefRec:=⟨"law",Xa (top 62),Yw (top 62),Zf (top 62),Zr2 (top 62)⟩
theorem hdL:defOf qq (OpenRow.toRowW rr).name=some (dL,[]):=by kernel_rfl
theorem hpL:(OpenRow.toRowW rr).prog.theDef (OpenRow.toRowW rr).name=some (dL.params,dL.body,dL.scope):=by kernel_rfl
theorem hkL:kwWritten? dL.params.kwonlyargs dL.params.kw_defaults=some []:=by kernel_rfl
theorem okL:(chainsOk qq&&opensWell (OpenRow.toRowW rr).prog&&(frees (OpenRow.toRowW rr)&&(OpenRow.toRowW rr).within.isEmpty))=true:=by kernel_rfl
theorem dfL:dL.params.defaults=[]:=by kernel_rfl
theorem wkL:WalkO qq ll (XL qq []) (Hook.says (kmHook kK kA kAs kT)) (OpenRow.toRowW rr) dL [] (fun f vs=>PySem.call f vs):=by
  refine My.walk (l:=PySem.Challenge.rw_platerest_k10_rows_solved) rfl dfL (fun w h Y=>⟨PySem.W.km_in_of Y,PySem.W.km_tabs_of Y _ (by decide),PySem.W.km_tabs_of Y _ (by decide)⟩) hcL ?F;intro w mg fa h KX G hmg;exact Zs1 KX G hmg (lk4 (f:=21) 20 m0 187 (by kernel_rfl)) (lk4 (f:=28) 27 m0 187 (by kernel_rfl)) (lk4 (f:=35) 34 m0 187 (by kernel_rfl)) (lk4 (f:=42) 41 m0 187 (by kernel_rfl)) (lk4 (f:=49) 48 m0 187 (by kernel_rfl)) (lk4 (f:=97) 96 m1 296 (by kernel_rfl)) (lk4 (f:=90) 89 m1 296 (by kernel_rfl)) (lk4 (f:=146) 145 m2 357 (by kernel_rfl)) (lk4 (f:=151) 150 m2 357 (by kernel_rfl)) (lk4 (f:=156) 155 m2 357 (by kernel_rfl)) (lk4 (f:=166) 165 m2 357 (by kernel_rfl)) (Zcl _) (Zlb _) (Zlh _) (Zk7 _) (Zlj _) (lk4 (f:=171) 170 m2 357 (by kernel_rfl)) (lk4 (f:=114) 113 m1 296 (by kernel_rfl)) (Zol _) (Zos _) (Zoi _) (Zph _) (Zog _) (lk4 (f:=176) 175 m2 357 (by kernel_rfl)) (lk4 (f:=195) 194 m2 357 (by kernel_rfl)) (lk4 (f:=202) 201 m2 357 (by kernel_rfl)) (lk4 (f:=183) 182 m2 357 (by kernel_rfl)) (lk4 (f:=127) 126 m2 357 (by kernel_rfl)) (lk4 (f:=188) 187 m2 357 (by kernel_rfl)) (lk4 (f:=207) 206 m2 357 (by kernel_rfl)) (lk4 (f:=212) 211 m2 357 (by kernel_rfl)) (lk4 (f:=219) 218 m2 357 (by kernel_rfl)) (lk4 (f:=224) 223 m2 357 (by kernel_rfl)) (lk4 (f:=83) 82 m1 296 (by kernel_rfl)) (lk4 (f:=104) 103 m1 296 (by kernel_rfl)) (lk4 (f:=109) 108 m1 296 (by kernel_rfl)) (lk4 (f:=132) 131 m2 357 (by kernel_rfl)) (lk4 (f:=139) 138 m2 357 (by kernel_rfl)) (lk4 (f:=229) 228 m2 357 (by kernel_rfl)) (lk4 (f:=236) 235 m3 502 (by kernel_rfl)) (lk4 (f:=243) 242 m3 502 (by kernel_rfl)) (lk4 (f:=250) 249 m3 502 (by kernel_rfl)) (lk4 (f:=257) 256 m3 502 (by kernel_rfl)) (lk4 (f:=264) 263 m3 502 (by kernel_rfl)) (lk4 (f:=271) 270 m3 502 (by kernel_rfl)) (lk4 (f:=278) 277 m3 502 (by kernel_rfl)) (lk4 (f:=285) 284 m3 502 (by kernel_rfl)) (lk4 (f:=292) 291 m3 502 (by kernel_rfl)) (lk4 (f:=297) 296 m3 502 (by kernel_rfl)) (lk4 (f:=304) 303 m3 502 (by kernel_rfl)) (lk4 (f:=309) 308 m3 502 (by kernel_rfl)) (lk4 (f:=314) 313 m3 502 (by kernel_rfl)) (lk4 (f:=319) 318 m3 502 (by kernel_rfl)) (lk4 (f:=324) 323 m3 502 (by kernel_rfl)) (lk4 (f:=331) 330 m3 502 (by kernel_rfl)) (lk4 (f:=336) 335 m3 502 (by kernel_rfl)) (lk4 (f:=341) 340 m3 502 (by kernel_rfl)) (lk4 (f:=348) 347 m3 502 (by kernel_rfl)) (Zsq _) (Zs6 _) (Zr6 _) (Zsp _) (by kernel_rfl) (by kernel_rfl) (by kernel_rfl) (by kernel_rfl) (by kernel_rfl) (by kernel_rfl) (by kernel_rfl) (by kernel_rfl) (by kernel_rfl) (by kernel_rfl) (by kernel_rfl) (by kernel_rfl) (by kernel_rfl) (by kernel_rfl) (by kernel_rfl) (by kernel_rfl) (by kernel_rfl) (by kernel_rfl) (tn_FEW_BITS:=191) (by kernel_rfl) (tn_GREAT_BITS:=189) (by kernel_rfl) (tn_MOST_ROWS:=359) (by kernel_rfl) (kb _) (by kernel_rfl) (ke75 _) (by kernel_rfl) (ke76 _)
end My
open PySem PySem.W PyProof.Rows
set_option maxRecDepth 1000000 in
set_option maxHeartbeats 0 in
theorem PySem.Challenge.cw_platerest_k10_rows_solved_holds : PySem.Challenge.rw_platerest_k10_rows_solved.Holds := by
  refine holds_law My.ws fun said=>?_;refine holds_open (q:=My.qq) (loose:=My.ll) (Xt:=fun s=>xlAt My.qq [] s&&recOk (RowW.records (OpenRow.toRowW My.rr)) s) (XP:=XL My.qq []) (Yf:=Hook.obs (kmHook My.kK My.kA My.kAs My.kT)) (Ya:=Hook.val (kmHook My.kK My.kA My.kAs My.kT)) (YP:=Hook.says (kmHook My.kK My.kA My.kAs My.kT)) My.left (Hook.of (kmHook My.kK My.kA My.kAs My.kT)) (Hook.keeps (kmHook My.kK My.kA My.kAs My.kT)) (fun s e=>xl_of s (Bool.and_eq_true_iff.mp e).1) XL.keeps My.hdL My.hpL My.hkL (fun s e=>recFacts_of (Bool.and_eq_true_iff.mp e).2) rfl said My.okL ⟨rfl,rfl,rfl,rfl,rfl,by decide +kernel⟩ ?hw My.wkL
  case hw=>w_witness2
