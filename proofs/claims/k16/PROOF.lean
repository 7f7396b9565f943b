import PyProof.Rows.All
import Wide.All
import OpenK.AllK
import Wide.FinOn
import Lean
import PyProof.EqAt
import PyProof.EqKinds
import PyProof.TupleCall
import PyProof.NeKinds
import PyProof.ConsumeWalk
import PyProof.ReprRoads
import PyProof.ReprLen
import PyProof.ZipIter
import PyProof.Draws
import PyProof.EnumMake
import PySem.SetTable
import PyProof.TupleKey
import PyProof.Rows.SetFrom
import PyProof.InstEq
import PyProof.SumWalkG
import PyProof.Rows.SortWalk
import PyProof.ListRange
import KE.KSortTup
import PyProof.ListMulRoad
import PyProof.FactsAll.tuple_2
import PyProof.DictItems
import KE.KPairComp
import PyProof.DictWalks
import PyProof.Rows.DictUnroll
import PyProof.SetKind
import PyProof.DictKinds
import PyProof.SetRoads
import PyProof.Walks
import PyProof.CollectWalk
import PyProof.Rows.SortShell
import PyProof.CollectIter
import PyProof.DictValues
import PySem.Challenge.RW_platerest_k16_sides_rims_and_rooms
set_option Elab.async false
set_option linter.all false
set_option maxRecDepth 100000
abbrev n0_:=@PySem.wpAny_bind
abbrev n1_:=@List.getElem?_eq_getElem
abbrev n2_:=@PySem.Heap.get?_push_of_some
abbrev n3_:=@PySem.wpAny_pure
abbrev n4_:=@List.getD_eq_getElem?_getD
abbrev n5_:=@List.length_map
abbrev n6_:=@List.mem_of_getElem?
abbrev n7_:=@List.getElem?_map
abbrev n8_:=@List.size_toArray
abbrev n9_:=@PySem.Heap.get?_push_size
abbrev n10_:=@Nat.le_refl
abbrev n11_:=@List.mem_cons
abbrev n12_:=@List.not_mem_nil
abbrev n13_:=@PySem.Heap.lt_size
abbrev n14_:=@List.getElem?_eq_some_iff
abbrev n15_:=@List.mem_cons_self
abbrev n16_:=@Bool.false_eq_true
abbrev n17_:=@List.mem_cons_of_mem
abbrev n18_:=@List.length_cons
abbrev n19_:=@Option.map_eq_some_iff
abbrev n20_:=@Nat.lt_of_lt_of_le
abbrev n21_:=@List.length_append
abbrev n22_:=@Bool.false_ne_true
abbrev n23_:=@List.mem_singleton
abbrev n24_:=@Nat.ne_of_lt
abbrev n25_:=@PySem.Builtin.SmallTypes.nextOf
abbrev n26_:=@List.mem_range
abbrev n27_:=@List.all_eq_true
abbrev n28_:=@List.mem_append
abbrev n29_:=@List.mem_map
abbrev n30_:=@of_decide_eq_true
abbrev n31_:=@PySem.Builtin.SmallTypes.ownedTupleIsFree
abbrev n32_:=@Bool.and_eq_true
abbrev n33_:=@List.mem_append_right
abbrev n34_:=@List.map_cons
abbrev n35_:=@decide_eq_false
abbrev n36_:=@PySem.wpAny_holding
abbrev n37_:=@List.mem_filter
abbrev n38_:=@PySem.mem_of_lookup
abbrev n39_:=@PySem.W.mg_none_of
abbrev n40_:=@decide_eq_true
abbrev n41_:=@List.getElem?_append_right
abbrev n42_:=@PySem.Heap.size_push
abbrev n43_:=@List.getElem_mem
abbrev n44_:=@List.getElem_of_mem
abbrev n45_:=@List.map_append
abbrev n46_:=@PySem.wpAny_mono
abbrev n47_:=@List.getElem?_append_left
abbrev n48_:=@PySem.Heap.get?_update_self
abbrev n49_:=@Nat.lt_succ_of_lt
abbrev n50_:=@List.mem_map_of_mem
abbrev n51_:=@Nat.zero_le
abbrev n52_:=@List.append_assoc
abbrev n53_:=@Nat.le_trans
abbrev n54_:=@List.pairwise_iff_getElem
abbrev n55_:=@PyProof.Rows.callWith_type1
abbrev n56_:=@List.nodup_iff_pairwise_ne
abbrev n57_:=@List.length_take
abbrev n58_:=@List.flatten_cons
abbrev n59_:=@Int.toNat_natCast
abbrev n60_:=@PySem.Heap.get?_update_other
abbrev n61_:=@Nat.ne_of_gt
abbrev n62_:=@List.take_length
abbrev n63_:=@List.getElem_inj
abbrev n64_:=@List.ext_getElem
abbrev n65_:=@List.length_range
abbrev n66_:=@Nat.pow_le_pow_right
abbrev n67_:=@List.mem_append_left
abbrev n68_:=@PySem.W.kia_one
abbrev n69_:=@List.length_nil
abbrev n70_:=@List.take_of_length_le
abbrev n71_:=@List.replicate_succ
abbrev n72_:=@List.nodup_append
abbrev n73_:=@List.foldl_cons
abbrev n74_:=@List.mem_flatten
abbrev n75_:=@List.map_map
abbrev n76_:=@List.getElem?_cons_succ
abbrev n77_:=@Nat.lt_irrefl
abbrev n78_:=@List.map_congr_left
abbrev n79_:=@List.length_singleton
abbrev n80_:=@Nat.lt_succ_self
namespace L2
open PySem PySem.W PyProof.Rows
def topRunT (tb:String→Option Builtin) (p:Program) (w:World) (n0:Nat) (ann:Option Value):Nat→SharedT→Thread→Option SharedT
  | 0,_,_=>none
  | n+1,s,t=>match through t with
    | true=>some s
    | false=>match stepOk n0 ann t with
      | false=>none
      | true=>match stepT (denote tb) p w s t with
        | some (s',t')=>topRunT tb p w n0 ann n s' t'
        | none=>none
theorem Zf2 {tb:String→Option Builtin} {p:Program} {w:World} {n0:Nat} {ann:Option Value}:∀ {n:Nat} {s s':SharedT} {t:Thread},topRunT tb p w n0 ann n s t=some s'→topRun tb p w n0 ann n s.abs t=some s'.abs
  | 0,_,_,_,h=>by cases h
  | n+1,s,s',t,h=>by
    unfold topRunT at h;unfold topRun;cases he:through t with
    | true=>rw [he] at h;cases h;rfl
    | false =>
      rw [he] at h;cases hk:stepOk n0 ann t with
      | false=>rw [hk] at h;cases h
      | true =>
        rw [hk] at h;cases hs:stepT (denote tb) p w s t with
        | none=>rw [hs] at h;cases h
        | some r=>obtain ⟨s2,t2⟩:=r;rw [hs] at h;rw [stepT_spec hs];exact Zf2 h
def btOf:List Obj→Nat→BT→BT
  | [],_,t=>t
  | o :: os,n,t=>btOf os (n+1) (t.ins n o)
theorem Zin {p q:Program} {loose:List Str} {Xt:Shared→Bool} {α:Type} {Yf:Shared→α} {Ya:World→α} {N:Nat} {g0:Bool} {T0:Params→BT} {n0:Nat} {life:Life} {ann:Option Value}
    (e:opening p=plainProg p.main.scope.names) (hN:Nat.ble 600 N=true) (f:∀ s,fenceModules? p s=some s)
    (h0:∀ P,absHeap (T0 P) n0 life=boot_heap P)
    (size:∀ P,((boot_heap P).isNs mainGlobals,(boot_heap P).objs.size,(boot_heap P).nsMap mainGlobals "__annotations__")=(true,n0,ann))
    (run:∀ (w:World) (os:OsState),(topRunT treeTable p w n0 ann N ⟨T0 w.params,n0,life,Array.mk [],boot_drawn,boot_toks,os⟩ (topStub p)).map (fun s=>((staticsOk (importedModules p.main.body) (boot_heap w.params) s.abs.heap&&namesBound p s.abs.heap&&gensDone s.abs&&laidKept (boot_heap w.params) s.abs.heap),openSeen q loose (importedModules p.main.body) Xt g0 s.abs,Yf s.abs))=some (true,openGood q loose,Ya w)):LeftO p q loose Xt Yf Ya N g0:=fun w=>by
  obtain ⟨⟨h,gs,d,k,os⟩,e1,e2⟩:=n19_.mp (boot_open e hN f w);obtain ⟨rfl,rfl,rfl,rfl⟩:h=boot_heap w.params∧gs=Array.mk []∧d=boot_drawn∧k=boot_toks:=by simpa using e2
  obtain ⟨z1,z2,z3⟩:_∧_∧_:=by simpa only [Prod.mk.injEq] using size w.params
  obtain ⟨s,r1,r2⟩:=n19_.mp (run w os);obtain ⟨l1,l2,l3⟩:_∧_∧_:=by simpa only [Prod.mk.injEq] using r2
  have r:=Zf2 r1
  have ha:SharedT.abs ⟨T0 w.params,n0,life,Array.mk [],boot_drawn,boot_toks,os⟩=⟨boot_heap w.params,Array.mk [],boot_drawn,boot_toks,os⟩:=by
    unfold SharedT.abs;rw [h0]
  rw [ha] at r
  have t:topFrom treeTable p w N ⟨boot_heap w.params,Array.mk [],boot_drawn,boot_toks,os⟩=some s.abs:=by
    unfold topFrom;dsimp only;rw [z1,z2,z3,r];show (match staticsOk (importedModules p.main.body) (boot_heap w.params) s.abs.heap&&namesBound p s.abs.heap&&gensDone s.abs&&laidKept (boot_heap w.params) s.abs.heap with|true=>_|false=>_)=_
    rw [l1]
  unfold openEnds;rw [e1];show (topFrom treeTable p w N _).map _=_
  rw [t];exact congrArg some (Prod.ext l2 l3)
lay_quick L2.topRunT
end L2
namespace L2
open PySem PySem.W PyProof.Rows
theorem Zgx {p q:Program} {loose:List Str} {Xt:Shared→Bool} {α:Type} {Yf:Shared→α} {Ya:World→α} {g0:Bool} {R:World→OsState→Option SharedT}
    (h1:∀ w os,(R w os).map (fun s=>(staticsOk (importedModules p.main.body) (boot_heap w.params) s.abs.heap&&namesBound p s.abs.heap&&gensDone s.abs&&laidKept (boot_heap w.params) s.abs.heap))=some true)
    (h2:∀ w os,(R w os).map (fun s=>openSeen q loose (importedModules p.main.body) Xt g0 s.abs)=some (openGood q loose))
    (h3:∀ w os,(R w os).map (fun s=>Yf s.abs)=some (Ya w)) (w:World) (os:OsState) :
    (R w os).map (fun s=>((staticsOk (importedModules p.main.body) (boot_heap w.params) s.abs.heap&&namesBound p s.abs.heap&&gensDone s.abs&&laidKept (boot_heap w.params) s.abs.heap),openSeen q loose (importedModules p.main.body) Xt g0 s.abs,Yf s.abs))=some (true,openGood q loose,Ya w):=by
  have a:=h1 w os;have b:=h2 w os;have c:=h3 w os;cases e:R w os with
  | none=>rw [e] at a;cases a
  | some s =>
    rw [e] at a b c;exact congrArg some (Prod.ext (Option.some.inj a) (Prod.ext (Option.some.inj b) (Option.some.inj c)))
noncomputable abbrev bootT (P:Params):BT:=btOf (boot_heap P).objs.toList 0 .nil
noncomputable def topK (p:Program) (N:Nat) (w:World) (os:OsState):Option SharedT:=topRunT treeTable p w 11 (some (.ref 6)) N ⟨bootT w.params,11,{},Array.mk [],boot_drawn,boot_toks,os⟩ (topStub p)
theorem Zp0:∀ P,absHeap (bootT P) 11 {}=boot_heap P:=fun P=>by kernel_rfl
theorem Zm4:∀ P,((boot_heap P).isNs mainGlobals,(boot_heap P).objs.size,(boot_heap P).nsMap mainGlobals "__annotations__")=(true,11,some (.ref 6)):=fun P=>by kernel_rfl
def Zrd (p:Program) (names:List Str):List Str:=((p.main.body.flatMap bindsAtTop).filter fun x=>!startupNames.contains x&&!names.contains x).eraseDups
end L2

namespace My
open PySem PySem.W PyProof.Rows L2
noncomputable abbrev pw:Program:=PySem.Challenge.pw_platerest_k16_sides_rims_and_rooms
noncomputable abbrev rr:OpenRow:=OpenLaw.row PySem.Challenge.rw_platerest_k16_sides_rims_and_rooms
noncomputable abbrev qq:Program:=view pw [55]
noncomputable abbrev ll:List Str:=Zrd pw ["law"]
set_option maxRecDepth 1000000
set_option maxHeartbeats 0
theorem ws:OpenLaw.wellSaid PySem.Challenge.rw_platerest_k16_sides_rims_and_rooms=true:=by kernel_rfl
theorem h1:∀ w os,(topK pw 3634 w os).map (fun s=>(staticsOk (importedModules pw.main.body) (boot_heap w.params) s.abs.heap&&namesBound pw s.abs.heap&&gensDone s.abs&&laidKept (boot_heap w.params) s.abs.heap))=some true:=fun w os=>by
  unfold topK topStub;rw [PySem.W.Fast.te4652649595001227023,PySem.W.Fast.te14364793385576792824,PySem.W.Fast.te17154629097778926822,PySem.W.Fast.te12822647523644345616]
  kernel_rfl
theorem h2:∀ w os,(topK pw 3634 w os).map (fun s=>openSeen qq ll (importedModules pw.main.body) (fun s=>xlAt qq [] s&&recOk (RowW.records (OpenRow.toRowW rr)) s) true s.abs)=some (openGood qq ll):=fun w os=>by
  unfold topK topStub;rw [PySem.W.Fast.te4652649595001227023,PySem.W.Fast.te14364793385576792824,PySem.W.Fast.te17154629097778926822,PySem.W.Fast.te12822647523644345616,PySem.W.Fast.te4187177175401517315]
  kernel_rfl
end My
noncomputable section
set_option Elab.async false
set_option linter.all false
set_option maxRecDepth 100000
namespace L2
open PySem PySem.Spec PyProof.Rows
theorem z0_:0≤sizeLine:=by decide
theorem z1_:1≤sizeLine:=by decide
theorem z2_:2≤sizeLine:=by decide
theorem z3_:3≤sizeLine:=by decide
theorem z4_:4≤sizeLine:=by decide
theorem z5_:5≤sizeLine:=by decide
abbrev Key:=Sum Int Str
def Zh7:Key→Value→Bool
 | .inl k,v=>Value.isInt k v
 | .inr x,v=>Value.isStrOf x v
def keyH (w:World):Key→Int
 | .inl k=>hashInt k
 | .inr x=>hashStr w x
theorem Z6:∀ {k:Key} {v:Value},Zh7 k v=true→(∃ i t,k=Sum.inl i∧v=Value.int i t)∨(∃ x t,k=Sum.inr x∧v=Value.str x t)
 | .inl i,v,h=>by
   obtain ⟨t,e⟩:=Value.isInt_shape (k:=i) (v:=v) h;exact .inl ⟨i,t,rfl,e⟩
 | .inr x,v,h=>by
   obtain ⟨t,e⟩:=Value.isStrOf_shape (x:=x) (v:=v) h;exact .inr ⟨x,t,rfl,e⟩
theorem Zna (i:Int) (t:Tok):Zh7 (.inl i) (.int i t)=true:=by simp [Zh7,Value.isInt]
theorem Zno (x:Str) (t:Tok):Zh7 (.inr x) (.str x t)=true:=by simp [Zh7,Value.isStrOf]
theorem Zuc (a b:Int):decide ((Sum.inl a:Key)=Sum.inl b)=(a == b):=by
 by_cases e:a=b
 · subst e;simp
 · have h:¬ (Sum.inl a:Key)=Sum.inl b:=fun q=>e (Sum.inl.inj q);rw [n35_ h];exact (beq_eq_false_iff_ne.mpr e).symm
theorem Ztx (a b:Str):decide ((Sum.inr a:Key)=Sum.inr b)=decide (a=b):=by
 by_cases e:a=b
 · subst e;simp
 · have h:¬ (Sum.inr a:Key)=Sum.inr b:=fun q=>e (Sum.inr.inj q);rw [n35_ h,n35_ e]
theorem Zs0 (a:Int) (b:Str):decide ((Sum.inl a:Key)=Sum.inr b)=false:=n35_ (fun q=>nomatch q)
theorem Zti (a:Str) (b:Int):decide ((Sum.inr a:Key)=Sum.inl b)=false:=n35_ (fun q=>nomatch q)
def Yb (prog:Program) (w:World):PySem.KeyKind prog w Key where
 is:=Zh7
 hash:=keyH w
 inj:=fun v a b ha hb=>by
  rcases Z6 ha with ⟨i,t,rfl,rfl⟩|⟨x,t,rfl,rfl⟩
  · rcases Z6 hb with ⟨j,u,rfl,e⟩|⟨y,u,rfl,e⟩
    · injection e with e1 _;rw [e1]
    · exact nomatch e
  · rcases Z6 hb with ⟨j,u,rfl,e⟩|⟨y,u,rfl,e⟩
    · exact nomatch e
    · injection e with e1 _;rw [e1]
 byValue:=fun k v h=>by
  rcases Z6 h with ⟨i,t,rfl,rfl⟩|⟨x,t,rfl,rfl⟩<;>rfl
 pyHash:=fun hv h=>by
  rcases Z6 hv with ⟨i,t,rfl,rfl⟩|⟨x,t,rfl,rfl⟩
  · exact wpAny_pyHash_int h
  · exact wpAny_pyHash_str h
 eqBool:=fun hu hv h=>by
  rcases Z6 hu with ⟨i,t,rfl,rfl⟩|⟨x,t,rfl,rfl⟩
  · rcases Z6 hv with ⟨j,u,rfl,rfl⟩|⟨y,u,rfl,rfl⟩
    · rw [Zuc] at h;exact wpAny_eqBool_int h
    · rw [Zs0] at h;exact SeqAt.EqAt.int_str i t y u _ _ _ _ h
  · rcases Z6 hv with ⟨j,u,rfl,rfl⟩|⟨y,u,rfl,rfl⟩
    · rw [Zti] at h;exact SeqAt.EqAt.str_int x t j u _ _ _ _ h
    · rw [Ztx] at h;exact wpAny_eqBool_str h
 «strs»:=fun k x t v h=>by
  rcases Z6 h with ⟨i,u,rfl,e⟩|⟨y,u,rfl,e⟩
  · exact nomatch e
  · injection e with e1 _
    subst e1;cases v<;>rfl
theorem Zhw (prog:Program) (w:World) (i:Int) (t:Tok):(Yb prog w).is (.inl i) (.int i t)=true:=Zna i t
theorem Zh9 (prog:Program) (w:World) (x:Str) (t:Tok):(Yb prog w).is (.inr x) (.str x t)=true:=Zno x t
inductive V where
 | non|bl (b:Bool)|int (i:Int)|str (x:Str)|byt (b:Array UInt8)|flt (b:UInt64)|ref (a:Addr)|ty (n:String)
 deriving DecidableEq
def RelV:V→Value→Prop
 | .non,u=>u=Value.none
 | .bl b,u=>u=Value.bool b
 | .int i,u=>∃ t,u=Value.int i t
 | .str x,u=>∃ t,u=Value.str x t
 | .byt b,u=>∃ t,u=Value.bytes b t
 | .flt b,u=>∃ t,u=Value.float b t
 | .ref a,u=>u=Value.ref a
 | .ty n,u=>u=Value.type n
abbrev Vals:List V→List Value→Prop:=Paired RelV
theorem Vals.length {xs:List V} {us:List Value} (r:Vals xs us):xs.length=us.length:=Paired.length r
theorem Vals.get:∀ {xs:List V} {us:List Value} {i:Nat} {x:V},Vals xs us→xs[i]? = some x→∃ u,us[i]? = some u∧RelV x u
 | _,_,_,_,.nil,e=>by simp at e
 | _,_,0,_,.cons r _,e=>by simp at e;subst e;exact ⟨_,rfl,r⟩
 | _,_,i+1,x,.cons _ t,e=>by
   obtain ⟨u,h1,h2⟩:=Vals.get (i:=i) (x:=x) t (by simpa using e);exact ⟨u,by simpa using h1,h2⟩
theorem Vals.set {x:V} {u:Value} (r:RelV x u):∀ {xs:List V} {us:List Value} (i:Nat),Vals xs us→Vals (xs.set i x) (us.set i u)
 | _,_,_,.nil=>.nil
 | _,_,0,.cons _ t=>.cons r t
 | _,_,i+1,.cons q t=>.cons q (Vals.set r i t)
theorem Vals.append:∀ {xs ys:List V} {us ws:List Value},Vals xs us→Vals ys ws→Vals (xs++ys) (us++ws)
 | _,_,_,_,.nil,s=>s
 | _,_,_,_,.cons r t,s=>.cons r (Vals.append t s)
theorem Vals.take:∀ {xs:List V} {us:List Value} (n:Nat),Vals xs us→Vals (xs.take n) (us.take n)
 | _,_,0,_=>.nil
 | _,_,_+1,.nil=>.nil
 | _,_,n+1,.cons r t=>.cons r (Vals.take n t)
theorem Vals.drop:∀ {xs:List V} {us:List Value} (n:Nat),Vals xs us→Vals (xs.drop n) (us.drop n)
 | _,_,0,r=>r
 | _,_,_+1,.nil=>.nil
 | _,_,n+1,.cons _ t=>Vals.drop n t
def RelO:Option V→Option Value→Prop
 | some v,some u=>RelV v u
 | none,none=>True
 | _,_=>False
def KV {κ:Type}:List (κ×V)→List (κ×Value)→Prop:=Paired fun (p:κ×V) (q:κ×Value)=>p.1=q.1∧RelV p.2 q.2
def kV:Key→V
 | .inl i=>.int i
 | .inr x=>.str x
inductive HO where
 | lst (xs:List V)
 | tup (xs:List V)
 | dK (kvs:List (Key×V))|dT (kvs:List (List Key×V))
 | set (S:Int→Bool) (n:Nat)
 | ins (C dx:Addr) (fs:List (Str×V))
 | own (x:Addr)
 | xd (fs:List (Str×V))
 | met (f x:Addr)
 | rng (lo hi:Int)
 | frz (o:Obj) (u:HO)
 | tbl (ps:Array Value)
 | ext (φ:Heap→Prop)
abbrev Hp:=Addr→Option HO
def upd (H:Hp) (a:Addr) (o:HO):Hp:=fun b=>if b=a then some o else H b
theorem Zc {H:Hp} {a:Addr} {o:HO}:upd H a o a=some o:=by unfold upd;rw [if_pos rfl]
theorem Zh {H:Hp} {a b:Addr} {o:HO} (h:b≠a):upd H a o b=H b:=by unfold upd;rw [if_neg h]
theorem Zsc {H:Hp} {a:Addr} {o u:HO}:upd (upd H a o) a u=upd H a u:=by
 funext b;unfold upd;split<;>rfl
theorem Zns {H:Hp} {a b:Addr} {o u:HO} (h:H a=some o) (h':H b=some u) (d:o≠u):a≠b:=by
 intro e;subst e;rw [h] at h';exact d (Option.some.inj h')
theorem Zi {H:Hp} {a b:Addr} {o:HO} (h:H a=some o) (h':H b=none):a≠b:=by
 intro e;subst e;rw [h] at h';cases h'
section
variable (P:Program) (w:World)
def ObjOk (H:Hp) (h:Heap) (a:Addr):HO→Prop
 | .lst xs=>xs.length≤sizeLine∧∃ (its:List Value) (n:Nat),Vals xs its∧h.get? a=some { cls:=.type "list",data:=.seq its.toArray n }
 | .tup xs=>xs.length≤sizeLine∧∃ its:List Value,Vals xs its∧IsTup h a its.toArray
 | .dK kvs=>kvs.length≤sizeLine∧(a == sysModules)=false∧∃ vs,KV kvs vs∧h.DictOf (Yb P w) a vs
 | .dT kvs=>kvs.length≤sizeLine∧(a == sysModules)=false∧∃ xs:List (List Key×Addr×Value),
    Paired (fun (p:List Key×V) (q:List Key×Addr×Value)=>p.1=q.1∧H q.2.1=some (.tup (p.1.map kV))∧RelV p.2 q.2.2) kvs xs ∧
    ∃ o es ep,h.get? a=some o∧o.ExactDict∧o.data=.dict es ep∧es.toList=xs.map (entryOfKey (tupleKind (Yb P w)))∧(xs.map (·.1)).Nodup
 | .set S n=>h.SetOf (intKind P w) a S n
 | .ins C dx fs=>H dx=some (.own a)∧fs.length≤1000∧dx≠a∧h.get? a=some (PySem.W.instObj C dx) ∧
    ∃ mA,h.Ns1 dx mA∧(∀ f,RelO (fs.lookup f) (mA f))∧PySem.Within mA (fs.map (·.1))
 | .own _=>∃ o,h.get? a=some o
 | .xd fs=>∃ mA,h.Ns1 a mA∧∀ f,RelO (fs.lookup f) (mA f)
 | .rng lo hi=>∃ t u v,h.get? a=some { cls:=.type "range",data:=.fields #[.int lo t,.int hi u,.int 1 v] }
 | .frz o u=>h.get? a=some o∧ObjOk H h a u
 | .tbl ps=>h.get? a=some { cls:=.none,data:=.fields ps }
 | .met f x=>h.get? a=some (PySem.W.methodObj (.ref f) (.ref x))
 | .ext φ=>φ h∧(∃ o,h.get? a=some o)∧∀ h1 h2:Heap,φ h1→(∀ o,h1.get? a=some o→h2.get? a=some o)→φ h2
def HOk (H:Hp) (h:Heap):Prop:=∀ a o,H a=some o→ObjOk P w H h a o
end
section
variable {P:Program} {w:World} {H H':Hp} {h h':Heap} {a:Addr} {o:HO}
theorem ObjOk.lt (x:ObjOk P w H h a o):a<h.objs.size:=by
 cases o with
 | lst xs=>obtain ⟨_,_,_,_,e⟩:=x;exact n13_ e
 | tup xs=>obtain ⟨_,_,_,p⟩:=x;exact p.lt
 | dK kvs=>obtain ⟨_,_,_,_,o,_,_,e,_⟩:=x;exact n13_ e
 | dT kvs=>obtain ⟨_,_,_,_,o,_,_,e,_⟩:=x;exact n13_ e
 | set S n=>obtain ⟨o,_,_,_,e,_⟩:=x;exact n13_ e
 | ins C dx fs=>obtain ⟨_,_,_,e,_⟩:=x;exact n13_ e
 | own y=>obtain ⟨_,e⟩:=x;exact n13_ e
 | xd fs=>obtain ⟨_,⟨_,_,_,e,_⟩,_⟩:=x;exact n13_ e
 | rng lo hi=>obtain ⟨_,_,_,e⟩:=x;exact n13_ e
 | frz ob u=>obtain ⟨e,_⟩:=x;exact n13_ e
 | tbl ps=>exact n13_ (show h.get? a=some _ from x)
 | met f y=>exact n13_ (show h.get? a=some _ from x)
 | ext φ=>obtain ⟨_,⟨_,e⟩,_⟩:=x;exact n13_ e
theorem Paired.mapP {α β:Type} {F G:α→β→Prop}:∀ {l₁:List α} {l₂:List β},Paired F l₁ l₂→(∀ a b,F a b→G a b)→Paired G l₁ l₂
 | _,_,.nil,_=>.nil
 | _,_,.cons r t,f=>.cons (f _ _ r) (Paired.mapP t f)
theorem ObjOk.stay (x:ObjOk P w H h a o) (k:∀ b u,(b=a∨H b=some (.own a))→h.get? b=some u→h'.get? b=some u)
 (ho:∀ b,H b=some (.own a)→H' b=some (.own a)) (ht:∀ b xs,H b=some (.tup xs)→H' b=some (.tup xs)):ObjOk P w H' h' a o:=by
 induction o with
 | lst xs=>obtain ⟨z,its,n,r,e⟩:=x;exact ⟨z,its,n,r,k _ _ (.inl rfl) e⟩
 | tup xs=>obtain ⟨z,its,r,ob,e,c⟩:=x;exact ⟨z,its,r,ob,k _ _ (.inl rfl) e,c⟩
 | dK kvs=>obtain ⟨z,y,vs,r,ob,es,ep,e,c⟩:=x;exact ⟨z,y,vs,r,ob,es,ep,k _ _ (.inl rfl) e,c⟩
 | dT kvs =>
   obtain ⟨z,y,xs,r,ob,es,ep,e,c⟩:=x;exact ⟨z,y,xs,Paired.mapP r fun p q z=>⟨z.1,ht _ _ z.2.1,z.2.2⟩,ob,es,ep,k _ _ (.inl rfl) e,c⟩
 | set S n=>obtain ⟨ob,es,ep,t,e,c⟩:=x;exact ⟨ob,es,ep,t,k _ _ (.inl rfl) e,c⟩
 | ins C dx fs =>
   obtain ⟨d,z,ne,e,mA,⟨od,es,ep,e2,c⟩,r⟩:=x;exact ⟨ho _ d,z,ne,k _ _ (.inl rfl) e,mA,⟨od,es,ep,k _ _ (.inr d) e2,c⟩,r⟩
 | own y=>obtain ⟨ob,e⟩:=x;exact ⟨ob,k _ _ (.inl rfl) e⟩
 | xd fs=>obtain ⟨mA,⟨od,es,ep,e,c⟩,r⟩:=x;exact ⟨mA,⟨od,es,ep,k _ _ (.inl rfl) e,c⟩,r⟩
 | rng lo hi=>obtain ⟨t,u,v,e⟩:=x;exact ⟨t,u,v,k _ _ (.inl rfl) e⟩
 | frz ob u ih=>obtain ⟨e,q⟩:=x;exact ⟨k _ _ (.inl rfl) e,ih q⟩
 | tbl ps =>
   have e:h.get? a=some { cls:=.none,data:=.fields ps }:=x;show h'.get? a=some { cls:=.none,data:=.fields ps }
   exact k a _ (.inl rfl) e
 | met f y =>
   have e:h.get? a=some (PySem.W.methodObj (.ref f) (.ref y)):=x;show h'.get? a=some (PySem.W.methodObj (.ref f) (.ref y))
   exact k a _ (.inl rfl) e
 | ext φ=>obtain ⟨p,⟨o,e⟩,st⟩:=x;exact ⟨st _ _ p fun o q=>k _ _ (.inl rfl) q,⟨o,k _ _ (.inl rfl) e⟩,st⟩
theorem HOk.lt (x:HOk P w H h) (e:H a=some o):a<h.objs.size:=(x a o e).lt
theorem HOk.fresh (x:HOk P w H h) (e:h.objs.size≤a):H a=none:=by
 cases q:H a with
 | none=>rfl
 | some u=>exact absurd (n20_ (x.lt q) e) (n77_ _)
theorem HOk.kept (x:HOk P w H h) (k:∀ b u,h.get? b=some u→h'.get? b=some u):HOk P w H h':=fun a o e =>
 (x a o e).stay (fun b u _ q=>k b u q) (fun _ q=>q) fun _ _ q=>q
theorem HOk.laid (x:HOk P w H h) (k:∀ b u,h.get? b=some u→h'.get? b=some u) (hp:h.objs.size≤a) (new:ObjOk P w (upd H a o) h' a o):HOk P w (upd H a o) h':=fun b u e=>by
 have hn:=x.fresh hp
 by_cases hb:b=a
 · subst hb;rw [Zc] at e;cases e;exact new
 · rw [Zh hb] at e;exact (x b u e).stay (fun c v _ q=>k c v q) (fun c q=>by rw [Zh (Zi q hn)];exact q) fun c xs q=>by rw [Zh (Zi q hn)];exact q
end
def Rd (H:Hp) (a:Addr) (u:HO):Prop:=H a=some u∨∃ o,H a=some (.frz o u)
theorem Rd.ok {P:Program} {w:World} {H:Hp} {h:Heap} {a:Addr} {u:HO} (r:Rd H a u) (x:HOk P w H h):ObjOk P w H h a u:=by
 rcases r with r|⟨o,r⟩
 · exact x a u r
 · obtain ⟨_,q⟩:=x a _ r;exact q
def Mut:Option HO→Prop
 | some (.lst _)=>True
 | some (.dK _)=>True
 | some (.dT _)=>True
 | some (.set _ _)=>True
 | some (.ins _ _ _)=>True
 | some (.ext _)=>True
 | _=>False
section
variable {P:Program} {w:World} {H:Hp} {h h':Heap} {x e:Addr} {o':HO}
theorem HOk.write (ok:HOk P w H h) (mu:Mut (H x)) (he:e=x∨H e=some (.own x)) (k:∀ b u,b≠e→h.get? b=some u→h'.get? b=some u) (heo:∃ u,h'.get? e=some u)
 (new:ObjOk P w (upd H x o') h' x o'):HOk P w (upd H x o') h':=fun b u q=>by
 have nown:∀ c y,H c=some (.own y)→c≠x:=fun c y r z=>by subst z;rw [r] at mu;exact mu
 have ntup:∀ c xs,H c=some (.tup xs)→c≠x:=fun c xs r z=>by subst z;rw [r] at mu;exact mu
 by_cases hb:b=x
 · subst hb;rw [Zc] at q;cases q;exact new
 · rw [Zh hb] at q
   by_cases hbe:b=e
   · have q':H b=some (.own x):=by
      rcases he with z|z
      · exact absurd (hbe.trans z) hb
      · rw [hbe];exact z
     rw [q] at q';cases q';obtain ⟨v,hv⟩:=heo;exact ⟨v,by rw [hbe];exact hv⟩
   · refine (ok b u q).stay (fun c v hc r=>k c v ?_ r) (fun c r=>by rw [Zh (nown c b r)];exact r) fun c xs r=>by rw [Zh (ntup c xs r)];exact r
     rcases hc with rfl|hc
     · exact hbe
     · rintro rfl
       rcases he with z|z
       · exact nown c b hc z
       · rw [hc] at z;cases z;exact hb rfl
end
structure Un (fs ex:List Addr) (H H':Hp) (h h':Heap):Prop where
 keep:∀ b o,h.get? b=some o→H b=none→b∉fs→b∉ex→h'.get? b=some o
 slot:∀ b o,h.get? b=some o→H b=none→b∈fs→b∉ex→∃ sl,h'.get? b=some { o with slots:=sl }
 free:∀ b o,h.get? b=some o→H b=none→b∉ex→H' b=none
 there:∀ b o,h.get? b=some o→b∉ex→∃ o',h'.get? b=some o'
 tups:∀ b xs,H b=some (.tup xs)→H' b=some (.tup xs)
 frzs:∀ b o u,H b=some (.frz o u)→H' b=some (.frz o u)
 tbls:∀ b ps,H b=some (.tbl ps)→∃ more,H' b=some (.tbl (ps++more))
section
variable {fs fs' ex ex':List Addr} {H H1 H2:Hp} {h h1 h2 h':Heap} {a x e:Addr} {o:HO}
theorem Un.any (u:Un fs ex H H1 h h1) {b:Addr} {ob:Obj} (q:h.get? b=some ob) (n:H b=none) (hx:b∉ex):∃ sl,h1.get? b=some { ob with slots:=sl }:=by
 by_cases hb:b∈fs
 · exact u.slot b ob q n hb hx
 · exact ⟨ob.slots,u.keep b ob q n hb hx⟩
theorem Un.kept (k:∀ b u,h.get? b=some u→h'.get? b=some u):Un fs ex H H h h' :=
 ⟨fun b ob q _ _ _=>k b ob q,fun b ob q _ _ _=>⟨ob.slots,k b ob q⟩,fun _ _ _ n _=>n,fun b ob q _=>⟨ob,k b ob q⟩,fun _ _ q=>q,fun _ _ _ q=>q,fun _ ps q=>⟨#[],by rw [q];simp⟩⟩
theorem Un.refl:Un fs ex H H h h:=Un.kept fun _ _ q=>q
theorem Un.laid (k:∀ b u,h.get? b=some u→h'.get? b=some u) (hp:h.objs.size≤a) (hn:H a=none):Un fs ex H (upd H a o) h h' where
 keep:=fun b u q _ _ _=>k b u q
 slot:=fun b u q _ _ _=>⟨u.slots,k b u q⟩
 free:=fun b u q n _=>by rw [Zh (n24_ (n20_ (n13_ q) hp))];exact n
 there:=fun b u q _=>⟨u,k b u q⟩
 tups:=fun b xs q=>by rw [Zh (Zi q hn)];exact q
 frzs:=fun b u xs q=>by rw [Zh (Zi q hn)];exact q
 tbls:=fun b ps q=>⟨#[],by rw [Zh (Zi q hn),q];simp⟩
theorem Un.write (mu:Mut (H x)) (he:e=x∨H e=some (.own x)) (k:∀ b u,b≠e→h.get? b=some u→h'.get? b=some u) (heo:∃ u,h'.get? e=some u):Un fs ex H (upd H x o) h h':=by
 have hx:∀ b,H b=none→b≠x:=fun b n z=>by subst z;rw [n] at mu;exact mu
 have hb:∀ b,H b=none→b≠e:=fun b n z=>by
  subst z
  rcases he with r|r
  · exact hx b n r
  · rw [n] at r;cases r
 have hm:∀ b u,H b=some u→¬ Mut (some u)→b≠x:=fun b u q nm z=>by subst z;rw [q] at mu;exact nm mu
 refine ⟨fun b u q n _ _=>k b u (hb b n) q,fun b u q n _ _=>⟨u.slots,k b u (hb b n) q⟩,fun b u q n _=>by rw [Zh (hx b n)];exact n,fun b u q _=>?_,
  fun b xs q=>by rw [Zh (hm b _ q fun z=>z)];exact q,fun b u xs q=>by rw [Zh (hm b _ q fun z=>z)];exact q,fun b ps q=>⟨#[],by rw [Zh (hm b _ q fun z=>z),q];simp⟩⟩
 by_cases hbe:b=e
 · subst hbe;exact heo
 · exact ⟨u,k b u hbe q⟩
end
def trk (h:Heap) (H:Hp):List Addr:=(List.range h.objs.size).filter fun a=>(H a).isSome
def hidT (h:Heap) (H:Hp):Heap:=PySem.W.hideAll h (trk h H)
theorem Zl9 (h:Heap) (H:Hp):(hidT h H).objs.size=h.objs.size:=PySem.W.hideAll_size _ _
theorem Zo4 {h:Heap} {H:Hp} {b:Addr} {o:Obj} (e:h.get? b=some o) (n:H b=none):(hidT h H).get? b=some o :=
 PySem.W.hideAll_get _ e fun hm=>by
  have q:(H b).isSome=true:=(n37_.mp hm).2;rw [n] at q;simp at q
theorem Zq6 {h:Heap} {H:Hp} {b:Addr} {o:Obj} (e:(hidT h H).get? b=some o):h.get? b=some o∧H b=none:=by
 have e':h.get? b=some o:=PySem.W.of_hideAll (trk h H) e;refine ⟨e',?_⟩;cases q:H b with
 | none=>rfl
 | some x =>
   have hm:b∈trk h H:=n37_.mpr ⟨n26_.mpr (n13_ e'),by simp [q]⟩;have z:(hidT h H).get? b=none:=PySem.W.hideAll_none (trk h H) hm;rw [z] at e;cases e
structure Mod (K:PySem.W.Frag) (mg:Str→Option Value) (base:Heap):Prop where
 kin:K.In base
 glob:base.Ns mainGlobals mg
 blt:∃ mb,base.Ns builtinsNs mb∧∀ x:Str,x ≠ "__name__" → mb x=bootBuiltins x
 nolimit:base.NoLimit
 seer:base.NoSeer
 digits:base.NoDigits
structure Cx where
 prog:Program
 w:World
 K:PySem.W.Frag
 mg:Str→Option Value
 base:Heap
 A:Around
 N:List Str
 s₀:Shared
 H₀:Hp
 env:Env
 outer:List Env
 stack:List Env
 ex:List Addr
 fn:Str→Bool
 calm:Bool
 pn:List (Addr×Obj)
 xe:Value→Shared→Prop
def frs (l:List Env):List Addr:=l.filterMap (·.frame)
abbrev Cx.fs (X:Cx):List Addr:=frs X.outer
def Vis (sc:Scope) (x:Str):Prop:=sc.names.lookup x=some .local∨sc.names.lookup x=some .cell∨sc.names.lookup x=some .free
def Loc (sc:Scope) (x:Str):Prop:=sc.names.lookup x=some .local∨sc.names.lookup x=some .cell
def Look (env:Env) (h:Heap) (m:Str→Option Value) (x:Str) (u:Value):Prop :=
 (env.kindOf x=some .local∧m x=some u)∨((env.kindOf x=some .cell∨env.kindOf x=some .free)∧∃ c,env.cells.lookup x=some c∧h.IsCell c (some u))
structure Cx.Ok (X:Cx):Prop where
 mod:Mod X.K X.mg X.base
 kind:X.env.scope.kind=.function
 glob:X.env.globals=mainGlobals
 blt:X.env.builtins=builtinsNs
 above:X.s₀.heap.objs.size≤X.env.locals
 inj:∀ x y c,X.env.cells.lookup x=some c→X.env.cells.lookup y=some c→x=y
 has:∀ x,(X.env.kindOf x=some .cell∨X.env.kindOf x=some .free)→∃ c,X.env.cells.lookup x=some c
 cab:∀ x c,X.fn x=true→X.env.cells.lookup x=some c→X.s₀.heap.objs.size≤c
 hd:X.calm=true→X.A.handled=none
 frames:X.A.frames=some X.stack
 stk:X.stack=X.outer∨(X.stack=X.env :: X.outer∧X.env.frame=some X.env.locals)
 exf:∀ b∈X.ex,b≠X.env.locals∧∀ x c,X.env.cells.lookup x=some c→c≠b
 bs:∀ b o,X.base.get? b=some o→X.s₀.heap.get? b=some o∧X.H₀ b=none
 bsz:X.base.objs.size≤X.s₀.heap.objs.size
 noex:∀ b o,X.base.get? b=some o→b∉X.ex
 exfs:∀ b∈X.ex,b∉X.fs
 funs:X.s₀.heap.FunFrames X.base X.outer
 frf:∀ b∈X.fs,X.H₀ b=none
structure Inv (X:Cx) (pins:List (Addr×Obj)) (σ:List (Option V)) (H:Hp) (s:Shared):Prop where
 ok:X.Ok
 os:s.os=X.s₀.os
 bare:AllBare s.gens
 base:Un X.fs X.ex X.H₀ H X.s₀.heap s.heap
 loc:∃ m,s.heap.Ns X.env.locals m∧∀ (i:Nat) (x:Str) (v:V),X.N[i]? = some x→σ[i]? = some (some v)→Vis X.env.scope x→∃ u,RelV v u∧Look X.env s.heap m x u
 cell:∀ x c,X.env.cells.lookup x=some c→∃ v,s.heap.IsCell c v
 free:H X.env.locals=none
 freeC:∀ x c,X.env.cells.lookup x=some c→H c=none∨(X.fn x=false∧∃ o u,H c=some (.frz o u))
 pin:∀ p∈X.pn++pins,s.heap.get? p.1=some p.2∧H p.1=none∧p.1≠X.env.locals∧p.1∉X.fs∧∀ v,p.2.data≠.cell v
 hok:HOk X.prog X.w H s.heap
 len:σ.length=X.N.length
section
variable {X:Cx} {pins:List (Addr×Obj)} {σ:List (Option V)} {H H':Hp} {s:Shared} {h':Heap}
theorem Cx.Ok.nofr (ok:X.Ok) {b:Addr} {o:Obj} (e:X.base.get? b=some o):b∉X.fs:=fun hb=>by
 have:=(ok.funs.mem hb).1
 rw [e] at this;cases this
theorem Inv.bs (I:Inv X pins σ H s):∀ b o,X.base.get? b=some o→s.heap.get? b=some o∧H b=none:=fun b o e =>
 ⟨I.base.keep b o (I.ok.bs b o e).1 (I.ok.bs b o e).2 (I.ok.nofr e) (I.ok.noex b o e),I.base.free b o (I.ok.bs b o e).1 (I.ok.bs b o e).2 (I.ok.noex b o e)⟩
theorem Inv.bk (I:Inv X pins σ H s):∀ b o,X.base.get? b=some o→s.heap.get? b=some o:=fun b o e=>(I.bs b o e).1
theorem Inv.mod (I:Inv X pins σ H s):Mod X.K X.mg X.base:=I.ok.mod
theorem Inv.kIn (I:Inv X pins σ H s):X.K.In s.heap:=I.ok.mod.kin.keeps I.bk
theorem Inv.lt (I:Inv X pins σ H s):X.env.locals<s.heap.objs.size:=let ⟨_,hn,_⟩:=I.loc;hn.lt
theorem Inv.sz (I:Inv X pins σ H s):X.s₀.heap.objs.size≤s.heap.objs.size:=n53_ I.ok.above (Nat.le_of_lt I.lt)
theorem Inv.nofs (I:Inv X pins σ H s) {a:Addr} (h:s.heap.objs.size≤a):a∉X.fs:=fun hb=>by
 obtain ⟨_,o,ho,_⟩:=I.ok.funs.mem hb;exact absurd (n20_ (n13_ ho) (n53_ I.sz h)) (n77_ _)
theorem Inv.cne (I:Inv X pins σ H s):∀ x c,X.env.cells.lookup x=some c→c≠X.env.locals:=fun x c e z=>by
 obtain ⟨v,o,ho,hd⟩:=I.cell x c e;obtain ⟨m,⟨o',es,ep,ho',hd',_⟩,_⟩:=I.loc;rw [z,ho'] at ho;cases ho;rw [hd'] at hd;cases hd
theorem Inv.funs (I:Inv X pins σ H s):s.heap.FunFrames X.base X.outer:=by
 have all:∀ (l:List Env),(∀ b∈frs l,b∈X.fs)→X.s₀.heap.FunFrames X.base l→s.heap.FunFrames X.base l:=by
  intro l
  induction l with
  | nil=>intro _ _;trivial
  | cons env r ih =>
    intro hs hl;obtain ⟨hk,⟨L,o,hf,hn,ho,hd⟩,hr⟩:=hl;have hL:L∈X.fs:=hs L (by unfold frs;rw [List.filterMap_cons,hf];exact n15_);obtain ⟨sl,e⟩:=I.base.slot L o ho (I.ok.frf L hL) hL fun z=>I.ok.exfs L z hL;exact ⟨hk,⟨L,_,hf,hn,e,hd⟩,ih (fun b hb=>hs b (by unfold frs;rw [List.filterMap_cons,hf];exact n17_ _ hb)) hr⟩
 exact all X.outer (fun _ hb=>hb) I.ok.funs
theorem Inv.stack (I:Inv X pins σ H s):s.heap.FunFrames X.base X.stack:=by
 rcases I.ok.stk with e|⟨e,hf⟩
 · rw [e];exact I.funs
 · rw [e];obtain ⟨m,hn,_⟩:=I.loc;refine .cons (by rw [I.ok.kind];decide) hf hn ?_ I.funs;exact Heap.get?_none_of_le (n53_ I.ok.bsz I.ok.above)
theorem Inv.stkSub (I:Inv X pins σ H s):∀ b∈frs X.stack,b∈X.env.locals :: X.fs:=fun b hb=>by
 rcases I.ok.stk with e|⟨e,hf⟩
 · rw [e] at hb;exact n17_ _ hb
 · rw [e] at hb;unfold frs at hb;rw [List.filterMap_cons,hf] at hb;exact hb
theorem Inv.stkFree (I:Inv X pins σ H s):∀ b∈frs X.stack,H b=none:=fun b hb=>by
 rcases n11_.mp (I.stkSub b hb) with e|hb
 · rw [e];exact I.free
 · obtain ⟨_,o,ho,_⟩:=I.ok.funs.mem hb;exact I.base.free b o ho (I.ok.frf b hb) fun z=>I.ok.exfs b z hb
theorem Inv.step {g':Array GenState} {t':Nat} {d':Drawn} {ch:List Addr} (I:Inv X pins σ H s)
 (hch:∀ b∈ch,(b∈X.ex∨X.s₀.heap.objs.size≤b)∧b≠X.env.locals∧(∀ x c,X.env.cells.lookup x=some c→c≠b)∧∀ p∈X.pn++pins,p.1≠b)
 (keep:∀ b o,b≠X.env.locals→b∉X.fs→b∉ch→s.heap.get? b=some o→H b=none→h'.get? b=some o)
 (slot:∀ b o,b≠X.env.locals→b∈X.fs→b∉ch→s.heap.get? b=some o→H b=none→∃ sl,h'.get? b=some { o with slots:=sl }) (free:∀ b o,b∉ch→s.heap.get? b=some o→H b=none→H' b=none)
 (there:∀ b o,b∉ch→s.heap.get? b=some o→∃ o',h'.get? b=some o')
 (tups:∀ b xs,H b=some (.tup xs)→H' b=some (.tup xs)) (frzs:∀ b o u,H b=some (.frz o u)→H' b=some (.frz o u)) (tbls:∀ b ps,H b=some (.tbl ps)→∃ more,H' b=some (.tbl (ps++more)))
 (ns:∀ m,s.heap.Ns X.env.locals m→h'.Ns X.env.locals m) (hok:HOk X.prog X.w H' h') (hg:AllBare g') :
 Inv X pins σ H' { s with heap:=h',gens:=g',drawn:=d',toks:=t' }:=by
 have neL:∀ b o,X.s₀.heap.get? b=some o→b≠X.env.locals:=fun b o e=>n24_ (n20_ (n13_ e) I.ok.above)
 have neC:∀ b o,X.s₀.heap.get? b=some o→b∉X.ex→b∉ch:=fun b o e hx hb=>by
  rcases (hch b hb).1 with z|z
  · exact hx z
  · exact absurd (n20_ (n13_ e) z) (n77_ _)
 have cellK:∀ x c,X.env.cells.lookup x=some c→∀ v,s.heap.IsCell c v→h'.IsCell c v:=fun x c e v ⟨o,ho,hd⟩=>by
  have nch:c∉ch:=fun z=>(hch c z).2.2.1 x c e rfl
  rcases I.freeC x c e with fz|⟨_,o',u',fz⟩
  · by_cases hc:c∈X.fs
    · obtain ⟨sl,q⟩:=slot c o (I.cne x c e) hc nch ho fz;exact ⟨_,q,hd⟩
    · exact ⟨o,keep c o (I.cne x c e) hc nch ho fz,hd⟩
  · have h1:=(I.hok c _ fz).1;rw [ho] at h1;cases h1;exact ⟨o,(hok c _ (frzs c o u' fz)).1,hd⟩
 refine ⟨I.ok,I.os,hg,⟨fun b o e n hb hx=>?_,fun b o e n hb hx=>?_,fun b o e n hx=>?_,fun b o e hx=>?_,fun b xs e=>tups b xs (I.base.tups b xs e),fun b o xs e=>frzs b o xs (I.base.frzs b o xs e),fun b ps e=>?_⟩,?_,fun x c e=>?_,?_,fun x c e=>?_,fun p hp=>?_,hok,I.len⟩
 · exact keep b o (neL b o e) hb (neC b o e hx) (I.base.keep b o e n hb hx) (I.base.free b o e n hx)
 · obtain ⟨sl,e1⟩:=I.base.slot b o e n hb hx;obtain ⟨sl',e2⟩:=slot b _ (neL b o e) hb (neC b o e hx) e1 (I.base.free b o e n hx);exact ⟨sl',e2⟩
 · obtain ⟨o',e1⟩:=I.base.there b o e hx;exact free b o' (neC b o e hx) e1 (I.base.free b o e n hx)
 · obtain ⟨o',e1⟩:=I.base.there b o e hx;exact there b o' (neC b o e hx) e1
 · obtain ⟨m1,e1⟩:=I.base.tbls b ps e;obtain ⟨m2,e2⟩:=tbls b _ e1;exact ⟨m1++m2,by rw [e2,Array.append_assoc]⟩
 · obtain ⟨m,hn,hl⟩:=I.loc;refine ⟨m,ns m hn,fun i x v e1 e2 e3=>?_⟩;obtain ⟨u,r,l⟩:=hl i x v e1 e2 e3;refine ⟨u,r,?_⟩
   rcases l with l|⟨k,c,e,z⟩
   · exact .inl l
   · exact .inr ⟨k,c,e,cellK x c e _ z⟩
 · obtain ⟨v,z⟩:=I.cell x c e;exact ⟨v,cellK x c e v z⟩
 · obtain ⟨m,⟨o,_,_,ho,_⟩,_⟩:=I.loc;exact free _ o (fun z=>(hch _ z).2.1 rfl) ho I.free
 · obtain ⟨v,o,ho,hd⟩:=I.cell x c e;exact (I.freeC x c e).imp (fun fz=>free c o (fun z=>(hch c z).2.2.1 x c e rfl) ho fz) fun ⟨q,o',u',fz⟩=>⟨q,o',u',frzs c o' u' fz⟩
 · obtain ⟨e,n,ne,nf,d⟩:=I.pin p hp;have nch:p.1∉ch:=fun z=>(hch p.1 z).2.2.2 p hp rfl;exact ⟨keep p.1 p.2 ne nf nch e n,free p.1 p.2 nch e n,ne,nf,d⟩
theorem Inv.un {t':Nat} (I:Inv X pins σ H s) (u:Un X.fs [] H H' s.heap h') (hok:HOk X.prog X.w H' h'):Inv X pins σ H' { s with heap:=h',toks:=t' }:=by
 obtain ⟨m,⟨o,es,ep,ho,r⟩,_⟩:=id I.loc;obtain ⟨sl,hL⟩:=u.any ho I.free (by simp)
 exact I.step (g':=s.gens) (d':=s.drawn) (ch:=[]) (fun _ z=>nomatch z) (fun b o _ hb _ e n=>u.keep b o e n hb (by simp)) (fun b o _ hb _ e n=>u.slot b o e n hb (by simp)) (fun b o _ e n=>u.free b o e n (by simp)) (fun b o _ e=>u.there b o e (by simp)) u.tups u.frzs u.tbls (fun m' hm=>by
  obtain ⟨o',es',ep',ho',r'⟩:=hm;rw [ho] at ho';cases ho';exact ⟨_,es',ep',hL,r'⟩) hok I.bare
theorem Inv.call {g':Array GenState} {t':Nat} {d':Drawn} {ch:List Addr} (I:Inv X pins σ H s) (u:Un (frs X.stack) ch H H' s.heap h') (hok:HOk X.prog X.w H' h') (hg:AllBare g')
 (hch:∀ b∈ch,(b∈X.ex∨X.s₀.heap.objs.size≤b)∧b≠X.env.locals∧(∀ x c,X.env.cells.lookup x=some c→c≠b)∧∀ p∈X.pn++pins,p.1≠b) :
 Inv X pins σ H' { s with heap:=h',gens:=g',drawn:=d',toks:=t' }:=by
 obtain ⟨m,⟨o,es,ep,ho,r⟩,_⟩:=id I.loc;obtain ⟨sl,hL⟩:=u.any ho I.free fun z=>(hch _ z).2.1 rfl
 exact I.step (ch:=ch) hch (fun b o hL hb hc e n=>u.keep b o e n (fun z=>(n11_.mp (I.stkSub b z)).elim hL hb) hc) (fun b o _ _ hc e n=>u.any e n hc) (fun b o hc e n=>u.free b o e n hc) (fun b o hc e=>u.there b o e hc) u.tups u.frzs u.tbls (fun m' hm=>by
  obtain ⟨o',es',ep',ho',r'⟩:=hm;rw [ho] at ho';cases ho';exact ⟨_,es',ep',hL,r'⟩) hok hg
theorem Inv.turned {t':Nat} {it:Addr} (I:Inv X pins σ H s) (k:∀ b o,b≠it→s.heap.get? b=some o→h'.get? b=some o) (hn:H it=none) (hL:it≠X.env.locals)
 (h1:it∈X.ex∨X.s₀.heap.objs.size≤it) (h2:∀ x c,X.env.cells.lookup x=some c→c≠it) (h3:∀ p∈X.pn++pins,p.1≠it):Inv X pins σ H { s with heap:=h',toks:=t' }:=by
 have nit:∀ b u,H b=some u→b≠it:=fun b u e z=>by rw [z,hn] at e;cases e
 refine I.step (g':=s.gens) (d':=s.drawn) (ch:=[it]) (fun b hb=>?_) (fun b o _ _ hc e _=>k b o (fun z=>hc (by simp [z])) e) (fun b o _ _ hc e _=>⟨o.slots,k b o (fun z=>hc (by simp [z])) e⟩) (fun _ _ _ _ n=>n)
  (fun b o hc e=>⟨o,k b o (fun z=>hc (by simp [z])) e⟩) (fun _ _ e=>e) (fun _ _ _ e=>e) (fun b ps e=>⟨#[],by rw [e];simp⟩) (fun m hm=>?_) (fun b u e=>?_) I.bare
 · have e:b=it:=by simpa using hb
   subst e;exact ⟨h1,hL,h2,h3⟩
 · obtain ⟨o,es,ep,ho,r⟩:=hm;exact ⟨o,es,ep,k _ o (Ne.symm hL) ho,r⟩
 · refine (I.hok b u e).stay (fun c v hc q=>k c v ?_ q) (fun _ q=>q) fun _ _ q=>q
   rcases hc with z|z
   · rw [z];exact nit b u e
   · exact nit c _ z
theorem Inv.tok (I:Inv X pins σ H s) (t:Nat):Inv X pins σ H { s with toks:=t }:=I.un (h':=s.heap) (t':=t) Un.refl I.hok
theorem Inv.kept {t':Nat} (I:Inv X pins σ H s) (k:∀ b u,s.heap.get? b=some u→h'.get? b=some u):Inv X pins σ H { s with heap:=h',toks:=t' }:=I.un (Un.kept k) (I.hok.kept k)
theorem Inv.laid {a:Addr} {o:HO} {t':Nat} (I:Inv X pins σ H s) (k:∀ b u,s.heap.get? b=some u→h'.get? b=some u) (hp:s.heap.objs.size≤a) (new:ObjOk X.prog X.w (upd H a o) h' a o) :
 Inv X pins σ (upd H a o) { s with heap:=h',toks:=t' }:=I.un (Un.laid k hp (I.hok.fresh hp)) (I.hok.laid k hp new)
theorem Inv.write {x e:Addr} {o:HO} {t':Nat} (I:Inv X pins σ H s) (mu:Mut (H x)) (he:e=x∨H e=some (.own x)) (k:∀ b u,b≠e→s.heap.get? b=some u→h'.get? b=some u) (heo:∃ u,h'.get? e=some u)
 (new:ObjOk X.prog X.w (upd H x o) h' x o):Inv X pins σ (upd H x o) { s with heap:=h',toks:=t' }:=I.un (Un.write mu he k heo) (I.hok.write mu he k heo new)
theorem Inv.pins_of {pins':List (Addr×Obj)} (I:Inv X pins σ H s) (h:∀ p∈pins',s.heap.get? p.1=some p.2∧H p.1=none∧p.1≠X.env.locals∧p.1∉X.fs∧∀ v,p.2.data≠.cell v):Inv X pins' σ H s :=
 ⟨I.ok,I.os,I.bare,I.base,I.loc,I.cell,I.free,I.freeC,fun p hp=>(n28_.mp hp).elim (fun z=>I.pin p (n67_ _ z)) (h p),I.hok,I.len⟩
theorem Zkc {N:List Str} (hN:N.Nodup) {i j:Nat} {x:Str} (a:N[i]? = some x) (b:N[j]? = some x):i=j:=by
 obtain ⟨h1,e1⟩:=n14_.mp a;obtain ⟨h2,e2⟩:=n14_.mp b;exact (n63_ hN).mp (e1.trans e2.symm)
theorem Zls {M:Model} {A:Around} {E:Value→Shared→Prop} {i:Nat} {x:Str} {v:V} {u:Value} {Q:Unit→Shared→Prop} (I:Inv X pins σ H s) (hN:X.N.Nodup) (hi:X.N[i]? = some x) (hx:Loc X.env.scope x) (r:RelV v u)
 (h:∀ s',Inv X pins (σ.set i (some v)) H s'→(∃ a,Heap.SameBut a s.heap s'.heap∧(a=X.env.locals∨X.env.cells.lookup x=some a))→Q () s') (hf:X.fn x=true∨X.env.scope.names.lookup x=some .local:=by first|exact .inl rfl|exact .inr rfl|assumption):wpAny M A (storeName X.env x u) Q E s:=by
 obtain ⟨m,hn,hl⟩:=id I.loc;have hcls:(X.env.scope.kind == .class||(X.env.scope.kind == .module&&X.env.locals != X.env.globals))=false:=by rw [I.ok.kind];rfl
 have hiσ:i<σ.length:=by rw [I.len];exact (n14_.mp hi).1
 have cne:=I.cne
 have tracked:∀ {a:Addr} {h':Heap},(∃ o,s.heap.get? a=some o∧H a=none)→Heap.SameBut a s.heap h'→HOk X.prog X.w H h':=fun {a h'} ha hs b ob e=>by
  obtain ⟨_,_,hfree⟩:=ha;refine (I.hok b ob e).stay (fun c w' hc q=>(hs.2 c ?_).trans q) (fun _ q=>q) fun _ _ q=>q;rintro rfl
  rcases hc with rfl|hc
  · rw [hfree] at e;cases e
  · rw [hfree] at hc;cases hc
 rcases hx with hk|hk
 · refine wpAny_storeName_local hk hn (fun h' hn' hs=>?_) hcls;obtain ⟨oL,_,_,hoL,_⟩:=id hn;refine h _ ⟨I.ok,I.os,I.bare,⟨fun b o e n hb hx=>?_,fun b o e n hb hx=>?_,I.base.free,fun b o e hx=>?_,I.base.tups,I.base.frzs,I.base.tbls⟩,⟨_,hn',fun j y v' e1 e2 e3=>?_⟩,fun y c e=>?_,I.free,I.freeC,fun p hp=>?_,tracked ⟨oL,hoL,I.free⟩ hs,by simpa using I.len⟩ ⟨_,hs,.inl rfl⟩
   · exact (hs.2 b (n24_ (n20_ (n13_ e) I.ok.above))).trans (I.base.keep b o e n hb hx)
   · obtain ⟨sl,e1⟩:=I.base.slot b o e n hb hx;exact ⟨sl,(hs.2 b (n24_ (n20_ (n13_ e) I.ok.above))).trans e1⟩
   · obtain ⟨o',e1⟩:=I.base.there b o e hx;exact ⟨o',(hs.2 b (n24_ (n20_ (n13_ e) I.ok.above))).trans e1⟩
   · by_cases hj:j=i
     · subst hj;rw [hi] at e1;cases e1;rw [List.getElem?_set_self hiσ] at e2;cases e2
       exact ⟨u,r,.inl ⟨hk,by simp⟩⟩
     · rw [List.getElem?_set_ne (Ne.symm hj)] at e2;obtain ⟨u',r',q⟩:=hl j y v' e1 e2 e3;refine ⟨u',r',?_⟩
       rcases q with ⟨k,e⟩|⟨k,c,e,z⟩
       · refine .inl ⟨k,?_⟩
         have:y≠x:=fun e=>hj (Zkc hN e1 (e ▸ hi))
         simp [this,e]
       · exact .inr ⟨k,c,e,z.sameBut hs (cne y c e)⟩
   · obtain ⟨w',z⟩:=I.cell y c e;exact ⟨w',z.sameBut hs (cne y c e)⟩
   · obtain ⟨e,n,ne,nf,d⟩:=I.pin p hp;exact ⟨(hs.2 p.1 ne).trans e,n,ne,nf,d⟩
 · have hfn:X.fn x=true:=by
    rcases hf with z|z
    · exact z
    · rw [z] at hk;cases hk
   obtain ⟨c,hc⟩:=I.ok.has x (.inl hk);obtain ⟨w',z⟩:=I.cell x c hc;refine wpAny_storeName_cell I.ok.kind hk hc z (fun h' hc' hs=>?_);obtain ⟨oc,hoc,hocd⟩:=id z;refine h { s with heap:=h' } ⟨I.ok,I.os,I.bare,⟨fun b o e n hb hx=>?_,fun b o e n hb hx=>?_,I.base.free,fun b o e hx=>?_,I.base.tups,I.base.frzs,I.base.tbls⟩,⟨m,hn.sameBut hs (Ne.symm (cne x c hc)),fun j y v' e1 e2 e3=>?_⟩,fun y c' e=>?_,I.free,I.freeC,fun p hp=>?_,tracked ⟨oc,hoc,(I.freeC x c hc).elim id fun z=>(by rw [hfn] at z;cases z.1)⟩ hs,by simpa using I.len⟩ ⟨c,hs,.inr hc⟩
   · exact (hs.2 b (n24_ (n20_ (n13_ e) (I.ok.cab x c hfn hc)))).trans (I.base.keep b o e n hb hx)
   · obtain ⟨sl,e1⟩:=I.base.slot b o e n hb hx;exact ⟨sl,(hs.2 b (n24_ (n20_ (n13_ e) (I.ok.cab x c hfn hc)))).trans e1⟩
   · obtain ⟨o',e1⟩:=I.base.there b o e hx;exact ⟨o',(hs.2 b (n24_ (n20_ (n13_ e) (I.ok.cab x c hfn hc)))).trans e1⟩
   · by_cases hj:j=i
     · subst hj;rw [hi] at e1;cases e1;rw [List.getElem?_set_self hiσ] at e2;cases e2
       exact ⟨u,r,.inr ⟨.inl hk,c,hc,hc'⟩⟩
     · rw [List.getElem?_set_ne (Ne.symm hj)] at e2;obtain ⟨u',r',q⟩:=hl j y v' e1 e2 e3;refine ⟨u',r',?_⟩
       rcases q with q|⟨k,c',e,z'⟩
       · exact .inl q
       · refine .inr ⟨k,c',e,z'.sameBut hs ?_⟩;rintro rfl
         exact hj (Zkc hN e1 (I.ok.inj _ _ _ e hc ▸ hi))
   · by_cases hcc:c'=c
     · subst hcc;exact ⟨_,hc'⟩
     · obtain ⟨w2,z2⟩:=I.cell y c' e;exact ⟨w2,z2.sameBut hs hcc⟩
   · obtain ⟨e,n,ne,nf,d⟩:=I.pin p hp;refine ⟨(hs.2 p.1 ?_).trans e,n,ne,nf,d⟩;intro q;rw [q,hoc] at e;have q':oc=p.2:=Option.some.inj e;exact d w' (by rw [← q'];exact hocd)
theorem Zad {M:Model} {A:Around} {E:Value→Shared→Prop} {i:Nat} {x:Str} {v:V} {u:Value} {Q:Unit→Shared→Prop} (I:Inv X pins σ H s) (hN:X.N.Nodup) (hi:X.N[i]? = some x) (hx:Loc X.env.scope x) (r:RelV v u)
 (h:∀ s',Inv X pins (σ.set i (some v)) H s'→Q () s') (hf:X.fn x=true∨X.env.scope.names.lookup x=some .local:=by first|exact .inl rfl|exact .inr rfl|assumption):wpAny M A (storeName X.env x u) Q E s :=
 Zls I hN hi hx r (fun s' I' _=>h s' I') hf
theorem Inv.call' {s':Shared} {ch:List Addr} (I:Inv X pins σ H s) (ho:s'.os=s.os) (u:Un (frs X.stack) ch H H' s.heap s'.heap) (hok:HOk X.prog X.w H' s'.heap) (hg:AllBare s'.gens)
 (hch:∀ b∈ch,(b∈X.ex∨X.s₀.heap.objs.size≤b)∧b≠X.env.locals∧(∀ x c,X.env.cells.lookup x=some c→c≠b)∧∀ p∈X.pn++pins,p.1≠b):Inv X pins σ H' s':=by
 obtain ⟨h',g',d',t',o'⟩:=s';have e:o'=s.os:=ho;subst e;exact I.call (g':=g') (t':=t') (d':=d') u hok hg hch
end
abbrev XK:=Value→Option Addr→Hp→Prop
abbrev St:=List (Option V)
abbrev VK:=V→Hp→Prop
abbrev TE:=St→Hp→VK→Prop
abbrev TT:=St→Hp→(Bool→Hp→Prop)→Prop
abbrev TA:=St→Hp→(List V→Hp→Prop)→Prop
structure Ends where
 nx:St→Hp→Prop
 rt:VK
 bk:St→Hp→Prop:=fun _ _=>False
 ct:St→Hp→Prop:=fun _ _=>False
abbrev TS:=Ends→St→Hp→Prop
def EP (X:Cx) (pins:List (Addr×Obj)) (σ:St) (Q:VK) (u:Value) (s':Shared):Prop:=∃ v H',Inv X pins σ H' s'∧RelV v u∧Q v H'
def TP (X:Cx) (pins:List (Addr×Obj)) (σ:St) (Q:Bool→Hp→Prop) (b:Bool) (s':Shared):Prop:=∃ H',Inv X pins σ H' s'∧Q b H'
def AP (X:Cx) (pins:List (Addr×Obj)) (σ:St) (Q:List V→Hp→Prop) (us:List Value) (s':Shared):Prop:=∃ vs H',Inv X pins σ H' s'∧Vals vs us∧Q vs H'
def SP (X:Cx) (pins:List (Addr×Obj)) (D:Ends) (f:Flow) (s':Shared):Prop :=
 match f with
 | .next=>∃ σ' H',Inv X pins σ' H' s'∧D.nx σ' H'
 | .brk=>∃ σ' H',Inv X pins σ' H' s'∧D.bk σ' H'
 | .cont=>∃ σ' H',Inv X pins σ' H' s'∧D.ct σ' H'
 | .ret u=>∃ v σ' H',Inv X pins σ' H' s'∧RelV v u∧D.rt v H'
def PE (X:Cx) (e:Expr) (t:TE):Prop :=
 ∀ (pins:List (Addr×Obj)) (s:Shared) (σ:St) (H:Hp) (Q:VK),Inv X pins σ H s→t σ H Q→wpAny (model X.prog X.w) X.A (eval e X.env) (EP X pins σ Q) X.xe s
def PT (X:Cx) (e:Expr) (t:TT):Prop :=
 ∀ (pins:List (Addr×Obj)) (s:Shared) (σ:St) (H:Hp) (Q:Bool→Hp→Prop),Inv X pins σ H s→t σ H Q→wpAny (model X.prog X.w) X.A (isTrue e X.env (eval e X.env)) (TP X pins σ Q) X.xe s
def PW (X:Cx) (e:Expr) (t:TT):Prop :=
 ∀ (whole:Sem Value) (pins:List (Addr×Obj)) (s:Shared) (σ:St) (H:Hp) (Q:Bool→Hp→Prop),Inv X pins σ H s→t σ H Q→wpAny (model X.prog X.w) X.A (isTrue e X.env whole) (TP X pins σ Q) X.xe s
theorem PW.pt {X:Cx} {e:Expr} {t:TT} (h:PW X e t):PT X e t:=h _
def PA (X:Cx) (es:List Expr) (t:TA):Prop :=
 ∀ (pos:Pos) (pins:List (Addr×Obj)) (s:Shared) (σ:St) (H:Hp) (Q:List V→Hp→Prop),Inv X pins σ H s→t σ H Q→wpAny (model X.prog X.w) X.A (spliced (backTo pos (starEach es X.env))) (AP X pins σ Q) X.xe s
def PS (X:Cx) (st:Stmt) (t:TS):Prop :=
 ∀ (pins:List (Addr×Obj)) (s:Shared) (σ:St) (H:Hp) (D:Ends),Inv X pins σ H s→t D σ H→wpAny (model X.prog X.w) X.A (exec st X.env) (SP X pins D) X.xe s
def PSs (X:Cx) (st:List Stmt) (t:TS):Prop :=
 ∀ (pins:List (Addr×Obj)) (s:Shared) (σ:St) (H:Hp) (D:Ends),Inv X pins σ H s→t D σ H→wpAny (model X.prog X.w) X.A (execs st X.env) (SP X pins D) X.xe s
theorem thn {α:Type} {t:Sem α} {Q Q':α→Shared→Prop} {M:Model} {A:Around} {E:Value→Shared→Prop} {s:Shared} (h:wpAny M A t Q E s) (hQ:∀ a s,Q a s→Q' a s):wpAny M A t Q' E s:=n46_ h hQ fun _ _ x=>x
section
variable {X:Cx}
def tVar (i:Nat):TE:=fun σ H Q=>∃ v,σ[i]? = some (some v)∧Q v H
def tC (v:V):TE:=fun _ H Q=>Q v H
theorem Ztf {i:Nat} {x:Str} {pos:Pos} (hN:X.N[i]? = some x) (hv:Vis X.env.scope x) (hd:(x == ("__debug__" : Str))=false:=by decide) (hcd:(x == ("__classdict__" : Str))=false:=by decide):PE X (.Name x pos) (tVar i):=by
 intro pins s σ H Q I h;obtain ⟨v,e,h⟩:=h;obtain ⟨m,hn,hl⟩:=I.loc;obtain ⟨u,r,l⟩:=hl i x v hN e hv;have fin:EP X pins σ Q u s:=⟨v,H,I,r,h⟩
 rcases l with ⟨hk,hm⟩|⟨hk,c,hc,hcell⟩
 · exact wpAny_Name (wpAny_loadName_local I.ok.kind hk hn hm fin) hd
 · rcases hk with hk|hk
   · exact wpAny_Name (wpAny_loadName_cell I.ok.kind hk hc hcell fin) hd
   · exact wpAny_Name (wpAny_loadName_free I.ok.kind hk hc hcell fin hcd) hd
theorem Zf {i j pos}:PE X (.Constant (.int i) j pos) (tC (.int i)):=fun _ _ _ H _ I h=>wpAny_Constant_int ⟨.int i,H,I.tok _,⟨_,rfl⟩,h⟩
theorem X3 {b j pos}:PE X (.Constant (.bool b) j pos) (tC (.bl b)):=fun _ _ _ H _ I h=>Constant_bool ⟨.bl b,H,I,rfl,h⟩
theorem Zt9 {j pos}:PE X (.Constant .none j pos) (tC .non):=fun _ _ _ H _ I h=>Constant_none ⟨.non,H,I,rfl,h⟩
def Gl (X:Cx) (x:Str):Prop:=X.env.kindOf x=some .globalImplicit
theorem Ze7 {E:Value→Shared→Prop} {pins:List (Addr×Obj)} {s:Shared} {σ:St} {H:Hp} {x:Str} {u:Value} {pos:Pos} {Q:Value→Shared→Prop} (I:Inv X pins σ H s) (hg:Gl X x) (hm:X.mg x=some u) (h:Q u s)
 (hd:(x == ("__debug__" : Str))=false:=by decide):wpAny (model X.prog X.w) X.A (eval (.Name x pos) X.env) Q E s :=
 Calls.Name_function_global I.ok.kind hg (Calls.loadGlobal_global (by rw [I.ok.glob];exact I.mod.glob.keeps I.bk) hm h) hd
theorem Zbf {E:Value→Shared→Prop} {pins:List (Addr×Obj)} {s:Shared} {σ:St} {H:Hp} {x:Str} {u:Value} {pos:Pos} {Q:Value→Shared→Prop} (I:Inv X pins σ H s) (hg:Gl X x) (hm:X.mg x=none) (hv:bootBuiltins x=some u) (h:Q u s)
 (hn:x ≠ "__name__" := by decide) (hd:(x == ("__debug__" : Str))=false:=by decide):wpAny (model X.prog X.w) X.A (eval (.Name x pos) X.env) Q E s:=by
 obtain ⟨mb,h1,h2⟩:=I.mod.blt;exact Calls.Name_function_global I.ok.kind hg (Calls.loadGlobal_builtin (by rw [I.ok.glob];exact I.mod.glob.keeps I.bk) hm (by rw [I.ok.blt];exact h1.keeps I.bk) ((h2 x hn).trans hv) h) hd
theorem Zsu {x:Str} {v:V} {u:Value} {pos:Pos} (hg:Gl X x) (hm:X.mg x=some u) (r:RelV v u) (hd:(x == ("__debug__" : Str))=false:=by decide):PE X (.Name x pos) (tC v) :=
 fun _ _ _ H _ I h=>Ze7 I hg hm ⟨v,H,I,r,h⟩ hd
theorem Ziq {x:Str} {v:V} {u:Value} {pos:Pos} (hg:Gl X x) (hm:X.mg x=none) (hv:bootBuiltins x=some u) (r:RelV v u) (hn:x ≠ "__name__" := by decide) (hd:(x == ("__debug__" : Str))=false:=by decide):PE X (.Name x pos) (tC v) :=
 fun _ _ _ H _ I h=>Zbf I hg hm hv ⟨v,H,I,r,h⟩ hn hd
variable {a b:Expr} {ta tb:TE} {pos:Pos}
def PC (X:Cx) (op:CmpOp) (a b:Expr) (t:TE):Prop :=
 ∀ (pins:List (Addr×Obj)) (s:Shared) (σ:St) (H:Hp) (Q:VK),Inv X pins σ H s→t σ H Q →
   wpAny (model X.prog X.w) X.A (eval a X.env) (fun v s₁=>wpAny (model X.prog X.w) X.A (eval b X.env) (fun u s₂=>wpAny (model X.prog X.w) X.A (compareOp op v u) (EP X pins σ Q) X.xe s₂) X.xe s₁) X.xe s
def tB (t:TE):TT:=fun σ H Q=>t σ H fun x H1=>∃ c,x=.bl c∧Q c H1
theorem Ztn {op:CmpOp} {t:TE} (h:PC X op a b t) (h1:behindInMarks op b=false:=by first|exact nobehind _ (by decide) (by decide)|rfl):PT X (.Compare a [op] [b] pos) (tB t):=by
 intro pins s σ H Q I hw;refine wpAny_isTrue_Compare1 (thn (h pins s σ H _ I hw) fun v s1 h1=>thn h1 fun u s2 h2=>thn h2 fun c s3 ⟨x,H1,I1,r1,q1⟩=>?_) h1;obtain ⟨d,rfl,q⟩:=q1;cases r1
 exact wpAny_truthy_bool ⟨H1,I1,q⟩
variable {tA tB':TT} {rest:List Expr}
def tOr (t u:TT):TT:=fun σ H Q=>t σ H fun c H1=>if c=true then Q true H1 else u σ H1 Q
def tNot (t:TT):TT:=fun σ H Q=>t σ H fun c H1=>Q (!c) H1
theorem Zef (ha:PT X a tA):PW X (.BoolOp .Or [a] pos) tA:=by
 intro wh pins s σ H Q I h;refine isTrue_or (thn (ha pins s σ H Q I h) fun c s1 e=>?_);cases c with
 | false=>exact isTrue_or_nil e
 | true=>exact e
theorem Zlc (ha:PT X a tA) (hb:PW X (.BoolOp .Or (b :: rest) pos) tB'):PW X (.BoolOp .Or (a :: b :: rest) pos) (tOr tA tB'):=by
 intro wh pins s σ H Q I h;refine isTrue_or (thn (ha pins s σ H _ I h) fun c s1 ⟨H1,I1,q1⟩=>?_);cases c with
 | true=>exact ⟨H1,I1,q1⟩
 | false=>exact hb wh pins s1 σ H1 Q I1 q1
theorem Yz (ha:PT X a tA):PT X (.UnaryOp .Not a pos) (tNot tA):=by
 intro pins s σ H Q I h;exact isTrue_not (ha pins s σ H (fun c H1=>Q (!c) H1) I h)
def Zvj (ta tb:TE):TE:=fun σ H Q=>ta σ H fun x H1=>∃ c,x=.bl c∧if c=true then tb σ H1 Q else Q (.bl false) H1
def tOrV (ta tb:TE):TE:=fun σ H Q=>ta σ H fun x H1=>∃ c,x=.bl c∧if c=true then Q (.bl true) H1 else tb σ H1 Q
def Zvt (ta:TE):TE:=fun σ H Q=>ta σ H fun x H1=>∃ c,x=.bl c∧Q (.bl (!c)) H1
theorem Zcf {op} {t:TE} (h:PE X a t):PE X (.BoolOp op [a] pos) t:=fun pins s σ H Q I hw=>BoolOp_one (h pins s σ H Q I hw)
theorem Zdf (ha:PE X a ta) (hb:PE X (.BoolOp .And (b :: rest) pos) tb):PE X (.BoolOp .And (a :: b :: rest) pos) (Zvj ta tb):=by
 intro pins s σ H Q I h;refine BoolOp_and (thn (ha pins s σ H _ I h) fun v s1 ⟨x,H1,I1,r1,q1⟩=>?_);obtain ⟨c,rfl,q1⟩:=q1;cases r1
 refine wpAny_truthy_bool ?_;cases c with
 | true=>exact hb pins s1 σ H1 Q I1 q1
 | false=>exact ⟨.bl false,H1,I1,rfl,q1⟩
theorem Zu7 (ha:PE X a ta) (hb:PE X (.BoolOp .Or (b :: rest) pos) tb):PE X (.BoolOp .Or (a :: b :: rest) pos) (tOrV ta tb):=by
 intro pins s σ H Q I h;refine BoolOp_or (thn (ha pins s σ H _ I h) fun v s1 ⟨x,H1,I1,r1,q1⟩=>?_);obtain ⟨c,rfl,q1⟩:=q1;cases r1
 refine wpAny_truthy_bool ?_;cases c with
 | false=>exact hb pins s1 σ H1 Q I1 q1
 | true=>exact ⟨.bl true,H1,I1,rfl,q1⟩
theorem Zqt (ha:PE X a ta):PE X (.UnaryOp .Not a pos) (Zvt ta):=by
 intro pins s σ H Q I h;refine UnaryOp_ (thn (ha pins s σ H _ I h) fun v s1 ⟨x,H1,I1,r1,q1⟩=>?_);obtain ⟨c,rfl,q1⟩:=q1;cases r1
 exact not_of (wpAny_truthy_bool ⟨.bl (!c),H1,I1,rfl,q1⟩)
end
def SqL (K:PySem.W.Frag) (H:Hp) (a:Addr) (xs:List V):Prop :=
 Rd H a (.lst xs) ∨
  ∃ (o:Obj) (its:Array Value) (n:Nat),K.lookup a=some o∧o.cls=.type "list" ∧ o.dict=none∧o.data=.seq its n∧its.size≤sizeLine∧Vals xs its.toList
def SqT (K:PySem.W.Frag) (H:Hp) (a:Addr) (xs:List V):Prop :=
 Rd H a (.tup xs) ∨
  ∃ (o:Obj) (its:Array Value) (n:Nat),K.lookup a=some o∧o.cls=.type "tuple" ∧ o.data=.seq its n∧its.size≤sizeLine∧Vals xs its.toList
def absV:Value→Option V
 | .none=>some .non
 | .bool b=>some (.bl b)
 | .int i _=>some (.int i)
 | .str x _=>some (.str x)
 | .bytes b _=>some (.byt b)
 | .float b _=>some (.flt b)
 | .ref a=>some (.ref a)
 | .type n=>some (.ty n)
 | _=>none
theorem RelV.abs {x:V} {u:Value} (r:RelV x u):absV u=some x:=by
 cases x with
 | non=>cases r;rfl
 | bl _=>cases r;rfl
 | int _=>obtain ⟨t,rfl⟩:=r;rfl
 | str _=>obtain ⟨t,rfl⟩:=r;rfl
 | byt _=>obtain ⟨t,rfl⟩:=r;rfl
 | flt _=>obtain ⟨t,rfl⟩:=r;rfl
 | ref _=>cases r;rfl
 | ty _=>cases r;rfl
theorem RelV.inj {x y:V} {u:Value} (r:RelV x u) (q:RelV y u):x=y:=Option.some.inj (r.abs.symm.trans q.abs)
theorem Vals.inj:∀ {xs ys:List V} {us:List Value},Vals xs us→Vals ys us→xs=ys
 | _,_,_,.nil,.nil=>rfl
 | _,_,_,.cons r t,.cons r' t'=>by rw [r.inj r',Vals.inj t t']
section
variable {X:Cx} {pins:List (Addr×Obj)} {σ:St} {H:Hp} {s:Shared} {a:Addr} {xs ys:List V}
theorem SqL.of {K:PySem.W.Frag} (h:H a=some (.lst xs)):SqL K H a xs:=.inl (.inl h)
theorem SqT.of {K:PySem.W.Frag} (h:H a=some (.tup xs)):SqT K H a xs:=.inl (.inl h)
theorem Inv.list (I:Inv X pins σ H s) (h:SqL X.K H a xs):∃ its:List Value,Vals xs its∧PlainL s.heap a its.toArray∧xs.length≤sizeLine:=by
 rcases h with h|⟨o,its,n,hk,hc,hd,hs,hz,r⟩
 · obtain ⟨z,its,n,r,e⟩:=h.ok I.hok;exact ⟨its,r,⟨_,n,e,rfl,rfl,rfl⟩,z⟩
 · refine ⟨its.toList,r,⟨o,n,I.kIn a o hk,hc,hd,by simpa using hs⟩,?_⟩;have e:=r.length;simp only [Array.length_toList] at e;omega
theorem Inv.tuple (I:Inv X pins σ H s) (h:SqT X.K H a xs):∃ its:List Value,Vals xs its∧IsTup s.heap a its.toArray∧xs.length≤sizeLine:=by
 rcases h with h|⟨o,its,n,hk,hc,hs,hz,r⟩
 · obtain ⟨z,its,r,p⟩:=h.ok I.hok;exact ⟨its,r,p,z⟩
 · refine ⟨its.toList,r,⟨o,I.kIn a o hk,hc,n,by simpa using hs⟩,?_⟩;have e:=r.length;simp only [Array.length_toList] at e;omega
theorem Inv.list_inj (I:Inv X pins σ H s) (h:SqL X.K H a xs) (h':SqL X.K H a ys):xs=ys:=by
 obtain ⟨its,r,⟨o,n,e,_,_,d⟩,_⟩:=I.list h;obtain ⟨its',r',⟨o',n',e',_,_,d'⟩,_⟩:=I.list h';rw [e] at e';cases e';rw [d] at d';injection d' with d1 _
 have:its=its':=by simpa using congrArg Array.toList d1
 subst this;exact r.inj r'
theorem Inv.tuple_inj (I:Inv X pins σ H s) (h:SqT X.K H a xs) (h':SqT X.K H a ys):xs=ys:=by
 obtain ⟨its,r,⟨o,e,_,n,d⟩,_⟩:=I.tuple h;obtain ⟨its',r',⟨o',e',_,n',d'⟩,_⟩:=I.tuple h';rw [e] at e';cases e';rw [d] at d';injection d' with d1 _
 have:its=its':=by simpa using congrArg Array.toList d1
 subst this;exact r.inj r'
end
abbrev Cx.wish (X:Cx) (E:Value→Shared→Prop):Cx:={ X with xe:=E }
abbrev Cx.nox (X:Cx):Cx:=X.wish fun _ _=>False
theorem Cx.Ok.wish {X:Cx} (ok:X.Ok) (E:Value→Shared→Prop):(X.wish E).Ok :=
 ⟨ok.mod,ok.kind,ok.glob,ok.blt,ok.above,ok.inj,ok.has,ok.cab,ok.hd,ok.frames,ok.stk,ok.exf,ok.bs,ok.bsz,ok.noex,ok.exfs,ok.funs,ok.frf⟩
theorem Cx.Ok.unwish {X:Cx} {E:Value→Shared→Prop} (ok:(X.wish E).Ok):X.Ok :=
 ⟨ok.mod,ok.kind,ok.glob,ok.blt,ok.above,ok.inj,ok.has,ok.cab,ok.hd,ok.frames,ok.stk,ok.exf,ok.bs,ok.bsz,ok.noex,ok.exfs,ok.funs,ok.frf⟩
section
variable {X:Cx} {pins:List (Addr×Obj)} {σ:St} {H:Hp} {s:Shared} {E:Value→Shared→Prop}
theorem Inv.wish (I:Inv X pins σ H s) (E:Value→Shared→Prop):Inv (X.wish E) pins σ H s:=⟨I.ok.wish E,I.os,I.bare,I.base,I.loc,I.cell,I.free,I.freeC,I.pin,I.hok,I.len⟩
theorem Inv.unwish (I:Inv (X.wish E) pins σ H s):Inv X pins σ H s:=⟨I.ok.unwish,I.os,I.bare,I.base,I.loc,I.cell,I.free,I.freeC,I.pin,I.hok,I.len⟩
theorem SP.unwish {D:Ends} {f:Flow} {s':Shared} (h:SP (X.wish E) pins D f s'):SP X pins D f s':=by
 cases f with
 | next=>obtain ⟨σ',H',I,q⟩:=h;exact ⟨σ',H',I.unwish,q⟩
 | brk=>obtain ⟨σ',H',I,q⟩:=h;exact ⟨σ',H',I.unwish,q⟩
 | cont=>obtain ⟨σ',H',I,q⟩:=h;exact ⟨σ',H',I.unwish,q⟩
 | ret u=>obtain ⟨v,σ',H',I,r,q⟩:=h;exact ⟨v,σ',H',I.unwish,r,q⟩
theorem PSs.nox {st:List Stmt} {t:TS} (h:PSs X.nox st t):PSs X st t:=fun pins s σ H D I hw =>
 n46_ (h pins s σ H D (I.wish _) hw) (fun _ _ q=>q.unwish) fun _ _ z=>False.elim z
end
section
variable {X:Cx} {st:Stmt} {rest:List Stmt} {t u:TS} {e:Expr} {te:TE} {pos:Pos}
def Zv2:TS:=fun D σ H=>D.nx σ H
def tSeq (t u:TS):TS:=fun D σ H=>t { D with nx:=u D } σ H
theorem Z8:PSs X [] Zv2:=fun _ _ σ H _ I h=>wpAny_execs_nil ⟨σ,H,I,h⟩
theorem Zd (h1:PS X st t) (h2:PSs X rest u):PSs X (st :: rest) (tSeq t u):=by
 intro pins s σ H D I h;refine wpAny_execs_cons (thn (h1 pins s σ H { D with nx:=u D } I h) fun f s1 q=>?_);cases f with
 | next =>
   obtain ⟨σ',H',I',q⟩:=q;exact h2 pins s1 σ' H' D I' q
 | ret v=>exact q
 | brk=>exact q
 | cont=>exact q
theorem Zg (h1:PS X st t):PSs X [st] t:=by
 intro pins s σ H D I h;refine wpAny_execs_cons (thn (h1 pins s σ H D I h) fun f s1 q=>?_);cases f with
 | next=>exact wpAny_execs_nil q
 | ret v=>exact q
 | brk=>exact q
 | cont=>exact q
theorem Inv.quiet {pins:List (Addr×Obj)} {σ:St} {H:Hp} {s:Shared} (I:Inv X pins σ H s):interactive X.env=false:=by simp [interactive,I.ok.kind]
def Zv0 (te:TE):TS:=fun D σ H=>te σ H fun _ H1=>D.nx σ H1
theorem X8 (he:PE X e te) (hs:swapsWith e none pos.line X.env=pure false:=by rfl):PS X (.Expr e pos) (Zv0 te):=by
 intro pins s σ H D I h;exact wpAny_Expr_any (thn (he pins s σ H _ I h) fun v s1 ⟨x,H1,I1,r1,q1⟩=>⟨σ,H1,I1,q1⟩) I.quiet hs
def tRet (te:TE):TS:=fun D σ H=>te σ H D.rt
theorem Zn (he:PE X e te):PS X (.Return (some e) pos) (tRet te):=by
 intro pins s σ H D I h;exact wpAny_Return_some (thn (he pins s σ H _ I h) fun v s1 ⟨x,H1,I1,r1,q1⟩=>⟨x,σ,H1,I1,r1,q1⟩)
def tIfS (c:TT) (t u:TS):TS:=fun D σ H=>c σ H fun b H1=>if b=true then t D σ H1 else u D σ H1
theorem Xz {c:Expr} {a b:List Stmt} {tc:TT} (hc:PT X c tc) (ha:PSs X a t) (hb:PSs X b u):PS X (.If c a b pos) (tIfS tc t u):=by
 intro pins s σ H D I h;refine wpAny_If (thn (hc pins s σ H _ I h) fun d s1 ⟨H1,I1,q1⟩=>?_);cases d with
 | true=>exact ha pins s1 σ H1 D I1 q1
 | false=>exact hb pins s1 σ H1 D I1 q1
def Ztm:TS:=fun _ _ _=>False
theorem Zoi {sts:List Stmt}:PSs X sts Ztm:=fun _ _ _ _ _ _ h=>h.elim
end
abbrev TG:=V→St→Hp→(St→Hp→Prop)→Prop
abbrev TGs:=List V→St→Hp→(St→Hp→Prop)→Prop
def PG (X:Cx) (target:Expr) (t:TG):Prop :=
 ∀ (pins:List (Addr×Obj)) (s:Shared) (σ:St) (H:Hp) (v:V) (u:Value) (Q:St→Hp→Prop),Inv X pins σ H s→RelV v u→t v σ H Q →
   wpAny (model X.prog X.w) X.A (assign target X.env u) (fun _ s'=>∃ σ' H',Inv X pins σ' H' s'∧Q σ' H') X.xe s
def PGs (X:Cx) (ts:List Expr) (t:TGs):Prop :=
 ∀ (pins:List (Addr×Obj)) (s:Shared) (σ:St) (H:Hp) (vs:List V) (us:List Value) (Q:St→Hp→Prop),Inv X pins σ H s→Vals vs us→t vs σ H Q →
   wpAny (model X.prog X.w) X.A (assignInOrder ((assignEach ts X.env).map (·.2)) us) (fun _ s'=>∃ σ' H',Inv X pins σ' H' s'∧Q σ' H') X.xe s
abbrev TSet:=V→V→V→Hp→(Hp→Prop)→Prop
def PSet (X:Cx) (t:TSet):Prop :=
 ∀ (pins:List (Addr×Obj)) (s:Shared) (σ:St) (H:Hp) (o i v:V) (ov iv u:Value) (Q:Hp→Prop),Inv X pins σ H s→RelV o ov→RelV i iv→RelV v u→t o i v H Q →
   wpAny (model X.prog X.w) X.A (setItem ov iv u) (fun _ s'=>∃ H',Inv X pins σ H' s'∧Q H') X.xe s
section
variable {X:Cx} {pos:Pos}
def Yr (i:Nat):TG:=fun v σ H Q=>Q (σ.set i (some v)) H
theorem Zm {i:Nat} {x:Str} (hN:X.N.Nodup) (hi:X.N[i]? = some x) (hx:Loc X.env.scope x) (hf:X.fn x=true∨X.env.scope.names.lookup x=some .local:=by first|exact .inl rfl|exact .inr rfl|assumption):PG X (.Name x pos) (Yr i):=by
 intro pins s σ H v u Q I r h;exact wpAny_assign_Name (Zad I hN hi hx r (fun s' I'=>⟨_,H,I',h⟩) hf)
def gNil:TGs:=fun vs σ H Q=>vs=[]∧Q σ H
def Xu (t:TG) (u:TGs):TGs:=fun vs σ H Q=>∃ v r,vs=v :: r∧t v σ H fun σ' H'=>u r σ' H' Q
theorem Zy:PGs X [] gNil:=by
 intro pins s σ H vs us Q I r h;obtain ⟨e,h⟩:=h;subst e;cases r
 exact assignInOrder_nil ⟨σ,H,I,h⟩
theorem Zj {e:Expr} {es:List Expr} {t:TG} {u:TGs} (h1:PG X e t) (h2:PGs X es u)
 (hs:(assignEach (e :: es) X.env).map (·.2)=assign e X.env :: (assignEach es X.env).map (·.2):=by rfl):PGs X (e :: es) (Xu t u):=by
 intro pins s σ H vs us Q I r h;obtain ⟨v,vr,e1,h⟩:=h;subst e1;cases r with
 | cons r rr =>
   rw [hs];refine assignInOrder_cons (thn (h1 pins s σ H _ _ _ I r h) fun _ s1 ⟨σ1,H1,I1,q1⟩=>?_);exact h2 pins s1 σ1 H1 _ _ Q I1 rr q1
def gTup (K:PySem.W.Frag) (n:Nat) (t:TGs):TG:=fun v σ H Q=>∃ a xs,v=.ref a∧SqT K H a xs∧xs.length=n∧t xs σ H Q
theorem Yj {es:List Expr} {k:Nat} {t:TGs} {n:Nat} (hc:X.calm=true) (h:PGs X es t)
 (hn:(assignEach es X.env).length=n:=by rfl) (hst:(assignEach es X.env).findIdx? (·.1)=none:=by rfl):PG X (.Tuple es k pos) (gTup X.K n t):=by
 intro pins s σ H v u Q I r hw;obtain ⟨a,xs,e1,hq,hl,hw⟩:=hw;subst e1;cases r
 obtain ⟨its,rv,ht,hz⟩:=I.tuple hq;refine assign_Tuple_tuple (I.ok.hd hc) ht (by simp [hn,← hl,rv.length]) hst fun h' hx=>?_;have I1:Inv X pins σ H { s with heap:=h' }:=I.kept (t':=s.toks) fun b o e=>hx b o (n24_ (n13_ e)) e;exact h pins _ σ H xs _ Q I1 (by simpa using rv) hw
def gSub (to ti:TE) (t:TSet):TG:=fun v σ H Q=>to σ H fun o H1=>ti σ H1 fun i H2=>t o i v H2 fun H3=>Q σ H3
theorem Zix {o i:Expr} {to ti:TE} {t:TSet} (ho:PE X o to) (hi:PE X i ti) (hs:PSet X t)
 (ha:∀ v,assign (.Subscript o i pos) X.env v=(do
   let ov ← holding [v] (eval o X.env)
   let iv ← holding [v,ov] (eval i X.env)
   standAt pos
   holding [v,ov,iv] (setItem ov iv v)
   release [v,ov,iv] []):=by intro _;rfl):PG X (.Subscript o i pos) (gSub to ti t):=by
 intro pins s σ H v u Q I r h;rw [ha];refine n0_ (n36_ (thn (ho pins s σ H _ I h) fun ov s1 ⟨x,H1,I1,r1,q1⟩=>?_));refine n0_ (n36_ (thn (hi pins s1 σ H1 _ I1 q1) fun iv s2 ⟨y,H2,I2,r2,q2⟩=>?_));refine n0_ (wpAny_standAt (n0_ (n36_ (thn (hs pins s2 σ H2 x y v ov iv u _ I2 r1 r2 r q2) fun _ s3 ⟨H3,I3,q3⟩=>?_))));exact wpAny_release ⟨σ,H3,I3,q3⟩
def tAsg (te:TE) (g:TG):TS:=fun D σ H=>te σ H fun x H1=>g x σ H1 D.nx
theorem Zaz {tg e:Expr} {te:TE} {g:TG} (he:PE X e te) (hg:PG X tg g) (hs:swapsWithSole [tg] e pos.line X.env=pure false:=by rfl) (hw:swappedStores [tg] e X.env=pure none:=by rfl)
 (h1:(assignEach [tg] X.env).map (·.2)=[assign tg X.env]:=by rfl):PS X (.Assign [tg] e pos) (tAsg te g):=by
 intro pins s σ H D I h;refine wpAny_Assign_stores (thn (he pins s σ H _ I h) fun v s1 ⟨x,H1,I1,r1,q1⟩=>?_) hs hw;rw [h1];exact thn (hg pins s1 σ H1 x v _ I1 r1 q1) fun _ s2 q=>q
theorem Zs {i:Nat} {x:Str} {e:Expr} {te:TE} {pos':Pos} (hN:X.N.Nodup) (hi:X.N[i]? = some x) (hx:Loc X.env.scope x) (he:PE X e te) (hs:swapsWith e (some (.Name x pos')) pos.line X.env=pure false:=by rfl) (hf:X.fn x=true∨X.env.scope.names.lookup x=some .local:=by first|exact .inl rfl|exact .inr rfl|assumption) :
 PS X (.Assign [.Name x pos'] e pos) (tAsg te (Yr i)):=by
 intro pins s σ H D I h;refine wpAny_Assign_Name (thn (he pins s σ H _ I h) fun v s1 ⟨y,H1,I1,r1,q1⟩=>?_) hs;exact Zad I1 hN hi hx r1 (fun s2 I2=>⟨_,H1,I2,q1⟩) hf
def tPar (i j:Nat) (ta:TA):TS:=fun D σ H=>ta σ H fun vs H1=>∃ v w,vs=[v,w]∧D.nx ((σ.set i (some v)).set j (some w)) H1
theorem Zmg {i j:Nat} {x y:Str} {a b:Expr} {ta:TA} {px py pt:Pos} {kt k2 pt2} (hc:X.calm=true) (hN:X.N.Nodup) (hi:X.N[i]? = some x) (hj:X.N[j]? = some y) (hij:i≠j)
 (hx:X.env.scope.names.lookup x=some .local) (hy:X.env.scope.names.lookup y=some .local) (ha:PA X [a,b] ta)
 (hw:swappedStores [.Tuple [.Name x px,.Name y py] kt pt] (.Tuple [a,b] k2 pt2) X.env=pure (some [x,y]))
 (hs:swapsWithSole [.Tuple [.Name x px,.Name y py] kt pt] (.Tuple [a,b] k2 pt2) pos.line X.env=pure false:=by rfl) :
 PS X (.Assign [.Tuple [.Name x px,.Name y py] kt pt] (.Tuple [a,b] k2 pt2) pos) (tPar i j ta):=by
 intro pins s σ H D I h;rw [exec_Assign_arm];refine n0_ (wpAny_standAt ?_);rw [hs];refine n0_ (n3_ ?_);rw [if_neg (by decide)];refine n0_ (Tuple_ (thn (ha _ pins s σ H _ I h) fun us s1 ⟨vs,H1,I1,r1,q1⟩=>?_));obtain ⟨v,w,e1,q1⟩:=q1;subst e1
 obtain ⟨u1,u2,rfl,rv,rw'⟩:∃ u1 u2,us=[u1,u2]∧RelV v u1∧RelV w u2:=by
  cases r1 with
  | cons p q =>
    cases q with
    | cons p' q' =>
      cases q'
      exact ⟨_,_,rfl,p,p'⟩
 refine wpAny_newObj_type ?_ (z2_);have I2:Inv X pins σ H1 { s1 with heap:=s1.heap.push { cls:=.type "tuple",data:=.seq [u1,u2].toArray } }:=I1.kept (t':=s1.toks) fun b o e=>n2_ _ e;rw [hw];refine n0_ (n3_ ?_);show wpAny (model X.prog X.w) X.A (do rule "assign.swapped-stores";let items ← unpackItems (.ref s1.heap.objs.size) 2 none;assignInOrder [fun v=>bindName X.env y v,fun v=>bindName X.env x v] items.reverse;pure Flow.next) _ _ _
 refine n0_ (wpAny_rule (n0_ (unpackItems_tuple (items:=#[u1,u2]) (I.ok.hd hc) (IsTup.new s1.heap _) fun h' hx'=>?_)));have I3:=I2.kept (h':=h') (t':=s1.toks) fun b o e=>hx' b o (n24_ (n13_ e)) e;show wpAny _ _ (assignInOrder [fun v=>bindName X.env y v,fun v=>bindName X.env x v] [u2,u1] >>= fun _=>pure Flow.next) _ _ _
 refine n0_ (assignInOrder_cons (wpAny_bindName (Zad I3 hN hj (.inl hy) rw' (fun s2 I4=>?_) (.inr hy))));refine assignInOrder_cons (wpAny_bindName (Zad I4 hN hi (.inl hx) rv (fun s3 I5=>assignInOrder_nil (n3_ ?_)) (.inr hx)));rw [List.set_comm _ _ (Ne.symm hij)] at I5;exact ⟨_,H1,I5,q1⟩
end
section
variable {X:Cx} {pos:Pos}
def Zqw (c:TT) (tb:TS):TS:=fun D σ H=>∃ W:Nat→St→Hp→Prop,(∃ m,W m σ H)∧∀ m σ H,W m σ H →
 c σ H fun b H1=>if b=true then ∃ N:St→Hp→Prop,(∀ σ' H',N σ' H'→∃ m',m'<m∧W m' σ' H')∧tb { D with nx:=N,ct:=N,bk:=D.nx } σ H1 else D.nx σ H1
theorem Zjv {c:Expr} {body:List Stmt} {tc:TT} {tb:TS} (hp:PassesOwn (model X.prog X.w) X.A X.env X.xe) (hc:PT X c tc) (hb:PSs X body tb):PS X (.While c body [] pos) (Zqw tc tb):=by
 intro pins s σ H D I h;obtain ⟨W,⟨m0,w0⟩,turn⟩:=h;refine wpAny_While (codeAny_whileLoop (fun n s'=>∃ σ' H',Inv X pins σ' H' s'∧W n σ' H') ?_ m0 ⟨σ,H,I,w0⟩);rintro n s1 ⟨σ1,H1,I1,w1⟩
 refine wpAny_passesOwn hp (thn (hc pins s1 σ1 H1 _ I1 (turn n σ1 H1 w1)) fun b s2 ⟨H2,I2,q2⟩=>?_);cases b with
 | true =>
   obtain ⟨N,hN,q2⟩:=q2;rw [if_pos rfl];refine wpAny_passesOwn hp (thn (hb pins s2 σ1 H2 _ I2 q2) fun f s3 q3=>?_);cases f with
   | next =>
     obtain ⟨σ3,H3,I3,n3⟩:=q3;obtain ⟨m',hm,w3⟩:=hN σ3 H3 n3;exact ⟨m',hm,σ3,H3,I3,w3⟩
   | cont =>
     obtain ⟨σ3,H3,I3,n3⟩:=q3;obtain ⟨m',hm,w3⟩:=hN σ3 H3 n3;exact ⟨m',hm,σ3,H3,I3,w3⟩
   | brk=>exact q3
   | ret v=>exact q3
 | false =>
   rw [if_neg n22_];exact wpAny_execs_nil ⟨σ1,H2,I2,q2⟩
end
structure It where
 go:Nat→Hp→Prop
 yld:Nat→Hp→V→Hp→Prop
 stop:Nat→Hp→Prop
def FpOk (X:Cx) (pins:List (Addr×Obj)) (H:Hp) (b:Addr):Prop :=
 H b=none∧b≠X.env.locals∧b∉X.fs∧(b∈X.ex∨X.s₀.heap.objs.size≤b)∧(∀ x c,X.env.cells.lookup x=some c→c≠b)∧∀ p∈X.pn++pins,p.1≠b
theorem Inv.fpOk {X:Cx} {pins:List (Addr×Obj)} {σ:St} {H H':Hp} {s:Shared} {b:Addr} (I:Inv X pins σ H s) (hb:s.heap.objs.size≤b) (hn:H' b=none):FpOk X pins H' b:=by
 refine ⟨hn,n61_ (n20_ I.lt hb),I.nofs hb,.inr (n53_ I.sz hb),fun x c e z=>?_,fun p hp z=>?_⟩
 · obtain ⟨v,q⟩:=I.cell x c e;exact absurd (n20_ q.lt (by rw [z];exact hb)) (n77_ _)
 · exact absurd (n20_ (n13_ (I.pin p hp).1) (by rw [z];exact hb)) (n77_ _)
structure Turn (P:Program) (w:World) (K:PySem.W.Frag) (tg:Expr) (J:It) (fp:List Addr) (it:Addr) (tn:Nat→Heap→Prop):Prop where
 mem:it∈fp
 obj:∀ i h,tn i h→∀ b∈fp,∃ o,h.get? b=some o∧∀ v,o.data≠.cell v
 keep:∀ i h h',tn i h→(∀ b∈fp,∀ o,h.get? b=some o→h'.get? b=some o)→tn i h'
 item:∀ (X:Cx),X.prog=P→X.w=w→X.K=K→X.calm=true→∀ (i:Nat) (pins:List (Addr×Obj)) (s:Shared) (σ:St) (H:Hp) (E:Value→Shared→Prop),Inv X pins σ H s→(∀ b∈fp,FpOk X pins H b)→tn i s.heap→J.go i H →
  wpAny (model P w) X.A (pyNext (.ref it)) (fun r s1=>∃ u,r=some u ∧
   wpAny (model P w) X.A (letOwnedTupleGo tg (.ref it) u) (fun _ s2=>∃ x H',Inv X pins σ H' s2∧RelV x u∧J.yld i H x H'∧tn (i+1) s2.heap∧∀ b∈fp,H' b=none) E s1) E s
 done:∀ (X:Cx),X.prog=P→X.w=w→X.K=K→X.calm=true→∀ (i:Nat) (pins:List (Addr×Obj)) (s:Shared) (σ:St) (H:Hp) (E:Value→Shared→Prop),Inv X pins σ H s→(∀ b∈fp,FpOk X pins H b)→tn i s.heap→J.stop i H →
  wpAny (model P w) X.A (pyNext (.ref it)) (fun r s1=>r=none∧Inv X pins σ H s1) E s
 self:∀ (A:Around) (i:Nat) (s:Shared) (Q:Value→Shared→Prop) (E:Value→Shared→Prop),tn i s.heap→Q (.ref it) s→wpAny (model P w) A (pyIter (.ref it)) Q E s
abbrev TI:=St→Hp→(It→Hp→Prop)→Prop
def PIE (X:Cx) (pins:List (Addr×Obj)) (σ:St) (tg:Expr) (R:It→Hp→Prop) (itv:Value) (s2:Shared):Prop :=
 ∃ (it:Addr) (fp:List Addr) (tn:Nat→Heap→Prop) (J:It) (H':Hp),itv=.ref it∧Inv X pins σ H' s2∧Turn X.prog X.w X.K tg J fp it tn∧tn 0 s2.heap∧(∀ b∈fp,FpOk X pins H' b)∧R J H'
def PI (X:Cx) (tg iter:Expr) (wi:TI):Prop :=
 ∀ (pins:List (Addr×Obj)) (s:Shared) (σ:St) (H:Hp) (R:It→Hp→Prop),Inv X pins σ H s→wi σ H R →
   wpAny (model X.prog X.w) X.A (eval iter X.env) (fun v s1=>wpAny (model X.prog X.w) X.A (pyIter v) (PIE X pins σ tg R) X.xe s1) X.xe s
theorem Zsy {M:Model} {A:Around} {E:Value→Shared→Prop} {s:Shared} {tg:Expr} {it:Addr} {u:Value} {o:Obj} {n:String} {vs:Array Value} {Q:Unit→Shared→Prop} (ho:s.heap.get? it=some o) (hc:o.cls=.type n) (hd:o.data=.fields vs)
 (hn:["enumerate","zip","dict_itemiterator","dict_reverseitemiterator","odict_iterator","itertools.zip_longest","itertools.pairwise"].contains n=false) (hQ:Q () s):wpAny M A (letOwnedTupleGo tg (.ref it) u) Q E s:=by
 unfold letOwnedTupleGo
 cases tg<;>first
  | exact n3_ hQ
  | (cases u<;>first
      | exact n3_ hQ
      | (refine n0_ (wpAny_load ho ?_)
         rw [hc,hd];show wpAny M A (if (["enumerate","zip","dict_itemiterator","dict_reverseitemiterator","odict_iterator","itertools.zip_longest","itertools.pairwise"].contains n&&vs[0]? == some (rawInt _))=true then _ else _) Q E s
         rw [if_neg (by intro h;rw [hn,Bool.false_and] at h;cases h)];exact n3_ hQ))
def Itl (K:PySem.W.Frag) (a:Addr):It :=
 ⟨fun i H=>∃ xs x,SqL K H a xs∧xs[i]? = some x,fun i H x H'=>H'=H∧∀ xs,SqL K H a xs→xs[i]? = some x,fun i H=>∃ xs,SqL K H a xs∧xs.length≤i⟩
def Itt (K:PySem.W.Frag) (a:Addr):It :=
 ⟨fun i H=>∃ xs x,SqT K H a xs∧xs[i]? = some x,fun i H x H'=>H'=H∧∀ xs,SqT K H a xs→xs[i]? = some x,fun i H=>∃ xs,SqT K H a xs∧xs.length≤i⟩
def Itr (lo:Int) (n:Nat):It:=⟨fun i _=>i<n,fun i H x H'=>H'=H∧x=.int (lo+i),fun i _=>n≤i⟩
theorem Znx {P:Program} {w:World} {K:PySem.W.Frag} {tg:Expr} (a it:Addr):Turn P w K tg (Itl K a) [it] it (fun i h=>h.IsListIter it a i) where
 mem:=by simp
 obj:=fun i h st b hb=>by
  have e:b=it:=by simpa using hb
  subst e;obtain ⟨o,e,c,d⟩:=st;exact ⟨o,e,fun v z=>by rw [d] at z;cases z⟩
 keep:=fun i h h' st k=>st.at fun o e=>k it (by simp) o e
 item:=by
  intro X hP hw hK hc i pins s σ H E I hf st hg;subst hP hw hK;obtain ⟨xs,x,hq,hx⟩:=hg;obtain ⟨its,rv,p,hz⟩:=I.list hq;obtain ⟨u,hu,ru⟩:=rv.get hx;obtain ⟨f0,f1,f2,f3,f4,f5⟩:=hf it (by simp);refine wpAny_pyNext_list_item st p.isList (x:=u) (by simpa using hu) fun h' st' sb=>?_;have I1:Inv X pins σ H { s with heap:=h' }:=I.turned (t':=s.toks) (fun b o hb e=>(sb.2 b hb).trans e) f0 f1 f3 f4 f5;obtain ⟨o,e,c,d⟩:=id st';exact ⟨u,rfl,Zsy (s:={ s with heap:=h' }) e c d (by decide) ⟨x,H,I1,ru,⟨rfl,fun ys hy=>by rw [I.list_inj hy hq];exact hx⟩,st',fun b hb=>(hf b hb).1⟩⟩
 done:=by
  intro X hP hw hK hc i pins s σ H E I hf st hg;subst hP hw hK;obtain ⟨xs,hq,hx⟩:=hg;obtain ⟨its,rv,p,hz⟩:=I.list hq;obtain ⟨f0,f1,f2,f3,f4,f5⟩:=hf it (by simp);have hl:=rv.length;exact wpAny_pyNext_list_end (I.ok.hd hc) st p.isList (by simp;omega) fun h' eb=>⟨rfl,I.turned (t':=s.toks) (fun b o hb e=>eb b o hb e) f0 f1 f3 f4 f5⟩
 self:=fun _ _ _ _ _ st h=>wpAny_pyIter_listiter st h
theorem Zk7 {P:Program} {w:World} {K:PySem.W.Frag} {tg:Expr} (a it:Addr):Turn P w K tg (Itt K a) [it] it (fun i h=>h.IsTupleIter it a i) where
 mem:=by simp
 obj:=fun i h st b hb=>by
  have e:b=it:=by simpa using hb
  subst e;obtain ⟨o,e,c,d⟩:=st;exact ⟨o,e,fun v z=>by rw [d] at z;cases z⟩
 keep:=fun i h h' st k=>st.at fun o e=>k it (by simp) o e
 item:=by
  intro X hP hw hK hc i pins s σ H E I hf st hg;subst hP hw hK;obtain ⟨xs,x,hq,hx⟩:=hg;obtain ⟨its,rv,p,hz⟩:=I.tuple hq;obtain ⟨u,hu,ru⟩:=rv.get hx;obtain ⟨f0,f1,f2,f3,f4,f5⟩:=hf it (by simp);refine wpAny_pyNext_tuple_item st (show s.heap.IsTuple a its.toArray from p) (x:=u) (by simpa using hu) fun h' st' sb=>?_;have I1:Inv X pins σ H { s with heap:=h' }:=I.turned (t':=s.toks) (fun b o hb e=>(sb.2 b hb).trans e) f0 f1 f3 f4 f5;obtain ⟨o,e,c,d⟩:=id st';exact ⟨u,rfl,Zsy (s:={ s with heap:=h' }) e c d (by decide) ⟨x,H,I1,ru,⟨rfl,fun ys hy=>by rw [I.tuple_inj hy hq];exact hx⟩,st',fun b hb=>(hf b hb).1⟩⟩
 done:=by
  intro X hP hw hK hc i pins s σ H E I hf st hg;subst hP hw hK;obtain ⟨xs,hq,hx⟩:=hg;obtain ⟨its,rv,p,hz⟩:=I.tuple hq;obtain ⟨f0,f1,f2,f3,f4,f5⟩:=hf it (by simp);have hl:=rv.length;exact wpAny_pyNext_tuple_end (I.ok.hd hc) st (show s.heap.IsTuple a its.toArray from p) (by simp;omega) fun h' eb=>⟨rfl,I.turned (t':=s.toks) (fun b o hb e=>eb b o hb e) f0 f1 f3 f4 f5⟩
 self:=fun _ _ _ _ _ st h=>wpAny_pyIter_tupleiter st h
theorem Zk4 {P:Program} {w:World} {K:PySem.W.Frag} {tg:Expr} (it:Addr) (lo:Int) (n:Nat):Turn P w K tg (Itr lo n) [it] it (fun i h=>IsRangeIter h it (lo+(i:Nat)*1) ((n:Int)-(i:Nat)) 1) where
 mem:=by simp
 obj:=fun i h st b hb=>by
  have e:b=it:=by simpa using hb
  subst e
  exact ⟨_,st,fun v z=>by
   have z':Data.fields _=Data.cell v:=z;cases z'⟩
 keep:=fun i h h' st k=>k it (by simp) _ st
 item:=by
  intro X hP hw hK hc i pins s σ H E I hf st hg;subst hP hw hK;obtain ⟨f0,f1,f2,f3,f4,f5⟩:=hf it (by simp);have W:=Walks.range (prog:=X.prog) (w:=X.w) (I.ok.hd hc) it lo 1 n;refine W.item i s _ _ hg st fun v h' tk hv st' kk=>?_;obtain ⟨t,rfl⟩:=hv;have I1:Inv X pins σ H { s with heap:=h',toks:=tk }:=I.turned (fun b o hb e=>kk b o (by simpa using hb) e) f0 f1 f3 f4 f5;refine ⟨_,rfl,Zsy (s:={ s with heap:=h',toks:=tk }) (n := "range_iterator") st' rfl rfl (by decide) ⟨.int (lo+i),H,I1,⟨t,?_⟩,⟨rfl,rfl⟩,st',fun b hb=>(hf b hb).1⟩⟩;rw [Int.mul_one]
 done:=by
  intro X hP hw hK hc i pins s σ H E I hf st hg;subst hP hw hK;obtain ⟨f0,f1,f2,f3,f4,f5⟩:=hf it (by simp);exact wpAny_pyNext_range_end (I.ok.hd hc) st (by have:n≤i:=hg;omega) fun h' eb=>⟨rfl,I.turned (t':=s.toks) (fun b o hb e=>eb b o hb e) f0 f1 f3 f4 f5⟩
 self:=fun _ _ _ _ _ st h=>wpAny_pyIter_rangeiter st h
section
variable {X:Cx} {tg:Expr}
def Zs4 (K:PySem.W.Frag) (tl:TE):TI:=fun σ H R=>tl σ H fun x H1=>∃ a,x=.ref a∧(∃ xs,SqL K H1 a xs)∧R (Itl K a) H1
def iTup (K:PySem.W.Frag) (tl:TE):TI:=fun σ H R=>tl σ H fun x H1=>∃ a,x=.ref a∧(∃ xs,SqT K H1 a xs)∧R (Itt K a) H1
theorem Yn {l:Expr} {tl:TE} (hl:PE X l tl):PI X tg l (Zs4 X.K tl):=by
 intro pins s σ H R I h;refine thn (hl pins s σ H _ I h) fun v s1 ⟨x,H1,I1,r1,q1⟩=>?_;obtain ⟨a,e,⟨xs,hq⟩,q⟩:=q1;subst e;cases r1
 obtain ⟨its,rv,p,hz⟩:=I1.list hq;refine wpAny_pyIter_list p.isList ?_;refine ⟨s1.heap.objs.size,[s1.heap.objs.size],_,_,H1,rfl,I1.kept (t':=s1.toks) fun b o e=>n2_ _ e,Znx a _,⟨_,n9_ _ rfl,rfl,rfl⟩,fun b hb=>?_,q⟩;have e:b=s1.heap.objs.size:=by simpa using hb
 subst e;exact I1.fpOk (n10_ _) (I1.hok.fresh (n10_ _))
theorem Yy {l:Expr} {tl:TE} (hl:PE X l tl):PI X tg l (iTup X.K tl):=by
 intro pins s σ H R I h;refine thn (hl pins s σ H _ I h) fun v s1 ⟨x,H1,I1,r1,q1⟩=>?_;obtain ⟨a,e,⟨xs,hq⟩,q⟩:=q1;subst e;cases r1
 obtain ⟨its,rv,p,hz⟩:=I1.tuple hq;refine wpAny_pyIter_tuple (show s1.heap.IsTuple a its.toArray from p) ?_;refine ⟨s1.heap.objs.size,[s1.heap.objs.size],_,_,H1,rfl,I1.kept (t':=s1.toks) fun b o e=>n2_ _ e,Zk7 a _,⟨_,n9_ _ rfl,rfl,rfl⟩,fun b hb=>?_,q⟩;have e:b=s1.heap.objs.size:=by simpa using hb
 subst e;exact I1.fpOk (n10_ _) (I1.hok.fresh (n10_ _))
theorem Zo6 {pins:List (Addr×Obj)} {σ:St} {H:Hp} {s:Shared} {R:It→Hp→Prop} {E:Value→Shared→Prop} {lo hi:Int} {t u v:Tok} {tk:Nat} (I:Inv X pins σ H s) (h1:-(2^62)≤lo) (h2:lo<2^62) (h3:-(2^62)≤hi) (h4:hi<2^62)
 (q:R (Itr lo (hi-lo).toNat) H):wpAny (model X.prog X.w) X.A (pyIter (.ref s.heap.objs.size)) (PIE X pins σ tg R) E { s with heap:=s.heap.push { cls:=.type "range",data:=.fields #[.int lo t,.int hi u,.int 1 v] },toks:=tk }:=by
 refine wpAny_pyIter_range (IsRange.new ..) (small_one h1 h2 h3 h4) ?_;have I1:Inv X pins σ H { s with heap:=s.heap.push { cls:=.type "range",data:=.fields #[.int lo t,.int hi u,.int 1 v] },toks:=tk }:=I.kept fun b o e=>n2_ _ e
 refine ⟨(s.heap.push { cls:=.type "range",data:=.fields #[.int lo t,.int hi u,.int 1 v] }).objs.size,[(s.heap.push { cls:=.type "range",data:=.fields #[.int lo t,.int hi u,.int 1 v] }).objs.size],_,_,H,rfl,
  I1.kept (t':=tk) fun b o e=>n2_ _ e,Zk4 _ lo (hi-lo).toNat,?_,fun b hb=>?_,q⟩
 · have e1:lo+((0:Nat):Int)*1=lo:=by simp
   have e2:(((hi-lo).toNat:Nat):Int)-((0:Nat):Int)=Builtin.Range.rangeSize lo hi 1:=by rw [rangeSize_one];split<;>omega
   show IsRangeIter _ _ (lo+((0:Nat):Int)*1) ((((hi-lo).toNat:Nat):Int)-((0:Nat):Int)) 1
   rw [e1,e2];exact n9_ _ rfl
 · have e:b=(s.heap.push { cls:=.type "range",data:=.fields #[.int lo t,.int hi u,.int 1 v] }).objs.size:=by simpa using hb
   subst e;exact I1.fpOk (n10_ _) (I1.hok.fresh (n10_ _))
def Zvv (ta:TA):TI:=fun σ H R=>ta σ H fun vs H1=>∃ j:Int,vs=[.int j]∧-(2^62)≤j∧j<2^62∧R (Itr 0 j.toNat) H1
theorem Xk {a:Expr} {ta:TA} {p pos:Pos} (hg:Gl X "range") (hm:X.mg "range" = none) (ha:PA X [a] ta) (hs:starEach [a] X.env=[(false,eval a X.env)]:=by rfl):PI X tg (.Call (.Name "range" p) [a] [] pos) (Zvv ta):=by
 intro pins s σ H R I h;refine Call_ (Zbf I hg hm boot_range (n55_ (thn (ha pos pins s σ H _ I h) fun us s1 ⟨vs,H1,I1,r1,q1⟩=>?_) hs rfl));obtain ⟨j,e,q1,q2,q⟩:=q1;subst e;cases r1 with
 | cons r rr =>
   cases rr
   obtain ⟨t,rfl⟩:=r;exact call_range_1 (Zo6 I1 (by omega) (by omega) q1 q2 (by simpa using q))
def tFor (wi:TI) (g:TG) (tb:TS):TS:=fun D σ H=>wi σ H fun J H1=>∃ W:Nat→Nat→St→Hp→Prop,(∃ m,W 0 m σ H1)∧∀ i m σ H,W i m σ H →
 (J.stop i H∧D.nx σ H)∨(J.go i H∧∃ N:St→Hp→Prop,(∀ σ' H',N σ' H'→∃ m',m'<m∧W (i+1) m' σ' H')∧∀ x H',J.yld i H x H'→g x σ H' fun σ2 H2=>tb { D with nx:=N,ct:=N,bk:=D.nx } σ2 H2)
def Zj0 (fp:List Addr) (h:Heap):List (Addr×Obj):=fp.filterMap fun b=>(h.get? b).map fun o=>(b,o)
theorem Y3 {fp:List Addr} {h:Heap} {b:Addr} {o:Obj} (hb:b∈fp) (e:h.get? b=some o):(b,o)∈Zj0 fp h:=List.mem_filterMap.mpr ⟨b,hb,by rw [e];rfl⟩
theorem Znc {fp:List Addr} {h:Heap} {p:Addr×Obj} (hp:p∈Zj0 fp h):p.1∈fp∧h.get? p.1=some p.2:=by
 obtain ⟨b,hb,e⟩:=List.mem_filterMap.mp hp;cases q:h.get? b with
 | none=>rw [q] at e;cases e
 | some o =>
   rw [q] at e;have e':(b,o)=p:=Option.some.inj e;subst e';exact ⟨hb,q⟩
theorem Inv.pinned {pins:List (Addr×Obj)} {σ:St} {H:Hp} {s:Shared} {fp:List Addr} (I:Inv X pins σ H s) (hf:∀ b∈fp,FpOk X pins H b) (ho:∀ b∈fp,∃ o,s.heap.get? b=some o∧∀ v,o.data≠.cell v):Inv X (pins++Zj0 fp s.heap) σ H s :=
 I.pins_of fun p hp=>(n28_.mp hp).elim (fun z=>I.pin p (n33_ _ z)) fun z=>by
  obtain ⟨hb,e⟩:=Znc z;obtain ⟨f0,f1,f2,_⟩:=hf p.1 hb;obtain ⟨o,e',d⟩:=ho p.1 hb;rw [e] at e';cases e';exact ⟨e,f0,f1,f2,d⟩
theorem Inv.unpinned {pins pl:List (Addr×Obj)} {σ:St} {H:Hp} {s:Shared} (I:Inv X (pins++pl) σ H s):Inv X pins σ H s:=I.pins_of fun p hp=>I.pin p (n33_ _ (n67_ _ hp))
theorem Xd {iter:Expr} {body:List Stmt} {wi:TI} {g:TG} {tb:TS} {pos:Pos} (hp:PassesOwn (model X.prog X.w) X.A X.env X.xe) (hc:X.calm=true) (hi:PI X tg iter wi) (hg:PG X tg g) (hb:PSs X body tb)
 (hs:∀ x,foldedSetIterable iter X.env x=pure x:=by intro _;rfl):PS X (.For tg iter body [] pos) (tFor wi g tb):=by
 intro pins s σ H D I h;refine wpAny_For (thn (hi pins s σ H _ I h) fun v s1 h1=>thn h1 fun itv s2 h2=>?_) hs;obtain ⟨it,fp,tn,J,H2,e,I2,T,st2,f2,W,⟨m0,w0⟩,turn⟩:=h2;subst e;have stat:∀ {H':Hp},(∀ b∈fp,H' b=none)→∀ b∈fp,FpOk X pins H' b:=fun hn b hb=>⟨hn b hb,(f2 b hb).2⟩;refine codeAny_forLoop_any (fun n s'=>∃ i σ' H',Inv X pins σ' H' s'∧tn i s'.heap∧(∀ b∈fp,H' b=none)∧W i n σ' H') ?_ m0 ⟨0,σ,H2,I2,st2,fun b hb=>(f2 b hb).1,w0⟩;rintro n s3 ⟨i,σ3,H3,I3,st3,fr3,w3⟩
 rcases turn i n σ3 H3 w3 with ⟨stop,qn⟩|⟨go,N,hN,step⟩
 · refine wpAny_passesOwn hp (thn (T.done X rfl rfl rfl hc i pins s3 σ3 H3 X.xe I3 (stat fr3) st3 stop) fun r s4 ⟨hr,I4⟩=>?_);subst hr;exact wpAny_execs_nil ⟨σ3,H3,I4,qn⟩
 · refine wpAny_passesOwn hp (thn (T.item X rfl rfl rfl hc i pins s3 σ3 H3 X.xe I3 (stat fr3) st3 go) fun r s4 ⟨u,hr,h4⟩=>?_);subst hr;refine wpAny_passesOwn hp (thn h4 fun _ s5 ⟨x,H5,I5,r5,y5,st5,fr5⟩=>?_);have I5':=I5.pinned (stat fr5) (T.obj _ _ st5);refine wpAny_passesOwn hp (thn (hg _ s5 σ3 H5 x u _ I5' r5 (step x H5 y5)) fun _ s6 ⟨σ6,H6,I6,q6⟩=>?_);refine wpAny_passesOwn hp (thn (hb _ s6 σ6 H6 _ I6 q6) fun f s7 q7=>?_)
   have again:∀ {σ7:St} {H7:Hp},Inv X (pins++Zj0 fp s5.heap) σ7 H7 s7→N σ7 H7→∃ m,m<n∧∃ i σ' H',Inv X pins σ' H' s7∧tn i s7.heap∧(∀ b∈fp,H' b=none)∧W i m σ' H':=fun {σ7 H7} I7 n7=>by
    obtain ⟨m',hm,w7⟩:=hN σ7 H7 n7;refine ⟨m',hm,i+1,σ7,H7,I7.unpinned,T.keep _ _ _ st5 fun b hb o e=>(I7.pin (b,o) (n33_ _ (n33_ _ (Y3 hb e)))).1,fun b hb=>?_,w7⟩;obtain ⟨o,e,d⟩:=T.obj _ _ st5 b hb;exact (I7.pin (b,o) (n33_ _ (n33_ _ (Y3 hb e)))).2.1
   cases f with
   | next=>obtain ⟨σ7,H7,I7,n7⟩:=q7;exact again I7 n7
   | cont=>obtain ⟨σ7,H7,I7,n7⟩:=q7;exact again I7 n7
   | brk=>obtain ⟨σ7,H7,I7,q7⟩:=q7;exact ⟨σ7,H7,I7.unpinned,q7⟩
   | ret v=>obtain ⟨x7,σ7,H7,I7,r7,q7⟩:=q7;exact ⟨x7,σ7,H7,I7.unpinned,r7,q7⟩
end
theorem Zcj {K:PySem.W.Frag} {a:Addr} {xs:List V} {g:TG} {tb:TS} {D:Ends} {σ:St} {H:Hp} (Pv:Nat→St→Hp→Prop) (h0:Pv 0 σ H) (hl:∀ i σ H,i≤xs.length→Pv i σ H→SqL K H a xs)
 (hs:∀ i x σ H,xs[i]? = some x→Pv i σ H→g x σ H fun σ2 H2=>tb { D with nx:=Pv (i+1),ct:=Pv (i+1),bk:=D.nx } σ2 H2) (hd:∀ σ H,Pv xs.length σ H→D.nx σ H) :
 ∃ W:Nat→Nat→St→Hp→Prop,(∃ m,W 0 m σ H)∧∀ i m σ H,W i m σ H →
   ((Itl K a).stop i H∧D.nx σ H)∨((Itl K a).go i H∧∃ N:St→Hp→Prop,(∀ σ' H',N σ' H'→∃ m',m'<m∧W (i+1) m' σ' H')∧∀ x H',(Itl K a).yld i H x H'→g x σ H' fun σ2 H2=>tb { D with nx:=N,ct:=N,bk:=D.nx } σ2 H2):=by
 refine ⟨fun i m σ H=>m=xs.length-i∧i≤xs.length∧Pv i σ H,⟨xs.length,by simp,n51_ _,h0⟩,?_⟩;rintro i m σ H ⟨rfl,hi,p⟩
 have q:=hl i σ H hi p
 by_cases hlt:i<xs.length
 · refine .inr ⟨⟨xs,xs[i],q,by simp [hlt]⟩,Pv (i+1),fun σ' H' p'=>⟨xs.length-(i+1),by omega,rfl,hlt,p'⟩,fun x H' y=>?_⟩;obtain ⟨e,y⟩:=y;subst e;exact hs i x σ _ (y xs q) p
 · have e:i=xs.length:=by omega
   subst e;exact .inl ⟨⟨xs,q,n10_ _⟩,hd σ H p⟩
theorem Zr3 {K:PySem.W.Frag} {a:Addr} {xs:List V} {g:TG} {tb:TS} {D:Ends} {σ:St} {H:Hp} (Pv:Nat→St→Hp→Prop) (h0:Pv 0 σ H) (hl:∀ i σ H,i≤xs.length→Pv i σ H→SqT K H a xs)
 (hs:∀ i x σ H,xs[i]? = some x→Pv i σ H→g x σ H fun σ2 H2=>tb { D with nx:=Pv (i+1),ct:=Pv (i+1),bk:=D.nx } σ2 H2) (hd:∀ σ H,Pv xs.length σ H→D.nx σ H) :
 ∃ W:Nat→Nat→St→Hp→Prop,(∃ m,W 0 m σ H)∧∀ i m σ H,W i m σ H →
   ((Itt K a).stop i H∧D.nx σ H)∨((Itt K a).go i H∧∃ N:St→Hp→Prop,(∀ σ' H',N σ' H'→∃ m',m'<m∧W (i+1) m' σ' H')∧∀ x H',(Itt K a).yld i H x H'→g x σ H' fun σ2 H2=>tb { D with nx:=N,ct:=N,bk:=D.nx } σ2 H2):=by
 refine ⟨fun i m σ H=>m=xs.length-i∧i≤xs.length∧Pv i σ H,⟨xs.length,by simp,n51_ _,h0⟩,?_⟩;rintro i m σ H ⟨rfl,hi,p⟩
 have q:=hl i σ H hi p
 by_cases hlt:i<xs.length
 · refine .inr ⟨⟨xs,xs[i],q,by simp [hlt]⟩,Pv (i+1),fun σ' H' p'=>⟨xs.length-(i+1),by omega,rfl,hlt,p'⟩,fun x H' y=>?_⟩;obtain ⟨e,y⟩:=y;subst e;exact hs i x σ _ (y xs q) p
 · have e:i=xs.length:=by omega
   subst e;exact .inl ⟨⟨xs,q,n10_ _⟩,hd σ H p⟩
theorem Zal {lo:Int} {n:Nat} {g:TG} {tb:TS} {D:Ends} {σ:St} {H:Hp} (Pv:Nat→St→Hp→Prop) (h0:Pv 0 σ H)
 (hs:∀ i σ H,i<n→Pv i σ H→g (.int (lo+i)) σ H fun σ2 H2=>tb { D with nx:=Pv (i+1),ct:=Pv (i+1),bk:=D.nx } σ2 H2) (hd:∀ σ H,Pv n σ H→D.nx σ H) :
 ∃ W:Nat→Nat→St→Hp→Prop,(∃ m,W 0 m σ H)∧∀ i m σ H,W i m σ H →
   ((Itr lo n).stop i H∧D.nx σ H)∨((Itr lo n).go i H∧∃ N:St→Hp→Prop,(∀ σ' H',N σ' H'→∃ m',m'<m∧W (i+1) m' σ' H')∧∀ x H',(Itr lo n).yld i H x H'→g x σ H' fun σ2 H2=>tb { D with nx:=N,ct:=N,bk:=D.nx } σ2 H2):=by
 refine ⟨fun i m σ H=>m=n-i∧i≤n∧Pv i σ H,⟨n,by simp,n51_ _,h0⟩,?_⟩;rintro i m σ H ⟨rfl,hi,p⟩
 by_cases hlt:i<n
 · refine .inr ⟨hlt,Pv (i+1),fun σ' H' p'=>⟨n-(i+1),by omega,rfl,hlt,p'⟩,fun x H' y=>?_⟩;obtain ⟨e,y⟩:=y;subst e y;exact hs i σ _ hlt p
 · have e:i=n:=by omega
   subst e;exact .inl ⟨n10_ _,hd σ H p⟩
theorem Ziz {c:TT} {tb:TS} {D:Ends} {σ:St} {H:Hp} (Pv:St→Hp→Prop) (μ:St→Hp→Nat) (h0:Pv σ H)
 (hs:∀ σ H,Pv σ H→c σ H fun b H1=>if b=true then tb { D with nx:=fun σ' H'=>Pv σ' H'∧μ σ' H'<μ σ H,ct:=fun σ' H'=>Pv σ' H'∧μ σ' H'<μ σ H,bk:=D.nx } σ H1 else D.nx σ H1)
 (mono:∀ σ H Q Q',(∀ b H1,Q b H1→Q' b H1)→c σ H Q→c σ H Q'):Zqw c tb D σ H:=by
 refine ⟨fun m σ H=>m=μ σ H∧Pv σ H,⟨_,rfl,h0⟩,?_⟩;rintro m σ H ⟨rfl,p⟩
 refine mono σ H _ _ (fun b H1 q=>?_) (hs σ H p);cases b with
 | true=>exact ⟨_,fun σ' H' ⟨p',l⟩=>⟨_,l,rfl,p'⟩,q⟩
 | false=>exact q
abbrev R2:=V→V→Hp→VK→Prop
def OpR (X:Cx) (f:Value→Value→Sem Value) (r:R2):Prop :=
 ∀ (pins:List (Addr×Obj)) (s:Shared) (σ:St) (H:Hp) (x y:V) (v u:Value) (Q:VK),Inv X pins σ H s→RelV x v→RelV y u→r x y H Q →
   wpAny (model X.prog X.w) X.A (f v u) (EP X pins σ Q) X.xe s
def UnR (X:Cx) (f:Value→Sem Value) (r:V→Hp→VK→Prop):Prop :=
 ∀ (pins:List (Addr×Obj)) (s:Shared) (σ:St) (H:Hp) (x:V) (v:Value) (Q:VK),Inv X pins σ H s→RelV x v→r x H Q →
   wpAny (model X.prog X.w) X.A (f v) (EP X pins σ Q) X.xe s
def Yw (X:Cx) (f:Value) (r:List V→Hp→VK→Prop):Prop :=
 ∀ (pins:List (Addr×Obj)) (s:Shared) (σ:St) (H:Hp) (xs:List V) (us:List Value) (Q:VK),Inv X pins σ H s→Vals xs us→r xs H Q →
   wpAny (model X.prog X.w) X.A (call f us) (EP X pins σ Q) X.xe s
def TruR (X:Cx) (r:V→Hp→(Bool→Hp→Prop)→Prop):Prop :=
 ∀ (pins:List (Addr×Obj)) (s:Shared) (σ:St) (H:Hp) (x:V) (v:Value) (Q:Bool→Hp→Prop),Inv X pins σ H s→RelV x v→r x H Q →
   wpAny (model X.prog X.w) X.A (truthy v) (TP X pins σ Q) X.xe s
def tOp (r:R2) (ta tb:TE):TE:=fun σ H Q=>ta σ H fun x H1=>tb σ H1 fun y H2=>r x y H2 Q
def tUn (r:V→Hp→VK→Prop) (ta:TE):TE:=fun σ H Q=>ta σ H fun x H1=>r x H1 Q
def rI (C:Int→Int→Prop) (g:Int→Int→V):R2:=fun x y H Q=>∃ i j,x=.int i∧y=.int j∧C i j∧Q (g i j) H
def rI0 (g:Int→Int→V):R2:=fun x y H Q=>∃ i j,x=.int i∧y=.int j∧Q (g i j) H
def rU (g:Int→V):V→Hp→VK→Prop:=fun x H Q=>∃ i,x=.int i∧Q (g i) H
section
variable {X:Cx} {a b c:Expr} {ta tb tc:TE} {pos:Pos}
theorem binT (ha:PE X a ta) (hb:PE X b tb) {pins:List (Addr×Obj)} {s:Shared} {σ:St} {H:Hp} {R:V→V→Hp→Prop} (I:Inv X pins σ H s)
 (h:ta σ H fun x H1=>tb σ H1 fun y H2=>R x y H2) {Q:Value→Shared→Prop} {f:Value→Value→Sem Value}
 (hf:∀ v u s2 x y H2,Inv X pins σ H2 s2→RelV x v→RelV y u→R x y H2→wpAny (model X.prog X.w) X.A (f v u) Q X.xe s2) :
 wpAny (model X.prog X.w) X.A (eval a X.env) (fun v s₁=>wpAny (model X.prog X.w) X.A (eval b X.env) (fun u s₂=>wpAny (model X.prog X.w) X.A (f v u) Q X.xe s₂) X.xe s₁) X.xe s:=by
 refine thn (ha pins s σ H _ I h) fun v s1 ⟨x,H1,I1,r1,q1⟩=>?_;refine thn (hb pins s1 σ H1 _ I1 q1) fun u s2 ⟨y,H2,I2,r2,q2⟩=>?_;exact hf v u s2 x y H2 I2 r1 r2 q2
theorem Zp {op:Operator} {r:R2} (ho:OpR X (binaryOp op) r) (ha:PE X a ta) (hb:PE X b tb):PE X (.BinOp a op b pos) (tOp r ta tb):=by
 intro pins s σ H Q I h;exact wpAny_BinOp (binT ha hb I h fun v u s2 x y H2 I2 rx ry q=>ho pins s2 σ H2 x y v u Q I2 rx ry q)
theorem Ztv {op:UnaryOp} {r:V→Hp→VK→Prop} (ho:UnR X (unaryOp op) r) (ha:PE X a ta):PE X (.UnaryOp op a pos) (tUn r ta):=by
 intro pins s σ H Q I h;exact UnaryOp_ (thn (ha pins s σ H _ I h) fun v s1 ⟨x,H1,I1,r1,q1⟩=>ho pins s1 σ H1 x v Q I1 r1 q1)
theorem opI {f:Value→Value→Sem Value} {C:Int→Int→Prop} {g:Int→Int→Int}
 (rule:∀ (i j:Int) (t u:Tok) (s:Shared) (Q:Value→Shared→Prop) (E:Value→Shared→Prop),C i j→Q (.int (g i j) s.toks) { s with toks:=s.toks+1 }→wpAny (model X.prog X.w) X.A (f (.int i t) (.int j u)) Q E s) :
 OpR X f (rI C fun i j=>.int (g i j)):=by
 intro pins s σ H x y v u Q I rx ry h;obtain ⟨i,j,rfl,rfl,hc,q⟩:=h;obtain ⟨t,rfl⟩:=rx;obtain ⟨t',rfl⟩:=ry;exact rule i j t t' s _ _ hc ⟨.int (g i j),H,I.tok _,⟨_,rfl⟩,q⟩
theorem opI0 {f:Value→Value→Sem Value} {g:Int→Int→Int}
 (rule:∀ (i j:Int) (t u:Tok) (s:Shared) (Q:Value→Shared→Prop) (E:Value→Shared→Prop),Q (.int (g i j) s.toks) { s with toks:=s.toks+1 }→wpAny (model X.prog X.w) X.A (f (.int i t) (.int j u)) Q E s) :
 OpR X f (rI0 fun i j=>.int (g i j)):=by
 intro pins s σ H x y v u Q I rx ry h;obtain ⟨i,j,rfl,rfl,q⟩:=h;obtain ⟨t,rfl⟩:=rx;obtain ⟨t',rfl⟩:=ry;exact rule i j t t' s _ _ ⟨.int (g i j),H,I.tok _,⟨_,rfl⟩,q⟩
theorem opB0 {f:Value→Value→Sem Value} {g:Int→Int→Bool}
 (rule:∀ (i j:Int) (t u:Tok) (s:Shared) (Q:Value→Shared→Prop) (E:Value→Shared→Prop),Q (.bool (g i j)) s→wpAny (model X.prog X.w) X.A (f (.int i t) (.int j u)) Q E s) :
 OpR X f (rI0 fun i j=>.bl (g i j)):=by
 intro pins s σ H x y v u Q I rx ry h;obtain ⟨i,j,rfl,rfl,q⟩:=h;obtain ⟨t,rfl⟩:=rx;obtain ⟨t',rfl⟩:=ry;exact rule i j t t' s _ _ ⟨.bl (g i j),H,I,rfl,q⟩
def CPow (i j:Int):Prop:=0≤j∧j≤1000000∧i.natAbs<2^64
theorem Z7:OpR X (binaryOp .Add) (rI0 fun i j=>.int (i+j)):=opI0 fun _ _ _ _ _ _ _ q=>add_int q
theorem Y8:OpR X (binaryOp .Sub) (rI0 fun i j=>.int (i-j)):=opI0 fun _ _ _ _ _ _ _ q=>sub_int q
theorem Zby:OpR X (binaryOp .Mod) (rI (fun _ j=>j≠0) fun i j=>.int (i.fmod j)):=opI fun _ _ _ _ _ _ _ hc q=>mod_int' hc q
theorem Zut:OpR X (binaryOp .Pow) (rI CPow fun i j=>.int (i^j.toNat)):=opI fun _ _ _ _ _ _ _ hc q=>pow_int_small hc.1 hc.2.1 hc.2.2 q
theorem unI {f:Value→Sem Value} {g:Int→Int}
 (rule:∀ (i:Int) (t:Tok) (s:Shared) (Q:Value→Shared→Prop) (E:Value→Shared→Prop),Q (.int (g i) s.toks) { s with toks:=s.toks+1 }→wpAny (model X.prog X.w) X.A (f (.int i t)) Q E s) :
 UnR X f (rU fun i=>.int (g i)):=by
 intro pins s σ H x v Q I rx h;obtain ⟨i,rfl,q⟩:=h;obtain ⟨t,rfl⟩:=rx;exact rule i t s _ _ ⟨.int (g i),H,I.tok _,⟨_,rfl⟩,q⟩
theorem Zqf:UnR X (unaryOp .USub) (rU fun i=>.int (-i)):=unI fun _ _ _ _ _ q=>neg_int q
end
def scal:V→V→Bool
 | .non,.non=>true|.non,.int _=>true|.int _,.non=>true|.non,.bl _=>true|.bl _,.non=>true|.non,.str _=>true|.str _,.non=>true
 | .int _,.int _=>true|.bl _,.bl _=>true|.str _,.str _=>true|.byt _,.byt _=>true
 | .int _,.str _=>true|.str _,.int _=>true|.bl _,.str _=>true|.str _,.bl _=>true
 | _,_=>false
def rEq:R2:=fun x y H Q=>scal x y=true∧Q (.bl (decide (x=y))) H
def rNe:R2:=fun x y H Q=>scal x y=true∧Q (.bl (!decide (x=y))) H
theorem Zoh {i j:Int}:decide (V.int i=V.int j)=(i == j):=by
 rw [Bool.eq_iff_iff]
 simp
theorem Zqc {i j:Bool}:decide (V.bl i=V.bl j)=(i == j):=by
 rw [Bool.eq_iff_iff]
 simp
theorem Zmq {i j:Str}:decide (V.str i=V.str j)=(i == j):=by
 rw [Bool.eq_iff_iff]
 simp
theorem Znb {i j:Array UInt8}:decide (V.byt i=V.byt j)=(i.toList == j.toList):=by
 rw [Bool.eq_iff_iff];cases i
 cases j
 simp
section
variable {X:Cx} {a b c:Expr} {ta tb tc:TE} {pos:Pos}
theorem Z2 {pins:List (Addr×Obj)} {σ:St} {H:Hp} {s:Shared} {Q:VK} {k k':Bool} (I:Inv X pins σ H s) (q:Q (.bl k) H) (e:k=k'):EP X pins σ Q (.bool k') s:=by
 subst e;exact ⟨.bl k,H,I,rfl,q⟩
theorem Zia:OpR X (compareOp .Eq) rEq:=by
 intro pins s σ H x y v u Q I rx ry h;obtain ⟨hs,q⟩:=h;cases x with
 | non =>
   cases rx
   cases y with
   | non=>cases ry;exact PySem.EqNone.eq_none_none (Z2 I q (by simp))
   | bl j=>cases ry;exact PySem.EqNone.eq_none_bool (Z2 I q (by simp))
   | int j=>obtain ⟨t',rfl⟩:=ry;exact PySem.EqNone.eq_none_int (Z2 I q (by simp))
   | str j=>obtain ⟨t',rfl⟩:=ry;exact PySem.EqNone.eq_none_str (Z2 I q (by simp))
   | _=>exact absurd (show false=true from hs) n22_
 | bl i =>
   cases rx
   cases y with
   | non=>cases ry;exact PySem.EqNone.eq_bool_none (Z2 I q (by simp))
   | bl j=>cases ry;exact eq_bool (Z2 I q Zqc)
   | str j=>obtain ⟨t',rfl⟩:=ry;exact PySem.EqMixed.eq_bool_str (Z2 I q (by simp))
   | _=>exact absurd (show false=true from hs) n22_
 | int i =>
   obtain ⟨t,rfl⟩:=rx;cases y with
   | non=>cases ry;exact PySem.EqNone.eq_int_none (Z2 I q (by simp))
   | int j=>obtain ⟨t',rfl⟩:=ry;exact eq_int (Z2 I q Zoh)
   | str j=>obtain ⟨t',rfl⟩:=ry;exact PySem.EqMixed.eq_int_str (Z2 I q (by simp))
   | _=>exact absurd (show false=true from hs) n22_
 | str i =>
   obtain ⟨t,rfl⟩:=rx;cases y with
   | non=>cases ry;exact PySem.EqNone.eq_str_none (Z2 I q (by simp))
   | bl j=>cases ry;exact PySem.EqMixed.eq_str_bool (Z2 I q (by simp))
   | int j=>obtain ⟨t',rfl⟩:=ry;exact PySem.EqMixed.eq_str_int (Z2 I q (by simp))
   | str j=>obtain ⟨t',rfl⟩:=ry;exact eq_str (Z2 I q Zmq)
   | _=>exact absurd (show false=true from hs) n22_
 | byt i =>
   obtain ⟨t,rfl⟩:=rx;cases y with
   | byt j=>obtain ⟨t',rfl⟩:=ry;exact PySem.W.eq_bytes (Z2 I q Znb)
   | _=>exact absurd (show false=true from hs) n22_
 | _=>cases y<;>exact absurd (show false=true from hs) n22_
theorem Zs6:OpR X (compareOp .NotEq) rNe:=by
 intro pins s σ H x y v u Q I rx ry h;obtain ⟨hs,q⟩:=h;cases x with
 | non =>
   cases rx
   cases y with
   | non=>cases ry;exact PySem.EqNone.ne_none_none (Z2 I q (by simp))
   | bl j=>cases ry;exact PySem.EqNone.ne_none_bool (Z2 I q (by simp))
   | int j=>obtain ⟨t',rfl⟩:=ry;exact PySem.EqNone.ne_none_int (Z2 I q (by simp))
   | str j=>obtain ⟨t',rfl⟩:=ry;exact PySem.EqNone.ne_none_str (Z2 I q (by simp))
   | _=>exact absurd (show false=true from hs) n22_
 | bl i =>
   cases rx
   cases y with
   | non=>cases ry;exact PySem.EqNone.ne_bool_none (Z2 I q (by simp))
   | bl j=>cases ry;exact ne_bool (Z2 I q (congrArg not Zqc))
   | str j=>obtain ⟨t',rfl⟩:=ry;exact PySem.EqMixed.ne_bool_str (Z2 I q (by simp))
   | _=>exact absurd (show false=true from hs) n22_
 | int i =>
   obtain ⟨t,rfl⟩:=rx;cases y with
   | non=>cases ry;exact PySem.EqNone.ne_int_none (Z2 I q (by simp))
   | int j=>obtain ⟨t',rfl⟩:=ry;exact ne_int (Z2 I q (congrArg not Zoh))
   | str j=>obtain ⟨t',rfl⟩:=ry;exact PySem.EqMixed.ne_int_str (Z2 I q (by simp))
   | _=>exact absurd (show false=true from hs) n22_
 | str i =>
   obtain ⟨t,rfl⟩:=rx;cases y with
   | non=>cases ry;exact PySem.EqNone.ne_str_none (Z2 I q (by simp))
   | bl j=>cases ry;exact PySem.EqMixed.ne_str_bool (Z2 I q (by simp))
   | int j=>obtain ⟨t',rfl⟩:=ry;exact PySem.EqMixed.ne_str_int (Z2 I q (by simp))
   | str j=>obtain ⟨t',rfl⟩:=ry;exact ne_str (Z2 I q (congrArg not Zmq))
   | _=>exact absurd (show false=true from hs) n22_
 | byt i =>
   obtain ⟨t,rfl⟩:=rx;cases y with
   | byt j=>obtain ⟨t',rfl⟩:=ry;exact PySem.W.ne_bytes (Z2 I q (congrArg not Znb))
   | _=>exact absurd (show false=true from hs) n22_
 | _=>cases y<;>exact absurd (show false=true from hs) n22_
theorem Zrt:OpR X (compareOp .Lt) (rI0 fun i j=>.bl (decide (i<j))):=opB0 fun _ _ _ _ _ _ _ q=>lt_int q
theorem Znz:OpR X (compareOp .LtE) (rI0 fun i j=>.bl (decide (i≤j))):=opB0 fun _ _ _ _ _ _ _ q=>le_int q
theorem Zvc:OpR X (compareOp .Gt) (rI0 fun i j=>.bl (decide (j<i))):=opB0 fun _ _ _ _ _ _ _ q=>gt_int q
theorem Zvb:OpR X (compareOp .GtE) (rI0 fun i j=>.bl (decide (j≤i))):=opB0 fun _ _ _ _ _ _ _ q=>ge_int q
theorem Yx (b:Expr) {op:CmpOp} (h:op≠.In:=by decide) (h2:op≠.NotIn:=by decide):behindInMarks op b=false:=by
 have e1:(op == CmpOp.In)=false:=by cases op<;>first|rfl|exact absurd rfl h
 have e2:(op == CmpOp.NotIn)=false:=by cases op<;>first|rfl|exact absurd rfl h2
 cases b<;>simp [behindInMarks,e1,e2]
theorem Zab {op:CmpOp} {r:R2} (ho:OpR X (compareOp op) r) (ha:PE X a ta) (hb:PE X b tb) (hm:behindInMarks op b=false):PE X (.Compare a [op] [b] pos) (tOp r ta tb):=by
 intro pins s σ H Q I h;exact wpAny_Compare1 (binT ha hb I h fun v u s2 x y H2 I2 rx ry q=>ho pins s2 σ H2 x y v u Q I2 rx ry q) hm
def Zv5 (t:TE):TT:=fun σ H Q=>t σ H fun x H'=>∃ k,x=.bl k∧Q k H'
theorem Xa {op:CmpOp} {r:R2} (ho:OpR X (compareOp op) r) (ha:PE X a ta) (hb:PE X b tb) (hm:behindInMarks op b=false):PT X (.Compare a [op] [b] pos) (Zv5 (tOp r ta tb)):=by
 intro pins s σ H Q I h
 refine wpAny_isTrue_Compare1 (thn (ha pins s σ H _ I h) fun v s1 ⟨x,H1,I1,r1,q1⟩=>thn (hb pins s1 σ H1 _ I1 q1) fun u s2 ⟨y,H2,I2,r2,q2⟩ =>
  thn (ho pins s2 σ H2 x y v u _ I2 r1 r2 q2) fun c s3 ⟨z,H3,I3,r3,k,e,q3⟩=>?_) hm
 subst e;cases r3
 exact wpAny_truthy_bool ⟨H3,I3,q3⟩
def Zte (r r':R2) (ta tb tc:TE):TE:=fun σ H Q=>ta σ H fun x H1=>tb σ H1 fun y H2=>r x y H2 fun z H3=>∃ k,z=.bl k ∧
 (if k=true then tc σ H3 fun w' H4=>r' y w' H4 Q else Q (.bl false) H3)
theorem Zi9 {op op':CmpOp} {r r':R2} (ho:OpR X (compareOp op) r) (ho':OpR X (compareOp op') r') (ha:PE X a ta) (hb:PE X b tb) (hc:PE X c tc)
 (hm:lastMarks [op,op'] [b,c]=false:=by with_unfolding_all rfl):PE X (.Compare a [op,op'] [b,c] pos) (Zte r r' ta tb tc):=by
 intro pins s σ H Q I h
 refine Compare_chain (thn (ha pins s σ H _ I h) fun v s1 ⟨x,H1,I1,r1,q1⟩=>chain_link (thn (hb pins s1 σ H1 _ I1 q1) fun u s2 ⟨y,H2,I2,r2,q2⟩ =>
  thn (ho pins s2 σ H2 x y v u _ I2 r1 r2 q2) fun d s3 ⟨z,H3,I3,r3,k,e,q3⟩=>?_)) hm
 subst e;cases r3
 refine wpAny_truthy_bool ?_;cases k with
 | false=>exact ite_ff ⟨.bl false,H3,I3,rfl,q3⟩
 | true=>exact ite_tt (chain_last (thn (hc pins s3 σ H3 _ I3 q3) fun w' s4 ⟨z',H4,I4,r4,q4⟩=>ho' pins s4 σ H4 y z' u w' Q I4 r2 r4 q4))
def TruV (K:PySem.W.Frag) (x:V) (H:Hp) (k:Bool):Prop :=
 match x with
 | .non=>k=false
 | .bl b=>k=b
 | .int i=>k=(i != 0)
 | .str y=>y.length≤sizeLine∧k=((y.length:Int) != 0)
 | .byt y=>y.size≤sizeLine∧k=((y.size:Int) != 0)
 | .ref p=>(∃ xs,SqL K H p xs∧k = !xs.isEmpty)∨(∃ xs,SqT K H p xs∧k = !xs.isEmpty)∨∃ kvs,H p=some (.dK kvs)∧k = !kvs.isEmpty
 | _=>False
theorem Zlj {κ:Type} {kvs:List (κ×V)} {vs:List (κ×Value)} (r:KV kvs vs):(!vs.isEmpty) = !kvs.isEmpty:=by
 cases r<;>rfl
theorem Zee {xs:List V} {its:List Value} (r:Vals xs its):(!its.toArray.isEmpty) = !xs.isEmpty:=by
 cases r<;>simp
theorem Zcw:(sizeLine:Nat)<2^63:=by rw [sizeLine_eq];decide
theorem Zs7:TruR X (fun x H Q=>∃ k,TruV X.K x H k∧Q k H):=by
 intro pins s σ H x v Q I rx h;obtain ⟨k,e,q⟩:=h;have hl:=Zcw;have hs:sizeLine=16777216:=sizeLine_eq;cases x with
 | non =>
   cases rx
   have e':k=false:=e;subst e';exact truthy_none ⟨H,I,q⟩
 | bl b =>
   cases rx
   have e':k=b:=e;subst e';exact wpAny_truthy_bool ⟨H,I,q⟩
 | int i =>
   obtain ⟨t,rfl⟩:=rx;have e':k=(i != 0):=e;subst e';exact PySem.P.truthy_int ⟨H,I,q⟩
 | str y =>
   obtain ⟨t,rfl⟩:=rx;obtain ⟨hy,e'⟩:y.length≤sizeLine∧k=((y.length:Int) != 0):=e;subst e';exact PySem.P.truthy_str (by omega) ⟨H,I.tok _,q⟩
 | byt y =>
   obtain ⟨t,rfl⟩:=rx;obtain ⟨hy,e'⟩:y.size≤sizeLine∧k=((y.size:Int) != 0):=e;subst e';exact PySem.W.truthy_bytes (by omega) ⟨H,I.tok _,q⟩
 | ref p =>
   cases rx
   have e':(∃ xs,SqL X.K H p xs∧k = !xs.isEmpty)∨(∃ xs,SqT X.K H p xs∧k = !xs.isEmpty)∨∃ kvs,H p=some (.dK kvs)∧k = !kvs.isEmpty:=e
   rcases e' with ⟨xs,hx,e'⟩|⟨xs,hx,e'⟩|⟨kvs,hx,e'⟩
   · subst e';obtain ⟨its,r,pl,hz⟩:=I.list hx;have hlen:=r.length;exact wpAny_truthy_list pl.isList (by simp only [n8_];omega) ⟨H,I.tok _,by rw [Zee r];exact q⟩
   · subst e';obtain ⟨its,r,pl,hz⟩:=I.tuple hx;have hlen:=r.length;exact truthy_tuple pl (by simp only [n8_];omega) ⟨H,I.tok _,by rw [Zee r];exact q⟩
   · subst e';obtain ⟨hz,hS,vs,r,m⟩:kvs.length≤sizeLine∧(p == sysModules)=false∧∃ vs,KV kvs vs∧s.heap.DictOf (Yb X.prog X.w) p vs:=I.hok p _ hx;have hlen:kvs.length=vs.length:=Paired.length r;exact wpAny_truthy_dict hS m (by omega) ⟨H,I.tok _,by rw [Zlj r];exact q⟩
 | _=>exact (show False from e).elim
theorem Zv (ha:PE X a ta) (he:∀ whole,isTrue a X.env whole=(do let v ← whole;standAt a.pos;holding [v] (truthy v))) :
 PT X a (fun σ H Q=>ta σ H fun x H'=>∃ k,TruV X.K x H' k∧Q k H'):=by
 intro pins s σ H Q I h;exact isTrue_plain (thn (ha pins s σ H _ I h) fun v s1 ⟨x,H1,I1,r1,q1⟩=>Zs7 pins s1 σ H1 x v Q I1 r1 q1) (he _)
theorem Zo1 {x:V} {us:List Value} (r:Vals [x] us):∃ u,us=[u]∧RelV x u:=by
 cases r with
 | cons r1 r2=>cases r2;exact ⟨_,rfl,r1⟩
theorem Zt6 {x y:V} {us:List Value} (r:Vals [x,y] us):∃ u w',us=[u,w']∧RelV x u∧RelV y w':=by
 cases r with
 | cons r1 r2 =>
   cases r2 with
   | cons r3 r4=>cases r4;exact ⟨_,_,rfl,r1,r3⟩
theorem Zjr:Yw X (.builtin "abs") (fun xs H Q=>∃ i,xs=[.int i]∧Q (.int (if i<0 then -i else i)) H):=by
 intro pins s σ H xs us Q I r h;obtain ⟨i,rfl,q⟩:=h;obtain ⟨u,rfl,t,rfl⟩:=Zo1 r;exact call_abs_int fun u tk=>⟨.int (if i<0 then -i else i),H,I.tok _,⟨_,rfl⟩,q⟩
theorem Zg9 (hc:X.calm=true):Yw X (.builtin "max") (fun xs H Q=>∃ i j,xs=[.int i,.int j]∧Q (.int (if j>i then j else i)) H):=by
 intro pins s σ H xs us Q I r h;obtain ⟨i,j,rfl,q⟩:=h;obtain ⟨u,w',rfl,⟨t,rfl⟩,⟨t',rfl⟩⟩:=Zt6 r;refine max_two_ints (I.ok.hd hc) fun h' tk k=>⟨_,H,I.kept k,?_,q⟩
 by_cases hj:j>i
 · rw [if_pos hj,if_pos hj];exact ⟨_,rfl⟩
 · rw [if_neg hj,if_neg hj];exact ⟨_,rfl⟩
theorem Zmx (hc:X.calm=true):Yw X (.builtin "min") (fun xs H Q=>∃ i j,xs=[.int i,.int j]∧Q (.int (if j<i then j else i)) H):=by
 intro pins s σ H xs us Q I r h;obtain ⟨i,j,rfl,q⟩:=h;obtain ⟨u,w',rfl,⟨t,rfl⟩,⟨t',rfl⟩⟩:=Zt6 r;refine min_two_ints (I.ok.hd hc) fun h' tk k=>⟨_,H,I.kept k,?_,q⟩
 by_cases hj:j<i
 · rw [if_pos hj,if_pos hj];exact ⟨_,rfl⟩
 · rw [if_neg hj,if_neg hj];exact ⟨_,rfl⟩
end
structure ObjM (h:Heap) (x dx C:Addr) (mA:Str→Option Value):Prop where
 obj:h.get? x=some (PySem.W.instObj C dx)
 ns:h.Ns1 dx mA
 ne:dx≠x
theorem Zni {h:Heap} {dx:Addr} {mA:Str→Option Value} (n:h.Ns1 dx mA):∃ od,h.get? dx=some od∧∀ name,PySem.W.lookIn name od=some (mA name):=by
 obtain ⟨o,es,ep,ho,hd,hk,_,hm⟩:=n;refine ⟨o,ho,fun name=>?_⟩;have e:=hm name;unfold nsFind findBy at e;rw [← Array.find?_toList] at e;unfold PySem.W.lookIn;rw [hd];dsimp only;split
 · rename_i y q
   rw [q] at e;exact congrArg some e
 · rename_i q
   rw [q] at e
   have a:es.toList.any (·.refKey)=false:=by
    rw [List.any_eq_false];intro y hy;obtain ⟨z,t,hkey⟩:=hk y (Array.mem_toList_iff.mp hy);simp [DictEntry.refKey,hkey]
   have a':¬ es.toList.any (·.refKey)=true:=by rw [a];exact n22_
   rw [if_neg a'];exact congrArg some e
theorem ObjM.look {h:Heap} {x dx C:Addr} {mA:Str→Option Value} (I:ObjM h x dx C mA):∃ od,PySem.W.InstAt h x (PySem.W.instObj C dx) C (some od)∧∀ name,PySem.W.lookIn name od=some (mA name) :=
 let ⟨od,ho,hl⟩:=Zni I.ns
 ⟨od,⟨I.obj,rfl,rfl,ho⟩,hl⟩
section
variable {prog:Program} {w:World} {A:Around} {E:Value→Shared→Prop} {s:Shared} {K:PySem.W.Frag} {x dx C f:Addr} {mA:Str→Option Value} {name:Str} {v:Value}
end
theorem RelO.some_of {v:V} {o:Option Value} (r:RelO (some v) o):∃ u,o=some u∧RelV v u:=by
 cases o with
 | none=>exact (show False from r).elim
 | some u=>exact ⟨u,rfl,r⟩
section
variable {P:Program} {w:World} {H H':Hp} {h h':Heap} {a C dx:Addr} {fs fs':List (Str×V)}
theorem Zru (hok:HOk P w H h) (e:H a=some (.ins C dx fs)):∃ mA,ObjM h a dx C mA∧(∀ f,RelO (fs.lookup f) (mA f))∧PySem.Within mA (fs.map (·.1))∧fs.length≤1000∧H dx=some (.own a):=by
 obtain ⟨d,z,ne,ob,mA,n,r,q⟩:=(show ObjOk P w H h a (.ins C dx fs) from hok a _ e);exact ⟨mA,⟨ob,n,ne⟩,r,q,z,d⟩
end
structure Cls (K:PySem.W.Frag) (C:Addr):Prop where
 pg:PySem.W.plainGet K C Str.empty=true
 hd:PySem.W.hasDictIn K C=true
 po:PySem.W.plainOver K C=true
 sa:PySem.W.findIn K (.ref C) "__setattr__" = some (some (.builtin "object.__setattr__"))
theorem Cls.get {K:PySem.W.Frag} {C:Addr} (c:Cls K C) (f:Str):PySem.W.plainGet K C f=true:=c.pg
section
variable {X:Cx} {pins:List (Addr×Obj)} {σ:St} {H:Hp} {s:Shared} {a C dx:Addr} {fs:List (Str×V)} {f:Str} {v:V} {A:Around} {E:Value→Shared→Prop}
end
section
variable {X:Cx} {o e value:Expr} {f:Str} {pos pos' tpos:Pos} {ta tv:TE}
end
section
variable {X:Cx} {pins:List (Addr×Obj)} {σ:St} {H:Hp} {s:Shared} {A:Around} {E:Value→Shared→Prop} {Q:Value→Shared→Prop} {c:Value} {b:Bool}
inductive TyOf (K:PySem.W.Frag) (H:Hp):V→Value→Prop where
 | non:TyOf K H .non (.type "NoneType")
 | bl (x:Bool):TyOf K H (.bl x) (.type "bool")
 | int (i:Int):TyOf K H (.int i) (.type "int")
 | str (x:Str):TyOf K H (.str x) (.type "str")
 | flt (x:UInt64):TyOf K H (.flt x) (.type "float")
 | lst {a:Addr} {xs:List V} (e:H a=some (.lst xs)):TyOf K H (.ref a) (.type "list")
 | frz {a:Addr} {o:Obj} {xs:List V} (e:H a=some (.frz o (.lst xs))):TyOf K H (.ref a) (.type "list")
 | tup {a:Addr} {xs:List V} (e:H a=some (.tup xs)):TyOf K H (.ref a) (.type "tuple")
 | dK {a:Addr} {kvs:List (Key×V)} (e:H a=some (.dK kvs)):TyOf K H (.ref a) (.type "dict")
 | dT {a:Addr} {kvs:List (List Key×V)} (e:H a=some (.dT kvs)):TyOf K H (.ref a) (.type "dict")
 | ins {a C dx:Addr} {fs:List (Str×V)} (e:H a=some (.ins C dx fs)) (cl:Cls K C) (ha:PySem.W.findIn K (.ref C) "__class__" = some (some (.builtin "object.__class__")))
    (hn:PySem.W.specialIn K (.builtin "object.__class__") "__get__" = some (some (.builtin "getset_descriptor.__get__"))) (htk:PySem.W.takesIn K (.builtin "object.__class__")=some true)
    (hm:PySem.W.mroIn K C (.type "object")=some true):TyOf K H (.ref a) (.ref C)
theorem Zmi {x:V} {u t:Value} (I:Inv X pins σ H s) (rx:RelV x u) (ty:TyOf X.K H x t) (e:PySem.W.kitOne X.K t c=some b) (h:∀ tk,Q (.bool b) { s with toks:=tk }) :
 wpAny (model X.prog X.w) A (call (.builtin "isinstance") [u,c]) Q E s:=by
 cases ty with
 | non=>cases (show u=Value.none from rx);exact n68_ PySem.W.kitx_none I.kIn True.intro e (fun z=>nomatch z) h
 | bl y=>cases (show u=Value.bool y from rx);exact n68_ PySem.W.kitx_bool I.kIn True.intro e (fun z=>nomatch z) h
 | int i=>obtain ⟨t,q⟩:=(show ∃ t,u=Value.int i t from rx);cases q;exact n68_ PySem.W.kitx_int I.kIn True.intro e (fun z=>nomatch z) h
 | str y=>obtain ⟨t,q⟩:=(show ∃ t,u=Value.str y t from rx);cases q;exact n68_ PySem.W.kitx_str I.kIn True.intro e (fun z=>nomatch z) h
 | flt y=>obtain ⟨t,q⟩:=(show ∃ t,u=Value.float y t from rx);cases q;exact n68_ PySem.W.kitx_float I.kIn True.intro e (fun z=>nomatch z) h
 | @lst a xs ea =>
   cases (show u=Value.ref a from rx)
   obtain ⟨_,_,n,_,h1⟩:=(show ObjOk X.prog X.w H s.heap a (.lst xs) from I.hok a _ ea);exact n68_ PySem.W.kitx_list I.kIn ⟨_,h1,rfl⟩ e (fun z=>nomatch z) h
 | @frz a ob xs ea =>
   cases (show u=Value.ref a from rx)
   obtain ⟨_,_,_,n,_,h1⟩:=(show ObjOk X.prog X.w H s.heap a (.frz ob (.lst xs)) from I.hok a _ ea);exact n68_ PySem.W.kitx_list I.kIn ⟨_,h1,rfl⟩ e (fun z=>nomatch z) h
 | @tup a xs ea =>
   cases (show u=Value.ref a from rx)
   obtain ⟨_,_,_,p⟩:=(show ObjOk X.prog X.w H s.heap a (.tup xs) from I.hok a _ ea);obtain ⟨o,h1,h2,_⟩:=p;exact n68_ PySem.W.kitx_tuple I.kIn ⟨o,h1,h2⟩ e (fun z=>nomatch z) h
 | @dK a kvs ea =>
   cases (show u=Value.ref a from rx)
   obtain ⟨_,_,vs,_,p⟩:=(show ObjOk X.prog X.w H s.heap a (.dK kvs) from I.hok a _ ea);obtain ⟨o,es,ep,h1,h2,_⟩:=p;exact n68_ PySem.W.kitx_dict I.kIn ⟨o,h1,h2.1⟩ e (fun z=>nomatch z) h
 | @dT a kvs ea =>
   cases (show u=Value.ref a from rx)
   obtain ⟨_,_,xs,_,o,es,ep,h1,h2,_⟩:=(show ObjOk X.prog X.w H s.heap a (.dT kvs) from I.hok a _ ea);exact n68_ PySem.W.kitx_dict I.kIn ⟨o,h1,h2.1⟩ e (fun z=>nomatch z) h
 | @ins a C dx fs ea cl ha hn htk hm =>
   cases (show u=Value.ref a from rx)
   obtain ⟨mA,O,_⟩:=Zru I.hok ea;obtain ⟨od,J,_⟩:=O.look;exact n68_ (PySem.W.kitx_own (cl.get _) cl.hd ha hn htk hm) I.kIn J e (fun z=>nomatch z) h
end
structure Room (k:Nat) (A:Around):Prop where
 hd:A.handled=none
 dp:A.depth+3*k+5<recursionLimit
 un:A.units+16*k+200<cLine
 gd:A.guards=some []
theorem Room.mono {j k:Nat} {A:Around} (r:Room k A) (h:j≤k):Room j A:=⟨r.hd,by have:=r.dp;omega,by have:=r.un;omega,r.gd⟩
theorem Room.deeper {k:Nat} {A:Around} (r:Room (k+1) A) (env:Env):Room k (A.deeper env) :=
 ⟨r.hd,by have:=r.dp;show A.depth+1+3*k+5<_;omega,by have:=r.un;show A.units+3+16*k+200<_;omega,r.gd⟩
theorem Room.depth {k:Nat} {A:Around} (r:Room k A):A.depth<recursionLimit:=by have:=r.dp;omega
theorem Room.units {k:Nat} {A:Around} (r:Room k A):A.units+64<cLine:=by have:=r.un;omega
def tNil:TA:=fun _ H Q=>Q [] H
def Zui (ta:TE) (tr:TA):TA:=fun σ H Q=>ta σ H fun x H1=>tr σ H1 fun xs H2=>Q (x :: xs) H2
section
variable {X:Cx} {e:Expr} {es:List Expr} {te:TE} {t:TA} {pos:Pos}
theorem Zb:PA X [] tNil:=fun _ _ _ _ H Q I h=>Calls.spliced_nil ⟨[],H,I,.nil,h⟩
theorem Za (ha:PE X e te) (hr:PA X es t) (hs:starEach (e :: es) X.env=(false,eval e X.env) :: starEach es X.env:=by rfl):PA X (e :: es) (Zui te t):=by
 intro pos pins s σ H Q I h;rw [hs];show wpAny _ _ (spliced ((false,eval e X.env) :: backTo pos (starEach es X.env))) _ _ s
 refine Calls.spliced_cons (thn (ha pins s σ H _ I h) fun u s1 ⟨x,H1,I1,r1,q1⟩=>?_);exact thn (hr pos pins s1 σ H1 _ I1 q1) fun us s2 ⟨xs,H2,I2,r2,q2⟩=>⟨x :: xs,H2,I2,.cons r1 r2,q2⟩
def tTup (t:TA):TE:=fun σ H Q=>t σ H fun xs H1=>xs.length≤sizeLine∧∀ p,H1 p=none→Q (.ref p) (upd H1 p (.tup xs))
def tLst (t:TA):TE:=fun σ H Q=>t σ H fun xs H1=>xs.length≤sizeLine∧∀ p,H1 p=none→Q (.ref p) (upd H1 p (.lst xs))
theorem Z4 {x1} (h:PA X es t):PE X (.Tuple es x1 pos) (tTup t):=by
 intro pins s σ H Q I hq;refine wpAny_Tuple_spliced (thn (h pos pins s σ H _ I hq) fun us s1 ⟨xs,H1,I1,r,z,q⟩=>⟨by rw [← r.length];exact z,?_⟩);have hf:H1 s1.heap.objs.size=none:=I1.hok.fresh (n10_ _);refine ⟨.ref s1.heap.objs.size,upd H1 s1.heap.objs.size (.tup xs),I1.laid (t':=s1.toks) (fun b u e=>n2_ _ e) (n10_ _) ?_,rfl,q _ hf⟩;exact ⟨z,us,r,⟨_,n9_ _ rfl,rfl,_,rfl⟩⟩
theorem Ye (h:PA X es t):PE X (.List es pos) (tLst t):=by
 intro pins s σ H Q I hq;refine wpAny_List_spliced (thn (h pos pins s σ H _ I hq) fun us s1 ⟨xs,H1,I1,r,z,q⟩=>⟨by rw [← r.length];exact z,?_⟩);have hf:H1 s1.heap.objs.size=none:=I1.hok.fresh (n10_ _);refine ⟨.ref s1.heap.objs.size,upd H1 s1.heap.objs.size (.lst xs),I1.laid (t':=s1.toks) (fun b u e=>n2_ _ e) (n10_ _) ?_,rfl,q _ hf⟩;exact ⟨z,us,0,r,n9_ _ rfl⟩
end
abbrev Sp:=List V→Hp→VK→XK→Prop
abbrev CXT:=List Env→Hp→Shared→XK→Value→Shared→Prop
structure Env0 (P:Program) (w:World) (K:PySem.W.Frag) (mg:Str→Option Value) (base:Heap) (A:Around) (outer:List Env) (s:Shared) (H:Hp):Prop where
 frames:A.frames=some outer
 mod:Mod K mg base
 bs:∀ b o,base.get? b=some o→s.heap.get? b=some o∧H b=none
 bsz:base.objs.size≤s.heap.objs.size
 funs:s.heap.FunFrames base outer
 frf:∀ b∈frs outer,H b=none
 hok:HOk P w H s.heap
 bare:AllBare s.gens
def CE (outer:List Env) (P:Program) (w:World) (H:Hp) (s:Shared) (Q:VK) (u:Value) (s':Shared):Prop :=
 ∃ v H',s'.os=s.os∧AllBare s'.gens∧Un (frs outer) [] H H' s.heap s'.heap∧HOk P w H' s'.heap∧RelV v u∧Q v H'
def CR (CX:CXT) (outer:List Env) (P:Program) (w:World) (H:Hp) (s:Shared) (Q:VK) (E:XK) (r:Result) (s':Shared):Prop :=
 match r with
 | .ok (.ret u)=>CE outer P w H s Q u s'
 | .ok _=>False
 | .error e=>CX outer H s E e s'
structure FnOk (P:Program) (w:World) (K:PySem.W.Frag) (mg:Str→Option Value) (base:Heap) (CX:CXT) (k:Nat) (f:Addr) (fd:FuncData) (ps:List Str) (sp:Sp):Prop where
 len:∀ vs H Q E,sp vs H Q E→vs.length=ps.length
 run:∀ (A:Around) (outer:List Env) (s:Shared) (H:Hp) (args:Args) (us:List Value) (vs:List V) (Q:VK) (E:XK),Room k A→Env0 P w K mg base A outer s H→BindsTo s fd args (ps.zip us)→Vals vs us→sp vs H Q E →
  codeAny (model P w) A (.call (.ref f) args) (CR CX outer P w H s Q E) s
section
variable {X:Cx} {pins:List (Addr×Obj)} {σ:St} {H:Hp} {s s':Shared}
theorem Inv.env0 (I:Inv X pins σ H s):Env0 X.prog X.w X.K X.mg X.base X.A X.stack s H :=
 ⟨I.ok.frames,I.ok.mod,I.bs,n53_ I.ok.bsz I.sz,I.stack,I.stkFree,I.hok,I.bare⟩
theorem Inv.after {Q:VK} {u:Value} (I:Inv X pins σ H s) (h:CE X.stack X.prog X.w H s Q u s'):EP X pins σ Q u s':=by
 obtain ⟨v,H',os,bare,un,hok,r,q⟩:=h;obtain ⟨hh,g,d,t,os'⟩:=s';obtain rfl:os'=s.os:=os;exact ⟨v,H',I.call (h':=hh) (g':=g) (d':=d) (t':=t) (ch:=[]) un hok bare (fun b z=>absurd z (by simp)),r,q⟩
end
def Zra (sp:Sp) (dvs:List V) (E:XK) (t:TA):TE:=fun σ H Q=>t σ H fun vs H1=>sp (vs++dvs) H1 Q E
def Binds (K:PySem.W.Frag) (fd:FuncData) (ps:List Str) (ds:List Value):Prop :=
 ∀ (s:Shared) (us:List Value),K.In s.heap→(us++ds).length=ps.length→BindsTo s fd ⟨us,[]⟩ (ps.zip (us++ds))
theorem Binds.all {K:PySem.W.Frag} {fd:FuncData} {ps:List Str} (h:∀ us:List Value,us.length=ps.length→bindArgs fd ⟨us,[]⟩=pure (ps.zip us)):Binds K fd ps []:=fun s us _ hl=>by
 rw [List.append_nil] at hl ⊢;exact .of_eq (h us hl)
def Zjz (CX:CXT) (X:Cx) (E:XK):Prop:=∀ (pins:List (Addr×Obj)) (σ:St) (H:Hp) (s:Shared) (e:Value) (s':Shared),Inv X pins σ H s→CX X.stack H s E e s'→X.xe e s'
section
variable {X:Cx} {CX:CXT} {k:Nat} {f C:Addr} {fd:FuncData} {ps:List Str} {sp:Sp} {dvs:List V} {ds:List Value} {E:XK} {x m:Str} {p pos apos:Pos} {e o:Expr} {es:List Expr} {ta:TE} {t:TA}
theorem Zqr {pins:List (Addr×Obj)} {σ:St} {H:Hp} {s:Shared} {Q:VK} {us:List Value} {vs:List V} (F:FnOk X.prog X.w X.K X.mg X.base CX k f fd ps sp) (hr:Room k X.A) (hb:Binds X.K fd ps ds) (hd:Vals dvs ds) (hx:Zjz CX X E)
 (I:Inv X pins σ H s) (r:Vals vs us) (h:sp (vs++dvs) H Q E):wpAny (model X.prog X.w) X.A (call (.ref f) us) (EP X pins σ Q) X.xe s:=by
 have r2:Vals (vs++dvs) (us++ds):=r.append hd;have hl:(us++ds).length=ps.length:=by rw [← r2.length];exact F.len _ _ _ _ h
 refine wpAny_call (codeAny_mono (F.run X.A X.stack s H ⟨us,[]⟩ (us++ds) (vs++dvs) Q E hr I.env0 (hb s us I.kIn hl) r2 h) fun r s' hq=>?_);cases r with
 | error e=>exact hx pins σ H s e s' I hq
 | ok fl =>
   cases fl with
   | ret u=>exact I.after hq
   | next=>exact False.elim hq
   | brk=>exact False.elim hq
   | cont=>exact False.elim hq
theorem Zr9 (F:FnOk X.prog X.w X.K X.mg X.base CX k f fd ps sp) (hr:Room k X.A) (hg:Gl X x) (hm:X.mg x=some (.ref f)) (hk:PySem.W.keepIn X.K (.ref f)=true) (hb:Binds X.K fd ps ds) (hd:Vals dvs ds) (hx:Zjz CX X E)
 (ha:PA X (e :: es) t) (hdb:(x == ("__debug__" : Str))=false:=by decide) (he:starEach (e :: es) X.env=(false,eval e X.env) :: starEach es X.env:=by rfl) (hpl:(backTo pos (starEach es X.env)).any (·.1)=false:=by rfl) :
 PE X (.Call (.Name x p) (e :: es) [] pos) (Zra sp dvs E t):=by
 intro pins s σ H Q I h;refine wpAny_Call_Name_kw (Ze7 I hg hm ?_ hdb);refine PySem.W.callWith_K (h₀:=X.base) I.ok.mod.kin hk (thn (ha pos pins s σ H _ I h) fun us s1 ⟨vs,H1,I1,r,q⟩=>⟨I1.kIn,?_⟩) he hpl;exact Zqr F hr hb hd hx I1 r q
theorem Zpy (F:FnOk X.prog X.w X.K X.mg X.base CX k f fd ps sp) (hr:Room k X.A) (hg:Gl X x) (hm:X.mg x=some (.ref f)) (hk:PySem.W.keepIn X.K (.ref f)=true) (hb:Binds X.K fd ps ds) (hd:Vals dvs ds) (hx:Zjz CX X E)
 (hdb:(x == ("__debug__" : Str))=false:=by decide):PE X (.Call (.Name x p) [] [] pos) (Zra sp dvs E tNil):=by
 intro pins s σ H Q I h;refine wpAny_Call_Name_kw (Ze7 I hg hm ?_ hdb);exact PySem.W.callWith_K0 I.kIn hk (Zqr (us:=[]) F hr hb hd hx I .nil h)
end
def PK (X:Cx) (kws:List Keyword) (t:TA):Prop :=
 ∀ (pos:Pos) (pins:List (Addr×Obj)) (s:Shared) (σ:St) (H:Hp) (Q:List V→Hp→Prop),Inv X pins σ H s→t σ H Q→wpAny (model X.prog X.w) X.A (evalAll ((backToKw pos (keywordEach kws X.env)).map (·.2))) (AP X pins σ Q) X.xe s
section
variable {X:Cx} {CX:CXT} {k:Nat} {f C:Addr} {fd:FuncData} {ps ks:List Str} {sp:Sp} {E:XK} {x m:Str} {p pos apos kpos:Pos} {e o:Expr} {es:List Expr} {kws:List Keyword} {te ta:TE} {t tk:TA} {nm:Option Str}
theorem Zts:PK X [] tNil:=fun _ _ _ _ H Q I h=>wpAny_evalAll_nil ⟨[],H,I,.nil,h⟩
theorem Zsm (ha:PE X e te) (hr:PK X kws t):PK X (⟨nm,e,kpos⟩ :: kws) (Zui te t):=by
 intro pos pins s σ H Q I h;show wpAny _ _ (evalAll ((do let v ← eval e X.env;standAt pos;pure v) :: (backToKw pos (keywordEach kws X.env)).map (·.2))) _ _ s
 refine wpAny_evalAll_cons (n0_ (thn (ha pins s σ H _ I h) fun u s1 ⟨x,H1,I1,r1,q1⟩=>n0_ (wpAny_standAt (n3_ ?_))));exact thn (hr pos pins s1 σ H1 _ I1 q1) fun us s2 ⟨xs,H2,I2,r2,q2⟩=>⟨x :: xs,H2,I2,.cons r1 r2,q2⟩
variable {g:List Value→List Value→List Value} {gV:List V→List V→List V}
end
structure FnScope (N P:List Str) (sc:Scope):Prop where
 kind:sc.kind=.function
 co:sc.isCoroutine=false
 gen:sc.isGenerator=false
 nd:N.Nodup
 pre:N.take P.length=P
 par:∀ x∈P,sc.names.lookup x=some .local∨sc.names.lookup x=some .cell
 nofree:∀ y∈sc.names,y.2≠.free
theorem Zg2 {kindOf:Str→Option NameKind} {x:Str}:∀ {binds:List (Str×Value)} {m:Str→Option Value},(∀ v,(x,v)∉binds)→bindL kindOf binds m x=m x
 | [],_,_=>rfl
 | (n,v) :: r,m,h=>by
   unfold bindL;rw [Zg2 fun w hw=>h w (n17_ _ hw)];split
   · have:x≠n:=by rintro rfl;exact h v n15_
     simp [this]
   · rfl
theorem Zhe {kindOf:Str→Option NameKind} {x:Str}:∀ {binds:List (Str×Value)} {m:Str→Option Value},(∀ v,(x,v)∉binds)→bindC kindOf binds m x=m x
 | [],_,_=>rfl
 | (n,v) :: r,m,h=>by
   unfold bindC;rw [Zhe fun w hw=>h w (n17_ _ hw)];split
   · rfl
   · have:x≠n:=by rintro rfl;exact h v n15_
     simp [this]
theorem Zf3 {kindOf:Str→Option NameKind} {x:Str} {v:Value}:∀ {P:List Str} {vs:List Value} {i:Nat} {m:Str→Option Value},P.Nodup→P[i]? = some x→vs[i]? = some v→kindOf x=some .local →
 bindL kindOf (P.zip vs) m x=some v
 | [],_,_,_,_,h,_,_=>by simp at h
 | _ :: _,[],_,_,_,_,h,_=>by simp at h
 | p :: P,w :: vs,0,m,nd,h1,h2,hk=>by
   simp at h1 h2;subst h1;subst h2;show bindL kindOf ((p,w) :: P.zip vs) m p=_
   unfold bindL;rw [Zg2 fun v hv=>(List.nodup_cons.mp nd).1 (List.of_mem_zip hv).1,if_pos hk]
   simp
 | p :: P,w :: vs,i+1,m,nd,h1,h2,hk=>by
   show bindL kindOf ((p,w) :: P.zip vs) m x=_
   unfold bindL;exact Zf3 (i:=i) (List.nodup_cons.mp nd).2 (by simpa using h1) (by simpa using h2) hk
theorem Zgf {kindOf:Str→Option NameKind} {x:Str} {v:Value}:∀ {P:List Str} {vs:List Value} {i:Nat} {m:Str→Option Value},P.Nodup→P[i]? = some x→vs[i]? = some v→kindOf x≠some .local →
 bindC kindOf (P.zip vs) m x=some v
 | [],_,_,_,_,h,_,_=>by simp at h
 | _ :: _,[],_,_,_,_,h,_=>by simp at h
 | p :: P,w :: vs,0,m,nd,h1,h2,hk=>by
   simp at h1 h2;subst h1;subst h2;show bindC kindOf ((p,w) :: P.zip vs) m p=_
   unfold bindC;rw [Zhe fun v hv=>(List.nodup_cons.mp nd).1 (List.of_mem_zip hv).1,if_neg hk]
   simp
 | p :: P,w :: vs,i+1,m,nd,h1,h2,hk=>by
   show bindC kindOf ((p,w) :: P.zip vs) m x=_
   unfold bindC;exact Zgf (i:=i) (List.nodup_cons.mp nd).2 (by simpa using h1) (by simpa using h2) hk
def start (N:List Str) (vs:List V):St:=vs.map some++List.replicate (N.length-vs.length) none
def cxOf (CX:CXT) (P:Program) (w:World) (K:PySem.W.Frag) (mg:Str→Option Value) (base:Heap) (N:List Str) (qual:Str) (scope:Scope) (f:Addr) (cd:Value) (A:Around) (outer:List Env) (s:Shared) (H:Hp) (E:XK):Cx where
 prog:=P
 w:=w
 K:=K
 mg:=mg
 base:=base
 A:=A.deeper (envOfC qual scope s.heap.objs.size f cd)
 N:=N
 s₀:=s
 H₀:=H
 env:=envOfC qual scope s.heap.objs.size f cd
 outer:=outer
 stack:=envOfC qual scope s.heap.objs.size f cd :: outer
 ex:=[]
 calm:=true
 fn:=fun _=>true
 pn:=[]
 xe:=fun e s'=>wpAny (model P w) (A.deeper (envOfC qual scope s.heap.objs.size f cd)) (leaving (envOfC qual scope s.heap.objs.size f cd) e) (fun _ s''=>CX outer H s E e s'') (fun e' s''=>CX outer H s E e' s'') s'
theorem Zq {sc:Scope} {n:Nat} {x:Str} (h:sc.names.lookup x=some .cell):∃ c,(cellsFrom n sc.names []).lookup x=some c:=by
 have q:=PySem.W.cellsFrom_some sc.names n [] (.inl h);exact Option.isSome_iff_exists.mp q
theorem Znw {CX:CXT} {P:Program} {w:World} {K:PySem.W.Frag} {mg:Str→Option Value} {base:Heap} {N ps:List Str} {qual:Str} {scope:Scope} {f:Addr} {cd:Value} {A:Around} {outer:List Env} {s s1:Shared} {H:Hp} {E:XK} {us:List Value} {vs:List V}
 (S:FnScope N ps scope) (hd:A.handled=none) (e0:Env0 P w K mg base A outer s H) (hl:vs.length=ps.length) (r:Vals vs us)
 (x:InCallC s s.heap.objs.size (bindL (envOfC qual scope s.heap.objs.size f cd).kindOf (ps.zip us) fun _=>none) (cellsFrom (s.heap.objs.size+1) scope.names []) (bindC (envOfC qual scope s.heap.objs.size f cd).kindOf (ps.zip us) fun _=>none) s1) :
 Inv (cxOf CX P w K mg base N qual scope f cd A outer s H E) [] (start N vs) H s1:=by
 have hpl:ps.length≤N.length:=by have:=congrArg List.length S.pre;rw [n57_] at this;omega
 obtain ⟨h1,tk,rfl,hk⟩:=x.done;have noA:∀ b:Addr,b∉(cxOf CX P w K mg base N qual scope f cd A outer s H E).ex:=fun b z=>absurd (show b∈([]:List Addr) from z) (by simp)
 refine ⟨⟨e0.mod,S.kind,rfl,rfl,n10_ _,fun y z c h1 h2=>?_,fun y hy=>?_,fun y c _ h=>?_,fun _=>hd,Around.frames_deeper e0.frames,.inr ⟨rfl,rfl⟩,fun b z=>absurd z (noA b),e0.bs,e0.bsz,fun b _ _=>noA b,fun b z=>absurd z (noA b),e0.funs,e0.frf⟩,
  rfl,e0.bare,Un.kept hk,⟨_,x.toInCall.ns,fun i y v h1 h2 h3=>?_⟩,fun y c h=>⟨_,x.cell y c h⟩,e0.hok.fresh (n10_ _),fun y c h=>?_,fun p hp=>absurd (show p∈([]:List (Addr×Obj)) from hp) (by simp),e0.hok.kept hk,?_⟩
 · exact name_of_addr x.apart (n38_ h1) (n38_ h2)
 · have hy:scope.names.lookup y=some .cell∨scope.names.lookup y=some .free:=hy
   rcases hy with hy|hy
   · exact Zq hy
   · exact absurd rfl (S.nofree _ (n38_ hy))
 · exact Nat.le_of_lt (x.above y c (n38_ h))
 · have hi:i<vs.length:=by
    unfold start at h2
    by_cases hi:i<vs.length
    · exact hi
    · rw [n41_ (by simpa using hi)] at h2;rw [List.getElem?_replicate] at h2;split at h2<;>cases h2
   have ha:vs[i]? = some v:=by
    unfold start at h2;rw [n47_ (by simpa using hi),n7_] at h2;cases e:vs[i]? with
    | none=>rw [e] at h2;cases h2
    | some a=>rw [e] at h2;cases h2;rfl
   obtain ⟨u,hu,rv⟩:=r.get ha
   have hp:ps[i]? = some y:=by
    rw [← S.pre,List.getElem?_take_of_lt (by omega)];exact h1
   have ndP:ps.Nodup:=by rw [← S.pre];exact S.nd.sublist (List.take_sublist _ _)
   refine ⟨u,rv,?_⟩
   rcases S.par y (n6_ hp) with k|k
   · exact .inl ⟨k,Zf3 ndP hp hu k⟩
   · obtain ⟨c,e⟩:=Zq (n:=s.heap.objs.size+1) k;refine .inr ⟨.inl k,c,e,?_⟩;have q:=x.cell y c e;rw [Zgf ndP hp hu (by show scope.names.lookup y≠_;rw [k];decide)] at q;exact q
 · exact .inl (e0.hok.fresh (Nat.le_of_lt (x.above y c (n38_ h))))
 · unfold start;show _=N.length
   rw [n21_,n5_,List.length_replicate];omega
theorem Zvp {CX:CXT} {P:Program} {w:World} {K:PySem.W.Frag} {mg:Str→Option Value} {base:Heap} {k:Nat} {f:Addr} {name qual:Str} {params:Arguments} {body:List Stmt} {scope:Scope} {dV kV doc pm cdv ct oc:Value} {an od:Option Addr}
 {osl:Array (Option Value)} {N ps:List Str} {sp:Sp} (lk:K.lookup f=some ⟨oc,od,.func (PySem.W.fnOf name qual params body scope dV kV doc pm an cdv ct),osl⟩) (hcd:PySem.W.codeIn K cdv qual=true) (S:FnScope N ps scope)
 (len:∀ vs H Q E,sp vs H Q E→vs.length=ps.length)
 (hbody:∀ (A:Around) (outer:List Env) (s:Shared) (H:Hp) (vs:List V) (Q:VK) (E:XK),Room k (A.deeper (envOfC qual scope s.heap.objs.size f cdv))→sp vs H Q E →
   ∃ t,PSs (cxOf CX P w K mg base N qual scope f cdv A outer s H E) body t∧t { nx:=fun _ H'=>Q .non H',rt:=Q } (start N vs) H) :
 FnOk P w K mg base CX (k+1) f (PySem.W.fnOf name qual params body scope dV kV doc pm an cdv ct) ps sp:=by
 refine ⟨len,fun A outer s H args us vs Q E hr e0 hb r hsp=>?_⟩;have hl:=len _ _ _ _ hsp;have KX:K.In s.heap:=e0.mod.kin.keeps fun b o e=>(e0.bs b o e).1;have lim:s.heap.NoLimit:=e0.mod.nolimit.keeps fun b o e=>(e0.bs b o e).1
 have hkind:∀ y∈ps.zip us,scope.names.lookup y.1=some .local∨(scope.names.lookup y.1=some .cell∧((cellsFrom (s.heap.objs.size+1) scope.names []).lookup y.1).isSome=true):=fun ⟨n,v⟩ hy=>by
  rcases S.par n (List.of_mem_zip hy).1 with q|q
  · exact .inl q
  · exact .inr ⟨q,PySem.W.cellsFrom_some _ _ _ (.inl q)⟩
 refine codeAny_call_function hr.depth (KX _ _ lk) rfl S.co S.gen rfl (PySem.W.codeRec_of KX hcd) (hb _ _ _ _ ?_);refine wpAny_newFunctionEnv_cells S.kind hkind fun env he s1 x=>?_;subst he;refine ⟨lim.keeps x.toInCall.keep,codeAny_func ?_⟩;obtain ⟨t,ht,hq⟩:=hbody A outer s H vs Q E (hr.deeper _) hsp;have I:Inv (cxOf CX P w K mg base N qual scope f cdv A outer s H E) [] (start N vs) H s1:=Znw S hr.hd e0 hl r x;refine n46_ (ht [] s1 (start N vs) H _ I hq) (fun fl s' hs=>?_) fun e s' hs=>hs
 have fin:∀ {σ':St} {H':Hp} {v:V} {u:Value},Inv (cxOf CX P w K mg base N qual scope f cdv A outer s H E) [] σ' H' s'→RelV v u→Q v H'→CE outer P w H s Q u s' :=
  fun {σ' H' v u} J rv q=>⟨v,H',J.os,J.bare,J.base,J.hok,rv,q⟩
 cases fl with
 | ret u =>
   obtain ⟨v,σ',H',J,rv,q⟩:=hs;exact fin J rv q
 | next =>
   obtain ⟨σ',H',J,q⟩:=hs;exact fin (v:=V.non) (u:=Value.none) J rfl q
 | brk =>
   obtain ⟨_,_,_,q⟩:=hs;exact False.elim q
 | cont =>
   obtain ⟨_,_,_,q⟩:=hs;exact False.elim q
section
variable {X:Cx} {x:Str} {p pos:Pos} {e:Expr} {es:List Expr} {t:TA} {id T:String} {r:List V→Hp→VK→Prop}
def tCB (r:List V→Hp→VK→Prop) (t:TA):TE:=fun σ H Q=>t σ H fun vs H1=>r vs H1 Q
theorem Zk (hc:Yw X (.builtin id) r) (hg:Gl X x) (hm:X.mg x=none) (hv:bootBuiltins x=some (.builtin id)) (ha:PA X (e :: es) t) (hn:x ≠ "__name__" := by decide) (hdb:(x == ("__debug__" : Str))=false:=by decide)
 (he:starEach (e :: es) X.env=(false,eval e X.env) :: starEach es X.env:=by rfl) (hpl:(backTo pos (starEach es X.env)).any (·.1)=false:=by rfl):PE X (.Call (.Name x p) (e :: es) [] pos) (tCB r t):=by
 intro pins s σ H Q I h;refine wpAny_Call_Name_kw (Zbf I hg hm hv ?_ hn hdb);exact PyProof.Rows.callWith_builtin1 (thn (ha pos pins s σ H _ I h) fun us s1 ⟨vs,H1,I1,r1,q1⟩=>hc pins s1 σ H1 vs us Q I1 r1 q1) he hpl
theorem Z9 (hc:Yw X (.type T) r) (hg:Gl X x) (hm:X.mg x=none) (hv:bootBuiltins x=some (.type T)) (ha:PA X (e :: es) t) (hn:x ≠ "__name__" := by decide) (hdb:(x == ("__debug__" : Str))=false:=by decide)
 (he:starEach (e :: es) X.env=(false,eval e X.env) :: starEach es X.env:=by rfl) (hpl:(backTo pos (starEach es X.env)).any (·.1)=false:=by rfl):PE X (.Call (.Name x p) (e :: es) [] pos) (tCB r t):=by
 intro pins s σ H Q I h;refine wpAny_Call_Name_kw (Zbf I hg hm hv ?_ hn hdb);exact n55_ (thn (ha pos pins s σ H _ I h) fun us s1 ⟨vs,H1,I1,r1,q1⟩=>hc pins s1 σ H1 vs us Q I1 r1 q1) he hpl
end
end L2
namespace HT
open PySem PyProof.Rows
def lexLt:List Int→List Int→Bool
 | [],[]=>false
 | [],_ :: _=>true
 | _ :: _,[]=>false
 | x :: xs,y :: ys=>if x=y then lexLt xs ys else decide (x<y)
theorem lexLt_cons (x y:Int) (xs ys:List Int):lexLt (x :: xs) (y :: ys)=if x=y then lexLt xs ys else decide (x<y):=rfl
theorem Ze1:lexLt [] []=false:=rfl
theorem Zdo (y:Int) (ys:List Int):lexLt [] (y :: ys)=true:=rfl
theorem Zdj (x:Int) (xs:List Int):lexLt (x :: xs) []=false:=rfl
theorem Zon (A:Around) (s:Shared) (a:Int) (t:Tok) (c:Int) (u:Tok):∃ e,SeqAt.EqAt A s (.int a t) (.int c u) e∧(e=true↔a=c) :=
 ⟨(a == c),SeqAt.EqAt.int_int a t c u,by simp⟩
theorem Zpu (A:Around) (s:Shared) (a:Int) (t:Tok) (c:Int) (u:Tok) (prog:Program) (w:World) (E:Value→Shared→Prop) (Q:Value→Shared→Prop) (h:Q (.bool (decide (a<c))) s) :
 wpAny (model prog w) A (richCompare .Lt (.int a t) (.int c u)) Q E s :=
 (PyProof.Rows.lt_int h:wpAny (model prog w) A (compareOp .Lt (.int a t) (.int c u)) Q E s)
section
open PySem.SeqAt
open PySem.AutoSeq1 (wpAny_loadPart')
open PySem.MeetsSeq PySem.MeetsSeq2 PySem.MeetsSeq3
theorem Ze4 (l b:Addr) (items items2:Array Value) (n n2:Nat) (dd dd2:Option Addr) (sl sl2:Array (Option Value)) (ns ms:List Int) (hi:IntsAre items.toList ns) (hj:IntsAre items2.toList ms) :
 Meets (Builtin.«tuple.__lt__» ⟨[.ref l,.ref b],[]⟩)
  (fun _ R s=>s.heap.get? l=some { cls:=.type "tuple",dict:=dd,data:=.seq items n,slots:=sl }∧s.heap.get? b=some { cls:=.type "tuple",dict:=dd2,data:=.seq items2 n2,slots:=sl2 } ∧
    R (.ok (.ret (.bool (lexLt ns ms)))) s) :=
 .of_wp fun prog w A R s h=>by
  obtain ⟨hp,g,d,tk,os⟩:=s;obtain ⟨hl,hb,h⟩:=h;have f2:=AutoSeq1.sub_tuple_tuple;have z1:items.size=ns.length:=by rw [← hi.length];simp
  have z2:items2.size=ms.length:=by rw [← hj.length];simp
  wp_walk using wpAny_loadPart' hl,wpAny_loadPart' hb,wpAny_forIn_list _ (fun rest b s'=>b.1=none∧s'=⟨hp,g,d,tk,os⟩∧∃ (vs ws:List Value) (ns' ms':List Int),rest=vs.zip ws ∧
   IntsAre vs ns'∧IntsAre ws ms'∧ns'.length+items2.size=ms'.length+items.size∧R (.ok (.ret (.bool (lexLt ns' ms')))) ⟨hp,g,d,tk,os⟩) _
  case turn =>
   rintro ⟨y,x⟩ rest b s' ⟨hb',rfl,vs,ws,ns',ms',hz,hvi,hwi,hlen,hR⟩
   cases hvi with
   | nil=>rw [List.zip_nil_left] at hz;cases hz
   | cons a t hvi' =>
     cases hwi with
     | nil=>rw [List.zip_nil_right] at hz;cases hz
     | cons c u hwi' =>
       rw [List.zip_cons_cons] at hz;injection hz with hyx hrest
       injection hyx with hy hx
       subst hy hx;rw [lexLt_cons] at hR;simp only [n18_] at hlen;obtain ⟨e,he,hiff⟩:=Zon A.in1 ⟨hp,g,d,tk,os⟩ a t c u;refine n0_ (he prog w _ _ ?_);cases e with
       | true =>
         rw [if_pos (hiff.mp rfl)] at hR
         wp_walk
         exact ⟨rfl,rfl,_,_,_,_,hrest,hvi',hwi',by omega,hR⟩
       | false =>
         rw [if_neg (fun q=>absurd (hiff.mpr q) n22_)] at hR;have hri:=Zpu A.in1 ⟨hp,g,d,tk,os⟩ a t c u prog w
         wp_walk using hri
         exact ⟨_,rfl,by simpa using hR⟩
  case fin =>
   rintro ⟨b1,b2⟩ s' ⟨hb',rfl,vs,ws,ns',ms',hz,hvi,hwi,hlen,hR⟩
   simp only at hb';subst hb'
   have hv:lexLt ns' ms'=decide (items.size<items2.size):=by
    cases hvi with
    | nil =>
      cases hwi with
      | nil =>
        simp only [n69_] at hlen;rw [Ze1];exact (n35_ (by omega)).symm
      | cons c u hw =>
        simp only [n69_,n18_] at hlen;rw [Zdo];exact (n40_ (by omega)).symm
    | cons a t hv =>
      cases hwi with
      | nil =>
        simp only [n69_,n18_] at hlen;rw [Zdj];exact (n35_ (by omega)).symm
      | cons c u hw =>
        rw [List.zip_cons_cons] at hz;cases hz
   rw [hv] at hR
   wp_walk
   exact ⟨_,rfl,by simpa [Builtin.Tuple.tupleCompareSizes] using hR⟩
  case h =>
   exact ⟨rfl,rfl,items.toList,items2.toList,ns,ms,rfl,hi,hj,by omega,h⟩
end
section
variable {prog:Program} {w:World} {A:Around} {E:Value→Shared→Prop} {s:Shared}
theorem lt_tupInts {l b:Addr} {items items2:Array Value} {ns ms:List Int} {Q:Value→Shared→Prop} (hl:IsTup s.heap l items) (hb:IsTup s.heap b items2) (hi:IntsAre items.toList ns) (hj:IntsAre items2.toList ms)
 (hu:A.units<cLine) (h:Q (.bool (lexLt ns ms)) s):wpAny (model prog w) A (compareOp .Lt (.ref l) (.ref b)) Q E s:=by
 obtain ⟨⟨cls,dd,data,sl⟩,ho,hc,n,hd⟩:=id hl;obtain ⟨⟨cls2,dd2,data2,sl2⟩,ho2,hc2,n2,hd2⟩:=id hb;simp only at hc hd hc2 hd2;subst hc hd hc2 hd2
 exact richCompare_meets_room (op:=.Lt) ⟨_,ho,rfl⟩ ⟨_,ho2,rfl⟩ PySem.F.slot_tuple_lt PySem.F.entry_tuple_lt (PySem.F.args_tuple_lt_2 _ _) (Ze4 l b items items2 n n2 dd dd2 sl sl2 ns ms hi hj)
  ⟨ho,ho2,show Value.bool (lexLt ns ms)≠Value.notImplemented∧Q (.bool (lexLt ns ms)) s from ⟨(fun x=>nomatch x),h⟩⟩ hu
def sIx (n d:Nat):Option Int→Nat
 | none=>d
 | some v=>if v<0 then (v+(n:Int)).toNat else min v.toNat n
theorem sIx_none (n d:Nat):sIx n d none=d:=rfl
theorem sIx_nat (n d k:Nat):sIx n d (some (k:Int))=min k n:=by
 show (if (k:Int)<0 then ((k:Int)+(n:Int)).toNat else min (k:Int).toNat n)=min k n
 rw [if_neg (by omega),n59_]
theorem Ztr (n d:Nat) (hd:d≤n) (o:Option Int):sIx n d o≤n:=by
 cases o with
 | none=>exact hd
 | some v =>
   show (if v<0 then (v+(n:Int)).toNat else min v.toNat n)≤n
   by_cases hv:v<0
   · rw [if_pos hv];omega
   · rw [if_neg hv];exact Nat.min_le_right _ _
theorem Zmh (v:Int) (n d:Nat):(if v<0 then max (v+(n:Int)) 0 else min v (n:Int))=((sIx n d (some v):Nat):Int):=by
 show (if v<0 then max (v+(n:Int)) 0 else min v (n:Int))=(((if v<0 then (v+(n:Int)).toNat else min v.toNat n):Nat):Int)
 by_cases hv:v<0
 · simp only [if_pos hv];omega
 · simp only [if_neg hv];omega
theorem Zlf (lo hi:Option Int) (n:Nat):Builtin.Slice.sliceAdjust lo hi 1 (n:Int)=(((sIx n 0 lo:Nat):Int),((sIx n n hi:Nat):Int)):=by
 have h1:¬ ((1:Int)<0):=by omega
 unfold Builtin.Slice.sliceAdjust;simp only [h1,if_false];refine Prod.ext ?_ ?_
 · cases lo with
   | none=>rfl
   | some v=>exact Zmh v n 0
 · cases hi with
   | none=>rfl
   | some v=>exact Zmh v n n
theorem Zkt (i j:Nat):Builtin.Slice.slicePlaces (i:Int) (j:Int) 1=j-i:=by
 unfold Builtin.Slice.slicePlaces;have h1:(1:Int)>0:=by omega
 simp only [h1,if_true,Int.ediv_one];split<;>omega
theorem Zd0 {v:Value} {o:Option Int} {Q:Option Int→Shared→Prop} (p:IsPart v o) (h:Q o s):wpAny (model prog w) A (Builtin.Slice.slicePartIndex v) Q E s:=by
 cases p with
 | none=>exact slicePart_none h
 | int i t=>exact slicePart_int h
theorem Zae {sl:Addr} {vl vu:Value} {lo hi:Option Int} {n:Nat} {Q:Int×Int×Nat→Shared→Prop} (hs:s.heap.IsSliceOf sl vl vu .none) (pl:IsPart vl lo) (pu:IsPart vu hi)
 (h:Q (((sIx n 0 lo:Nat):Int),1,sIx n n hi-sIx n 0 lo) s):wpAny (model prog w) A (Builtin.Slice.sliceApplied (.ref sl) (pure (n:Int))) Q E s:=by
 obtain ⟨os,hos,hcs,hds⟩:=id hs;unfold Builtin.Slice.sliceApplied Builtin.Slice.sliceFields;refine n0_ (n0_ (wpAny_field hos hds (x:=vl) rfl (n0_ (wpAny_field hos hds (x:=vu) rfl (n0_ (wpAny_field hos hds (x:=.none) rfl (n3_ ?_)))))));refine n0_ (slicePart_none ?_);show wpAny _ _ (if ((1:Int) == 0)=true then _ else _) _ _ s
 rw [if_neg (by decide)];refine n0_ (Zd0 pl (n0_ (Zd0 pu (n0_ (n3_ ?_)))));show wpAny _ _ (match Builtin.Slice.sliceAdjust lo hi 1 (n:Int) with|(lo,hi)=>pure (lo,(1:Int),Builtin.Slice.slicePlaces lo hi 1)) _ _ s
 rw [Zlf lo hi n];show wpAny _ _ (pure (((sIx n 0 lo:Nat):Int),(1:Int),Builtin.Slice.slicePlaces ((sIx n 0 lo:Nat):Int) ((sIx n n hi:Nat):Int) 1)) _ _ s
 rw [Zkt];exact n3_ h
theorem Zpj (xs:Array Value) (i k:Nat):((List.range k).filterMap fun (m:Nat)=>xs[((i:Int)+(m:Int)*1).toNat]?).toArray=((xs.toList.drop i).take k).toArray:=by
 have e:(fun (m:Nat)=>xs[((i:Int)+(m:Int)*1).toNat]?)=fun m=>xs[i+m]?:=by
  funext m
  have:((i:Int)+(m:Int)*1).toNat=i+m:=by omega
  rw [this]
 rw [e]
 have:=pick_run xs i k
 rw [List.filterMap_map] at this;have e2:((fun x=>xs[x]?) ∘ fun x=>i+x)=fun m=>xs[i+m]?:=rfl;rw [e2] at this;rw [this]
theorem getItem_tuple_cut {t sl:Addr} {items:Array Value} {vl vu:Value} {lo hi:Option Int} {Q:Value→Shared→Prop} (ht:IsTup s.heap t items) (hs:s.heap.IsSliceOf sl vl vu .none) (pl:IsPart vl lo) (pu:IsPart vu hi)
 (hw:¬ (sIx items.size 0 lo=0∧sIx items.size items.size hi=items.size))
 (h:Q (.ref s.heap.objs.size) { s with heap:=s.heap.push { cls:=.type "tuple",data:=.seq ((items.toList.drop (sIx items.size 0 lo)).take (sIx items.size items.size hi-sIx items.size 0 lo)).toArray } })
 (hsz:items.size≤sizeLine):wpAny (model prog w) A (getItem (.ref t) (.ref sl)) Q E s:=by
 have htake:sizeOk (.seq ((items.toList.drop (sIx items.size 0 lo)).take (sIx items.size items.size hi-sIx items.size 0 lo)).toArray):=by
  show ((items.toList.drop (sIx items.size 0 lo)).take (sIx items.size items.size hi-sIx items.size 0 lo)).toArray.size≤sizeLine
  rw [n8_,n57_,List.length_drop,Array.length_toList];omega
 have hj:sIx items.size items.size hi≤items.size:=Ztr _ _ (n10_ _) hi;obtain ⟨os,hos,hcs,hds⟩:=id hs;have hTs:s.TypeIs (.ref sl) "slice" := ⟨os,hos,hcs⟩;unfold getItem
 try with_reducible refine n36_ ?_
 first|refine n0_ (n3_ ?_)|skip
 refine n0_ (wpAny_sequenceKey ht.typeIs (by decide) ?_)
 refine n0_ (wpAny_callSpecial?_slot (name:=Str.ofString "__getitem__") ht.typeIs PyProof.Rows.slot_tuple_getitem
  (wpAny_call_entry PyProof.Rows.slot_tuple_getitem ht.typeIs entry_tuple_getitem ?_ (args_tuple_getitem _ _)))
 show wpAny _ _ (Builtin.Tuple.tupleItemsOf (.ref t) >>= _) _ _ s
 refine n0_ (tupleItemsOf_ ht ?_);refine n0_ (wpAny_typeOf hTs ?_);rw [if_pos (by decide)];refine n0_ (Zae hs pl pu ?_)
 have hno:¬ ((((sIx items.size 0 lo:Nat):Int) == 0&&(1:Int) == 1&&(sIx items.size items.size hi-sIx items.size 0 lo) == items.size)=true):=by
  intro q;rw [n32_,n32_] at q;have q1:((sIx items.size 0 lo:Nat):Int)=0:=eq_of_beq q.1.1;have q2:sIx items.size items.size hi-sIx items.size 0 lo=items.size:=eq_of_beq q.2;exact hw ⟨by omega,by omega⟩
 show wpAny _ _ (if (((sIx items.size 0 lo:Nat):Int) == 0&&(1:Int) == 1&&(sIx items.size items.size hi-sIx items.size 0 lo) == items.size)=true then _ else _) _ _ s
 rw [if_neg hno,Zpj]
 first
  | exact n0_ (m:=Builtin.Tuple.tupleExact _) (wpAny_newObj_type (n3_ ⟨_,rfl,n3_ h⟩) htake)
  | exact n0_ (m:=Builtin.Tuple.tupleExact _) (wpAny_newObj_type (n0_ (n3_ (n3_ ⟨_,rfl,n3_ h⟩))) htake)
  | exact n0_ (n0_ (m:=Builtin.Tuple.tupleExact _) (wpAny_newObj_type (n3_ (n3_ ⟨_,rfl,n3_ h⟩)) htake))
  | exact n0_ (n0_ (m:=Builtin.Tuple.tupleExact _) (wpAny_newObj_type (n3_ ⟨_,rfl,n3_ h⟩) htake))
end
end HT
namespace L2
open PySem PySem.Spec PyProof.Rows
abbrev TO:=St→Hp→(Option Int→Hp→Prop)→Prop
def PO (X:Cx) (e:Option Expr) (t:TO):Prop :=
 ∀ (pins:List (Addr×Obj)) (s:Shared) (σ:St) (H:Hp) (Q:Option Int→Hp→Prop),Inv X pins σ H s→t σ H Q →
   wpAny (model X.prog X.w) X.A (evalPart e X.env) (fun u s'=>∃ o H',Inv X pins σ H' s'∧IsPart u o∧Q o H') X.xe s
def Zrp:TO:=fun _ H Q=>Q none H
def Zvl (t:TE):TO:=fun σ H Q=>t σ H fun x H1=>∃ i,x=.int i∧Q (some i) H1
theorem Za3 {ns:List Int}:∀ {us:List Value},Vals (ns.map V.int) us→IntsAre us ns:=by
 induction ns with
 | nil=>intro us r;rw [List.map_nil] at r;cases r;exact .nil
 | cons n ns ih =>
   intro us r;rw [n34_] at r;cases r with
   | cons r1 r2 =>
     obtain ⟨t,e⟩:=r1;subst e;exact .cons n t (ih r2)
section
variable {X:Cx} {e:Expr} {te:TE} {lo hi:Option Expr} {tl th:TO} {pos p2:Pos}
theorem Zfp:PO X none Zrp:=by
 intro pins s σ H Q I h;rw [evalPart_none];exact n3_ ⟨none,H,I,.none,h⟩
theorem Zfn (h:PE X e te):PO X (some e) (Zvl te):=by
 intro pins s σ H Q I hw;rw [evalPart_some];refine thn (h pins s σ H _ I hw) fun u s1 ⟨x,H1,I1,r1,q1⟩=>?_;obtain ⟨i,rfl,q⟩:=q1;obtain ⟨t,rfl⟩:=r1;exact ⟨some i,H1,I1,.int i t,q⟩
def SlR (X:Cx) (r:V→Option Int→Option Int→Hp→VK→Prop):Prop :=
 ∀ (pins:List (Addr×Obj)) (s:Shared) (σ:St) (H:Hp) (x:V) (v vl vu:Value) (lo hi:Option Int) (sl:Addr) (Q:VK),Inv X pins σ H s→RelV x v→s.heap.IsSliceOf sl vl vu .none→IsPart vl lo→IsPart vu hi→r x lo hi H Q →
   ∃ T id,typeLookup (.type T) "__getitem__" = pure (some (.builtin id))∧s.TypeIs v T∧wpAny (model X.prog X.w) X.A (getItem v (.ref sl)) (EP X pins σ Q) X.xe s
def tSl (r:V→Option Int→Option Int→Hp→VK→Prop) (te:TE) (tl th:TO):TE:=fun σ H Q=>te σ H fun x H1=>tl σ H1 fun l H2=>th σ H2 fun u H3=>r x l u H3 Q
theorem Zcm {r:V→Option Int→Option Int→Hp→VK→Prop} (hr:SlR X r) (he:PE X e te) (hl:PO X lo tl) (hu:PO X hi th):PE X (.Subscript e (.Slice lo hi none p2) pos) (tSl r te tl th):=by
 intro pins s σ H Q I h;refine Subscript_ (thn (he pins s σ H _ I h) fun v s1 ⟨x,H1,I1,r1,q1⟩=>?_);refine wpAny_Slice (thn (hl pins s1 σ H1 _ I1 q1) fun vl s2 ⟨l,H2,I2,pl,q2⟩=>thn (hu pins s2 σ H2 _ I2 q2) fun vu s3 ⟨u,H3,I3,pu,q3⟩=>?_);rw [evalPart_none];refine n3_ ?_;have I4:Inv X pins σ H3 { s3 with heap:=s3.heap.push { cls:=.type "slice",data:=.fields #[vl,vu,.none] } }:=I3.kept (t':=s3.toks) fun b ob q=>n2_ _ q;obtain ⟨T,id,hT,ht,hg⟩:=hr pins { s3 with heap:=s3.heap.push { cls:=.type "slice",data:=.fields #[vl,vu,.none] } } σ H3 x v vl vu l u s3.heap.objs.size Q I4 r1 (Heap.IsSliceOf.new ..) pl pu q3;show wpAny (model X.prog X.w) X.A (subscriptTail e (.Slice lo hi none p2) v (.ref s3.heap.objs.size)) (EP X pins σ Q) X.xe { s3 with heap:=s3.heap.push { cls:=.type "slice",data:=.fields #[vl,vu,.none] } }
 exact tail_any (ops:=[.ref s3.heap.objs.size,v]) ht hT hg (by with_unfolding_all rfl)
def cutV (xs:List V) (lo hi:Option Int):List V:=(xs.drop (HT.sIx xs.length 0 lo)).take (HT.sIx xs.length xs.length hi-HT.sIx xs.length 0 lo)
theorem Zda (xs:List V) (lo hi:Option Int):(cutV xs lo hi).length≤xs.length:=by
 unfold cutV;rw [n57_,List.length_drop];omega
def rSlT (K:PySem.W.Frag):V→Option Int→Option Int→Hp→VK→Prop:=fun x lo hi H Q=>∃ a xs,x=.ref a∧SqT K H a xs ∧
 ¬ (HT.sIx xs.length 0 lo=0∧HT.sIx xs.length xs.length hi=xs.length)∧∀ p,H p=none→Q (.ref p) (upd H p (.tup (cutV xs lo hi)))
theorem Zuz:SlR X (rSlT X.K):=by
 intro pins s σ H x v vl vu lo hi sl Q I rx hs pl pu h;obtain ⟨a,xs,rfl,hx,hw,q⟩:=h;cases rx
 obtain ⟨its,r,ht,hz⟩:=I.tuple hx;have hlen:its.toArray.size=xs.length:=by rw [n8_];exact r.length.symm
 refine ⟨"tuple",_,PyProof.Rows.slot_tuple_getitem.lookup,ht.typeIs,?_⟩;refine HT.getItem_tuple_cut ht hs pl pu (by rw [hlen];exact hw) ?_ (by rw [hlen];exact hz);rw [hlen];refine ⟨.ref s.heap.objs.size,_,I.laid (t':=s.toks) (o:=.tup (cutV xs lo hi)) (fun b ob q=>n2_ _ q) (n10_ _) ?_,rfl,q _ (I.hok.fresh (n10_ _))⟩;exact ⟨n53_ (Zda xs lo hi) hz,_,(r.drop (HT.sIx xs.length 0 lo)).take (HT.sIx xs.length xs.length hi-HT.sIx xs.length 0 lo),IsTup.new _ _⟩
def rLtT (K:PySem.W.Frag):R2:=fun x y H Q=>∃ a b ns ms,x=.ref a∧y=.ref b∧SqT K H a (ns.map V.int)∧SqT K H b (ms.map V.int)∧Q (.bl (HT.lexLt ns ms)) H
theorem Ztc (hu:X.A.units<cLine):OpR X (compareOp .Lt) (rLtT X.K):=by
 intro pins s σ H x y v u Q I rx ry h;obtain ⟨a,b,ns,ms,rfl,rfl,ha,hb,q⟩:=h;cases rx
 cases ry
 obtain ⟨its,r1,p1,_⟩:=I.tuple ha;obtain ⟨its2,r2,p2,_⟩:=I.tuple hb;have i1:IntsAre its.toArray.toList ns:=Za3 r1;have i2:IntsAre its2.toArray.toList ms:=Za3 r2;exact HT.lt_tupInts p1 p2 i1 i2 hu ⟨.bl (HT.lexLt ns ms),H,I,rfl,q⟩
theorem Vals.nil_iff {xs:List V} {us:List Value} (r:Vals xs us):us=[]↔xs=[]:=by
 cases r with
 | nil=>simp
 | cons _ _=>simp
end
def ixN (n:Nat) (i:Int):Option Nat:=if 0≤i then (if i<n then some i.toNat else none) else if -(n:Int)≤i then some (i+n).toNat else none
def atI {α:Type} (xs:List α) (i:Int):Option α:=(ixN xs.length i).bind fun j=>xs[j]?
theorem Zh2 {n:Nat} {i:Int} {j:Nat} (h:ixN n i=some j):seqIndex? i n=some j∧j<n∧-(n:Int)≤i∧i<n:=by
 unfold ixN at h
 by_cases h0:0≤i
 · rw [if_pos h0] at h
   by_cases h1:i<n
   · rw [if_pos h1] at h;have e:i.toNat=j:=Option.some.inj h;exact ⟨by rw [seqIndex_of h0 h1,e],by omega,by omega,h1⟩
   · rw [if_neg h1] at h;cases h
 · rw [if_neg h0] at h
   by_cases h1:-(n:Int)≤i
   · rw [if_pos h1] at h;have e:(i+n).toNat=j:=Option.some.inj h;exact ⟨by rw [seqIndex_neg (by omega) h1,e],by omega,h1,by omega⟩
   · rw [if_neg h1] at h;cases h
theorem Zmd {α:Type} {xs:List α} {i:Int} {v:α} (h:atI xs i=some v):∃ j,seqIndex? i xs.length=some j∧xs[j]? = some v∧j<xs.length∧-(xs.length:Int)≤i∧i<xs.length:=by
 unfold atI at h;cases e:ixN xs.length i with
 | none=>rw [e] at h;cases h
 | some j =>
   rw [e] at h;obtain ⟨h1,h2,h3,h4⟩:=Zh2 e;exact ⟨j,h1,h,h2,h3,h4⟩
theorem Zbb {α:Type} {xs:List α} {j:Nat} {v:α} (h:xs[j]? = some v):atI xs (j:Int)=some v:=by
 have hj:j<xs.length:=(n14_.mp h).1
 have e:ixN xs.length (j:Int)=some j:=by
  unfold ixN;rw [if_pos (by omega),if_pos (by omega)];simp
 unfold atI;rw [e];exact h
def Zr1 (b:Expr):Prop:=∀ o i,subscripted b false o i=operate [o,i] (getItem o i)
def IxR (X:Cx) (r:R2):Prop :=
 ∀ (value slice:Expr) (pins:List (Addr×Obj)) (s:Shared) (σ:St) (H:Hp) (x y:V) (v u:Value) (Q:VK),Inv X pins σ H s→RelV x v→RelV y u→r x y H Q →
   subscripted slice false v u=operate [v,u] (getItem v u)→wpAny (model X.prog X.w) X.A (subscriptTail value slice v u) (EP X pins σ Q) X.xe s
def MtR (X:Cx) (id:String) (r:V→List V→Hp→VK→Prop):Prop :=
 ∀ (pins:List (Addr×Obj)) (s:Shared) (σ:St) (H:Hp) (x:V) (xs:List V) (v:Value) (us:List Value) (Q:VK),Inv X pins σ H s→RelV x v→Vals xs us→r x xs H Q →
   wpAny (model X.prog X.w) X.A (call (.builtin id) (v :: us)) (EP X pins σ Q) X.xe s
section
variable {X:Cx} {a b:Expr} {ta tb:TE} {pos:Pos}
theorem Zw {r:R2} (hr:IxR X r) (ha:PE X a ta) (hb:PE X b tb) (hs:Zr1 b):PE X (.Subscript a b pos) (tOp r ta tb):=by
 intro pins s σ H Q I h;exact Subscript_ (binT ha hb I h fun v u s2 x y H2 I2 rx ry q=>hr a b pins s2 σ H2 x y v u Q I2 rx ry q (hs _ _))
def rIxL (K:PySem.W.Frag):R2:=fun x y H Q=>∃ p xs i v,x=.ref p∧y=.int i∧SqL K H p xs∧atI xs i=some v∧Q v H
def rIxT (K:PySem.W.Frag):R2:=fun x y H Q=>∃ p xs i v,x=.ref p∧y=.int i∧SqT K H p xs∧atI xs i=some v∧Q v H
theorem Yk:IxR X (rIxL X.K):=by
 intro value slice pins s σ H x y v u Q I rx ry h hs;obtain ⟨p,xs,i,z,rfl,rfl,hq,he,q⟩:=h;cases rx
 obtain ⟨t,rfl⟩:=ry;obtain ⟨its,r,pl,hz⟩:=I.list hq;obtain ⟨j,h1,h2,h3,h4,h5⟩:=Zmd he;obtain ⟨w,ew,rw'⟩:=r.get h2;have hl:=r.length;have hn:=Zcw;have fin:EP X pins σ Q w s:=⟨z,H,I,rw',q⟩
 by_cases h0:0≤i
 · have hj:i.toNat=j:=by
    rw [seqIndex_of h0 h5] at h1;exact Option.some.inj h1
   exact item_listR pl.isList h0 (by omega) (by rw [hj];simpa using ew) fin hs
 · have hj:(i+(its.toArray.size:Int)).toNat=j:=by
    rw [seqIndex_neg (by omega) h4] at h1;rw [n8_,← hl];exact Option.some.inj h1
   exact subscriptTail_builtinR (x:=w) pl.isList.typeIs slot_list_getitem.lookup
    (wpAny_getItem_list_neg (Q:=fun r s'=>r=w∧EP X pins σ Q r s') pl.isList (by omega) (by rw [n8_]<;>omega) (by omega) (by rw [hj];simpa using ew) ⟨rfl,fin⟩) hs
theorem Zz:IxR X (rIxT X.K):=by
 intro value slice pins s σ H x y v u Q I rx ry h hs;obtain ⟨p,xs,i,z,rfl,rfl,hq,he,q⟩:=h;cases rx
 obtain ⟨t,rfl⟩:=ry;obtain ⟨its,r,pl,hz⟩:=I.tuple hq;obtain ⟨j,h1,h2,h3,h4,h5⟩:=Zmd he;obtain ⟨w,ew,rw'⟩:=r.get h2;have hl:=r.length;have hn:=Zcw;have fin:EP X pins σ Q w s:=⟨z,H,I,rw',q⟩
 exact subscriptTail_builtinR (x:=w) pl.typeIs slot_tuple_getitem.lookup
  (getItem_tuple (j:=j) (Q:=fun r s'=>r=w∧EP X pins σ Q r s') pl (by omega) (by omega) (by rw [n8_,← hl];exact h1) (by simpa using ew) ⟨rfl,fin⟩) hs
theorem Zlm (its:List Value) (n j:Nat) (u:Value):Obj.mapSeq (·.setIfInBounds j u) { cls:=.type "list",data:=.seq its.toArray n }={ cls:=.type "list",data:=.seq (its.set j u).toArray n }:=by
 simp [Obj.mapSeq]
theorem Inv.lst {pins:List (Addr×Obj)} {σ:St} {H:Hp} {s:Shared} {p:Addr} {xs:List V} (I:Inv X pins σ H s) (h:H p=some (.lst xs)) :
 ∃ (its:List Value) (n:Nat),Vals xs its∧s.heap.get? p=some { cls:=.type "list",data:=.seq its.toArray n }∧xs.length≤sizeLine:=by
 obtain ⟨z,its,n,r,e⟩:=I.hok p _ h;exact ⟨its,n,r,e,z⟩
theorem Inv.lstUpd {pins:List (Addr×Obj)} {σ:St} {H:Hp} {s:Shared} {p:Addr} {xs ys:List V} {its its':List Value} {n n':Nat} {f:Obj→Obj} (I:Inv X pins σ H s) (h:H p=some (.lst xs))
 (ho:s.heap.get? p=some { cls:=.type "list",data:=.seq its.toArray n }) (hf:f { cls:=.type "list",data:=.seq its.toArray n }={ cls:=.type "list",data:=.seq its'.toArray n' }) (r:Vals ys its') (hz:ys.length≤sizeLine) (t:Nat) :
 Inv X pins σ (upd H p (.lst ys)) { s with heap:=s.heap.update p f,toks:=t }:=by
 have e:(s.heap.update p f).get? p=some { cls:=.type "list",data:=.seq its'.toArray n' }:=by
  rw [n48_ f ho (by rw [hf]<;>rfl),hf]
 refine I.write (x:=p) (e:=p) (by rw [h];trivial) (.inl rfl) (fun b u hb q=>(n60_ _ _ (Ne.symm hb)).trans q) ⟨_,e⟩ ?_;exact ⟨hz,its',n',r,e⟩
def Zvf:V→V→V→Hp→(Hp→Prop)→Prop:=fun o i v H Q=>∃ p xs k j,o=.ref p∧i=.int k∧H p=some (.lst xs)∧ixN xs.length k=some j∧Q (upd H p (.lst (xs.set j v)))
theorem Zcl:PSet X Zvf:=by
 intro pins s σ H o i v ov iv u Q I ro ri rv h;obtain ⟨p,xs,k,j,rfl,rfl,hp,hj,q⟩:=h;cases ro
 obtain ⟨t,rfl⟩:=ri;obtain ⟨its,n,r,ho,hz⟩:=I.lst hp;obtain ⟨h1,h2,h3,h4⟩:=Zh2 hj;have hl:=r.length;have hn:=Zcw
 have I':Inv X pins σ (upd H p (.lst (xs.set j v))) { s with heap:=s.heap.update p (Obj.mapSeq (·.setIfInBounds j u)) } :=
  I.lstUpd hp ho (Zlm its n j u) (r.set rv j) (by rw [List.length_set];exact hz) s.toks
 by_cases h0:0≤k
 · have hk:k.toNat=j:=by
    rw [seqIndex_of h0 h4] at h1;exact Option.some.inj h1
   exact PySem.W.ki_setAt ho h0 (by omega) (by rw [n8_,← hl];exact h4) (by rw [hk];exact ⟨_,I',q⟩)
 · have hk:(k+(its.toArray.size:Int)).toNat=j:=by
    rw [seqIndex_neg (by omega) h3] at h1;rw [n8_,← hl];exact Option.some.inj h1
   exact PySem.W.ki_setBack ho (by omega) (by rw [n8_,← hl];exact h3) (by omega) (by rw [hk];exact ⟨_,I',q⟩)
theorem Zg7 (lo hi:Option Int) (n:Nat):(sliceBounds lo hi none n).1=((HT.sIx n 0 lo:Nat):Int)∧(sliceBounds lo hi none n).2.1=((HT.sIx n n hi:Nat):Int)∧(sliceBounds lo hi none n).2.2=1:=by
 refine ⟨?_,?_,rfl⟩
 · cases lo with
   | none=>simp [sliceBounds,HT.sIx]
   | some i =>
     simp only [sliceBounds,HT.sIx,Option.getD_none,show (1:Int)>0 by decide,if_true]
     by_cases h:i<0
     · simp only [h,if_true]<;>omega
     · simp only [h,if_false]<;>omega
 · cases hi with
   | none=>simp [sliceBounds,HT.sIx]
   | some i =>
     simp only [sliceBounds,HT.sIx,Option.getD_none,show (1:Int)>0 by decide,if_true]
     by_cases h:i<0
     · simp only [h,if_true]<;>omega
     · simp only [h,if_false]<;>omega
theorem Zfq (its:List Value) (lo hi:Option Int):slicePick its.toArray lo hi none=((its.drop (HT.sIx its.length 0 lo)).take (HT.sIx its.length its.length hi-HT.sIx its.length 0 lo)).toArray:=by
 obtain ⟨h1,h2,h3⟩:=Zg7 lo hi its.toArray.size;unfold slicePick;rw [h1,h2,h3];simp only [sliceRange_one,pick_run,n8_]<;>rfl
def rSlL (K:PySem.W.Frag):V→Option Int→Option Int→Hp→VK→Prop:=fun x lo hi H Q=>∃ a xs,x=.ref a∧SqL K H a xs∧∀ p,H p=none→Q (.ref p) (upd H p (.lst (cutV xs lo hi)))
theorem Zn3:SlR X (rSlL X.K):=by
 intro pins s σ H x v vl vu lo hi sl Q I rx hs pl pu h;obtain ⟨a,xs,rfl,hx,q⟩:=h;cases rx
 obtain ⟨its,r,ht,hz⟩:=I.list hx;have hlen:=r.length;refine ⟨"list",_,slot_list_getitem.lookup,ht.isList.typeIs,?_⟩;refine wpAny_getItem_list_slice ht.isList hs pl pu .none (by simp) ?_ (by rw [n8_]<;>omega);rw [Zfq,← hlen];refine ⟨.ref s.heap.objs.size,_,I.laid (t':=s.toks) (o:=.lst (cutV xs lo hi)) (fun b ob q=>n2_ _ q) (n10_ _) ?_,rfl,q _ (I.hok.fresh (n10_ _))⟩;exact ⟨n53_ (Zda xs lo hi) hz,_,0,(r.drop (HT.sIx xs.length 0 lo)).take (HT.sIx xs.length xs.length hi-HT.sIx xs.length 0 lo),n9_ _ rfl⟩
def Zha:V→Bool
 | .non=>true
 | .bl _=>true
 | .int _=>true
 | .str _=>true
 | _=>false
def eqV:V→V→Bool
 | .non,.non=>true
 | .bl a,.bl b=>a == b
 | .bl a,.int b=>(if a then 1 else 0) == b
 | .int a,.bl b=>a == (if b then 1 else 0)
 | .int a,.int b=>a == b
 | .str a,.str b=>a == b
 | _,_=>false
theorem Zu3 {A:Around} {s:Shared} {y x:V} {u v:Value} (ry:RelV y u) (rx:RelV x v) (fy:Zha y=true) (fx:Zha x=true):SeqAt.EqAt A s u v (eqV y x):=by
 cases y with
 | non =>
   cases ry
   cases x with
   | non=>cases rx;exact SeqAt.EqAt.same _
   | bl b=>cases rx;exact SeqAt.EqAt.none_bool b
   | int b=>obtain ⟨t,rfl⟩:=rx;exact SeqAt.EqAt.none_int b t
   | str b=>obtain ⟨t,rfl⟩:=rx;exact SeqAt.EqAt.none_str b t
   | _=>exact absurd (show false=true from fx) n22_
 | bl a =>
   cases ry
   cases x with
   | non=>cases rx;exact SeqAt.EqAt.bool_none a
   | bl b=>cases rx;exact SeqAt.EqAt.bool_bool a b
   | int b=>obtain ⟨t,rfl⟩:=rx;exact SeqAt.EqAt.bool_int a b t
   | str b=>obtain ⟨t,rfl⟩:=rx;exact SeqAt.EqAt.bool_str a b t
   | _=>exact absurd (show false=true from fx) n22_
 | int a =>
   obtain ⟨t',rfl⟩:=ry;cases x with
   | non=>cases rx;exact SeqAt.EqAt.int_none a t'
   | bl b=>cases rx;exact SeqAt.EqAt.int_bool a t' b
   | int b=>obtain ⟨t,rfl⟩:=rx;exact SeqAt.EqAt.int_int a t' b t
   | str b=>obtain ⟨t,rfl⟩:=rx;exact SeqAt.EqAt.int_str a t' b t
   | _=>exact absurd (show false=true from fx) n22_
 | str a =>
   obtain ⟨t',rfl⟩:=ry;cases x with
   | non=>cases rx;exact SeqAt.EqAt.str_none a t'
   | bl b=>cases rx;exact SeqAt.EqAt.str_bool a t' b
   | int b=>obtain ⟨t,rfl⟩:=rx;exact SeqAt.EqAt.str_int a t' b t
   | str b=>obtain ⟨t,rfl⟩:=rx;exact SeqAt.EqAt.str_str a t' b t
   | _=>exact absurd (show false=true from fx) n22_
 | _=>exact absurd (show false=true from fy) n22_
def eqU (x:V) (u:Value):Bool:=match u with
 | .none=>eqV .non x
 | .bool b=>eqV (.bl b) x
 | .int i _=>eqV (.int i) x
 | .str z _=>eqV (.str z) x
 | _=>false
theorem Zqg {x y:V} {u:Value} (r:RelV y u) (f:Zha y=true):eqU x u=eqV y x:=by
 cases y with
 | non=>cases r;rfl
 | bl b=>cases r;rfl
 | int i=>obtain ⟨t,rfl⟩:=r;rfl
 | str z=>obtain ⟨t,rfl⟩:=r;rfl
 | _=>exact absurd (show false=true from f) n22_
theorem Zc5 {x:V}:∀ {xs:List V} {us:List Value},Vals xs us→xs.all Zha=true→us.any (eqU x)=xs.any fun y=>eqV y x
 | _,_,.nil,_=>rfl
 | y :: xs,u :: us,.cons r t,f=>by
   rw [List.all_cons,n32_] at f;rw [List.any_cons,List.any_cons,Zqg r f.1,Zc5 t f.2]
theorem Zbm {A:Around} {s:Shared} {x:V} {v:Value} (rx:RelV x v) (fx:Zha x=true):∀ {xs:List V} {us:List Value},Vals xs us→xs.all Zha=true→∀ u∈us,SeqAt.EqAt A s u v (eqU x u)
 | _,_,.nil,_=>fun u hu=>by cases hu
 | y :: xs,u :: us,.cons r t,f=>fun u' hu=>by
   rw [List.all_cons,n32_] at f
   rcases n11_.mp hu with rfl|hu
   · rw [Zqg r f.1];exact Zu3 r rx f.1 fx
   · exact Zbm rx fx t f.2 u' hu
def inV (x:V) (xs:List V):Bool:=xs.any fun y=>eqV y x
def rIn (K:PySem.W.Frag) (neg:Bool):R2:=fun x y H Q=>∃ p xs,y=.ref p∧(SqL K H p xs∨SqT K H p xs)∧Zha x=true∧xs.all Zha=true∧Q (.bl (if neg then !inV x xs else inV x xs)) H
theorem Zl8:OpR X (compareOp .In) (rIn X.K false):=by
 intro pins s σ H x y v u Q I rx ry h;obtain ⟨p,xs,rfl,hq,fx,fs,q⟩:=h;cases ry
 rcases hq with hq|hq
 · obtain ⟨its,r,pl,hz⟩:=I.list hq;refine SeqAt.in_listAt (eqU x) pl.isList (fun w hw=>Zbm rx fx r fs w (by simpa using hw)) ⟨.bl _,H,I,rfl,?_⟩;rw [show its.toArray.any (eqU x)=its.any (eqU x) by simp,Zc5 r fs];exact q
 · obtain ⟨its,r,pl,hz⟩:=I.tuple hq;refine SeqAt.in_tupleAt (eqU x) pl (fun w hw=>Zbm rx fx r fs w (by simpa using hw)) ⟨.bl _,H,I,rfl,?_⟩;rw [show its.toArray.any (eqU x)=its.any (eqU x) by simp,Zc5 r fs];exact q
theorem Zfw:OpR X (compareOp .NotIn) (rIn X.K true):=by
 intro pins s σ H x y v u Q I rx ry h;obtain ⟨p,xs,rfl,hq,fx,fs,q⟩:=h;cases ry
 rcases hq with hq|hq
 · obtain ⟨its,r,pl,hz⟩:=I.list hq;refine SeqAt.notIn_listAt (eqU x) pl.isList (fun w hw=>Zbm rx fx r fs w (by simpa using hw)) ⟨.bl _,H,I,rfl,?_⟩;rw [show its.toArray.any (eqU x)=its.any (eqU x) by simp,Zc5 r fs];exact q
 · obtain ⟨its,r,pl,hz⟩:=I.tuple hq;refine SeqAt.notIn_tupleAt (eqU x) pl (fun w hw=>Zbm rx fx r fs w (by simpa using hw)) ⟨.bl _,H,I,rfl,?_⟩;rw [show its.toArray.any (eqU x)=its.any (eqU x) by simp,Zc5 r fs];exact q
theorem Zr:Yw X (.builtin "len") (fun xs H Q=>∃ p ys,xs=[.ref p]∧(SqL X.K H p ys∨SqT X.K H p ys)∧Q (.int ys.length) H):=by
 intro pins s σ H xs us Q I r h;obtain ⟨p,ys,rfl,hq,q⟩:=h;obtain ⟨u,rfl,rx⟩:=Zo1 r;cases rx
 have hn:=Zcw
 rcases hq with hq|hq
 · obtain ⟨its,r',pl,hz⟩:=I.list hq;have hlen:=r'.length;exact Calls.call_len_list pl.isList (by simp only [n8_]<;>omega) ⟨.int ys.length,H,I.tok _,⟨s.toks+1,by rw [n8_,hlen]⟩,q⟩
 · obtain ⟨its,r',pl,hz⟩:=I.tuple hq;have hlen:=r'.length;exact len_tuple pl (by simp only [n8_]<;>omega) ⟨.int ys.length,H,I.tok _,⟨s.toks+1,by rw [n8_,hlen]⟩,q⟩
theorem Z3:Yw X (.type "tuple") (fun xs H Q=>∃ p ys,xs=[.ref p]∧((SqL X.K H p ys∧∀ l,H l=none→Q (.ref l) (upd H l (.tup ys)))∨(SqT X.K H p ys∧Q (.ref p) H))):=by
 intro pins s σ H xs us Q I r h;obtain ⟨p,ys,rfl,h⟩:=h;obtain ⟨u,rfl,rx⟩:=Zo1 r;cases rx
 rcases h with ⟨hq,q⟩|⟨hq,q⟩
 · obtain ⟨its,r',pl,hz⟩:=I.list hq;have hlen:=r'.length;refine call_tuple_list pl.isList (fun h' kp=>?_) (by simp only [n8_]<;>omega);have I1:Inv X pins σ H { s with heap:=h' }:=I.kept (t':=s.toks) kp
   have I2:Inv X pins σ (upd H h'.objs.size (.tup ys)) { s with heap:=h'.push { cls:=.type "tuple",data:=.seq its.toArray } } :=
    I1.laid (t':=s.toks) (fun b o e=>n2_ _ e) (n10_ _) (show ObjOk X.prog X.w _ _ _ (.tup ys) from ⟨hz,its,r',IsTup.new _ _⟩)
   exact ⟨.ref h'.objs.size,_,I2,rfl,q _ (I1.hok.fresh (n10_ _))⟩
 · obtain ⟨its,r',pl,hz⟩:=I.tuple hq;exact call_tuple_same pl ⟨.ref p,H,I,rfl,q⟩
def tyV (K:PySem.W.Frag) (T:String) (x:V) (H:Hp):Prop:=match x with
 | .str _=>T = "str"
 | .int _=>T = "int"
 | .ref p=>(T = "list" ∧ ∃ xs,SqL K H p xs)∨(T = "tuple" ∧ ∃ o,K.lookup p=some o∧o.cls=.type "tuple" ∧ o.dict=none) ∨
    (T = "dict" ∧ ((∃ kvs,H p=some (.dK kvs))∨∃ kvs,H p=some (.dT kvs)))∨(T = "set" ∧ ∃ S n,H p=some (.set S n))
 | _=>False
theorem Zp8 {pins:List (Addr×Obj)} {σ:St} {H:Hp} {s:Shared} {T:String} {x:V} {v:Value} (I:Inv X pins σ H s) (r:RelV x v) (ty:tyV X.K T x H) :
 s.TypeIs v T∧∀ a,v=.ref a→∃ ob,s.heap.get? a=some ob∧ob.dict=none:=by
 cases x with
 | str z =>
   obtain ⟨t,rfl⟩:=r;cases (show T = "str" from ty)
   exact ⟨typeIs_str s z t,fun _ e=>nomatch e⟩
 | int i =>
   obtain ⟨t,rfl⟩:=r;cases (show T = "int" from ty)
   exact ⟨typeIs_int s i t,fun _ e=>nomatch e⟩
 | ref p =>
   cases r
   rcases ty with ⟨rfl,xs,hq⟩|⟨rfl,o,hk,hc,hd⟩|⟨rfl,hk⟩|⟨rfl,S,n,hk⟩
   · obtain ⟨its,_,pl,_⟩:=I.list hq;refine ⟨pl.isList.typeIs,fun a e=>?_⟩;cases e
     obtain ⟨o,n,e,c,hd,_⟩:=pl;exact ⟨o,e,hd⟩
   · refine ⟨⟨o,I.kIn p o hk,hc⟩,fun a e=>?_⟩;cases e
     exact ⟨o,I.kIn _ o hk,hd⟩
   · have z:∃ o,s.heap.get? p=some o∧o.ExactDict:=by
      rcases hk with ⟨kvs,hk⟩|⟨kvs,hk⟩
      · obtain ⟨_,_,_,_,o,_,_,e,ex,_⟩:=I.hok p _ hk;exact ⟨o,e,ex⟩
      · obtain ⟨_,_,_,_,o,_,_,e,ex,_⟩:=I.hok p _ hk;exact ⟨o,e,ex⟩
     obtain ⟨o,e,ex⟩:=z;refine ⟨⟨o,e,ex.1⟩,fun a e2=>?_⟩;cases e2
     exact ⟨o,e,ex.2.1⟩
   · obtain ⟨o,_,_,_,e,ex,_⟩:=I.hok p _ hk;refine ⟨⟨o,e,ex.1⟩,fun a e2=>?_⟩;cases e2
     exact ⟨o,e,ex.2.1⟩
 | _=>exact False.elim ty
def tBM0 (K:PySem.W.Frag) (T:String) (r:V→List V→Hp→VK→Prop) (to:TE):TE:=fun σ H Q=>to σ H fun x H1=>tyV K T x H1∧r x [] H1 Q
def tBM (K:PySem.W.Frag) (T:String) (r:V→List V→Hp→VK→Prop) (to:TE) (t:TA):TE:=fun σ H Q=>to σ H fun x H1=>tyV K T x H1∧t σ H1 fun xs H2=>r x xs H2 Q
variable {o e:Expr} {es:List Expr} {to:TE} {t:TA} {name:Str} {apos cpos:Pos} {T id:String} {r:V→List V→Hp→VK→Prop}
theorem Zuy (pa:PlainAttrs T) (slot:Slot T name id) (hty:typeOf (.builtin id)=pure (.type "method_descriptor")) (hm:MtR X id r) (ho:PE X o to)
 (hbase:attributeBase o name X.env (eval o X.env)=eval o X.env:=by rfl) (hline:(apos.endLine == cpos.line)=true:=by rfl):PE X (.Call (.Attribute o name apos) [] [] cpos) (tBM0 X.K T r to):=by
 intro pins s σ H Q I h;refine wpAny_Call_method0_late hbase hline (thn (ho pins s σ H _ I h) fun v s1 ⟨x,H1,I1,r1,ty,q1⟩=>?_);obtain ⟨h1,h2⟩:=Zp8 I1 r1 ty;exact ⟨T,id,pa,slot,hty,h1,h2,Calls.callWith_builtin rfl (PySem.evalArgs_none (hm pins s1 σ H1 x [] v [] Q I1 r1 .nil q1))⟩
theorem Zgo (pa:PlainAttrs T) (slot:Slot T name id) (hty:typeOf (.builtin id)=pure (.type "method_descriptor")) (hm:MtR X id r) (ho:PE X o to) (ha:PA X (e :: es) t)
 (hbase:attributeBase o name X.env (eval o X.env)=eval o X.env:=by rfl)
 (hfew:((backTo cpos (starEach (e :: es) X.env)).all (fun x=>!x.1)&&(backToKw cpos (keywordEach [] X.env)).all (fun x=>x.1.isSome)
   && decide ((e :: es).length+([]:List Keyword).length+(if ([]:List Keyword).isEmpty then 0 else 1)<30))=true:=by rfl)
 (hline:(apos.endLine == cpos.line)=true:=by rfl) (hs:starEach (e :: es) X.env=(false,eval e X.env) :: starEach es X.env:=by rfl) (hplain:(backTo cpos (starEach es X.env)).any (·.1)=false:=by rfl) :
 PE X (.Call (.Attribute o name apos) (e :: es) [] cpos) (tBM X.K T r to t):=by
 intro pins s σ H Q I h;refine wpAny_Call_method_late hbase hfew hline rfl (thn (ho pins s σ H _ I h) fun v s1 ⟨x,H1,I1,r1,ty,q1⟩=>?_);obtain ⟨h1,h2⟩:=Zp8 I1 r1 ty;refine ⟨T,id,pa,slot,hty,h1,h2,?_⟩;have hA:=ha cpos pins s1 σ H1 _ I1 q1;rw [hs] at hA ⊢;refine Calls.callWith_builtin (by show (false||(backTo cpos (starEach es X.env)).any (·.1))=false;rw [hplain]<;>rfl) (Calls.evalArgs_plain ?_);exact thn hA fun us s2 ⟨vs,H2,I2,r2,q2⟩=>hm pins s2 σ H2 x vs v us Q I2 r1 r2 q2
/- xs.append(e),list.index on a module's tuple .. are MtR facts of 06m -/
end
def MtM (X:Cx) (id:String) (r:V→List V→Hp→VK→Prop):Prop :=
 ∀ (pins:List (Addr×Obj)) (s:Shared) (σ:St) (H:Hp) (x:V) (xs:List V) (v:Value) (us:List Value) (Q:VK),Inv X pins σ H s→RelV x v→Vals xs us→r x xs H Q →
   wpAny (model X.prog X.w) X.A (call (.builtin id) (v :: us)) (EP X pins σ Q) X.xe s
theorem Vals.one:∀ {x:V} {us:List Value},Vals [x] us→∃ u,us=[u]∧RelV x u
 | _,_,.cons r .nil=>⟨_,rfl,r⟩
theorem Vals.zero:∀ {us:List Value},Vals [] us→us=[]
 | _,.nil=>rfl
theorem Vals.dropLast {xs:List V} {us:List Value} (h:Vals xs us):Vals xs.dropLast us.dropLast:=by
 induction h with
 | nil=>exact .nil
 | cons r t ih =>
   cases t with
   | nil=>exact .nil
   | cons q t'=>exact .cons r ih
theorem Vals.eraseIdx:∀ {xs:List V} {us:List Value} (i:Nat),Vals xs us→Vals (xs.eraseIdx i) (us.eraseIdx i)
 | _,_,_,.nil=>.nil
 | _,_,0,.cons _ t=>t
 | _,_,i+1,.cons r t=>.cons r (Vals.eraseIdx i t)
theorem Vals.rep {xs:List V} {us:List Value} (h:Vals xs us):∀ k:Nat,Vals (List.replicate k xs).flatten (List.replicate k us).flatten
 | 0=>.nil
 | k+1=>by
   rw [n71_,n71_,n58_,n58_];exact Vals.append h (Vals.rep h k)
theorem Zkv {α:Type} (l:List α):l.eraseIdx (l.length-1)=l.dropLast:=by
 induction l with
 | nil=>rfl
 | cons a r ih =>
   cases r with
   | nil=>rfl
   | cons b r =>
     have e:(a :: b :: r).length-1=((b :: r).length-1)+1:=by
      have h1:(a :: b :: r).length=r.length+2:=rfl;have h2:(b :: r).length=r.length+1:=rfl;omega
     rw [e,List.eraseIdx_cons_succ,ih]
     all_goals rfl
theorem Zhn {α:Type}:∀ (l:List α) (i:Nat),(l.eraseIdx i).length≤l.length
 | [],_=>n10_ _
 | _ :: _,0=>Nat.le_succ _
 | _ :: r,i+1=>Nat.succ_le_succ (Zhn r i)
theorem Zgr (its:List Value):∀ (k:Nat) (acc:List Value),
 List.foldl (fun x1 x2=>x1++x2) acc.toArray (List.replicate k its.toArray)=(acc++(List.replicate k its).flatten).toArray
 | 0,acc=>by simp
 | k+1,acc=>by
   have e:acc.toArray++its.toArray=(acc++its).toArray:=by simp
   have e2:(acc++its)++(List.replicate k its).flatten=acc++(List.replicate (k+1) its).flatten:=by
    rw [n71_,n58_,n52_]
   rw [← e2,← Zgr its k (acc++its),← e,n71_,n73_]
section
variable {X:Cx} {pins:List (Addr×Obj)} {σ:St} {H:Hp} {s:Shared} {l b:Addr} {xs ys zs:List V}
theorem Inv.lset {its its':List Value} {n:Nat} {f:Array Value→Array Value} {t':Nat} (I:Inv X pins σ H s) (hH:H l=some (.lst xs))
 (e:s.heap.get? l=some { cls:=.type "list",data:=.seq its.toArray n }) (hf:f its.toArray=its'.toArray) (hv:Vals ys its') (hz:ys.length≤sizeLine) :
 Inv X pins σ (upd H l (.lst ys)) { s with heap:=s.heap.update l (Obj.mapSeq f),toks:=t' }:=by
 have q:=PySem.IsL.update e f;rw [hf] at q;refine I.write (x:=l) (e:=l) (by rw [hH];exact trivial) (.inl rfl) (fun b' u hb hu=>(n60_ s.heap (Obj.mapSeq f) (Ne.symm hb)).trans hu) ⟨_,q⟩ ?_;exact ⟨hz,its',_,hv,q⟩
theorem Inv.lnew {its:List Value} {t':Nat} (I:Inv X pins σ H s) (hv:Vals ys its) (hz:ys.length≤sizeLine) :
 Inv X pins σ (upd H s.heap.objs.size (.lst ys)) { s with heap:=s.heap.push { cls:=.type "list",data:=.seq its.toArray },toks:=t' } :=
 I.laid (fun _ _ q=>n2_ _ q) (n10_ _) ⟨hz,its,0,hv,n9_ _ rfl⟩
theorem Inv.fresh (I:Inv X pins σ H s):H s.heap.objs.size=none:=I.hok.fresh (n10_ _)
theorem Inv.lstM (I:Inv X pins σ H s) (hH:H l=some (.lst xs)):xs.length≤sizeLine∧∃ (its:List Value) (n:Nat),Vals xs its∧xs.length=its.length∧s.heap.get? l=some { cls:=.type "list",data:=.seq its.toArray n }:=by
 obtain ⟨z,its,n,r,e⟩:=I.hok l _ hH;exact ⟨z,its,n,r,r.length,e⟩
theorem Zi3 {n:Nat} (h:n≤sizeLine):Builtin.List.listTooLong n=false:=by
 unfold Builtin.List.listTooLong;exact n35_ (by omega)
end
section
variable {X:Cx}
def Zq1:V→List V→Hp→VK→Prop:=fun x vs H Q=>∃ l xs y,x=.ref l∧vs=[y]∧H l=some (.lst xs)∧xs.length<sizeLine∧Q .non (upd H l (.lst (xs++[y])))
theorem Zaw:MtM X "list.append" Zq1:=by
 intro pins s σ H x vs v us Q I rx rv h;obtain ⟨l,xs,y,rfl,rfl,hH,hz,q⟩:=h;cases rx
 obtain ⟨u,rfl,ru⟩:=rv.one;obtain ⟨z,its,n,r,hl,e⟩:=I.lstM hH;refine call_meets F.slot_list_append ⟨_,e,rfl⟩ F.entry_list_append (F.args_list_append_2 _ _) (PySem.list_append l its.toArray n u (by rw [n8_];omega)) ⟨e,?_⟩;refine ⟨.non,_,I.lset (its':=its++[u]) hH e (by simp) (r.append (.cons ru .nil)) ?_,rfl,q⟩;rw [n21_,n79_];omega
def Zrc:V→List V→Hp→VK→Prop:=fun x vs H Q=>∃ l b xs zs,x=.ref l∧vs=[.ref b]∧H l=some (.lst xs)∧H b=some (.lst zs)∧xs.length+zs.length≤sizeLine∧Q .non (upd H l (.lst (xs++zs)))
theorem Zn4:MtM X "list.extend" Zrc:=by
 intro pins s σ H x vs v us Q I rx rv h;obtain ⟨l,b,xs,zs,rfl,rfl,hH,hB,hz,q⟩:=h;cases rx
 obtain ⟨u,rfl,ru⟩:=rv.one;cases ru
 obtain ⟨z,its,n,r,hl,e⟩:=I.lstM hH;obtain ⟨z2,its2,n2,r2,hl2,e2⟩:=I.lstM hB;have hsz:its.toArray.size+its2.toArray.size≤sizeLine:=by rw [n8_,n8_];omega
 have hlong:¬ (!its.toArray.isEmpty&&Builtin.List.listTooLong (its.toArray.size+its2.toArray.size))=true:=by
  rw [Zi3 hsz,Bool.and_false];exact n22_
 refine call_meets F.slot_list_extend ⟨_,e,rfl⟩ F.entry_list_extend (F.args_list_extend_2 _ _)
  (AutoSeq1.list_extend_list_list_0 l its.toArray n b its2.toArray n2 hlong (by rw [n8_];omega) (by omega)) ⟨e,e2,?_⟩
 refine ⟨.non,_,I.lset (its':=its++its2) hH e (by simp) (r.append r2) ?_,rfl,q⟩;rw [n21_];omega
def rPop:V→List V→Hp→VK→Prop:=fun x vs H Q=>∃ l xs y,x=.ref l∧vs=[]∧H l=some (.lst xs)∧xs[xs.length-1]? = some y∧Q y (upd H l (.lst xs.dropLast))
theorem Zuv:MtM X "list.pop" rPop:=by
 intro pins s σ H x vs v us Q I rx rv h;obtain ⟨l,xs,y,rfl,rfl,hH,hy,q⟩:=h;cases rx
 have hus:=rv.zero;subst hus;obtain ⟨z,its,n,r,hl,e⟩:=I.lstM hH;obtain ⟨u,hu,ru⟩:=r.get hy
 have hy':its.toArray[its.toArray.size-1]? = some u:=by
  show its.toArray[its.length-1]? = some u
  rw [← Array.getElem?_toList,← hl];exact hu
 refine call_meets F.slot_list_pop ⟨_,e,rfl⟩ F.entry_list_pop (F.args_list_pop_1 _) (MeetsSeq.list_pop_last l its.toArray n u hy' (by rw [n8_];omega)) ⟨e,?_⟩;refine ⟨y,_,I.lset (its':=its.dropLast) hH e ?_ r.dropLast ?_,ru,q⟩
 · show its.toArray.eraseIdxIfInBounds (its.toArray.size-1)=its.dropLast.toArray
   rw [n8_,List.eraseIdxIfInBounds_toArray,Zkv]
 · rw [List.length_dropLast];omega
def Zs2:V→List V→Hp→VK→Prop:=fun x vs H Q=>∃ l xs i k y,x=.ref l∧vs=[.int i]∧H l=some (.lst xs)∧-(2^63)≤i∧i<2^63∧seqIndex? i xs.length=some k∧xs[k]? = some y∧Q y (upd H l (.lst (xs.eraseIdx k)))
theorem Zol:MtM X "list.pop" Zs2:=by
 intro pins s σ H x vs v us Q I rx rv h;obtain ⟨l,xs,i,k,y,rfl,rfl,hH,h1,h2,hk,hy,q⟩:=h;cases rx
 obtain ⟨u,rfl,ru⟩:=rv.one;obtain ⟨t,rfl⟩:=ru;obtain ⟨z,its,n,r,hl,e⟩:=I.lstM hH;obtain ⟨w,hw,rw'⟩:=r.get hy
 refine call_meets F.slot_list_pop ⟨_,e,rfl⟩ F.entry_list_pop (F.args_list_pop_2 _ _)
  (MeetsSeq.list_pop_at l its.toArray n i t k w (fitsIndex_both h1 h2) (by rw [n8_,← hl];exact hk) (by rw [← Array.getElem?_toList];exact hw) (by rw [n8_];omega)) ⟨e,?_⟩
 refine ⟨y,_,I.lset (its':=its.eraseIdx k) hH e ?_ (r.eraseIdx k) ?_,rw',q⟩
 · show its.toArray.eraseIdxIfInBounds k=(its.eraseIdx k).toArray
   rw [List.eraseIdxIfInBounds_toArray]
 · have:=Zhn xs k
   omega
def rCat:R2:=fun x y H Q=>∃ l b xs zs,x=.ref l∧y=.ref b∧H l=some (.lst xs)∧H b=some (.lst zs)∧xs.length+zs.length≤sizeLine∧∀ p,H p=none→Q (.ref p) (upd H p (.lst (xs++zs)))
theorem Zjn:OpR X (binaryOp .Add) rCat:=by
 intro pins s σ H x y v u Q I rx ry h;obtain ⟨l,b,xs,zs,rfl,rfl,hH,hB,hz,q⟩:=h;cases rx
 cases ry
 obtain ⟨z,its,n,r,hl,e⟩:=I.lstM hH;obtain ⟨z2,its2,n2,r2,hl2,e2⟩:=I.lstM hB;refine PySem.P.add_list e e2 ?_ (by rw [n8_,n8_];omega);have ea:its.toArray++its2.toArray=(its++its2).toArray:=by simp
 rw [ea];exact ⟨.ref _,_,I.lnew (t':=s.toks) (r.append r2) (by rw [n21_];omega),rfl,q _ I.fresh⟩
def rRep:R2:=fun x y H Q=>∃ l k xs,x=.ref l∧y=.int k∧H l=some (.lst xs)∧-(2^63)≤k∧k<2^63∧xs.length*k.toNat≤sizeLine ∧
 ∀ p,H p=none→Q (.ref p) (upd H p (.lst (List.replicate k.toNat xs).flatten))
theorem Zss {α:Type} (xs:List α) (k:Nat):(List.replicate k xs).flatten.length=k*xs.length:=by
 induction k with
 | zero=>simp
 | succ k ih=>rw [n71_,n58_,n21_,ih,Nat.succ_mul,Nat.add_comm]
theorem Zux:OpR X (binaryOp .Mult) rRep:=by
 intro pins s σ H x y v u Q I rx ry h;obtain ⟨l,k,xs,rfl,rfl,hH,h1,h2,hz,q⟩:=h;cases rx
 obtain ⟨t,rfl⟩:=ry;obtain ⟨z,its,n,r,hl,e⟩:=I.lstM hH;have hlen:its.toArray.size*k.toNat≤sizeLine:=by rw [n8_,← hl];exact hz
 have hcap:¬ its.toArray.size*k.toNat>(2^63-1)/8:=by
  have:(sizeLine:Nat)≤(2^63-1)/8:=by decide
  omega
 have hfit:¬ (!Builtin.List.listFitsIndex k)=true:=by
  rw [fitsIndex_both h1 h2];exact n22_
 have hlong:¬ Builtin.List.listTooLong (its.toArray.size*k.toNat)=true:=by
  rw [Zi3 hlen];exact n22_
 have hnew:List.foldl (fun x1 x2=>x1++x2) #[] (List.replicate (if its.toArray.isEmpty=true then 0 else k.toNat) its.toArray)=(List.replicate k.toNat its).flatten.toArray:=by
  have f0:∀ m:Nat,List.foldl (fun x1 x2=>x1++x2) #[] (List.replicate m its.toArray)=(List.replicate m its).flatten.toArray:=fun m=>by
   have:=Zgr its m []
   rw [List.nil_append] at this;exact this
  rw [f0];cases its with
  | nil=>simp
  | cons a r'=>rw [if_neg (by simp)]
 refine wpAny_binaryOp_repeat_ref (T := "list") (U := "int") (by decide) ⟨_,e,rfl⟩ (fun s'=>typeIs_int s' k t) noFill_list_mul F.fills_int_mul F.slot_int_rmul repeat_list F.slot_int_index.lookup
  (call_meets F.slot_int_rmul (typeIs_int s k t) F.entry_int_rmul (F.args_int_rmul_2 _ _) (int___rmul___int_list k t l its.toArray n)
    ⟨e,rfl,⟨_,e,rfl⟩,call_meets F.slot_list_mul ⟨_,e,rfl⟩ F.entry_list_mul (F.args_list_mul_2 _ _) (AutoListH.list___mul___list_int_3 l its.toArray n k t hfit hcap hlong) ⟨e,?_⟩⟩)
 rw [hnew];exact ⟨.ref _,_,I.lnew (t':=s.toks) (r.rep k.toNat) (by rw [Zss,Nat.mul_comm];exact hz),rfl,q _ I.fresh⟩
end
section
variable {prog:Program} {w:World} {A:Around} {E:Value→Shared→Prop} {s:Shared}
set_option maxRecDepth 100000 in
end
section
variable {X:Cx}
end
end L2
namespace Att
open PySem PySem.W PySem.Calls PyProof.Rows
theorem Zc3 {P:Params} {h:Heap}:∀ (ns:List Int) (vs:List Value),WellAll P h vs (ns.map WData.int)→IntsAre vs ns:=by
 intro ns
 induction ns with
 | nil =>
   intro vs w;rw [List.map_nil] at w;cases w
   exact .nil
 | cons n ns ih =>
   intro vs w;rw [n34_] at w;cases w with
   | cons a b =>
     cases a
     exact .cons _ _ (ih _ b)
theorem Znm {l:OpenLaw} {n:Nat} (hn:l.most=some n) {P:Params} {h:Heap} {args:List WData} {vals:List Value}
 (hpre:l.row.toRowW.claim.pre args=true) (hwl:WellAll P h vals args) :
 ∃ a vs ns,vals=[Value.ref a]∧args=[WData.list (ns.map WData.int)]∧h.get? a=some { cls:=.type "list",data:=.seq vs.toArray }∧IntsAre vs ns∧ns.length≤n:=by
 have hsh:WShape.hasAll [] args [.list .int]=true:=(pre_splitW hpre).1;have hc:l.pre.holds [] { args:=args }=true:=(pre_splitW hpre).2;obtain ⟨d,r,rfl,h1,h2⟩:=hasAllW_cons hsh;obtain rfl:=hasAllW_nil h2;obtain ⟨xs,rfl,h3⟩:=hasW_list h1;obtain ⟨ns,rfl⟩:=items_int h3
 have hlen:ns.length≤n:=by
  unfold OpenLaw.pre at hc
  have h4:(WTm.not (.lt (.lit (.int (n:Int))) (.len (.arg 0)))).holds [] { args:=[.list (ns.map .int)] }=true:=by
   have h4:=(holds_andW hc).1;rw [hn] at h4;exact h4
  have h5:=condW_of h4 (w_not (w_lt w_lit (w_len_list (w_arg rfl))));rw [n5_] at h5;refine Nat.le_of_not_lt fun q=>?_;have q':(n:Int)<((ns.length:Nat):Int):=by omega
  first
   | (rw [n40_ q'] at h5;exact absurd h5 (by decide))
   | (simp at h5;omega)
 cases hwl with
 | cons w1 w2 =>
   cases w2
   cases w1 with
   | list ho hall=>exact ⟨_,_,ns,rfl,rfl,ho,Zc3 ns _ hall,hlen⟩
theorem Znk (l:OpenLaw) (args:List WData):l.row.toRowW.claim.post args (.bool true) args=true :=
 postW_of (r:=l.row.toRowW) (X:=(true == true))
  (show WShape.has [] (.bool true) .bool=true by first|rfl|decide|simp [WShape.has,WShape.arms,WShape.armsAll])
  (show (WTm.eq .res (.lit (.bool true))).value [] { args:=args,res:=some (.bool true),after:=args }=some (.bool (true == true)) from w_eq_bool (w_res rfl) w_lit) rfl
theorem attach_call {l:OpenLaw} {n:Nat} {q:Program} {loose:List Str} {XP:(Str→Option Value)→Heap→Prop} {YP:World→Heap→Prop} {d:DefRec}
 (hn:l.most=some n) (hdf:d.params.defaults=[])
 (call:∀ (w:World) (s₀ s₁:Shared) (mg mb:Str→Option Value) (fa:Addr) (o:Obj) (pm cd doc:Value) (a:Addr) (vs:List Value) (ns:List Int),
   Ground q loose [] XP w s₀ mg mb s₁.heap→YP w s₁.heap →
   s₁.heap.get? fa=some o→o.data=.func (docDef d.name d.params d.body d.scope pm cd doc)→s₁.heap.CodeRec cd d.name→mg d.name=some (.ref fa) →
   s₁.heap.get? a=some { cls:=.type "list",data:=.seq vs.toArray }→IntsAre vs ns→ns.length≤n→s₁.gens=#[] →
   codeAny (model l.prog w) callerA (.call (.ref fa) ⟨[.ref a],[]⟩) (fun r s'=>r=.ok (.ret (.bool true))∧OldK s₁.heap s'.heap∧s'.os=s₁.os∧AllBare s'.gens) s₁) :
 WalkO q loose XP YP l.row.toRowW d [] (fun f vs=>PySem.call f vs):=by
 intro w s₀ s₁ mg mb G Y fa o pm cd doc dV kV ho hd hcd hD hmg hg args vals as hpre hlay hrd hwl hlo;obtain rfl:dV=.none:=Dflts.none hD hdf;obtain rfl:kV=.none:=Dflts.noKw hD;obtain ⟨a,vs,ns,rfl,rfl,hobj,hints,hlen⟩:=Znm hn hpre hwl;refine enter_call (codeAny_mono (call w s₀ s₁ mg mb fa o pm cd doc a vs ns G Y ho (fd_plain hd) hcd hmg hobj hints hlen hg) fun r s' hq=>?_);obtain ⟨rfl,h2,h3,h4⟩:=hq;exact ⟨.inl ⟨.bool true,.bool true,[],rfl,fun _=>rfl,.bool true,Znk l _,fun _=>⟨List.Pairwise.nil,fun _ hm=>(nomatch hm)⟩⟩,h2,h3,h4⟩
section
variable {prog:Program} {w:World} {A:Around} {E:Value→Shared→Prop} {s:Shared} {K:Frag}
end
end Att
namespace L2
open PySem PySem.Spec PyProof.Rows
theorem Zgs:∀ {vs:List Value} {ns:List Int},IntsAre vs ns→Vals (ns.map V.int) vs
 | _,_,.nil=>.nil
 | _,_,.cons n t h=>.cons ⟨t,rfl⟩ (Zgs h)
def Only (H:Hp):Prop:=∀ b,H b=none∨∃ o xs,H b=some (.frz o (.lst xs))
theorem Zpp {P:Program} {w:World} {K:PySem.W.Frag} {mg mb:Str→Option Value} {CX:CXT} {k:Nat} {fa a:Addr} {fd:FuncData} {x:Str} {sp:Sp} {s₁:Shared} {vs:List Value} {ns:List Int}
 (KX:K.In s₁.heap) (hns:s₁.heap.Ns mainGlobals mg) (hb:s₁.heap.Ns builtinsNs mb) (hbb:∀ x:Str,x ≠ "__name__" → mb x=bootBuiltins x) (hlim:s₁.heap.NoLimit) (hsr:s₁.heap.NoSeer) (hdg:s₁.heap.NoDigits) (hg:s₁.gens=#[])
 (ha:s₁.heap.get? a=some { cls:=.type "list",data:=.seq vs.toArray }) (hi:IntsAre vs ns) (hl:ns.length≤sizeLine) (hr:Room k callerA)
 (F:∀ base:Heap,K.In base→base.Ns mainGlobals mg→FnOk P w K mg base CX k fa fd [x] sp) (hbind:∀ (s:Shared) (u:Value),BindsTo s fd ⟨[u],[]⟩ [(x,u)])
 (hsp:∀ H:Hp,Only H→SqL K H a (ns.map V.int)→sp [.ref a] H (fun v _=>v=.bl true) fun _ _ _=>False)
 (hCX:∀ H e s',CX [] H s₁ (fun _ _ _=>False) e s'→False) :
 codeAny (model P w) callerA (.call (.ref fa) ⟨[.ref a],[]⟩) (fun r s'=>r=.ok (.ret (.bool true))∧OldK s₁.heap s'.heap∧s'.os=s₁.os∧AllBare s'.gens) s₁:=by
 have rv:=Zgs hi;have lenV:=hi.length
 have core:∀ H:Hp,Only H→SqL K H a (ns.map V.int)→HOk P w H s₁.heap→(∀ b,H b≠none→b=a)→(H a≠none→K.lookup a=none) →
  codeAny (model P w) callerA (.call (.ref fa) ⟨[.ref a],[]⟩) (fun r s'=>r=.ok (.ret (.bool true))∧OldK s₁.heap s'.heap∧s'.os=s₁.os∧AllBare s'.gens) s₁:=by
  intro H hO hS hok hA hK;have Zc6:∀ {b:Addr} {o:Obj},s₁.heap.get? b=some o→H b=none→(hidT s₁.heap H).get? b=some o:=fun e n=>Zo4 e n
  have noA:∀ {b:Addr} {o:Obj} {es:Array DictEntry} {ep:Nat},s₁.heap.get? b=some o→o.data=.dict es ep→H b=none:=fun {b o es ep} e d=>by
   cases q:H b with
   | none=>rfl
   | some u =>
     have e':b=a:=hA b (by rw [q];simp);subst e';rw [ha] at e;cases e;have d':Data.seq vs.toArray _=Data.dict es ep:=d;cases d'
  have nsK:∀ {b:Addr} {m:Str→Option Value},s₁.heap.Ns b m→(hidT s₁.heap H).Ns b m:=fun {b m} ⟨o,es,ep,e,d,r⟩=>⟨o,es,ep,Zc6 e (noA e d),d,r⟩
  have hKb:K.In (hidT s₁.heap H):=fun b o e=>Zc6 (KX b o e) (by
   cases q:H b with
   | none=>rfl
   | some u =>
     have e':b=a:=hA b (by rw [q];simp);subst e';rw [hK (by rw [q];simp)] at e;cases e)
  have sK:(hidT s₁.heap H).NoSeer:=⟨let ⟨mc,a,b⟩:=hsr.statics;⟨mc,nsK a,b⟩,let ⟨mc,a,b⟩:=hsr.mods;⟨mc,nsK a,b⟩,let ⟨mb,a,b⟩:=hsr.imp;⟨mb,nsK a,b⟩,let ⟨mg',bm,ob,a,b,c,d,e⟩:=hsr.main;⟨mg',bm,ob,nsK a,b,Zc6 c (by
   cases q:H bm with
   | none=>rfl
   | some u =>
     have e':bm=_:=hA bm (by rw [q];simp);subst e';rw [ha] at c;cases c;exact absurd d (by simp)),d,e⟩⟩
  have hM:Mod K mg (hidT s₁.heap H):=⟨hKb,nsK hns,⟨mb,nsK hb,hbb⟩,(let ⟨mc,h1,h2⟩:=hlim;⟨mc,nsK h1,h2⟩),sK,(let ⟨mc,h1,h2⟩:=hdg;⟨mc,nsK h1,h2⟩)⟩;have e0:Env0 P w K mg (hidT s₁.heap H) callerA [] s₁ H:=⟨rfl,hM,fun b o e=>Zq6 e,Nat.le_of_eq (Zl9 _ _),trivial,fun b hb=>absurd (show b∈([]:List Addr) from hb) (by simp),hok,.of_eq hg⟩;refine codeAny_mono ((F _ hKb (nsK hns)).run callerA [] s₁ H ⟨[.ref a],[]⟩ [.ref a] [.ref a] _ _ hr e0 (hbind s₁ (.ref a)) (.cons rfl .nil) (hsp H hO hS)) fun r s' h=>?_;cases r with
  | error e=>exact (hCX H e s' h).elim
  | ok fl =>
    cases fl with
    | next=>exact False.elim h
    | brk=>exact False.elim h
    | cont=>exact False.elim h
    | ret u =>
      obtain ⟨v,H',os,bare,un,hok',r',q⟩:=h;have q':v=.bl true:=q;subst q';obtain rfl:u=Value.bool true:=r';refine ⟨rfl,OldK.of_keep fun b o e=>?_,os,bare⟩;cases q:H b with
      | none=>exact un.keep b o e q (by intro z;exact absurd (show b∈([]:List Addr) from z) (by simp)) (by simp)
      | some u =>
        rcases hO b with z|⟨ob,xs,z⟩
        · rw [q] at z;cases z
        · have z2:=un.frzs b ob _ z;obtain ⟨e1,_⟩:=hok b _ z;obtain ⟨e2,_⟩:=hok' b _ z2;rw [e] at e1;cases e1;exact e2
 cases hk:K.lookup a with
 | some o =>
   have e:=KX a o hk;rw [ha] at e;cases e
   refine core (fun _=>none) (fun _=>.inl rfl) (.inr ⟨_,vs.toArray,_,hk,rfl,rfl,rfl,by rw [n8_,lenV];exact hl,by simpa using rv⟩) (fun b u z=>by have z':(none:Option HO)=some u:=z;cases z') (fun b z=>absurd rfl z) fun z=>absurd rfl z
 | none =>
   refine core (fun b=>if b=a then some (.frz { cls:=.type "list",data:=.seq vs.toArray } (.lst (ns.map V.int))) else none) (fun b=>?_) (.inl (.inr ⟨{ cls:=.type "list",data:=.seq vs.toArray },if_pos rfl⟩)) (fun b u z=>?_) (fun b z=>?_) fun _=>hk
   · by_cases hb:b=a
     · exact .inr ⟨_,_,if_pos hb⟩
     · exact .inl (if_neg hb)
   · by_cases hb:b=a
     · have z':=(if_pos hb).symm.trans z;cases z'
       subst hb;exact ⟨ha,by rw [n5_];exact hl,vs,_,rv,ha⟩
     · have z':=(if_neg hb).symm.trans z;cases z'
   · by_cases hb:b=a
     · exact hb
     · exact absurd (if_neg hb) z
theorem Zrb {l:PySem.W.OpenLaw} {n k:Nat} {q:Program} {loose:List Str} {XP:(Str→Option Value)→Heap→Prop} {YP:World→Heap→Prop} {d:DefRec} {K:Params→PySem.W.Frag} {CX:World→CXT} {sp:World→Sp} {x:Str}
 (hn:l.most=some n) (hn2:n≤sizeLine) (hdf:d.params.defaults=[]) (hr:Room k callerA)
 (hY:∀ (w:World) (h:Heap),YP w h→(K w.params).In h)
 (F:∀ (w:World) (mg:Str→Option Value) (fa:Addr) (h:Heap),(K w.params).In h→h.Ns mainGlobals mg→mg d.name=some (.ref fa) →
   ∃ fd:FuncData,(∀ (s:Shared) (u:Value),BindsTo s fd ⟨[u],[]⟩ [(x,u)]) ∧
     ∀ base:Heap,(K w.params).In base→base.Ns mainGlobals mg→FnOk l.prog w (K w.params) mg base (CX w) k fa fd [x] (sp w))
 (hsp:∀ (w:World) (H:Hp) (a:Addr) (ns:List Int),ns.length≤n→Only H→SqL (K w.params) H a (ns.map V.int)→sp w [.ref a] H (fun v _=>v=.bl true) fun _ _ _=>False)
 (hCX:∀ (w:World) (H:Hp) (s:Shared) (e:Value) (s':Shared),CX w [] H s (fun _ _ _=>False) e s'→False) (him:importsNone q=true:=by decide +kernel) :
 PySem.W.WalkO q loose XP YP l.row.toRowW d [] (fun f vs=>PySem.call f vs):=by
 refine Att.attach_call hn hdf fun w s₀ s₁ mg mb fa o pm cd doc a vs ns G Y ho hd hcd hmg hobj hints hlen hg=>?_;have KX:=hY w _ Y;obtain ⟨fd,hb,hF⟩:=F w mg fa _ KX G.T.g hmg;exact Zpp KX G.T.g G.T.b G.T.builtins G.T.nolimit (G.T.seer him) G.T.nodigits hg hobj hints (n53_ hlen hn2) hr hF hb (fun H hO hS=>hsp w H a ns hlen hO hS) fun H e s'=>hCX w H s₁ e s'
def Xv (s:Stmt):Arguments:=match s with
 | .FunctionDef _ a _ _ _ _ _ _ _ _=>a
 | _=>{ posonlyargs:=[],args:=[],vararg:=none,kwonlyargs:=[],kw_defaults:=[],kwarg:=none,defaults:=[] }
def Xj (s:Stmt):List Stmt:=match s with
 | .FunctionDef _ _ b _ _ _ _ _ _ _=>b
 | _=>[]
def Ze (s:Stmt):Scope:=match s with
 | .FunctionDef _ _ _ _ _ _ sc _ _ _=>sc
 | _=>{ kind:=.function,names:=[],isGenerator:=false,isCoroutine:=false }
abbrev CX0:CXT:=fun _ _ _ _ _ _=>False
abbrev E0:XK:=fun _ _ _=>False
theorem Zth {X:Cx}:Zjz CX0 X E0:=fun _ _ _ _ _ _ _ h=>h.elim
structure Fun (K:PySem.W.Frag) (x qual:Str) (st:Stmt) (f:Addr) (fd:FuncData):Prop where
 ex:∃ (oc:Value) (od:Option Addr) (kV doc pm:Value) (an:Option Addr) (cdv ct:Value) (osl:Array (Option Value)),
  fd=PySem.W.fnOf x qual (Xv st) (Xj st) (Ze st) .none kV doc pm an cdv ct∧K.lookup f=some ⟨oc,od,.func fd,osl⟩∧PySem.W.codeIn K cdv qual=true
 kp:PySem.W.keepIn K (.ref f)=true
section
variable {P:Program} {w:World} {K:PySem.W.Frag} {mg:Str→Option Value} {base:Heap}
theorem Fun.ok {x qual:Str} {st:Stmt} {f:Addr} {fd:FuncData} {N ps:List Str} {k:Nat} {sp:Sp} (F:Fun K x qual st f fd) (S:FnScope N ps (Ze st)) (len:∀ vs H Q E,sp vs H Q E→vs.length=ps.length)
 (hbody:∀ (cdv:Value) (A:Around) (outer:List Env) (s:Shared) (H:Hp) (vs:List V) (Q:VK) (E:XK),Room k (A.deeper (envOfC qual (Ze st) s.heap.objs.size f cdv))→sp vs H Q E →
   ∃ t,PSs (cxOf CX0 P w K mg base N qual (Ze st) f cdv A outer s H E).nox (Xj st) t∧t { nx:=fun _ H'=>Q .non H',rt:=Q } (start N vs) H):FnOk P w K mg base CX0 (k+1) f fd ps sp:=by
 obtain ⟨oc,od,kV,doc,pm,an,cdv,ct,osl,rfl,lk,hcd⟩:=F.ex;refine Zvp lk hcd S len fun A outer s H vs Q E hr hsp=>?_;obtain ⟨t,h,q⟩:=hbody cdv A outer s H vs Q E hr hsp;exact ⟨t,h.nox,q⟩
theorem Fun.binds {x qual:Str} {st:Stmt} {f:Addr} {fd:FuncData} {ps:List Str} (F:Fun K x qual st f fd)
 (h:∀ (kV doc pm:Value) (an:Option Addr) (cdv ct:Value) (us:List Value),us.length=ps.length→bindArgs (PySem.W.fnOf x qual (Xv st) (Xj st) (Ze st) .none kV doc pm an cdv ct) ⟨us,[]⟩=pure (ps.zip us)):Binds K fd ps []:=by
 obtain ⟨oc,od,kV,doc,pm,an,cdv,ct,osl,rfl,lk,hcd⟩:=F.ex;exact .all (h kV doc pm an cdv ct)
theorem Zqo {x qual:Str} {st:Stmt} {f:Addr} {oc:Value} {od an:Option Addr} {osl:Array (Option Value)} {kV doc pm cdv ct:Value} (l:K.lookup f=some ⟨oc,od,.func (PySem.W.fnOf x qual (Xv st) (Xj st) (Ze st) .none kV doc pm an cdv ct),osl⟩)
 (c:PySem.W.codeIn K cdv qual=true) (k:PySem.W.keepIn K (.ref f)=true):Fun K x qual st f (PySem.W.fnOf x qual (Xv st) (Xj st) (Ze st) .none kV doc pm an cdv ct):=⟨⟨oc,od,kV,doc,pm,an,cdv,ct,osl,rfl,l,c⟩,k⟩
end
theorem Zmm {A:Around} {k:Nat} (hr:Room k A):A.units+1<cLine:=Nat.lt_of_le_of_lt (Nat.add_le_add_left (by decide:1≤64) _) hr.units
section
variable {X:Cx}
theorem pv (i:Nat) {x:Str} {pos:Pos} (hN:X.N[i]? = some x:=by rfl) (hv:Vis X.env.scope x:=by first|exact Or.inl rfl|exact Or.inr (Or.inl rfl)|exact Or.inr (Or.inr rfl)) (hd:(x == ("__debug__" : Str))=false:=by decide)
 (hcd:(x == ("__classdict__" : Str))=false:=by decide):PE X (.Name x pos) (tVar i):=Ztf hN hv hd hcd
end
theorem iteF {A B:Prop} (h:B):if false=true then A else B:=by
 rw [if_neg n22_];exact h
theorem iteT {A B:Prop} (h:A):if true=true then A else B:=by
 rw [if_pos rfl];exact h
theorem ite2 {c A B:Prop} [Decidable c] (h1:c→A) (h2:¬ c→B):if c then A else B:=by
 by_cases h:c
 · rw [if_pos h];exact h1 h
 · rw [if_neg h];exact h2 h
def Same (H H':Hp):Prop:=∀ b o,H b=some o→H' b=some o
theorem Same.refl (H:Hp):Same H H:=fun _ _ h=>h
theorem Same.trans {H H1 H2:Hp} (a:Same H H1) (b:Same H1 H2):Same H H2:=fun c o h=>b c o (a c o h)
theorem Same.seq {K:PySem.W.Frag} {H H':Hp} {a:Addr} {xs:List V} (e:Same H H') (h:SqL K H a xs):SqL K H' a xs:=by
 rcases h with (h|⟨o,h⟩)|h
 · exact .inl (.inl (e _ _ h))
 · exact .inl (.inr ⟨o,e _ _ h⟩)
 · exact .inr h
end L2
namespace FM
end FM
namespace L2
open PySem PySem.Spec PyProof.Rows
theorem Zcc {prog:Program} {w:World} {A:Around} {R:Result→Shared→Prop} {s:Shared} {elt target iter:Expr} {ifs:List Expr} {scope:Scope} {pos:Pos} {it acc:Value} {env:Env} (I:Nat→Shared→Prop)
 (turn:∀ n s,I n s→wpAny (model prog w) A (pyNext it) (fun r s₁=>match r with
   | none=>R (.ok .next) s₁
   | some v=>wpAny (model prog w) A (letOwnedTupleGo target it v) (fun _ s₀=>wpAny (model prog w) A (assign target env v) (fun _ s₂ =>
      wpAny (model prog w) A (forIn ifs true fun c r=>if r=true then do let ok ← isTrue c env (eval c env);pure (ForInStep.yield ok) else pure (ForInStep.yield r)) (fun ok s₃ =>
       if ok=true then wpAny (model prog w) A (eval elt env) (fun x s₄ =>
        wpAny (model prog w) A (call (.builtin "list.append") [acc,x]) (fun _ s₅=>∃ m,m<n∧I m s₅) (fun _ _=>False) s₄) (fun _ _=>False) s₃
       else ∃ m,m<n∧I m s₃) (fun _ _=>False) s₂) (fun _ _=>False) s₀) (fun _ _=>False) s₁) (fun _ _=>False) s)
 (n:Nat) (h:I n s) :
 codeAny (model prog w) A (.compLoop (.ListComp elt [⟨target,iter,ifs,0⟩] scope pos) 0 it acc env) R s:=by
 refine codeAny_loop rfl I (fun n s hI=>?_) n h;show wpAny _ A ((compTurn (.ListComp elt [⟨target,iter,ifs,0⟩] scope pos) 0 it acc env).onRaise (fun x=>do noteFrame x env;theTreesLotGoes x)) _ _ s
 refine wpAny_noted ?_;rw [compTurn_list];refine n0_ (wpAny_standAt (n0_ (n46_ (turn n s hI) (fun r s₁ h₁=>?_) fun _ _ h'=>h'.elim)));cases r with
 | none=>exact n3_ h₁
 | some v =>
   refine n0_ (n46_ h₁ (fun _ s₀ h₀=>?_) fun _ _ h'=>h'.elim);refine n0_ (n46_ h₀ (fun _ s₂ h₂=>n0_ (n46_ h₂ (fun ok s₃ h₃=>?_) fun _ _ h'=>h'.elim)) fun _ _ h'=>h'.elim);cases ok with
   | false=>exact n3_ ⟨rfl,h₃⟩
   | true =>
     exact n0_ (n0_ (n46_ h₃ (fun x s₄ h₄=>n0_ (n46_ h₄ (fun _ s₅ h₅=>n3_ (n3_ ⟨rfl,h₅⟩)) fun _ _ h'=>h'.elim)) fun _ _ h'=>h'.elim))
theorem Z5:∀ (names:List (Str×NameKind)) (n:Nat) (acc:List (Str×Addr)),cellsFrom n names acc=cellsFrom n names []++acc
 | [],_,_=>rfl
 | (x,k) :: r,n,acc=>by
   unfold cellsFrom;split
   · rw [Z5 r (n+1) ((x,n) :: acc),Z5 r (n+1) [(x,n)],n52_];rfl
   · exact Z5 r n acc
theorem Zac {x:Str} {c:Addr}:∀ (names:List (Str×NameKind)) (n:Nat),(x,c)∈cellsFrom n names []→(x,NameKind.cell)∈names
 | [],_,h=>by simp [cellsFrom] at h
 | (y,k) :: r,n,h=>by
   unfold cellsFrom at h;split at h
   · rename_i hk
     rw [Z5] at h
     rcases n28_.mp h with h|h
     · exact n17_ _ (Zac r _ h)
     · cases n23_.mp h
       rw [show k=.cell by simpa using hk];exact n15_
   · exact n17_ _ (Zac r _ h)
theorem Zbp {names:List (Str×NameKind)} {n:Nat} {cl:List (Str×Addr)} {x:Str} {c:Addr} (h:(cellsFrom n names cl).lookup x=some c):(cellsFrom n names []).lookup x=some c∨cl.lookup x=some c:=by
 rw [Z5,List.lookup_append] at h;cases e:(cellsFrom n names []).lookup x with
 | none=>rw [e] at h;exact .inr h
 | some c'=>rw [e] at h;exact .inl h
theorem Zkz {M:Model} {A:Around} {E:Value→Shared→Prop} {s:Shared} {scope:Scope} {globals:Addr} {cl:List (Str×Addr)} {qual:Str} {env:Env} {Q:Env→Shared→Prop}
 (hQ:∀ h',h'.Ns s.heap.objs.size (fun _=>none)→(∀ b o,s.heap.get? b=some o→h'.get? b=some o)→CellsOk h' (s.heap.objs.size+1) (cellsFrom (s.heap.objs.size+1) scope.names []) →
   Q (newEnv scope s.heap.objs.size globals (cellsFrom (s.heap.objs.size+1) scope.names cl) qual none .none (some env) builtinsNs) { s with heap:=h' }) :
 wpAny M A (newFunctionEnv scope globals cl [] qual none .none (some env)) Q E s:=by
 simp only [newFunctionEnv,Option.isSome_some,if_true];refine n0_ (wpAny_alloc ?_);refine n0_ (wpAny_layCells _ (fun name kind cells=>by cases hkc:kind == NameKind.cell<;>simp [hkc]) _ _ _ _ ?_);have ok:=cellsFrom_ok scope.names (s.heap.push { cls:=.type "dict",data:=.dict #[] }) (s.heap.objs.size+1) [] ⟨fun _ _ hm=>(nomatch hm),List.Pairwise.nil⟩ (by rw [n42_];exact n10_ _);rw [n42_] at ok;rw [show ({ s with heap:=s.heap.push { cls:=.type "dict",data:=.dict #[] } }:Shared).heap.objs.size=s.heap.objs.size+1 from n42_ ..];rw [List.forIn_nil];exact n0_ (n3_ (n3_ (hQ _ ((Heap.Ns.new s.heap (.type "dict")).keeps (pushCells_keeps _ _)) (fun b o e=>pushCells_keeps _ _ b o (n2_ _ e)) ok)))
def blk (X:Cx) (scope:Scope) (cl:List (Str×Addr)) (C:Addr) (N:List Str) (s3:Shared) (H3:Hp) (fp:List Addr):Cx where
 prog:=X.prog
 w:=X.w
 K:=X.K
 mg:=X.mg
 base:=X.base
 A:=X.A
 N:=N
 s₀:=s3
 H₀:=H3
 env:=compEnvC scope (cellsFrom (C+1) scope.names cl) C X.env
 outer:=X.stack
 stack:=X.stack
 ex:=fp
 fn:=fun x=>scope.names.lookup x == some .cell
 calm:=X.calm
 pn:=[]
 xe:=fun _ _=>False
structure LcO (X:Cx) (scope:Scope) (cl:List (Str×Addr)) (N:List Str) (fr:List (Option Nat)):Prop where
 clos:closureFor scope X.env=pure cl
 sub:∀ x c,cl.lookup x=some c→X.env.cells.lookup x=some c
 has:∀ x,((relabel scope X.env).names.lookup x=some .cell∨(relabel scope X.env).names.lookup x=some .free)→scope.names.lookup x=some .cell∨∃ c,cl.lookup x=some c
 kind:scope.kind=.function
 names:∀ y∈scope.names,y.2=.local→scope.names.lookup y.1=some .local
 len:fr.length=N.length
 from':∀ (i j:Nat),fr[i]? = some (some j)→∃ x,N[i]? = some x∧X.N[j]? = some x∧(X.env.scope.names.lookup x=some .cell∨X.env.scope.names.lookup x=some .free)∧((relabel scope X.env).names.lookup x=some .cell∨(relabel scope X.env).names.lookup x=some .free)∧(∃ c,cl.lookup x=some c)∧(x,NameKind.cell)∉scope.names
def Zar (fr:List (Option Nat)) (σ:St):St:=fr.map fun o=>match o with
 | some j=>match σ[j]? with
   | some v=>v
   | none=>none
 | none=>none
theorem pgB {X:Cx} {scope:Scope} {cl:List (Str×Addr)} {C:Addr} {N:List Str} {s3:Shared} {H3:Hp} {fp:List Addr} {x:Str} {pos:Pos} (i:Nat) (hN:N.Nodup:=by decide) (hi:N[i]? = some x:=by rfl) (hf:(blk X scope cl C N s3 H3 fp).env.scope.names.lookup x=some .local:=by rfl):PG (blk X scope cl C N s3 H3 fp) (.Name x pos) (Yr i):=Zm hN hi (.inl hf) (.inr hf)
theorem Zrh {P:Program} {w:World} {H:Hp} {h h':Heap} {a:Addr} (ok:HOk P w H h) (hfree:H a=none) (hs:Heap.SameBut a h h'):HOk P w H h':=fun b ob e=>by
 refine (ok b ob e).stay (fun c w' hc q=>(hs.2 c ?_).trans q) (fun _ q=>q) fun _ _ q=>q;rintro rfl
 rcases hc with rfl|hc
 · rw [hfree] at e;cases e
 · rw [hfree] at hc;cases hc
theorem Zln {X:Cx} {pins:List (Addr×Obj)} {σ:St} {H:Hp} {s3:Shared} {h1:Heap} {scope:Scope} {cl:List (Str×Addr)} {N:List Str} {fr:List (Option Nat)} {fp:List Addr} (L:LcO X scope cl N fr) (I:Inv X pins σ H s3) (co:CellsOk h1 (s3.heap.objs.size+1) (cellsFrom (s3.heap.objs.size+1) scope.names []))
 (hf:∀ b∈fp,FpOk X pins H b) (hlt:∀ b∈fp,b<s3.heap.objs.size):(blk X scope cl s3.heap.objs.size N s3 H fp).Ok where
 mod:=I.ok.mod
 kind:=L.kind
 glob:=I.ok.glob
 blt:=I.ok.blt
 above:=n10_ _
 inj:=fun x y c h1 h2=>by
  have old:∀ z,cl.lookup z=some c→c<s3.heap.objs.size:=fun z e=>let ⟨_,k⟩:=I.cell z c (L.sub z c e);k.lt;have new:∀ z,(cellsFrom (s3.heap.objs.size+1) scope.names []).lookup z=some c→s3.heap.objs.size+1≤c:=fun z e=>(co.empty z c (n38_ e)).2
  rcases Zbp h1 with a|a<;>rcases Zbp h2 with b|b
  · exact name_of_addr co.apart (n38_ a) (n38_ b)
  · exact absurd (n20_ (old y b) (Nat.le_of_succ_le (new x a))) (n77_ _)
  · exact absurd (n20_ (old x a) (Nat.le_of_succ_le (new y b))) (n77_ _)
  · exact I.ok.inj x y c (L.sub x c a) (L.sub y c b)
 has:=fun x h=>by
  refine Option.isSome_iff_exists.mp (PySem.W.cellsFrom_some scope.names (s3.heap.objs.size+1) cl ?_)
  rcases L.has x h with z|⟨c,z⟩
  · exact .inl z
  · exact .inr (by rw [z];rfl)
 cab:=fun x c h e=>by
  obtain ⟨c',e'⟩:=Zq (sc:=scope) (n:=s3.heap.objs.size+1) (beq_iff_eq.mp (show (scope.names.lookup x == some .cell)=true from h));have e2:(cellsFrom (s3.heap.objs.size+1) scope.names cl).lookup x=some c:=e;rw [Z5,List.lookup_append,e'] at e2;have e3:c'=c:=Option.some.inj e2;subst e3;exact Nat.le_of_succ_le (co.empty x c' (n38_ e')).2
 hd:=I.ok.hd
 frames:=I.ok.frames
 stk:=.inl rfl
 exf:=fun b hb=>⟨n24_ (hlt b hb),fun x c h=>by
  rcases Zbp h with a|a
  · exact n61_ (n20_ (hlt b hb) (Nat.le_of_succ_le (co.empty x c (n38_ a)).2))
  · exact (hf b hb).2.2.2.2.1 x c (L.sub x c a)⟩
 bs:=I.bs
 bsz:=n53_ I.ok.bsz I.sz
 noex:=fun b o e hb=>by
  rcases (hf b hb).2.2.2.1 with z|z
  · exact I.ok.noex b o e z
  · exact absurd (n20_ (n13_ e) (n53_ I.ok.bsz z)) (n77_ _)
 exfs:=fun b hb z=>by
  rcases n11_.mp (I.stkSub b z) with e|e
  · exact (hf b hb).2.1 e
  · exact (hf b hb).2.2.1 e
 funs:=I.stack
 frf:=I.stkFree
theorem Zng {X:Cx} {pins:List (Addr×Obj)} {σ:St} {H:Hp} {s3:Shared} {h1:Heap} {t:Nat} {scope:Scope} {cl:List (Str×Addr)} {N:List Str} {fr:List (Option Nat)} {fp:List Addr} (L:LcO X scope cl N fr) (I:Inv X pins σ H s3) (co:CellsOk h1 (s3.heap.objs.size+1) (cellsFrom (s3.heap.objs.size+1) scope.names []))
 (hf:∀ b∈fp,FpOk X pins H b) (hlt:∀ b∈fp,b<s3.heap.objs.size) {m0:Str→Option Value} (hns:h1.Ns s3.heap.objs.size m0) (hk:∀ b o,s3.heap.get? b=some o→h1.get? b=some o) :
 Inv (blk X scope cl s3.heap.objs.size N s3 H fp) [] (Zar fr σ) H { s3 with heap:=h1,toks:=t } where
 ok:=Zln L I co hf hlt
 os:=rfl
 bare:=I.bare
 base:=Un.kept hk
 loc:=⟨m0,hns,fun i x v e1 e2 e3=>by
  unfold Zar at e2;rw [n7_] at e2;cases q:fr[i]? with
  | none=>rw [q] at e2;cases e2
  | some o =>
    rw [q] at e2;cases o with
    | none=>cases e2
    | some j =>
      obtain ⟨y,n1,n2,n3,n4,⟨c,hc⟩,n6⟩:=L.from' i j q;have e1':N[i]? = some x:=e1;rw [n1] at e1';cases e1'
      have e2':(match σ[j]? with|some v=>v|none=>none)=some v:=Option.some.inj e2
      have e2'':σ[j]? = some (some v):=by
       cases z:σ[j]? with
       | none=>rw [z] at e2';cases e2'
       | some w'=>rw [z] at e2';rw [show w'=some v from e2']
      obtain ⟨m,_,hl⟩:=I.loc;obtain ⟨u,r,lk⟩:=hl j x v n2 e2'' (.inr n3);refine ⟨u,r,.inr ⟨n4,c,?_,?_⟩⟩
      · show (cellsFrom (s3.heap.objs.size+1) scope.names cl).lookup x=some c
        rw [Z5,List.lookup_append];cases z:(cellsFrom (s3.heap.objs.size+1) scope.names []).lookup x with
        | none=>exact hc
        | some c'=>exact absurd (Zac _ _ (n38_ z)) n6
      rcases lk with ⟨k,_⟩|⟨k,c',hc',z⟩
      · exfalso
        have k':X.env.scope.names.lookup x=some .local:=k
        rcases n3 with z|z<;>rw [k'] at z<;>cases z
      · rw [L.sub x c hc] at hc';cases hc'
        obtain ⟨o,ho,hd⟩:=z;exact ⟨o,hk _ _ ho,hd⟩⟩
 cell:=fun x c e=>by
  rcases Zbp e with a|a
  · exact ⟨none,(co.empty x c (n38_ a)).1⟩
  · obtain ⟨v,o,ho,hd⟩:=I.cell x c (L.sub x c a);exact ⟨v,o,hk _ _ ho,hd⟩
 free:=I.hok.fresh (n10_ _)
 freeC:=fun x c e=>by
  rcases Zbp e with a|a
  · exact .inl (I.hok.fresh (Nat.le_of_succ_le (co.empty x c (n38_ a)).2))
  · refine (I.freeC x c (L.sub x c a)).imp id fun ⟨_,z⟩=>⟨Bool.eq_false_iff.mpr fun q=>?_,z⟩;obtain ⟨v,oc,hoc,_⟩:=I.cell x c (L.sub x c a);obtain ⟨c',e'⟩:=Zq (sc:=scope) (n:=s3.heap.objs.size+1) (beq_iff_eq.mp (show (scope.names.lookup x == some .cell)=true from q));have e2:(cellsFrom (s3.heap.objs.size+1) scope.names cl).lookup x=some c:=e;rw [Z5,List.lookup_append,e'] at e2;cases e2
    exact absurd (n20_ (n13_ hoc) (Nat.le_of_succ_le (co.empty x c (n38_ e')).2)) (n77_ _)
 pin:=fun p hp=>absurd (show p∈([]:List (Addr×Obj)) from hp) (by simp)
 hok:=I.hok.kept hk
 len:=by
  unfold Zar;rw [n5_];exact L.len
def PIfs (X:Cx) (ifs:List Expr) (t:TT):Prop :=
 ∀ (pins:List (Addr×Obj)) (s:Shared) (σ:St) (H:Hp) (Q:Bool→Hp→Prop),Inv X pins σ H s→t σ H Q →
   wpAny (model X.prog X.w) X.A (forIn ifs true fun c r=>if r=true then do let ok ← isTrue c X.env (eval c X.env);pure (ForInStep.yield ok) else pure (ForInStep.yield r)) (TP X pins σ Q) X.xe s
def tYes:TT:=fun _ H Q=>Q true H
theorem Zt {X:Cx}:PIfs X [] tYes:=fun _ _ _ H _ I h=>wpAny_tests_nil ⟨H,I,h⟩
theorem X9 {X:Cx} {c:Expr} {t:TT} (h:PT X c t):PIfs X [c] t:=fun pins s σ H Q I hw=>wpAny_tests_one (h pins s σ H Q I hw)
def LcGo (J:It) (g:TG) (tt:TT) (te:TE) (σ0:St) (H1:Hp) (D:Addr) (Q:VK):Prop:=∃ W:Nat→Nat→St→Hp→Prop,(∃ m,W 0 m σ0 (upd H1 D (.lst []))) ∧
 ∀ i m σ2 H2,W i m σ2 H2→(J.stop i H2∧Q (.ref D) H2)∨(J.go i H2∧∀ x H3,J.yld i H2 x H3→g x σ2 H3 fun σ4 H4=>tt σ4 H4 fun b H5=>if b=true then te σ4 H5 fun y H6=>∃ ys,H6 D=some (.lst ys)∧ys.length<sizeLine ∧
   ∃ m',m'<m∧W (i+1) m' σ4 (upd H6 D (.lst (ys++[y]))) else ∃ m',m'<m∧W (i+1) m' σ4 H5)
def tLC (wi:TI) (g:TG) (tt:TT) (te:TE) (fr:List (Option Nat)):TE:=fun σ H Q=>wi σ H fun J H1=>∀ D,H1 D=none→LcGo J g tt te (Zar fr σ) H1 D Q
abbrev NoX:Value→Shared→Prop:=fun _ _=>False
theorem Zly {X:Cx} {pins:List (Addr×Obj)} {σ σ7:St} {H3 H7:Hp} {s3 s7:Shared} {scope:Scope} {cl:List (Str×Addr)} {N:List Str} {fp:List Addr} (I3:Inv X pins σ H3 s3) (f3:∀ b∈fp,FpOk X pins H3 b) (I7:Inv (blk X scope cl s3.heap.objs.size N s3 H3 fp) [] σ7 H7 s7) :
 ∃ m7,s7.heap.Ns s3.heap.objs.size m7∧∀ h8,Heap.SameBut s3.heap.objs.size s7.heap h8→Inv X pins σ H7 { s7 with heap:=h8 }:=by
 obtain ⟨m7,hn7,_⟩:=I7.loc;refine ⟨m7,hn7,fun h8 sb8=>?_⟩;have un:=I7.base;have neC:∀ b o,s3.heap.get? b=some o→b≠s3.heap.objs.size:=fun b o e=>n24_ (n13_ e);refine I3.call' (s':={ s7 with heap:=h8 }) (ch:=fp) I7.os ?_ (Zrh I7.hok I7.free sb8) I7.bare (fun b hb=>⟨(f3 b hb).2.2.2.1,(f3 b hb).2.1,(f3 b hb).2.2.2.2.1,(f3 b hb).2.2.2.2.2⟩);refine ⟨fun b o e n' hb hx=>?_,fun b o e n' hb hx=>?_,un.free,fun b o e hx=>?_,un.tups,un.frzs,un.tbls⟩
 · exact sb8.extBut b o (neC b o e) (un.keep b o e n' hb hx)
 · obtain ⟨sl,q⟩:=un.slot b o e n' hb hx;exact ⟨sl,sb8.extBut b _ (neC b o e) q⟩
 · obtain ⟨o',q⟩:=un.there b o e hx;exact ⟨o',sb8.extBut b _ (neC b o e) q⟩
def Zlb (M:Model) (A:Around) (tg:Expr) (it:Value) (env:Env) (R:Result→Shared→Prop) (B:Nat→Shared→Prop) (n:Nat) (s:Shared):Prop :=
 wpAny M A (pyNext it) (fun r s1=>match r with
  | none=>R (.ok .next) s1
  | some v=>wpAny M A (letOwnedTupleGo tg it v) (fun _ s0=>wpAny M A (assign tg env v) (fun _ s2=>B n s2) NoX s0) NoX s1) NoX s
theorem Zck {X:Cx} {pins:List (Addr×Obj)} {σ:St} {H2:Hp} {s2:Shared} {scope:Scope} {cl:List (Str×Addr)} {N:List Str} {fr:List (Option Nat)} {tg:Expr} {g:TG} {J:It} {fp:List Addr} {it:Addr} {tn:Nat→Heap→Prop} {ac:HO} {o0:Obj} {W:Nat→Nat→St→Hp→Prop} {m0:Nat} {Qn:Hp→Prop} {Kn:Nat→Nat→St→Hp→Prop} {c:Expr} {R:Addr→Result→Shared→Prop} {B:(Nat→Shared→Prop)→Nat→Shared→Prop} {s3:Shared}
 (hs3:s3={ s2 with heap:=s2.heap.push o0 }) (hc:X.calm=true) (L:LcO X scope cl N fr) (hg:∀ C s3 H3 fp,PG (blk X scope cl C N s3 H3 fp) tg g)
 (I2:Inv X pins σ H2 s2) (T:Turn X.prog X.w X.K tg J fp it tn) (st2:tn 0 s2.heap) (f2:∀ b∈fp,FpOk X pins H2 b)
 (ok0:ObjOk X.prog X.w (upd H2 s2.heap.objs.size ac) (s2.heap.push o0) s2.heap.objs.size ac) (w0:W 0 m0 (Zar fr σ) (upd H2 s2.heap.objs.size ac))
 (turn:∀ i m σ2 H2,W i m σ2 H2→(J.stop i H2∧Qn H2)∨(J.go i H2∧∀ x H3,J.yld i H2 x H3→g x σ2 H3 (Kn i m)))
 (start:∀ env s4,codeAny (model X.prog X.w) X.A (.compLoop c 0 (.ref it) (.ref s2.heap.objs.size) env) (R s3.heap.objs.size) s4→(∀ E,wpAny (model X.prog X.w) X.A (pyIter (.ref it)) (fun it' s'=>codeAny (model X.prog X.w) X.A (.compLoop c 0 it' (.ref s2.heap.objs.size) env) (R s3.heap.objs.size) s') E s4)→codeAny (model X.prog X.w) X.A (.compStart c 0 (.ref it) (.ref s2.heap.objs.size) env) (R s3.heap.objs.size) s4)
 (loop:∀ (LI:Nat→Shared→Prop) s4,(∀ n s,LI n s→Zlb (model X.prog X.w) X.A tg (.ref it) (blk X scope cl s3.heap.objs.size N s3 (upd H2 s2.heap.objs.size ac) fp).env (R s3.heap.objs.size) (B LI) n s)→∀ n,LI n s4→codeAny (model X.prog X.w) X.A (.compLoop c 0 (.ref it) (.ref s2.heap.objs.size) (blk X scope cl s3.heap.objs.size N s3 (upd H2 s2.heap.objs.size ac) fp).env) (R s3.heap.objs.size) s4)
 (stop:∀ H7 s7,Qn H7→Inv X pins σ (upd H2 s2.heap.objs.size ac) s3→H7 s3.heap.objs.size=none→(∃ m7,s7.heap.Ns s3.heap.objs.size m7∧∀ h8,Heap.SameBut s3.heap.objs.size s7.heap h8→Inv X pins σ H7 { s7 with heap:=h8 })→R s3.heap.objs.size (.ok .next) s7)
 (body:∀ (LI:Nat→Shared→Prop) n i σ9 H9 s9 ps,Inv (blk X scope cl s3.heap.objs.size N s3 (upd H2 s2.heap.objs.size ac) fp) ps σ9 H9 s9→Kn i n σ9 H9→(∀ {s11:Shared} {σ11:St} {H11:Hp} {m':Nat},Inv (blk X scope cl s3.heap.objs.size N s3 (upd H2 s2.heap.objs.size ac) fp) ps σ11 H11 s11→m'<n→W (i+1) m' σ11 H11→∃ m,m<n∧LI m s11)→B LI n s9) :
 wpAny (model X.prog X.w) X.A (newFunctionEnv scope X.env.globals cl [] X.env.qual none .none (some X.env)) (fun cenv s4=>codeAny (model X.prog X.w) X.A (.compStart c 0 (.ref it) (.ref s2.heap.objs.size) { cenv with scope:=relabel scope X.env }) (R cenv.locals) s4) X.xe s3:=by
 have fplt:∀ b∈fp,b<s2.heap.objs.size:=fun b hb=>by
  obtain ⟨o,q,_⟩:=T.obj _ _ st2 b hb;exact n13_ q
 have k3:∀ b o,s2.heap.get? b=some o→s3.heap.get? b=some o:=fun b o e=>by rw [hs3];exact n2_ _ e
 have I3:Inv X pins σ (upd H2 s2.heap.objs.size ac) s3:=by rw [hs3];exact I2.laid (t':=s2.toks) (fun b o e=>n2_ _ e) (n10_ _) ok0
 have f3:∀ b∈fp,FpOk X pins (upd H2 s2.heap.objs.size ac) b:=fun b hb=>⟨by rw [Zh (n24_ (fplt b hb))];exact (f2 b hb).1,(f2 b hb).2⟩;have st3:tn 0 s3.heap:=T.keep _ _ _ st2 fun b hb o e=>k3 b o e
 have fplt3:∀ b∈fp,b<s3.heap.objs.size:=fun b hb=>by
  obtain ⟨o,q,_⟩:=T.obj _ _ st2 b hb;exact n13_ (k3 _ _ q)
 generalize upd H2 s2.heap.objs.size ac=H3 at *;refine Zkz fun h1 hns1 k4 ok3=>?_;have I4:=Zng (t:=s3.toks) L I3 ok3 f3 fplt3 hns1 k4;have st4:tn 0 h1:=T.keep _ _ _ st3 fun b hb o e=>k4 b o e
 have fpB:∀ {H':Hp} (b:Addr),b∈fp→H' b=none→FpOk (blk X scope cl s3.heap.objs.size N s3 H3 fp) [] H' b:=fun b hb hn =>
  ⟨hn,n24_ (fplt3 b hb),fun z=>(Zln L I3 ok3 f3 fplt3).exfs b hb z,.inl hb,fun x c e=>((Zln L I3 ok3 f3 fplt3).exf b hb).2 x c e,fun p hp=>absurd (show p∈([]:List (Addr×Obj)) from hp) (by simp)⟩
 have lp:=loop (fun n s'=>∃ i σ' H',Inv (blk X scope cl s3.heap.objs.size N s3 H3 fp) [] σ' H' s'∧tn i s'.heap∧(∀ b∈fp,H' b=none)∧W i n σ' H') { s3 with heap:=h1 } (fun n s6=>?_) m0 ⟨0,_,_,I4,st4,fun b hb=>(f3 b hb).1,w0⟩
 · exact start _ _ lp fun E=>T.self _ 0 _ _ _ st4 lp
 · rintro ⟨i,σ6,H6,I6,st6,fr6,w6⟩
   unfold Zlb
   rcases turn i n σ6 H6 w6 with ⟨sp,qn⟩|⟨go,step⟩
   · refine thn (T.done (blk X scope cl s3.heap.objs.size N s3 H3 fp) rfl rfl rfl hc i [] s6 σ6 H6 (fun _ _=>False) I6 (fun b hb=>fpB b hb (fr6 b hb)) st6 sp) fun r s7 ⟨hr,I7⟩=>?_;subst hr;exact stop _ _ qn I3 I7.free (Zly I3 f3 I7)
   · refine thn (T.item (blk X scope cl s3.heap.objs.size N s3 H3 fp) rfl rfl rfl hc i [] s6 σ6 H6 (fun _ _=>False) I6 (fun b hb=>fpB b hb (fr6 b hb)) st6 go) fun r s7 ⟨u,hr,h7⟩=>?_;subst hr;refine thn h7 fun _ s8 ⟨x,H8,I8,r8,y8,st8,fr8⟩=>?_;have I8':=I8.pinned (fun b hb=>fpB b hb (fr8 b hb)) (T.obj _ _ st8);refine thn (hg _ _ _ _ _ s8 σ6 H8 x u _ I8' r8 (step x H8 y8)) fun _ s9 ⟨σ9,H9,I9,q9⟩=>?_;refine body _ n i σ9 H9 s9 _ I9 q9 fun {s11 σ11 H11 m'} I11 hm w11=>?_;refine ⟨m',hm,i+1,σ11,H11,I11.unpinned,T.keep _ _ _ st8 fun b hb o e=>(I11.pin (b,o) (n33_ _ (n33_ _ (Y3 hb e)))).1,fun b hb=>?_,w11⟩;obtain ⟨o,e,d⟩:=T.obj _ _ st8 b hb;exact (I11.pin (b,o) (n33_ _ (n33_ _ (Y3 hb e)))).2.1
theorem Zny {X:Cx} {scope:Scope} {cl:List (Str×Addr)} {N:List Str} {ifs:List Expr} {elt:Expr} {tt:TT} {te:TE} {D:Addr} {W:Nat→Nat→St→Hp→Prop} {C0:Addr} {s30:Shared} {H30:Hp} {fp0:List Addr}
 (ht:∀ C s3 H3 fp,PIfs (blk X scope cl C N s3 H3 fp) ifs tt) (he:∀ C s3 H3 fp,PE (blk X scope cl C N s3 H3 fp) elt te) (LI:Nat→Shared→Prop) (n i:Nat) (σ9:St) (H9:Hp) (s9:Shared) (ps:List (Addr×Obj)) (I9:Inv (blk X scope cl C0 N s30 H30 fp0) ps σ9 H9 s9)
 (q9:tt σ9 H9 fun b H5=>if b=true then te σ9 H5 fun y H6=>∃ ys,H6 D=some (.lst ys)∧ys.length<sizeLine∧∃ m',m'<n∧W (i+1) m' σ9 (upd H6 D (.lst (ys++[y]))) else ∃ m',m'<n∧W (i+1) m' σ9 H5)
 (again:∀ {s11:Shared} {σ11:St} {H11:Hp} {m':Nat},Inv (blk X scope cl C0 N s30 H30 fp0) ps σ11 H11 s11→m'<n→W (i+1) m' σ11 H11→∃ m,m<n∧LI m s11) :
 wpAny (model X.prog X.w) X.A (forIn ifs true fun c r=>if r=true then do let ok ← isTrue c (blk X scope cl C0 N s30 H30 fp0).env (eval c (blk X scope cl C0 N s30 H30 fp0).env);pure (ForInStep.yield ok) else pure (ForInStep.yield r)) (fun ok s₃ =>
  if ok=true then wpAny (model X.prog X.w) X.A (eval elt (blk X scope cl C0 N s30 H30 fp0).env) (fun x s₄ =>
   wpAny (model X.prog X.w) X.A (call (.builtin "list.append") [.ref D,x]) (fun _ s₅=>∃ m,m<n∧LI m s₅) (fun _ _=>False) s₄) (fun _ _=>False) s₃
  else ∃ m,m<n∧LI m s₃) (fun _ _=>False) s9:=by
 refine thn (ht _ _ _ _ ps s9 σ9 H9 _ I9 q9) fun b s10 ⟨H10,I10,q10⟩=>?_;cases b with
 | false =>
   obtain ⟨m',hm,w11⟩:=q10;exact again I10 hm w11
 | true =>
   refine thn (he _ _ _ _ ps s10 σ9 H10 _ I10 q10) fun y s11 ⟨yv,H11,I11,r11,ys,hys,hz,m',hm,w11⟩=>?_
   have ap:=Zaw (X:=blk X scope cl C0 N s30 H30 fp0) _ s11 σ9 H11 (.ref D) [yv] (.ref D) [y] (fun _ H'=>W (i+1) m' σ9 H') I11 rfl (.cons r11 .nil)
    ⟨_,ys,yv,rfl,rfl,hys,hz,w11⟩
   exact thn ap fun _ s12 ⟨_,H12,I12,_,q12⟩=>again I12 hm q12
theorem Ziu {X:Cx} {pins:List (Addr×Obj)} {σ:St} {Q:VK} {H7:Hp} {s7:Shared} {C D:Addr} (qn:Q (.ref D) H7) (c:∃ m7,s7.heap.Ns C m7∧∀ h8,Heap.SameBut C s7.heap h8→Inv X pins σ H7 { s7 with heap:=h8 }):compPost (model X.prog X.w) X.A X.xe none (EP X pins σ Q) (.ref D) C (.ok .next) s7 :=
 let ⟨m7,hn7,c7⟩:=c
 ⟨m7,hn7,fun h8 sb8=>⟨.ref _,H7,c7 h8 sb8,rfl,qn⟩⟩
theorem Y4 {X:Cx} {tg elt iter:Expr} {ifs:List Expr} {scope:Scope} {cl:List (Str×Addr)} {N:List Str} {fr:List (Option Nat)} {pos:Pos} {wi:TI} {g:TG} {tt:TT} {te:TE}
 (hc:X.calm=true) (L:LcO X scope cl N fr) (hi:PI X tg iter wi) (hg:∀ C s3 H3 fp,PG (blk X scope cl C N s3 H3 fp) tg g)
 (ht:∀ C s3 H3 fp,PIfs (blk X scope cl C N s3 H3 fp) ifs tt) (he:∀ C s3 H3 fp,PE (blk X scope cl C N s3 H3 fp) elt te)
 (hs:∀ x,foldedSetIterable iter X.env x=pure x:=by intro _;rfl):PE X (.ListComp elt [⟨tg,iter,ifs,0⟩] scope pos) (tLC wi g tt te fr):=by
 intro pins s σ H Q I h;rw [eval_ListComp];refine wpAny_comprehension_free (use:=none) rfl hs L.clos L.kind L.names (thn (hi pins s σ H _ I h) fun v s1 h1=>thn h1 fun itv s2 h2=>?_);obtain ⟨it,fp,tn,J,H2,e,I2,T,st2,f2,h⟩:=h2;subst e;obtain ⟨W,⟨m0,w0⟩,turn⟩:=h s2.heap.objs.size (I2.hok.fresh (n10_ _));refine wpAny_newObj_type ?_;refine Zck (ac:=.lst []) rfl hc L hg I2 T st2 f2 ⟨n51_ _,[],_,.nil,n9_ _ rfl⟩ w0 turn (fun _ _ a b=>codeAny_compStart_list a (b _)) (fun LI s4 t n h=>Zcc LI t n h) (fun H7 s7 qn _ _ c=>Ziu qn c) (Zny ht he)
def LcN (n:Nat) (Pv:Nat→St→Hp→Prop) (i m:Nat) (σ:St) (H:Hp):Prop:=i≤n∧m=n-i∧Pv i σ H
section
variable {X:Cx}
def Zvm (i j:Int):Prop:=j≠0∧j.natAbs<2^8999
theorem Zqs {a n:Nat} (h:a<2^n) (hn:0<n):a.log2<n:=by
 rcases Nat.eq_zero_or_pos a with rfl|hp
 · simpa using hn
 · exact (Nat.log2_lt (n61_ hp)).mpr h
theorem Zkm:OpR X (binaryOp .FloorDiv) (rI Zvm fun i j=>.int (i.fdiv j)):=opI fun _ _ _ _ _ _ _ hc q=>floordiv_int hc.1 q (.inl (PyProof.noPylong_of_log2 (Nat.lt_trans (Zqs hc.2 (by decide)) (by decide))))
def CMulB (i j:Int):Prop:=i.natAbs<2^1000000∧j.natAbs<2^1000000
theorem Zmt {i:Int} {n:Nat} (h:i.natAbs<2^n) (hn:0<n):Builtin.Int.intBits i≤n:=by
 unfold Builtin.Int.intBits;split
 · exact n51_ _
 · exact Zqs h hn
theorem CMulB.ok {i j:Int} (h:CMulB i j):IntMulOk i j:=by
 unfold IntMulOk;have h1:=Zmt h.1 (by decide);have h2:=Zmt h.2 (by decide)
 have:Builtin.Int.intTooBig (Builtin.Int.intBits i+Builtin.Int.intBits j:Nat)=false:=by
  unfold Builtin.Int.intTooBig bitsLine;refine n35_ ?_;omega
 intro z;rw [n32_] at z;rw [show ((Builtin.Int.intBits i:Int)+(Builtin.Int.intBits j:Int))=((Builtin.Int.intBits i+Builtin.Int.intBits j:Nat):Int) by omega,this] at z;exact absurd z.2 (by decide)
theorem Yd:OpR X (binaryOp .Mult) (rI CMulB fun i j=>.int (i*j)):=opI fun _ _ _ _ _ _ _ hc q=>mul_int q hc.ok
theorem Zem:Yw X (.builtin "isinstance") (fun xs H Q=>∃ x T t b,xs=[x,.ty T]∧TyOf X.K H x t∧PySem.W.kitOne X.K t (.type T)=some b∧Q (.bl b) H):=by
 intro pins s σ H xs us Q I r h;obtain ⟨x,T,t,b,rfl,ty,e,q⟩:=h;cases r with
 | cons rx r =>
   cases r with
   | cons ry r =>
     cases r
     cases (show _=Value.type T from ry)
     exact Zmi I rx ty e fun tk=>⟨.bl b,H,I.tok _,rfl,q⟩
theorem Zbz:∀ {bs:List Bool} {us:List Value} {i:Nat} {v:Value},Vals (bs.map V.bl) us→us[i]? = some v→∃ b,bs[i]? = some b∧v=Value.bool b
 | [],_,i,v,.nil,e=>by simp at e
 | b :: bs,u :: us,0,v,.cons r t,e=>by
   simp at e;subst e;exact ⟨b,rfl,r⟩
 | b :: bs,u :: us,i+1,v,.cons r t,e=>by
   obtain ⟨c,h1,h2⟩:=Zbz t (by simpa using e);exact ⟨c,by simpa using h1,h2⟩
theorem Zd9:∀ (bs:List Bool),((List.range bs.length).all fun i=>(bs[i]?).getD true)=bs.all id
 | []=>rfl
 | b :: bs=>by
   rw [n18_,List.range_succ_eq_map,List.all_cons,List.all_map,List.all_cons,← Zd9 bs];rfl
theorem Zie {s:Shared} {h':Heap} {o:Obj} (hk:∀ b x,b∉[s.heap.objs.size]→(s.heap.push o).get? b=some x→h'.get? b=some x):∀ b x,s.heap.get? b=some x→h'.get? b=some x :=
 fun b x e=>hk b x (fun hm=>by rw [n23_.mp hm] at e;exact n77_ _ (n13_ e)) (n2_ _ e)
theorem Yg (hc:X.calm=true):Yw X (.builtin "all") (fun xs H Q=>∃ (p:Addr) (bs:List Bool),xs=[.ref p]∧SqL X.K H p (bs.map V.bl)∧Q (.bl (bs.all id)) H):=by
 intro pins s σ H xs us Q I r h;obtain ⟨p,bs,rfl,hq,q⟩:=h;cases r with
 | cons rx r =>
   cases r
   cases (show _=Value.ref p from rx)
   obtain ⟨its,rv,pl,hz⟩:=I.list hq;have hl:=pl.isList;have hlt:p<s.heap.objs.size:=by obtain ⟨_,e,_⟩:=hl;exact n13_ e
   have hh:X.A.handled=none:=I.ok.hd hc;refine call_all_walk (wpAny_pyIter_list hl ?_)
   refine ⟨s.heap.objs.size,[s.heap.objs.size,p],[s.heap.objs.size],its.toArray.size,_,_,fun i=>(bs[i]?).getD true,rfl,Walks.list (A:=X.A.in1) hh _ p (n24_ hlt) its.toArray,
    ⟨⟨_,n9_ _ rfl,rfl,rfl⟩,hl.push _⟩,fun i v s' Q' E' hP hQ=>?_,fun h' tk hk=>?_⟩
   · obtain ⟨b,e,rfl⟩:=Zbz rv (show its[i]? = some v by simpa using hP);simp only [e,Option.getD_some] at hQ;exact wpAny_truthy_bool hQ
   · have e:((List.range its.toArray.size).all fun i=>(bs[i]?).getD true)=bs.all id:=by
      rw [n8_,← rv.length,n5_];exact Zd9 bs
     rw [e];exact ⟨.bl _,H,I.kept (Zie hk),rfl,q⟩
end
structure Cal (P:Program) (w:World) (K:PySem.W.Frag) (mg:Str→Option Value) (base:Heap) (x:Str) (k:Nat) (ps:List Str) (sp:Sp):Prop where
 ex:∃ (f:Addr) (fd:FuncData),FnOk P w K mg base CX0 k f fd ps sp∧mg x=some (.ref f)∧PySem.W.keepIn K (.ref f)=true∧Binds K fd ps []
theorem Zl {X:Cx} {x:Str} {k j:Nat} {ps:List Str} {sp:Sp} {p pos:Pos} {e:Expr} {es:List Expr} {t:TA} (C:Cal X.prog X.w X.K X.mg X.base x k ps sp) (hr:Room j X.A) (hj:k≤j) (hg:Gl X x) (ha:PA X (e :: es) t)
 (hdb:(x == ("__debug__" : Str))=false:=by decide) (he:starEach (e :: es) X.env=(false,eval e X.env) :: starEach es X.env:=by rfl) (hpl:(backTo pos (starEach es X.env)).any (·.1)=false:=by rfl) :
 PE X (.Call (.Name x p) (e :: es) [] pos) (fun σ H Q=>t σ H fun vs H1=>sp vs H1 Q E0):=by
 obtain ⟨f,fd,F,hm,hk,hb⟩:=C.ex;have h:=Zr9 (dvs:=[]) (E:=E0) (p:=p) F (hr.mono hj) hg hm hk hb .nil Zth ha hdb he hpl;intro pins s σ H Q I hw;refine h pins s σ H Q I ?_;unfold Zra
 simpa only [List.append_nil] using hw
section
variable {P:Program} {w:World} {K:PySem.W.Frag} {mg:Str→Option Value} {base:Heap}
end
def Keep (l:Addr) (H H':Hp):Prop:=∀ b o,b≠l→H b=some o→H' b=some o
theorem Keep.refl (l:Addr) (H:Hp):Keep l H H:=fun _ _ _ h=>h
theorem Keep.trans {l:Addr} {H H1 H2:Hp} (a:Keep l H H1) (b:Keep l H1 H2):Keep l H H2:=fun c o n h=>b c o n (a c o n h)
theorem Keep.new {l p:Addr} {H:Hp} {o:HO} (h:H p=none):Keep l H (upd H p o):=fun b u _ e=>by rw [Zh (Zi e h)];exact e
theorem Keep.upd {l:Addr} {H:Hp} {o:HO}:Keep l H (upd H l o):=fun b u n e=>by rw [Zh n];exact e
theorem Same.new {p:Addr} {H:Hp} {o:HO} (h:H p=none):Same H (upd H p o):=fun b u e=>by rw [Zh (Zi e h)];exact e
theorem Same.keep {l:Addr} {H H':Hp} (s:Same H H'):Keep l H H':=fun b o _ e=>s b o e
def Zv3 (i j k:Nat) (ta:TA):TS:=fun D σ H=>ta σ H fun vs H1=>∃ v w x,vs=[v,w,x]∧D.nx (((σ.set i (some v)).set j (some w)).set k (some x)) H1
theorem Zh8 {X:Cx} {pos:Pos} {i j k:Nat} {x y z:Str} {a b c:Expr} {ta:TA} {px py pz pt:Pos} {kt k2 pt2} (hc:X.calm=true) (hN:X.N.Nodup) (hi:X.N[i]? = some x) (hj:X.N[j]? = some y) (hk:X.N[k]? = some z) (hij:i≠j) (hik:i≠k) (hjk:j≠k)
 (hx:X.env.scope.names.lookup x=some .local) (hy:X.env.scope.names.lookup y=some .local) (hz:X.env.scope.names.lookup z=some .local) (ha:PA X [a,b,c] ta)
 (hw:swappedStores [.Tuple [.Name x px,.Name y py,.Name z pz] kt pt] (.Tuple [a,b,c] k2 pt2) X.env=pure (some [x,y,z]))
 (hs:swapsWithSole [.Tuple [.Name x px,.Name y py,.Name z pz] kt pt] (.Tuple [a,b,c] k2 pt2) pos.line X.env=pure false:=by rfl) :
 PS X (.Assign [.Tuple [.Name x px,.Name y py,.Name z pz] kt pt] (.Tuple [a,b,c] k2 pt2) pos) (Zv3 i j k ta):=by
 intro pins s σ H D I h;rw [exec_Assign_arm];refine n0_ (wpAny_standAt ?_);rw [hs];refine n0_ (n3_ ?_);rw [if_neg (by decide)];refine n0_ (Tuple_ (thn (ha _ pins s σ H _ I h) fun us s1 ⟨vs,H1,I1,r1,q1⟩=>?_));obtain ⟨v,w,x',e1,q1⟩:=q1;subst e1
 obtain ⟨u1,u2,u3,rfl,rv,rw',rx⟩:∃ u1 u2 u3,us=[u1,u2,u3]∧RelV v u1∧RelV w u2∧RelV x' u3:=by
  cases r1 with
  | cons p q =>
    cases q with
    | cons p' q' =>
      cases q' with
      | cons p'' q'' =>
        cases q''
        exact ⟨_,_,_,rfl,p,p',p''⟩
 refine wpAny_newObj_type ?_ (z3_);have I2:Inv X pins σ H1 { s1 with heap:=s1.heap.push { cls:=.type "tuple",data:=.seq [u1,u2,u3].toArray } }:=I1.kept (t':=s1.toks) fun b o e=>n2_ _ e;rw [hw];refine n0_ (n3_ ?_);show wpAny (model X.prog X.w) X.A (do rule "assign.swapped-stores";let items ← unpackItems (.ref s1.heap.objs.size) 3 none;assignInOrder [fun v=>bindName X.env z v,fun v=>bindName X.env y v,fun v=>bindName X.env x v] items.reverse;pure Flow.next) _ _ _
 refine n0_ (wpAny_rule (n0_ (unpackItems_tuple (items:=#[u1,u2,u3]) (I.ok.hd hc) (IsTup.new s1.heap _) fun h' hx'=>?_)));have I3:=I2.kept (h':=h') (t':=s1.toks) fun b o e=>hx' b o (n24_ (n13_ e)) e;show wpAny _ _ (assignInOrder [fun v=>bindName X.env z v,fun v=>bindName X.env y v,fun v=>bindName X.env x v] [u3,u2,u1] >>= fun _=>pure Flow.next) _ _ _
 refine n0_ (assignInOrder_cons (wpAny_bindName (Zad I3 hN hk (.inl hz) rx (fun s2 I4=>?_) (.inr hz))));refine assignInOrder_cons (wpAny_bindName (Zad I4 hN hj (.inl hy) rw' (fun s3 I5=>?_) (.inr hy)));refine assignInOrder_cons (wpAny_bindName (Zad I5 hN hi (.inl hx) rv (fun s4 I6=>assignInOrder_nil (n3_ ?_)) (.inr hx)))
 have e:(((σ.set k (some x')).set j (some w)).set i (some v))=(((σ.set i (some v)).set j (some w)).set k (some x')):=by
  rw [List.set_comm _ _ (Ne.symm hij),List.set_comm _ _ (Ne.symm hik),List.set_comm _ _ (Ne.symm hjk)]
 rw [e] at I6;exact ⟨_,H1,I6,q1⟩
theorem Zax:∀ (xs:List PyData),(PyData.shownAll xs).length=xs.length
 | []=>rfl
 | _ :: xs=>by simp only [PyData.shownAll,n18_,Zax xs]
section
variable {X:Cx}
end
mutual
inductive Dt (N:Addr→Prop) (H:Hp) (k:Nat):V→PyData→Prop
 | non:Dt N H k .non .none
 | bl (b:Bool):Dt N H k (.bl b) (.bool b)
 | int {i:Int}:i.natAbs<2^k→Dt N H k (.int i) (.int i)
 | str (x:Str):Dt N H k (.str x) (.str x)
 | tup {a:Addr} {xs:List V} {ds:List PyData}:H a=some (.tup xs)→Dts N H k xs ds→Dt N H k (.ref a) (.tuple ds)
 | lst {a:Addr} {xs:List V} {ds:List PyData}:H a=some (.lst xs)→¬ N a→a≠sysModules→Dts N H k xs ds→Dt N H k (.ref a) (.list ds)
 | dic {a:Addr}:H a=some (.dK [])→Dt N H k (.ref a) (.dict [])
inductive Dts (N:Addr→Prop) (H:Hp) (k:Nat):List V→List PyData→Prop
 | nil:Dts N H k [] []
 | cons {x:V} {xs:List V} {d:PyData} {ds:List PyData}:Dt N H k x d→Dts N H k xs ds→Dts N H k (x :: xs) (d :: ds)
end
variable {N:Addr→Prop} {k:Nat}
mutual
theorem Dt.reads {X:Cx} {pins:List (Addr×Obj)} {σ:St} {H:Hp} {s:Shared} (I:Inv X pins σ H s):∀ {v:V} {d:PyData} {u:Value},Dt N H k v d→RelV v u→∃ as,Reads s.heap u d as∧sysModules∉as
 | _,_,_,.non,r=>by cases r;exact ⟨_,.none,by simp⟩
 | _,_,_,.bl b,r=>by cases r;exact ⟨_,.bool b,by simp⟩
 | _,_,_,.int (i:=i) _,r=>by obtain ⟨t,rfl⟩:=r;exact ⟨_,.int i t,by simp⟩
 | _,_,_,.str x,r=>by obtain ⟨t,rfl⟩:=r;exact ⟨_,.str x t,by simp⟩
 | _,_,_,.tup (a:=a) (xs:=xs) h rs,r=>by
   cases r
   obtain ⟨_,its,rv,o,e,hc,n,hd⟩:=(show ObjOk X.prog X.w H s.heap a (.tup xs) from I.hok a _ h);obtain ⟨as,ra,na⟩:=Dts.reads I rs rv;exact ⟨_,.tuple e hc hd (by simpa using ra),na⟩
 | _,_,_,.lst (a:=a) (xs:=xs) h _ ns rs,r=>by
   cases r
   obtain ⟨_,its,n,rv,e⟩:=(show ObjOk X.prog X.w H s.heap a (.lst xs) from I.hok a _ h);obtain ⟨as,ra,na⟩:=Dts.reads I rs rv
   exact ⟨_,.list e rfl rfl (by simpa using ra),by
    intro hm
    rcases n11_.mp hm with e|e
    · exact ns e.symm
    · exact na e⟩
 | _,_,_,.dic (a:=a) h,r=>by
   cases r
   obtain ⟨_,hS,vs,rel,o,es,ep,e,ex,hd,_,he,_⟩:=(show ObjOk X.prog X.w H s.heap a (.dK []) from I.hok a _ h);cases rel
   have hes:es.toList=[]:=by
    generalize es.toList=z at he;cases he
    rfl
   refine ⟨_,.dict (kvs:=[]) (as:=[]) (bs:=[]) e ex.1 hd (by rw [hes];exact .nil) (by rw [hes];exact .nil),?_⟩;intro hm
   have:sysModules=a:=by simpa using hm
   rw [this] at hS;simp at hS
theorem Dts.reads {X:Cx} {pins:List (Addr×Obj)} {σ:St} {H:Hp} {s:Shared} (I:Inv X pins σ H s):∀ {vs:List V} {ds:List PyData} {us:List Value},Dts N H k vs ds→Vals vs us→∃ as,ReadsAll s.heap us ds as∧sysModules∉as
 | _,_,_,.nil,.nil=>⟨_,.nil,by simp⟩
 | _,_,_,.cons r rs,.cons q qs=>by
   obtain ⟨as,ra,na⟩:=Dt.reads I r q;obtain ⟨bs,rb,nb⟩:=Dts.reads I rs qs
   exact ⟨_,.cons ra rb,by
    intro hm
    rcases n28_.mp hm with e|e
    · exact na e
    · exact nb e⟩
end
mutual
def nz:PyData→Nat
 | .none=>1
 | .bool _=>1
 | .int _=>1
 | .str x=>(reprText x).length
 | .list xs=>1+Zah xs
 | .tuple xs=>1+Zah xs
 | .dict _=>1
def Zah:List PyData→Nat
 | []=>0
 | x :: xs=>nz x+1+Zah xs
end
theorem Xx {i:Int} {n:Nat} (h:i.natAbs<2^n) (hn:n<1920):i.natAbs.log2<1920:=by
 rcases Nat.eq_zero_or_pos n with rfl|hp
 · have:i.natAbs=0:=by simpa using h
   rw [this];decide
 · by_cases h0:i.natAbs=0
   · rw [h0];decide
   · exact Nat.lt_trans ((Nat.log2_lt h0).mpr h) hn
mutual
theorem Dt.showable {H:Hp} (hk:k<1920):∀ {v:V} {d:PyData},Dt N H k v d→d.showable=true
 | _,_,.non=>rfl
 | _,_,.bl b=>rfl
 | _,_,.int h=>n40_ (Xx h hk)
 | _,_,.str x=>rfl
 | _,_,.tup h r=>Dts.showable hk r
 | _,_,.lst h n m r=>Dts.showable hk r
 | _,_,.dic h=>rfl
theorem Dts.showable {H:Hp} (hk:k<1920):∀ {vs:List V} {ds:List PyData},Dts N H k vs ds→PyData.showableAll ds=true
 | _,_,.nil=>rfl
 | _,_,.cons r rs=>by
   show (_&&_)=true
   rw [Dt.showable hk r,Dts.showable hk rs];rfl
end
mutual
theorem Dt.shownLen {H:Hp} (hk:k<1920):∀ {v:V} {d:PyData},Dt N H k v d→d.shown.length≤2000*nz d
 | _,_,.non=>by decide +kernel
 | _,_,.bl true=>by decide +kernel
 | _,_,.bl false=>by decide +kernel
 | _,_,.int (i:=i) h=>by
   have:=int_text_length_le (by decide) (Xx h hk)
   show (Str.ofString (toString i)).length≤2000*1
   rw [PySem.ofString_length];omega
 | _,_,.str x=>by
   show (reprText x).length≤2000*(reprText x).length
   omega
 | _,_,.tup (ds:=ds) h r=>by
   have:=Dts.shownLen hk r
   have z:=tupleText_len_le (PyData.shownAll ds);rw [Zax] at z;show (tupleText (PyData.shownAll ds)).length≤2000*(1+Zah ds)
   omega
 | _,_,.lst (ds:=ds) h n m r=>by
   have:=Dts.shownLen hk r
   have z:=listText_len_le (PyData.shownAll ds);rw [Zax] at z;show (listText (PyData.shownAll ds)).length≤2000*(1+Zah ds)
   omega
 | _,_,.dic h=>by decide +kernel
theorem Dts.shownLen {H:Hp} (hk:k<1920):∀ {vs:List V} {ds:List PyData},Dts N H k vs ds→((PyData.shownAll ds).map (·.length)).sum+2*ds.length≤2000*Zah ds
 | _,_,.nil=>by simp [PyData.shownAll,Zah]
 | _,_,.cons r rs=>by
   have a:=Dt.shownLen hk r;have b:=Dts.shownLen hk rs;simp only [PyData.shownAll,Zah,n34_,List.sum_cons,n18_];omega
end
section
variable {X:Cx}
theorem Zec {j:Nat} (hr:Room j X.A):Yw X (.builtin "repr") (fun xs H Q=>∃ N k v d,xs=[v]∧Dt N H k v d∧k<1920∧d.depth≤20∧nz d≤8000∧Q (.str d.shown) H):=by
 intro pins s σ H xs us Q I r h;obtain ⟨N,k,v,d,rfl,rd,hk,h3,h4,q⟩:=h;have h1:=rd.showable hk
 have hz:d.shown.length≤sizeLine:=by
  have:=rd.shownLen hk
  have e:sizeLine=16777216:=sizeLine_eq;omega
 cases r with
 | cons rx r =>
   cases r
   have hu:=hr.un;have R:=Dt.reads I rd rx
   have go:∀ a,RelV v (Value.ref a)→wpAny (model X.prog X.w) X.A (call (.builtin "repr") [Value.ref a]) (EP X pins σ Q) X.xe s:=fun a rx=>by
    obtain ⟨as,ra,na⟩:=Dt.reads I rd rx;exact repr_of_reads' ra h1 (fun _=>na) hr.gd (by omega) (fun _ _ e=>e) (fun h' u tk hk=>⟨.str _,H,I.kept hk,⟨_,rfl⟩,q⟩) hz
   cases rd with
   | non=>cases (show _=Value.none from rx);exact PySem.P.repr_of_none ⟨.str _,H,I.tok _,⟨_,rfl⟩,q⟩
   | bl b=>cases (show _=Value.bool b from rx);exact PySem.P.repr_of_bool ⟨.str _,H,I.tok _,⟨_,rfl⟩,q⟩
   | int hi=>obtain ⟨t,rfl⟩:=(show ∃ t,_=Value.int _ t from rx);exact PySem.P.repr_of_int (Xx hi hk) ⟨.str _,H,I.tok _,⟨_,rfl⟩,q⟩
   | str x=>obtain ⟨t,rfl⟩:=(show ∃ t,_=Value.str x t from rx);exact PySem.P.repr_of_str ⟨.str _,H,I.tok _,⟨_,rfl⟩,q⟩ hz
   | tup h rs=>cases (show _=Value.ref _ from rx);exact go _ rx
   | lst h n m rs=>cases (show _=Value.ref _ from rx);exact go _ rx
   | dic h=>cases (show _=Value.ref _ from rx);exact go _ rx
end
end L2
namespace HT
open PySem PyProof.Rows
section
variable {prog:Program} {w:World} {A:Around} {E:Value→Shared→Prop} {s:Shared}
theorem getItem_tuple_whole {t sl:Addr} {items:Array Value} {vl vu:Value} {lo hi:Option Int} {Q:Value→Shared→Prop} (ht:IsTup s.heap t items) (hs:s.heap.IsSliceOf sl vl vu .none) (pl:IsPart vl lo) (pu:IsPart vu hi)
 (hw:sIx items.size 0 lo=0∧sIx items.size items.size hi=items.size)
 (h:Q (.ref t) s):wpAny (model prog w) A (getItem (.ref t) (.ref sl)) Q E s:=by
 obtain ⟨os,hos,hcs,hds⟩:=id hs;have hTs:s.TypeIs (.ref sl) "slice" := ⟨os,hos,hcs⟩;unfold getItem
 try with_reducible refine n36_ ?_
 first|refine n0_ (n3_ ?_)|skip
 refine n0_ (wpAny_sequenceKey ht.typeIs (by decide) ?_)
 refine n0_ (wpAny_callSpecial?_slot (name:=Str.ofString "__getitem__") ht.typeIs PyProof.Rows.slot_tuple_getitem
  (wpAny_call_entry PyProof.Rows.slot_tuple_getitem ht.typeIs entry_tuple_getitem ?_ (args_tuple_getitem _ _)))
 show wpAny _ _ (Builtin.Tuple.tupleItemsOf (.ref t) >>= _) _ _ s
 refine n0_ (tupleItemsOf_ ht ?_);refine n0_ (wpAny_typeOf hTs ?_);rw [if_pos (by decide)];refine n0_ (Zae hs pl pu ?_);rw [hw.1,hw.2];have hyes:(((0:Nat):Int) == 0&&(1:Int) == 1&&(items.size-0) == items.size)=true:=by simp
 show wpAny _ _ (if (((0:Nat):Int) == 0&&(1:Int) == 1&&(items.size-0) == items.size)=true then _ else _) _ _ s
 rw [if_pos hyes];have hx:(Builtin.Tuple.tupleIsExact (.ref t))=(do pure ((← typeOf (.ref t)) == .type "tuple")):=by first|rfl|(unfold Builtin.Tuple.tupleIsExact;rfl)
 rw [hx];refine n0_ (n0_ (wpAny_typeOf ht.typeIs (n3_ ?_)));rw [if_pos (by decide)];exact n0_ (wpAny_rule (n3_ ⟨_,rfl,n3_ h⟩))
end
end HT
namespace L2
open PySem PySem.Spec PyProof.Rows
section
variable {X:Cx} {e:Expr} {es:List Expr} {te:TE} {t:TA} {pos p2:Pos}
def rSlU:V→Option Int→Option Int→Hp→VK→Prop:=fun x lo hi H Q=>∃ a xs,x=.ref a∧H a=some (.tup xs)∧∀ p H',Same H H'→H' p=some (.tup (cutV xs lo hi))→Q (.ref p) H'
theorem Zmc:SlR X rSlU:=by
 intro pins s σ H x v vl vu lo hi sl Q I rx hs pl pu h;obtain ⟨a,xs,rfl,hx,q⟩:=h
 by_cases hw:HT.sIx xs.length 0 lo=0∧HT.sIx xs.length xs.length hi=xs.length
 · cases rx
   obtain ⟨its,r,ht,hz⟩:=I.tuple (SqT.of hx);have hlen:its.toArray.size=xs.length:=by rw [n8_];exact r.length.symm
   refine ⟨"tuple",_,PyProof.Rows.slot_tuple_getitem.lookup,ht.typeIs,?_⟩;refine HT.getItem_tuple_whole ht hs pl pu (by rw [hlen];exact hw) ⟨.ref a,H,I,rfl,q a H (Same.refl H) ?_⟩;unfold cutV;rw [hw.1,hw.2,List.drop_zero,Nat.sub_zero,n62_];exact hx
 · exact Zuz pins s σ H _ _ vl vu lo hi sl Q I rx hs pl pu ⟨a,xs,rfl,SqT.of hx,hw,fun p hp=>q p _ (Same.new hp) Zc⟩
end
def Yo (cells:List (Str×Addr)) (names:List (Str×NameKind)):List (Str×Addr):=((names.filter (fun y=>y.2 == .free)).map fun y=>(y.1,(cells.lookup y.1).getD 0)).reverse
theorem Zb2 {env:Env}:∀ (names:List (Str×NameKind)) (acc:List (Str×Addr)),(∀ y∈names,y.2=.free→∃ c,env.cells.lookup y.1=some c) →
 (forIn names acc (fun (x:Str×NameKind) (r:List (Str×Addr))=>do
   if x.2 == .free then do
    let a ← cellOf env x.1
    pure (ForInStep.yield ((x.1,a) :: r))
   else pure (ForInStep.yield r)):Sem (List (Str×Addr)))=pure (Yo env.cells names++acc)
 | [],acc,_=>rfl
 | (n,k) :: rest,acc,h=>by
   have ih:=fun acc=>Zb2 rest acc fun y hy=>h y (n17_ _ hy);rw [List.forIn_cons]
   by_cases hk:k=.free
   · subst hk;obtain ⟨c,hc⟩:=h (n,.free) n15_ rfl;have e:cellOf env n=pure c:=by unfold cellOf;rw [hc]
     have e2:Yo env.cells ((n,.free) :: rest)=Yo env.cells rest++[(n,c)]:=by
      unfold Yo;rw [List.filter_cons_of_pos (by rfl),n34_,List.reverse_cons,hc];rfl
     simp only [beq_self_eq_true,if_true,e,pure_bind];rw [ih,e2,n52_];rfl
   · have b:(k == NameKind.free)=false:=by simpa using hk
     have e2:Yo env.cells ((n,k) :: rest)=Yo env.cells rest:=by
      unfold Yo;rw [List.filter_cons_of_neg (by simpa using hk)]
     simp only [b,n16_,if_false,pure_bind];rw [ih,e2]
theorem Zci {scope:Scope} {env:Env} (h:∀ y∈scope.names,y.2=.free→∃ c,env.cells.lookup y.1=some c):closureFor scope env=pure (Yo env.cells scope.names):=by
 have e:=Zb2 scope.names [] h;rw [List.append_nil] at e;unfold closureFor
 first
  | (rw [← e];rfl)
  | (simp only [bind_pure];exact e)
  | simpa using e
section
variable {X:Cx}
theorem Zas {x:Str} {i:Int} {pos:Pos} (h:∃ t,X.mg x=some (.int i t)) (hg:Gl X x) (hd:(x == ("__debug__" : Str))=false:=by decide):PE X (.Name x pos) (tC (.int i)):=by
 obtain ⟨t,h⟩:=h;exact Zsu hg h ⟨t,rfl⟩ hd
end
section
variable {X:Cx} {pins:List (Addr×Obj)} {σ:List (Option V)} {H:Hp} {s:Shared} {h':Heap}
theorem Inv.turnNew {t':Nat} {ch:List Addr} {a:Addr} {o:HO} (I:Inv X pins σ H s) (k:∀ b u,b∉ch→s.heap.get? b=some u→h'.get? b=some u) (hf:∀ b∈ch,FpOk X pins H b)
 (ha:s.heap.objs.size≤a) (new:ObjOk X.prog X.w (upd H a o) h' a o):Inv X pins σ (upd H a o) { s with heap:=h',toks:=t' }:=by
 have fa:H a=none:=I.hok.fresh ha;have na:∀ b u,H b=some u→b≠a:=fun b u e=>Zi e fa;have nc:∀ b u,H b=some u→b∉ch:=fun b u e z=>by rw [(hf b z).1] at e;cases e
 have la:∀ b u,s.heap.get? b=some u→b≠a:=fun b u e=>n24_ (n20_ (n13_ e) ha)
 refine I.step (g':=s.gens) (d':=s.drawn) (ch:=ch) (fun b hb=>?_) (fun b u _ _ hc e _=>k b u hc e) (fun b u _ _ hc e _=>⟨u.slots,k b u hc e⟩) (fun b u _ e n=>by rw [Zh (la b u e)];exact n)
  (fun b u hc e=>⟨u,k b u hc e⟩) (fun b xs e=>by rw [Zh (na b _ e)];exact e) (fun b u v e=>by rw [Zh (na b _ e)];exact e) (fun b ps e=>⟨#[],by rw [Zh (na b _ e),e];simp⟩) (fun m hm=>?_) (fun b u e=>?_) I.bare
 · obtain ⟨f0,f1,f2,f3,f4,f5⟩:=hf b hb;exact ⟨f3,f1,f4,f5⟩
 · obtain ⟨u,es,ep,hu,r⟩:=hm;exact ⟨u,es,ep,k _ u (fun z=>(hf _ z).2.1 rfl) hu,r⟩
 · by_cases hb:b=a
   · subst hb;rw [Zc] at e;cases e;exact new
   · rw [Zh hb] at e;refine (I.hok b u e).stay (fun c v hc q=>k c v ?_ q) (fun c q=>by rw [Zh (na c _ q)];exact q) fun c xs q=>by rw [Zh (na c _ q)];exact q
     rcases hc with z|z
     · rw [z];exact nc b u e
     · exact nc c _ z
theorem Inv.turnOnly {t':Nat} {ch:List Addr} (I:Inv X pins σ H s) (k:∀ b u,b∉ch→s.heap.get? b=some u→h'.get? b=some u) (hf:∀ b∈ch,FpOk X pins H b):Inv X pins σ H { s with heap:=h',toks:=t' }:=by
 have nc:∀ b u,H b=some u→b∉ch:=fun b u e z=>by rw [(hf b z).1] at e;cases e
 refine I.step (g':=s.gens) (d':=s.drawn) (ch:=ch) (fun b hb=>?_) (fun b u _ _ hc e _=>k b u hc e) (fun b u _ _ hc e _=>⟨u.slots,k b u hc e⟩) (fun _ _ _ _ n=>n)
  (fun b u hc e=>⟨u,k b u hc e⟩) (fun _ _ e=>e) (fun _ _ _ e=>e) (fun b ps e=>⟨#[],by rw [e];simp⟩) (fun m hm=>?_) (fun b u e=>?_) I.bare
 · obtain ⟨f0,f1,f2,f3,f4,f5⟩:=hf b hb;exact ⟨f3,f1,f4,f5⟩
 · obtain ⟨u,es,ep,hu,r⟩:=hm;exact ⟨u,es,ep,k _ u (fun z=>(hf _ z).2.1 rfl) hu,r⟩
 · refine (I.hok b u e).stay (fun c v hc q=>k c v ?_ q) (fun _ q=>q) fun _ _ q=>q
   rcases hc with z|z
   · rw [z];exact nc b u e
   · exact nc c _ z
end
inductive SK where
 | l
 | t
def SK.Sq (K:PySem.W.Frag) (H:Hp) (a:Addr) (xs:List V):SK→Prop
 | .l=>SqL K H a xs
 | .t=>SqT K H a xs
def SK.Is (h:Heap) (a:Addr) (vs:Array Value):SK→Prop
 | .l=>h.IsList a vs
 | .t=>h.IsTuple a vs
def SK.It (h:Heap) (it a:Addr) (i:Nat):SK→Prop
 | .l=>h.IsListIter it a i
 | .t=>h.IsTupleIter it a i
def SK.name:SK→String
 | .l => "list_iterator"
 | .t => "tuple_iterator"
abbrev SK.obj (k:SK) (a:Addr):Obj:={ cls:=.type k.name,data:=.fields #[.ref a,.int 0 0] }
theorem SK.It.ex {k:SK} {h:Heap} {it a:Addr} {i:Nat} (x:k.It h it a i):∃ o,h.get? it=some o∧o.cls=.type k.name∧o.data=.fields #[.ref a,.int i 0]:=by
 cases k<;>exact x
theorem SK.It.of {k:SK} {h:Heap} {it a:Addr} {i:Nat} (x:∃ o,h.get? it=some o∧o.cls=.type k.name∧o.data=.fields #[.ref a,.int i 0]):k.It h it a i:=by
 cases k<;>exact x
theorem SK.It.at {k:SK} {h h':Heap} {it a:Addr} {i:Nat} (x:k.It h it a i) (f:∀ o,h.get? it=some o→h'.get? it=some o):k.It h' it a i:=by
 obtain ⟨o,e,r⟩:=x.ex;exact .of ⟨o,f o e,r⟩
theorem SK.Is.ex {k:SK} {h:Heap} {a:Addr} {vs:Array Value} (x:k.Is h a vs):∃ o n,h.get? a=some o∧o.data=.seq vs n:=by
 cases k with
 | l=>obtain ⟨o,e,_,n,d⟩:=(show h.IsList a vs from x);exact ⟨o,n,e,d⟩
 | t=>obtain ⟨o,e,_,n,d⟩:=(show h.IsTuple a vs from x);exact ⟨o,n,e,d⟩
theorem SK.Is.at {k:SK} {h h':Heap} {a:Addr} {vs:Array Value} (x:k.Is h a vs) (f:∀ o,h.get? a=some o→h'.get? a=some o):k.Is h' a vs:=by
 cases k with
 | l=>obtain ⟨o,e,r⟩:=(show h.IsList a vs from x);exact (⟨o,f o e,r⟩:h'.IsList a vs)
 | t=>obtain ⟨o,e,r⟩:=(show h.IsTuple a vs from x);exact (⟨o,f o e,r⟩:h'.IsTuple a vs)
theorem SK.Sq.is {k:SK} {X:Cx} {pins:List (Addr×Obj)} {σ:St} {H:Hp} {s:Shared} {a:Addr} {xs:List V} (q:k.Sq X.K H a xs) (I:Inv X pins σ H s):∃ its,Vals xs its∧k.Is s.heap a its.toArray:=by
 cases k with
 | l=>obtain ⟨its,rv,p,_⟩:=I.list (show SqL X.K H a xs from q);exact ⟨its,rv,p.isList⟩
 | t=>obtain ⟨its,rv,p,_⟩:=I.tuple (show SqT X.K H a xs from q);exact ⟨its,rv,p⟩
theorem SK.Sq.inj {k:SK} {X:Cx} {pins:List (Addr×Obj)} {σ:St} {H:Hp} {s:Shared} {a:Addr} {xs ys:List V} (q:k.Sq X.K H a xs) (r:k.Sq X.K H a ys) (I:Inv X pins σ H s):xs=ys:=by
 cases k with
 | l=>exact I.list_inj q r
 | t=>exact I.tuple_inj q r
section
variable {prog:Program} {w:World} {A:Around} {E:Value→Shared→Prop} {s:Shared}
theorem SK.draw {k:SK} {it a:Addr} {i:Nat} {vs:Array Value} {x:Value} {Q:Value→Shared→Prop} (hi:k.It s.heap it a i) (ha:k.Is s.heap a vs) (hx:vs[i]? = some x)
 (q:∀ h1,k.It h1 it a (i+1)→Heap.SameBut it s.heap h1→Q x { s with heap:=h1 }):wpAny (model prog w) A (n25_ (.ref it)) Q E s:=by
 cases k with
 | l=>exact wpAny_nextOf_list_item hi ha hx q
 | t =>
   have hi':s.heap.IsTupleIter it a i:=hi;obtain ⟨o,e,c,d⟩:=id hi';obtain ⟨oa,ea,_,n,da⟩:=(show s.heap.IsTuple a vs from ha);unfold n25_;refine n0_ (wpAny_callSpecial?_slot (name:=Str.ofString "__next__") hi'.typeIs F.slot_tuple_iterator_next (wpAny_call_entry F.slot_tuple_iterator_next hi'.typeIs F.entry_tuple_iterator_next ?_ (F.args_tuple_iterator_next_1 _)));refine n0_ (m:=field (.ref it) 0) (wpAny_field e d (x:=.ref a) rfl ?_);show wpAny _ _ (if (Value.ref a == Value.none)=true then _ else _) _ _ s
   rw [if_neg (show ¬ ((Value.ref a == Value.none)=true) from n22_)];refine n0_ (m:=field (.ref it) 1) (wpAny_field e d (x:=.int i 0) rfl ?_);refine n0_ (m:=seqItems? (.ref a)) (wpAny_seqItems ea da ?_);simp only [n59_,hx];refine n0_ (wpAny_setField e d (by simp) (n3_ ⟨x,rfl,n3_ (q _ (SK.It.of ?_) (Heap.SameBut.update ..))⟩));exact ⟨_,n48_ _ e (Obj.isFreed_of_fields (Obj.data_mapFields d _)),(Obj.cls_mapFields ..).trans c,by rw [Obj.data_mapFields d];simp [rawInt]⟩
theorem SK.dry {k:SK} {it a:Addr} {i:Nat} {vs:Array Value} {Q:Value→Shared→Prop} (hh:A.handled=none) (hi:k.It s.heap it a i) (ha:k.Is s.heap a vs) (hx:vs[i]? = none)
 (q:∀ h1 e,Heap.ExtBut it s.heap h1→(∃ o,h1.get? e=some o∧o.cls=.type "StopIteration")→E (.ref e) { s with heap:=h1 }):wpAny (model prog w) A (n25_ (.ref it)) Q E s:=by
 cases k with
 | l=>exact wpAny_nextOf_list_end hh hi ha hx q
 | t =>
   have hi':s.heap.IsTupleIter it a i:=hi;obtain ⟨o,e,c,d⟩:=id hi';obtain ⟨oa,ea,_,n,da⟩:=(show s.heap.IsTuple a vs from ha);unfold n25_;refine n0_ (wpAny_callSpecial?_slot (name:=Str.ofString "__next__") hi'.typeIs F.slot_tuple_iterator_next (wpAny_call_entry F.slot_tuple_iterator_next hi'.typeIs F.entry_tuple_iterator_next ?_ (F.args_tuple_iterator_next_1 _)));refine n0_ (m:=field (.ref it) 0) (wpAny_field e d (x:=.ref a) rfl ?_);show wpAny _ _ (if (Value.ref a == Value.none)=true then _ else _) _ _ s
   rw [if_neg (show ¬ ((Value.ref a == Value.none)=true) from n22_)];refine n0_ (m:=field (.ref it) 1) (wpAny_field e d (x:=.int i 0) rfl ?_);refine n0_ (m:=seqItems? (.ref a)) (wpAny_seqItems ea da ?_);simp only [n59_,hx];refine n0_ (wpAny_rule (n0_ (wpAny_setField e d (by simp) ?_)));refine n0_ (m:=newExc (.type "StopIteration") []) ?_;simp only [newExc,newTuple];refine n0_ (wpAny_newObj_type (n0_ (m:=firstArgMember _ _) (wpAny_of_eq (a:=Value.none) (by first|rfl|(simp only [firstArgMember];rfl)) (wpAny_newObj_type ?_ (by size_fits)))) (by size_fits));simp only [raiseNew];refine n0_ (wpAny_handled ?_)
   first|rw [show A.in1.handled=none from hh]|rw [hh]
   refine n0_ (n3_ (wpAny_throw (q _ _ (((Heap.SameBut.update ..).extBut.push _).push _) ⟨_,n9_ _ rfl,rfl⟩)))
theorem SK.iter {k:SK} {a:Addr} {vs:Array Value} {Q:Value→Shared→Prop} (ha:k.Is s.heap a vs) (q:Q (.ref s.heap.objs.size) { s with heap:=s.heap.push (k.obj a) }):wpAny (model prog w) A (pyIter (.ref a)) Q E s:=by
 cases k with
 | l=>exact wpAny_pyIter_list ha q
 | t=>exact wpAny_pyIter_tuple ha q
end
structure ZP (z t o i j a b:Addr):Prop where
 tz:t≠z
 oz:o≠z
 iz:i≠z
 jz:j≠z
 to:t≠o
 ti:t≠i
 tj:t≠j
 oi:o≠i
 oj:o≠j
 ij:i≠j
 az:a≠z
 ao:a≠o
 ai:a≠i
 aj:a≠j
 bz:b≠z
 bo:b≠o
 bi:b≠i
 bj:b≠j
section
variable {prog:Program} {w:World} {A:Around} {E:Value→Shared→Prop} {s:Shared} {k l:SK}
theorem Zpq {z t o i j a b:Addr} {m n:Nat} {xs ys:Array Value} {x y c d:Value} {Q:Value→Shared→Prop} (D:ZP z t o i j a b)
 (hz:IsZip s.heap z t o .none) (ht:IsPair s.heap t (.ref i) (.ref j)) (ho:IsPair s.heap o c d)
 (hi:k.It s.heap i a m) (hj:l.It s.heap j b n) (ha:k.Is s.heap a xs) (hb:l.Is s.heap b ys) (hx:xs[m]? = some x) (hy:ys[n]? = some y)
 (q:∀ h1,IsZip h1 z t o (rawInt s.heap.objs.size)→IsPair h1 o x y→k.It h1 i a (m+1)→l.It h1 j b (n+1)→IsPair h1 s.heap.objs.size x y→h1.objs.size=s.heap.objs.size+1 →
   (∀ e u,e≠z→e≠o→e≠i→e≠j→s.heap.get? e=some u→h1.get? e=some u)→Q (.ref s.heap.objs.size) { s with heap:=h1 }) :
 wpAny (model prog w) A (Builtin.«zip.__next__» ⟨[.ref z],[]⟩) (fun fin s'=>∃ v,fin=.done (.ret v)∧Q v s') E s:=by
 refine n0_ (m:=field (.ref z) 2) (wpAny_field hz rfl (x:=.bool false) rfl ?_);refine n0_ (m:=field (.ref z) 3) (wpAny_field hz rfl (x:=.ref t) rfl (n0_ (wpAny_seqItems ht rfl ?_)));refine n0_ (m:=n31_ (.ref z)) ?_;unfold n31_;refine n0_ (wpAny_field hz rfl (x:=.none) rfl (n3_ ?_));simp only [if_true];refine n0_ (wpAny_rule (n0_ (wpAny_field hz rfl (x:=.ref o) rfl (n0_ (wpAny_setField_rec hz (by simp) fun h1 z1 s1=>?_)))));replace z1:IsZip h1 z t o .ellipsis:=z1;refine n0_ ?_;simp only [List.zipIdx_cons,List.zipIdx_nil,List.forIn_cons,List.forIn_nil];refine n0_ (n0_ (wpAny_onRaise (n0_ (m:=n25_ (.ref i)) ?_)));refine SK.draw (hi.at fun u e=>s1.extBut _ _ D.iz e) (ha.at fun u e=>s1.extBut _ _ D.az e) hx fun h2 i2 s2=>n3_ ?_;have o2:IsPair h2 o c d:=s2.extBut _ _ D.oi (s1.extBut _ _ D.oz ho);refine n0_ (wpAny_seqItems o2 rfl (n0_ (wpAny_updateSeq_pair o2 fun h3 o3 s3=>?_)));replace o3:IsPair h3 o x d:=o3;refine n0_ (wpAny_letGo (n3_ (n0_ (n0_ (wpAny_onRaise (n0_ (m:=n25_ (.ref j)) ?_))))));refine SK.draw (hj.at fun u e=>s3.extBut _ _ D.oj.symm (s2.extBut _ _ D.ij.symm (s1.extBut _ _ D.jz e))) (hb.at fun u e=>s3.extBut _ _ D.bo (s2.extBut _ _ D.bi (s1.extBut _ _ D.bz e))) hy fun h4 j4 s4=>n3_ ?_;have o4:IsPair h4 o x d:=s4.extBut _ _ D.oj o3;refine n0_ (wpAny_seqItems o4 rfl (n0_ (wpAny_updateSeq_pair o4 fun h5 o5 s5=>?_)));replace o5:IsPair h5 o x y:=o5;refine n0_ (wpAny_letGo (n3_ (n3_ (n0_ (wpAny_seqItems o5 rfl (n0_ (wpAny_newTuple ?_)))))));have sz:h5.objs.size=s.heap.objs.size:=by rw [s5.1,s4.1,s3.1,s2.1,s1.1]
 have z5:IsZip h5 z t o .ellipsis:=s5.extBut _ _ D.oz.symm (s4.extBut _ _ D.jz.symm (s3.extBut _ _ D.oz.symm (s2.extBut _ _ D.iz.symm z1)));have k5:∀ e u,e≠z→e≠o→e≠i→e≠j→s.heap.get? e=some u→h5.get? e=some u:=fun e u e1 e2 e3 e4 g=>s5.extBut _ _ e2 (s4.extBut _ _ e4 (s3.extBut _ _ e2 (s2.extBut _ _ e3 (s1.extBut _ _ e1 g))));have i5:k.It h5 i a (m+1):=i2.at fun u e=>s5.extBut _ _ D.oi.symm (s4.extBut _ _ D.ij (s3.extBut _ _ D.oi.symm e));have j5:l.It h5 j b (n+1):=j4.at fun u e=>s5.extBut _ _ D.oj.symm e;have zl:z<h5.objs.size:=n13_ z5;refine n0_ (m:=Builtin.SmallTypes.ownedTupleHandOut (.ref z) (.ref h5.objs.size)) ?_;unfold Builtin.SmallTypes.ownedTupleHandOut;have z6:IsZip (h5.push { cls:=.type "tuple",data:=.seq #[x,y] }) z t o .ellipsis:=n2_ _ z5;refine n0_ (wpAny_setField_rec z6 (by simp) fun h7 z7 s7=>?_);replace z7:IsZip h7 z t o (rawInt h5.objs.size):=z7;refine wpAny_setField_rec z7 (by simp) fun h8 z8 s8=>?_;replace z8:IsZip h8 z t o (rawInt h5.objs.size):=z8;have up:∀ e u,e≠z→h5.get? e=some u→h8.get? e=some u:=fun e u e1 g=>s8.extBut _ _ e1 (s7.extBut _ _ e1 (n2_ _ g));have T8:IsPair h8 h5.objs.size x y:=s8.extBut _ _ (n61_ zl) (s7.extBut _ _ (n61_ zl) (n9_ _ rfl));have l8:h8.objs.size=h5.objs.size+1:=by rw [s8.1,s7.1,n42_]
 rw [sz] at z8 T8 l8;refine n3_ ⟨_,rfl,?_⟩;show Q (.ref h5.objs.size) _
 rw [sz];exact q h8 z8 (up _ _ D.oz o5) (i5.at fun u e=>up _ u D.iz e) (j5.at fun u e=>up _ u D.jz e) T8 l8 fun e u e1 e2 e3 e4 g=>up e u e1 (k5 e u e1 e2 e3 e4 g)
theorem Zrg {z t o i j a b:Addr} {m n:Nat} {xs ys:Array Value} {c d:Value} {Q:Fin→Shared→Prop} (hh:A.handled=none) (D:ZP z t o i j a b)
 (hz:IsZip s.heap z t o .none) (ht:IsPair s.heap t (.ref i) (.ref j)) (ho:IsPair s.heap o c d)
 (hi:k.It s.heap i a m) (hj:l.It s.heap j b n) (ha:k.Is s.heap a xs) (hb:l.Is s.heap b ys) (hx:xs[m]? = none∨ys[n]? = none)
 (q:∀ h1 e,(∀ e u,e≠z→e≠o→e≠i→e≠j→s.heap.get? e=some u→h1.get? e=some u)→(∃ u,h1.get? e=some u∧u.cls=.type "StopIteration")→E (.ref e) { s with heap:=h1 }) :
 wpAny (model prog w) A (Builtin.«zip.__next__» ⟨[.ref z],[]⟩) Q E s:=by
 refine n0_ (m:=field (.ref z) 2) (wpAny_field hz rfl (x:=.bool false) rfl ?_);refine n0_ (m:=field (.ref z) 3) (wpAny_field hz rfl (x:=.ref t) rfl (n0_ (wpAny_seqItems ht rfl ?_)));refine n0_ (m:=n31_ (.ref z)) ?_;unfold n31_;refine n0_ (wpAny_field hz rfl (x:=.none) rfl (n3_ ?_));simp only [if_true];refine n0_ (wpAny_rule (n0_ (wpAny_field hz rfl (x:=.ref o) rfl (n0_ (wpAny_setField_rec hz (by simp) fun h1 z1 s1=>?_)))));replace z1:IsZip h1 z t o .ellipsis:=z1;refine n0_ ?_;simp only [List.zipIdx_cons,List.zipIdx_nil,List.forIn_cons,List.forIn_nil];refine n0_ (n0_ (wpAny_onRaise (n0_ (m:=n25_ (.ref i)) ?_)));cases hm:xs[m]? with
 | none =>
   refine SK.dry hh (hi.at fun u e=>s1.extBut _ _ D.iz e) (ha.at fun u e=>s1.extBut _ _ D.az e) hm fun h2 e s2 ⟨u,g,cu⟩=>?_;have z2:IsZip h2 z t o .ellipsis:=s2 _ _ D.iz.symm z1;have ez:e≠z:=fun r=>by subst r;rw [z2] at g;cases g;simp at cu
   exact wpAny_setField_rec z2 (by simp) fun h3 _ s3=>q h3 e (fun e' u' e1 _ e3 _ r=>s3.extBut _ _ e1 (s2 _ _ e3 (s1.extBut _ _ e1 r))) ⟨u,s3.extBut _ _ ez g,cu⟩
 | some x =>
   have hn:ys[n]? = none:=by rcases hx with r|r;(rw [hm] at r;cases r);exact r
   refine SK.draw (hi.at fun u e=>s1.extBut _ _ D.iz e) (ha.at fun u e=>s1.extBut _ _ D.az e) hm fun h2 i2 s2=>n3_ ?_;have o2:IsPair h2 o c d:=s2.extBut _ _ D.oi (s1.extBut _ _ D.oz ho);refine n0_ (wpAny_seqItems o2 rfl (n0_ (wpAny_updateSeq_pair o2 fun h3 o3 s3=>?_)));refine n0_ (wpAny_letGo (n3_ (n0_ (n0_ (wpAny_onRaise (n0_ (m:=n25_ (.ref j)) ?_))))));refine SK.dry hh (hj.at fun u e=>s3.extBut _ _ D.oj.symm (s2.extBut _ _ D.ij.symm (s1.extBut _ _ D.jz e))) (hb.at fun u e=>s3.extBut _ _ D.bo (s2.extBut _ _ D.bi (s1.extBut _ _ D.bz e))) hn fun h4 e s4 ⟨u,g,cu⟩=>?_;have z4:IsZip h4 z t o .ellipsis:=s4 _ _ D.jz.symm (s3.extBut _ _ D.oz.symm (s2.extBut _ _ D.iz.symm z1));have ez:e≠z:=fun r=>by subst r;rw [z4] at g;cases g;simp at cu
   exact wpAny_setField_rec z4 (by simp) fun h5 _ s5=>q h5 e (fun e' u' e1 e2 e3 e4 r=>s5.extBut _ _ e1 (s4 _ _ e4 (s3.extBut _ _ e2 (s2.extBut _ _ e3 (s1.extBut _ _ e1 r))))) ⟨u,s5.extBut _ _ ez g,cu⟩
theorem Zex {z t o i j a b:Addr} {m n:Nat} {xs ys:Array Value} {x y c d:Value} {Q:Option Value→Shared→Prop} (D:ZP z t o i j a b)
 (hz:IsZip s.heap z t o .none) (ht:IsPair s.heap t (.ref i) (.ref j)) (ho:IsPair s.heap o c d)
 (hi:k.It s.heap i a m) (hj:l.It s.heap j b n) (ha:k.Is s.heap a xs) (hb:l.Is s.heap b ys) (hx:xs[m]? = some x) (hy:ys[n]? = some y)
 (q:∀ h1,IsZip h1 z t o (rawInt s.heap.objs.size)→IsPair h1 o x y→k.It h1 i a (m+1)→l.It h1 j b (n+1)→IsPair h1 s.heap.objs.size x y→h1.objs.size=s.heap.objs.size+1 →
   (∀ e u,e≠z→e≠o→e≠i→e≠j→s.heap.get? e=some u→h1.get? e=some u)→Q (some (.ref s.heap.objs.size)) { s with heap:=h1 }) :
 wpAny (model prog w) A (pyNext (.ref z)) Q E s:=by
 have hT:s.TypeIs (.ref z) "zip" := ⟨_,hz,rfl⟩;unfold pyNext
 exact n0_ (wpAny_attempt (wpAny_callSpecial?_slot (name:=Str.ofString "__next__") hT F.slot_zip_next (wpAny_call_entry F.slot_zip_next hT F.entry_zip_next
  (Zpq D hz ht ho hi hj ha hb hx hy fun h1 r1 r2 r3 r4 r5 r6 r7=>n3_ (q h1 r1 r2 r3 r4 r5 r6 r7)) (F.args_zip_next_1 _))))
theorem Zfs {z t o i j a b:Addr} {m n:Nat} {xs ys:Array Value} {c d:Value} {Q:Option Value→Shared→Prop} (hh:A.handled=none) (D:ZP z t o i j a b)
 (hz:IsZip s.heap z t o .none) (ht:IsPair s.heap t (.ref i) (.ref j)) (ho:IsPair s.heap o c d)
 (hi:k.It s.heap i a m) (hj:l.It s.heap j b n) (ha:k.Is s.heap a xs) (hb:l.Is s.heap b ys) (hx:xs[m]? = none∨ys[n]? = none)
 (q:∀ h1,(∀ e u,e≠z→e≠o→e≠i→e≠j→s.heap.get? e=some u→h1.get? e=some u)→Q none { s with heap:=h1 }) :
 wpAny (model prog w) A (pyNext (.ref z)) Q E s:=by
 have hT:s.TypeIs (.ref z) "zip" := ⟨_,hz,rfl⟩;unfold pyNext
 refine n0_ (wpAny_attempt (wpAny_callSpecial?_slot (name:=Str.ofString "__next__") hT F.slot_zip_next (wpAny_call_entry F.slot_zip_next hT F.entry_zip_next
  (Zrg hh D hz ht ho hi hj ha hb hx fun h1 e r1 ⟨u,g,cu⟩=>?_) (F.args_zip_next_1 _))))
 exact n0_ (wpAny_isInstance (T := "StopIteration") (b:=true) ⟨u,g,cu⟩ isSubtype_stop (n3_ (q _ r1)))
abbrev zp1 (k:SK) (h:Heap) (a:Addr):Heap:=h.push (k.obj a)
abbrev zp2 (k l:SK) (h:Heap) (a b:Addr):Heap:=(zp1 k h a).push (l.obj b)
abbrev zp3 (k l:SK) (h:Heap) (a b:Addr):Heap:=(zp2 k l h a b).push { cls:=.type "tuple",data:=.seq #[.ref h.objs.size,.ref (zp1 k h a).objs.size] }
abbrev zp4 (k l:SK) (h:Heap) (a b:Addr):Heap:=(zp3 k l h a b).push { cls:=.type "tuple",data:=.seq #[.none,.none] }
abbrev zp5 (k l:SK) (h:Heap) (a b:Addr):Heap:=(zp4 k l h a b).push { cls:=.type "zip",data:=.fields #[.none,.bool false,.bool false,.ref (zp2 k l h a b).objs.size,.ref (zp3 k l h a b).objs.size] }
theorem Zlw (k l:SK) (a b:Addr) (xs ys:Array Value):Meets (Builtin.«zip.__new__» ⟨[.type "zip",.ref a,.ref b],[]⟩) (fun _ R s=>k.Is s.heap a xs∧l.Is s.heap b ys∧R (.ok (.ret (.ref (zp4 k l s.heap a b).objs.size))) { s with heap:=zp5 k l s.heap a b }) :=
 .of_wp fun prog w A R s h=>by
  obtain ⟨hp,g,d,tk,os⟩:=s;obtain ⟨h1,h2,h⟩:=h;have hsub:=sub_zip;have r1:k.Is (Shared.heap ⟨hp,g,d,tk,os⟩) a xs:=h1;have r2:l.Is (Shared.heap ⟨hp.push (k.obj a),g,d,tk,os⟩) b ys:=SK.Is.at h2 fun o e=>n2_ _ e
  wp_walk using SK.iter r1,SK.iter r2
  exact ⟨_,rfl,h⟩
theorem Zjt {a b:Addr} {xs ys:Array Value} {Q:Value→Shared→Prop} (ha:k.Is s.heap a xs) (hb:l.Is s.heap b ys)
 (q:∀ h1,IsZip h1 (s.heap.objs.size+4) (s.heap.objs.size+2) (s.heap.objs.size+3) .none→IsPair h1 (s.heap.objs.size+2) (.ref s.heap.objs.size) (.ref (s.heap.objs.size+1)) →
   IsPair h1 (s.heap.objs.size+3) .none .none→k.It h1 s.heap.objs.size a 0→l.It h1 (s.heap.objs.size+1) b 0→h1.objs.size=s.heap.objs.size+5 →
   (∀ c o,s.heap.get? c=some o→h1.get? c=some o)→Q (.ref (s.heap.objs.size+4)) { s with heap:=h1 }) :
 wpAny (model prog w) A (call (.type "zip") [.ref a,.ref b]) Q E s:=by
 refine callType_new F.called_zip (by decide) (F.typeCall_zip_2 _ _) (F.newCall_zip_2 _ _) (fun obj=>F.args_object_init_3 obj _ _) F.entry_zip_new (Zlw k l a b xs ys) ⟨ha,hb,?_⟩;have n1:(zp1 k s.heap a).objs.size=s.heap.objs.size+1:=n42_ ..;have n2:(zp2 k l s.heap a b).objs.size=s.heap.objs.size+2:=by rw [n42_,n1]
 have n3:(zp3 k l s.heap a b).objs.size=s.heap.objs.size+3:=by rw [n42_,n2]
 have n4:(zp4 k l s.heap a b).objs.size=s.heap.objs.size+4:=by rw [n42_,n3]
 have n5:(zp5 k l s.heap a b).objs.size=s.heap.objs.size+5:=by rw [n42_,n4]
 have m5:(zp5 k l s.heap a b).get? (zp4 k l s.heap a b).objs.size=some _:=n9_ _ rfl;have m4:(zp5 k l s.heap a b).get? (zp3 k l s.heap a b).objs.size=some _:=n2_ _ (n9_ _ rfl);have m3:(zp5 k l s.heap a b).get? (zp2 k l s.heap a b).objs.size=some _:=n2_ _ (n2_ _ (n9_ _ rfl));have m2:(zp5 k l s.heap a b).get? (zp1 k s.heap a).objs.size=some _:=n2_ _ (n2_ _ (n2_ _ (n9_ _ rfl)));have m1:(zp5 k l s.heap a b).get? s.heap.objs.size=some _:=n2_ _ (n2_ _ (n2_ _ (n2_ _ (n9_ _ rfl))));show _∧_
 rw [n2,n3,n4] at m5;rw [n1,n2] at m3;rw [n3] at m4;rw [n1] at m2;rw [n4];exact ⟨⟨_,m5,rfl⟩,q _ m5 m3 m4 (.of ⟨_,m1,rfl,rfl⟩) (.of ⟨_,m2,rfl,rfl⟩) n5 fun c o e=>n2_ _ (n2_ _ (n2_ _ (n2_ _ (n2_ _ e))))⟩
end
def Itz (k l:SK) (K:PySem.W.Frag) (a b:Addr):It :=
 ⟨fun i H=>∃ xs ys x y,k.Sq K H a xs∧l.Sq K H b ys∧xs[i]? = some x∧ys[i]? = some y,
  fun i H v H'=>∃ p x y,v=.ref p∧H p=none∧H'=upd H p (.tup [x,y])∧(∀ xs,k.Sq K H a xs→xs[i]? = some x)∧∀ ys,l.Sq K H b ys→ys[i]? = some y,
  fun i H=>∃ xs ys,k.Sq K H a xs∧l.Sq K H b ys∧(xs.length≤i∨ys.length≤i)⟩
theorem Zo3 {P:Program} {w:World} {K:PySem.W.Frag} {es:List Expr} {x1:Nat} {tp:Pos} {k l:SK} {z t o i j a b:Addr} (D:ZP z t o i j a b) :
 Turn P w K (.Tuple es x1 tp) (Itz k l K a b) [z,t,o,i,j] z (fun n h=>IsZip h z t o .none∧IsPair h t (.ref i) (.ref j)∧(∃ c d,IsPair h o c d)∧k.It h i a n∧l.It h j b n) where
 mem:=by simp
 obj:=fun n h st e he=>by
  obtain ⟨h1,h2,⟨c,d,h3⟩,h4,h5⟩:=st;simp only [n11_,n12_,or_false] at he
  rcases he with rfl|rfl|rfl|rfl|rfl
  · exact ⟨_,h1,fun v q=>by cases (show Data.fields _=Data.cell v from q)⟩
  · exact ⟨_,h2,fun v q=>by cases (show Data.seq _ _=Data.cell v from q)⟩
  · exact ⟨_,h3,fun v q=>by cases (show Data.seq _ _=Data.cell v from q)⟩
  · obtain ⟨u,e,_,q⟩:=h4.ex;exact ⟨u,e,fun v r=>by rw [q] at r;cases r⟩
  · obtain ⟨u,e,_,q⟩:=h5.ex;exact ⟨u,e,fun v r=>by rw [q] at r;cases r⟩
 keep:=fun n h h' st f=>by
  obtain ⟨h1,h2,⟨c,d,h3⟩,h4,h5⟩:=st;exact ⟨f z (by simp) _ h1,f t (by simp) _ h2,⟨c,d,f o (by simp) _ h3⟩,h4.at fun u e=>f i (by simp) u e,h5.at fun u e=>f j (by simp) u e⟩
 item:=by
  intro X hP hw hK hc n pins s σ H E I hf st hg;subst hP hw hK;obtain ⟨h1,h2,⟨c,d,h3⟩,h4,h5⟩:=st;obtain ⟨xs,ys,x,y,q1,q2,hx,hy⟩:=hg;obtain ⟨us,ru,pu⟩:=q1.is I;obtain ⟨vs,rv,pv⟩:=q2.is I;obtain ⟨u,hu,ux⟩:=ru.get hx;obtain ⟨v,hv,vy⟩:=rv.get hy;have lt:∀ {e o'},s.heap.get? e=some o'→e≠s.heap.objs.size:=fun e=>n24_ (n13_ e);refine Zex D h1 h2 h3 h4 h5 pu pv (x:=u) (y:=v) (by simpa using hu) (by simpa using hv) fun g r1 r2 r3 r4 r5 r6 r7=>?_;refine ⟨_,rfl,wpAny_letOwnedTupleGo_zip r1 fun g2 z2 s2=>?_⟩;have hp:H s.heap.objs.size=none:=I.hok.fresh (n10_ _);have T2:IsPair g2 s.heap.objs.size u v:=s2.extBut _ _ (Ne.symm (lt h1)) r5
  have I2:Inv X pins σ (upd H s.heap.objs.size (.tup [x,y])) { s with heap:=g2,toks:=s.toks }:=by
   refine I.turnNew (ch:=[z,o,i,j]) (fun e o' ne q=>?_) (fun e he=>hf e ?_) (n10_ _) ⟨z2_,[u,v],.cons ux (.cons vy .nil),⟨_,T2,rfl,_,rfl⟩⟩
   · simp only [n11_,n12_,or_false,not_or] at ne;exact s2.extBut _ _ ne.1 (r7 e o' ne.1 ne.2.1 ne.2.2.1 ne.2.2.2 q)
   · simp only [n11_,n12_,or_false] at he ⊢
     rcases he with q|q|q|q<;>simp [q]
  refine ⟨.ref s.heap.objs.size,_,I2,rfl,⟨_,x,y,rfl,hp,rfl,fun xs' q=>by rw [q.inj q1 I];exact hx,fun ys' q=>by rw [q.inj q2 I];exact hy⟩,⟨z2,?_,⟨u,v,s2.extBut _ _ D.oz r2⟩,r3.at fun u' e=>s2.extBut _ _ D.iz e,r4.at fun u' e=>s2.extBut _ _ D.jz e⟩,fun e he=>?_⟩
  · exact s2.extBut _ _ D.tz (r7 _ _ D.tz D.to D.ti D.tj h2)
  · have ne:e≠s.heap.objs.size:=by
     simp only [n11_,n12_,or_false] at he
     rcases he with rfl|rfl|rfl|rfl|rfl
     · exact lt h1
     · exact lt h2
     · exact lt h3
     · obtain ⟨_,q,_⟩:=h4.ex;exact lt q
     · obtain ⟨_,q,_⟩:=h5.ex;exact lt q
    rw [Zh ne];exact (hf e he).1
 done:=by
  intro X hP hw hK hc n pins s σ H E I hf st hg;subst hP hw hK;obtain ⟨h1,h2,⟨c,d,h3⟩,h4,h5⟩:=st;obtain ⟨xs,ys,q1,q2,hl⟩:=hg;obtain ⟨us,ru,pu⟩:=q1.is I;obtain ⟨vs,rv,pv⟩:=q2.is I;have e1:=ru.length;have e2:=rv.length;refine Zfs (I.ok.hd hc) D h1 h2 h3 h4 h5 pu pv ?_ fun g r=>⟨rfl,?_⟩
  · rcases hl with q|q
    · left;simp;omega
    · right;simp;omega
  · refine I.turnOnly (t':=s.toks) (ch:=[z,o,i,j]) (fun e o' ne q=>?_) (fun e he=>hf e ?_)
    · simp only [n11_,n12_,or_false,not_or] at ne;exact r e o' ne.1 ne.2.1 ne.2.2.1 ne.2.2.2 q
    · simp only [n11_,n12_,or_false] at he ⊢
      rcases he with q|q|q|q<;>simp [q]
 self:=fun _ _ _ _ _ st h=>wpAny_pyIter_zip st.1 h
theorem Zq0 {n a b:Addr} (la:a<n) (lb:b<n):ZP (n+4) (n+2) (n+3) n (n+1) a b:=by
 constructor<;>(intro h;have h':@Eq Nat _ _:=h;have la':@LT.lt Nat _ _ _:=la;have lb':@LT.lt Nat _ _ _:=lb;clear h la lb;omega)
theorem Zgl:bootBuiltins "zip" = some (.type "zip"):=by decide +kernel
section
variable {X:Cx} {es:List Expr} {x1:Nat} {tp:Pos}
def iZip (k l:SK) (K:PySem.W.Frag) (ta:TA):TI:=fun σ H R=>ta σ H fun vs H1=>∃ a b,vs=[.ref a,.ref b]∧(∃ xs,k.Sq K H1 a xs)∧(∃ ys,l.Sq K H1 b ys)∧R (Itz k l K a b) H1
theorem Inv.fps {pins:List (Addr×Obj)} {σ:St} {H:Hp} {s:Shared} (I:Inv X pins σ H s) {fp:List Addr} (h:∀ b∈fp,s.heap.objs.size≤b):∀ b∈fp,FpOk X pins H b:=fun b hb=>I.fpOk (h b hb) (I.hok.fresh (h b hb))
theorem Zqq (k l:SK) {a b:Expr} {ta:TA} {p pos:Pos} (hg:Gl X "zip") (hm:X.mg "zip" = none) (ha:PA X [a,b] ta) (hs:starEach [a,b] X.env=[(false,eval a X.env),(false,eval b X.env)]:=by rfl) (hs2:starEach [b] X.env=[(false,eval b X.env)]:=by rfl) :
 PI X (.Tuple es x1 tp) (.Call (.Name "zip" p) [a,b] [] pos) (iZip k l X.K ta):=by
 intro pins s σ H R I h;refine Call_ (Zbf I hg hm Zgl (n55_ (thn (ha pos pins s σ H _ I h) fun us s1 ⟨vs,H1,I1,r1,q1⟩=>?_) (by rw [hs,hs2]) (by rw [hs2];rfl)));obtain ⟨a,b,e,⟨xs,hx⟩,⟨ys,hy⟩,q⟩:=q1;subst e;cases r1 with
 | cons r rr =>
   cases rr with
   | cons r' rr =>
     cases rr
     cases r
     cases r'
     obtain ⟨us,ru,pu⟩:=hx.is I1;obtain ⟨ws,rw',pw⟩:=hy.is I1;have la:a<s1.heap.objs.size:=by obtain ⟨_,_,e,_⟩:=pu.ex;exact n13_ e
     have lb:b<s1.heap.objs.size:=by obtain ⟨_,_,e,_⟩:=pw.ex;exact n13_ e
     refine Zjt pu pw fun h1 m1 m2 m3 m4 m5 m6 m7=>wpAny_pyIter_zip m1 ?_;have I2:Inv X pins σ H1 { s1 with heap:=h1,toks:=s1.toks }:=I1.kept m7;refine ⟨_,_,_,_,H1,rfl,I2,Zo3 (z:=s1.heap.objs.size+4) (t:=s1.heap.objs.size+2) (o:=s1.heap.objs.size+3) (i:=s1.heap.objs.size) (j:=s1.heap.objs.size+1) (k:=k) (l:=l) (a:=a) (b:=b) ?_,⟨m1,m2,⟨_,_,m3⟩,m4,m5⟩,?_,q⟩
     · exact Zq0 la lb
     · have f1:=I1.fps (fp:=[s1.heap.objs.size+4,s1.heap.objs.size+2,s1.heap.objs.size+3,s1.heap.objs.size,s1.heap.objs.size+1]) (by
        intro e he;simp only [n11_,n12_,or_false] at he
        rcases he with rfl|rfl|rfl|rfl|rfl<;>omega)
       exact f1
end
def Ite (k:SK) (K:PySem.W.Frag) (a:Addr):It :=
 ⟨fun i H=>∃ xs x,k.Sq K H a xs∧xs[i]? = some x,
  fun i H v H'=>∃ p x,v=.ref p∧H p=none∧H'=upd H p (.tup [.int i,x])∧∀ xs,k.Sq K H a xs→xs[i]? = some x,
  fun i H=>∃ xs,k.Sq K H a xs∧xs.length=i⟩
theorem SK.draws {prog:Program} {w:World} {A:Around} {k:SK} (hh:A.handled=none) (it a:Addr) (ne:a≠it) (vs:Array Value):Draws prog w A it [it,a] vs.size (fun i v=>vs[i]? = some v) (fun i h=>k.It h it a i∧k.Is h a vs) where
 live:=fun _ _ st=>let ⟨o,e,_⟩:=st.1.ex;⟨o,e⟩
 frame:=fun _ _ _ st f=>⟨st.1.at fun o e=>f it (by simp) o e,st.2.at fun o e=>f a (by simp) o e⟩
 item:=fun i s Q E hi st q=>SK.draw st.1 st.2 (x:=vs[i]) (by simp [hi]) fun h1 r1 r2=>q _ h1 s.toks (by simp [hi]) ⟨r1,st.2.at fun o e=>r2.extBut _ _ ne e⟩ r2
 done:=fun s Q E st q=>SK.dry hh st.1 st.2 (by simp) q
theorem Zn2 {P:Program} {w:World} {K:PySem.W.Frag} {es:List Expr} {x1:Nat} {tp:Pos} {k:SK} {e it a:Addr} (n1:e≠it) (n2:a≠e) (n3:a≠it) :
 Turn P w K (.Tuple es x1 tp) (Ite k K a) [e,it] e (fun n h=>(∃ old,IsEnum h e it n old)∧k.It h it a n) where
 mem:=by simp
 obj:=fun n h st b hb=>by
  obtain ⟨⟨old,h1⟩,h2⟩:=st;simp only [n11_,n12_,or_false] at hb
  rcases hb with rfl|rfl
  · exact ⟨_,h1,fun v q=>by cases (show Data.fields _=Data.cell v from q)⟩
  · obtain ⟨u,e,_,q⟩:=h2.ex;exact ⟨u,e,fun v r=>by rw [q] at r;cases r⟩
 keep:=fun n h h' st f=>by
  obtain ⟨⟨old,h1⟩,h2⟩:=st;exact ⟨⟨old,f e (by simp) _ h1⟩,h2.at fun u q=>f it (by simp) u q⟩
 item:=by
  intro X hP hw hK hc n pins s σ H E I hf st hg;subst hP hw hK;obtain ⟨⟨old,h1⟩,h2⟩:=st;obtain ⟨xs,x,q1,hx⟩:=hg;obtain ⟨us,ru,pu⟩:=q1.is I;obtain ⟨u,hu,ux⟩:=ru.get hx;have lt:∀ {b o'},s.heap.get? b=some o'→b≠s.heap.objs.size:=fun e=>n24_ (n13_ e);have hlen:n<us.toArray.size:=by have:=(n14_.mp hu).1;simpa using this
  refine wpAny_pyNext_enum_itemD (SK.draws (k:=k) (show X.A.in1.handled=none from I.ok.hd hc) it a n3 us.toArray) h1 ⟨h2,pu⟩ hlen n1 (by simp [n1,n2.symm]) fun v g tk hv r1 r2 r3 r4 r5=>?_
  have ev:v=u:=by
   have:us[n]? = some v:=by simpa using hv
   rw [hu] at this;exact (Option.some.inj this).symm
  subst ev;refine ⟨_,rfl,wpAny_letOwnedTupleGo_enum r1 fun g2 z2 s2=>?_⟩;have hp:H s.heap.objs.size=none:=I.hok.fresh (n10_ _);have T2:g2.get? s.heap.objs.size=some { cls:=.type "tuple",data:=.seq #[.int n tk,v] }:=s2.extBut _ _ (Ne.symm (lt h1)) r3
  have I2:Inv X pins σ (upd H s.heap.objs.size (.tup [.int n,x])) { s with heap:=g2,toks:=tk+1 }:=by
   refine I.turnNew (ch:=[e,it]) (fun b o' ne q=>?_) (fun b hb=>hf b hb) (n10_ _) ⟨z2_,[.int n tk,v],.cons ⟨tk,rfl⟩ (.cons ux .nil),⟨_,T2,rfl,_,rfl⟩⟩;simp only [n11_,n12_,or_false,not_or] at ne;exact s2.extBut _ _ ne.1 (r5 b o' ne.1 ne.2 q)
  refine ⟨.ref s.heap.objs.size,_,I2,rfl,⟨_,x,rfl,hp,rfl,fun xs' q=>by rw [q.inj q1 I];exact hx⟩,⟨⟨v,by simpa using z2⟩,r2.1.at fun u' q=>s2.extBut _ _ n1.symm q⟩,fun b hb=>?_⟩
  have ne:b≠s.heap.objs.size:=by
   simp only [n11_,n12_,or_false] at hb
   rcases hb with rfl|rfl
   · exact lt h1
   · obtain ⟨_,q,_⟩:=h2.ex;exact lt q
  rw [Zh ne];exact (hf b hb).1
 done:=by
  intro X hP hw hK hc n pins s σ H E I hf st hg;subst hP hw hK;obtain ⟨⟨old,h1⟩,h2⟩:=st;obtain ⟨xs,q1,hl⟩:=hg;obtain ⟨us,ru,pu⟩:=q1.is I;have e1:=ru.length;have en:us.toArray.size=n:=by rw [n8_];omega
  subst en;have D:=SK.draws (prog:=X.prog) (w:=X.w) (k:=k) (show X.A.in1.handled=none from I.ok.hd hc) it a n3 us.toArray;refine wpAny_pyNext_enum_endD D h1 ⟨h2,pu⟩ fun g r=>⟨rfl,?_⟩;exact I.turnOnly (t':=s.toks) (ch:=[it]) (fun b o' ne q=>r b o' (by simpa using ne) q) (fun b hb=>hf b (by simp at hb;simp [hb]))
 self:=fun _ _ _ _ _ st h=>by obtain ⟨⟨old,h1⟩,_⟩:=st;exact wpAny_pyIter_enum h1 h
open AutoSeq1 (wpAny_loadPart')
abbrev X5 (it:Addr):Obj:={ cls:=.type "enumerate",data:=.fields #[.none,.bool false,.ref it,rawInt 0,.none,.none] }
theorem Zk1 (k:SK) (a:Addr) (vs:Array Value) (o:Obj):Meets (Builtin.«enumerate.__new__» ⟨[.type "enumerate",.ref a],[]⟩) (fun _ R s=>s.heap.get? a=some o∧k.Is s.heap a vs ∧
 R (.ok (.ret (.ref (s.heap.push (k.obj a)).objs.size))) { s with heap:=(s.heap.push (k.obj a)).push (X5 s.heap.objs.size) }) :=
 .of_wp fun prog w A R s h=>by
  obtain ⟨hp,g,d,tk,os⟩:=s;obtain ⟨ho,hk,h⟩:=h;have hsub:=sub_enumerate;have r1:k.Is (Shared.heap ⟨hp,g,d,tk,os⟩) a vs:=hk
  wp_walk using wpAny_loadPart' ho
  refine wpAny_stack_any fun st=>n3_ ?_;split
  · rename_i c _ _ _ _ _
    cases (c == Value.type "enumerate")
    · (wp_walk using wpAny_loadPart' ho,SK.iter r1);exact ⟨_,rfl,h⟩
    · (wp_walk using wpAny_loadPart' ho,SK.iter r1);exact ⟨_,rfl,h⟩
  · (wp_walk using wpAny_loadPart' ho,SK.iter r1);exact ⟨_,rfl,h⟩
section
variable {prog:Program} {w:World} {A:Around} {E:Value→Shared→Prop} {s:Shared} {k:SK}
theorem Zmk {a:Addr} {vs:Array Value} {Q:Value→Shared→Prop} (ha:k.Is s.heap a vs)
 (q:∀ h1,IsEnum h1 (s.heap.objs.size+1) s.heap.objs.size 0 .none→k.It h1 s.heap.objs.size a 0→(∀ b o,s.heap.get? b=some o→h1.get? b=some o)→Q (.ref (s.heap.objs.size+1)) { s with heap:=h1 }) :
 wpAny (model prog w) A (call (.type "enumerate") [.ref a]) Q E s:=by
 obtain ⟨o,n,e,d⟩:=ha.ex;refine callType_new F.called_enumerate (by decide) (F.typeCall_enumerate_1 _) (F.newCall_enumerate_1 _) (fun obj=>F.args_object_init_2 obj _) F.entry_enumerate_new (Zk1 k a vs o) ⟨e,ha,?_⟩;have n1:(s.heap.push (k.obj a)).objs.size=s.heap.objs.size+1:=n42_ ..;have m2:((s.heap.push (k.obj a)).push (X5 s.heap.objs.size)).get? (s.heap.push (k.obj a)).objs.size=some (X5 s.heap.objs.size):=n9_ _ rfl;have m1:((s.heap.push (k.obj a)).push (X5 s.heap.objs.size)).get? s.heap.objs.size=some (k.obj a):=n2_ _ (n9_ _ rfl);show _∧_
 rw [n1] at m2;rw [n1];exact ⟨⟨_,m2,rfl⟩,q _ m2 (.of ⟨_,m1,rfl,rfl⟩) fun b o' r=>n2_ _ (n2_ _ r)⟩
end
theorem Zdu:bootBuiltins "enumerate" = some (.type "enumerate"):=by decide +kernel
section
variable {X:Cx} {es:List Expr} {x1:Nat} {tp:Pos}
def Zu5 (k:SK) (K:PySem.W.Frag) (ta:TA):TI:=fun σ H R=>ta σ H fun vs H1=>∃ a,vs=[.ref a]∧(∃ xs,k.Sq K H1 a xs)∧R (Ite k K a) H1
theorem ne3 {n a:Addr} (la:a<n):n+1≠n∧a≠n+1∧a≠n:=by
 have la':@LT.lt Nat _ a n:=la;refine ⟨fun h=>?_,fun h=>?_,fun h=>?_⟩<;>(have h':@Eq Nat _ _:=h;clear h la;omega)
theorem Zeh (k:SK) {a:Expr} {ta:TA} {p pos:Pos} (hg:Gl X "enumerate") (hm:X.mg "enumerate" = none) (ha:PA X [a] ta) (hs:starEach [a] X.env=[(false,eval a X.env)]:=by rfl) :
 PI X (.Tuple es x1 tp) (.Call (.Name "enumerate" p) [a] [] pos) (Zu5 k X.K ta):=by
 intro pins s σ H R I h;refine Call_ (Zbf I hg hm Zdu (n55_ (thn (ha pos pins s σ H _ I h) fun us s1 ⟨vs,H1,I1,r1,q1⟩=>?_) hs rfl));obtain ⟨a,e,⟨xs,hx⟩,q⟩:=q1;subst e;cases r1 with
 | cons r rr =>
   cases rr
   cases r
   obtain ⟨us,ru,pu⟩:=hx.is I1;have la:a<s1.heap.objs.size:=by obtain ⟨_,_,e,_⟩:=pu.ex;exact n13_ e
   refine Zmk pu fun h1 m1 m4 m7=>wpAny_pyIter_enum m1 ?_;have I2:Inv X pins σ H1 { s1 with heap:=h1,toks:=s1.toks }:=I1.kept m7;obtain ⟨z1,z2,z3⟩:=ne3 la;refine ⟨_,_,_,_,H1,rfl,I2,Zn2 (e:=s1.heap.objs.size+1) (it:=s1.heap.objs.size) (k:=k) (a:=a) z1 z2 z3,⟨⟨_,m1⟩,m4⟩,?_,q⟩
   exact I1.fps (fp:=[s1.heap.objs.size+1,s1.heap.objs.size]) (by
    intro e he;simp only [n11_,n12_,or_false] at he
    rcases he with rfl|rfl
    · exact Nat.le_succ _
    · exact n10_ _)
end
theorem Zgm {J:It} {n:Nat} {D:Addr} {g:TG} {tt:TT} {te:TE} {σ0:St} {H:Hp} {Q:VK} (Pv:Nat→St→Hp→Prop) (h0:Pv 0 σ0 (upd H D (.lst [])))
 (hx:∀ i σ H,i<n→Pv i σ H→J.go i H) (hz:∀ σ H,Pv n σ H→J.stop n H)
 (hs:∀ i x σ2 H2 H3,i<n→J.yld i H2 x H3→Pv i σ2 H2→g x σ2 H3 fun σ4 H4=>tt σ4 H4 fun b H5=>if b=true then te σ4 H5 fun y H6=>∃ ys,H6 D=some (.lst ys)∧ys.length<sizeLine ∧
   ∃ m',m'<n-i∧LcN n Pv (i+1) m' σ4 (upd H6 D (.lst (ys++[y]))) else ∃ m',m'<n-i∧LcN n Pv (i+1) m' σ4 H5)
 (hd:∀ σ2 H2,Pv n σ2 H2→Q (.ref D) H2):LcGo J g tt te σ0 H D Q:=by
 refine ⟨LcN n Pv,⟨_,n51_ _,rfl,h0⟩,?_⟩;rintro i m σ2 H2 ⟨hi,rfl,p⟩
 by_cases hlt:i<n
 · exact .inr ⟨hx i σ2 H2 hlt p,fun x H3 y=>hs i x σ2 H2 H3 hlt y p⟩
 · have e:i=n:=by omega
   subst e;exact .inl ⟨hz σ2 H2 p,hd σ2 H2 p⟩
theorem Zb0 {J:It} {n:Nat} {g:TG} {tb:TS} {D:Ends} {σ:St} {H:Hp} (Pv:Nat→St→Hp→Prop) (h0:Pv 0 σ H)
 (hx:∀ i σ H,i<n→Pv i σ H→J.go i H) (hz:∀ σ H,Pv n σ H→J.stop n H)
 (hs:∀ i x σ H H',i<n→J.yld i H x H'→Pv i σ H→g x σ H' fun σ2 H2=>tb { D with nx:=Pv (i+1),ct:=Pv (i+1),bk:=D.nx } σ2 H2) (hd:∀ σ H,Pv n σ H→D.nx σ H) :
 ∃ W:Nat→Nat→St→Hp→Prop,(∃ m,W 0 m σ H)∧∀ i m σ H,W i m σ H →
   (J.stop i H∧D.nx σ H)∨(J.go i H∧∃ N:St→Hp→Prop,(∀ σ' H',N σ' H'→∃ m',m'<m∧W (i+1) m' σ' H')∧∀ x H',J.yld i H x H'→g x σ H' fun σ2 H2=>tb { D with nx:=N,ct:=N,bk:=D.nx } σ2 H2):=by
 refine ⟨fun i m σ H=>m=n-i∧i≤n∧Pv i σ H,⟨n,by simp,n51_ _,h0⟩,?_⟩;rintro i m σ H ⟨rfl,hi,p⟩
 by_cases hlt:i<n
 · exact .inr ⟨hx i σ H hlt p,Pv (i+1),fun σ' H' p'=>⟨n-(i+1),by omega,rfl,hlt,p'⟩,fun x H' y=>hs i x σ H H' hlt y p⟩
 · have e:i=n:=by omega
   subst e;exact .inl ⟨hz σ H p,hd σ H p⟩
end L2
namespace STb
open PySem
def step (M:Nat) (q:Nat×Nat):Nat×Nat:=SetTable.leap M q.1 q.2
def nth (M:Nat):Nat→Nat×Nat→Nat×Nat
 | 0,q=>q
 | n+1,q=>nth M n (step M q)
theorem Zpv (M n:Nat) (q:Nat×Nat):nth M (n+1) q=step M (nth M n q):=by
 induction n generalizing q with
 | zero=>rfl
 | succ n ih=>exact ih (step M q)
theorem Zrn (M a b:Nat) (q:Nat×Nat):nth M (a+b) q=nth M b (nth M a q):=by
 induction a generalizing q with
 | zero=>rw [Nat.zero_add];rfl
 | succ a ih=>rw [Nat.succ_add];exact ih (step M q)
theorem Zr6 (M n:Nat) (q:Nat×Nat):(nth M n q).2=q.2/32^n:=by
 induction n generalizing q with
 | zero=>simp [nth]
 | succ n ih =>
   show (nth M n (step M q)).2=_
   rw [ih];show q.2/32/32^n=_
   rw [Nat.div_div_eq_div_mul,Nat.pow_succ,Nat.mul_comm]
def fz (M:Nat) (i:Nat):Nat:=(i*5+1) % (M+1)
def fzn (M:Nat):Nat→Nat→Nat
 | 0,i=>i
 | n+1,i=>fzn M n (fz M i)
theorem Zuq (M n:Nat) (i:Nat):nth M n (i,0)=(fzn M n i,0):=by
 induction n generalizing i with
 | zero=>rfl
 | succ n ih =>
   show nth M n (step M (i,0))=_
   have e:step M (i,0)=(fz M i,0):=by
    unfold step SetTable.leap fz
    simp
   rw [e,ih];rfl
def masks (M:Nat):Prop:=M=7∨M=31∨M=127
def orb (M:Nat):List Nat:=(List.range (M+1)).map fun n=>fzn M n 0
theorem Zhs (M a b i:Nat):fzn M (a+b) i=fzn M b (fzn M a i):=by
 induction a generalizing i with
 | zero=>rw [Nat.zero_add];rfl
 | succ a ih=>rw [Nat.succ_add];exact ih (fz M i)
def good (M:Nat):Bool:=(List.range (M+1)).all (fun j=>(orb M).contains j)&&fzn M (M+1) 0 == 0
theorem Zu4:good 7=true:=by decide +kernel
theorem Zt1:good 31=true:=by decide +kernel
theorem Zsr:good 127=true:=by decide +kernel
theorem Zsf {M:Nat} (h:masks M):good M=true:=by
 rcases h with rfl|rfl|rfl
 · exact Zu4
 · exact Zt1
 · exact Zsr
theorem Zvn {M i j:Nat} (h:masks M) (hi:i≤M) (hj:j≤M):∃ n,n≤M∧fzn M n i=j:=by
 have g:=Zsf h;unfold good at g;rw [n32_,n27_] at g;obtain ⟨g1,g2⟩:=g;have g2':fzn M (M+1) 0=0:=by simpa using g2
 have mem:∀ j,j≤M→∃ a,a≤M∧fzn M a 0=j:=fun j hj=>by
  have:=g1 j (by simpa using Nat.lt_succ_of_le hj)
  have:j∈orb M:=by simpa using this
  unfold orb at this;obtain ⟨a,ha,e⟩:=n29_.mp this;exact ⟨a,Nat.le_of_lt_succ (n26_.mp ha),e⟩
 obtain ⟨a,ha,ea⟩:=mem i hi;obtain ⟨b,hb,eb⟩:=mem j hj
 by_cases hab:a≤b
 · refine ⟨b-a,by omega,?_⟩;rw [← ea,← Zhs,show a+(b-a)=b by omega];exact eb
 · refine ⟨M+1-a+b,by omega,?_⟩;rw [← ea,← Zhs,show a+(M+1-a+b)=(M+1)+b by omega,Zhs,g2'];exact eb
theorem Zrk (M:Nat) (q:Nat×Nat):(step M q).1≤M:=Nat.le_of_lt_succ (Nat.mod_lt _ (Nat.succ_pos _))
theorem Ztz {M n:Nat} {q:Nat×Nat} (h:q.1≤M):(nth M n q).1≤M:=by
 cases n with
 | zero=>exact h
 | succ n=>rw [Zpv];exact Zrk M _
theorem Zuw {M i p j:Nat} (h:masks M) (hi:i≤M) (hp:p<2^64) (hj:j≤M):∃ n,n≤M+13∧(nth M n (i,p)).1=j:=by
 have z:(nth M 13 (i,p)).2=0:=by
  rw [Zr6];refine Nat.div_eq_of_lt (n20_ hp ?_);decide
 have e:nth M 13 (i,p)=((nth M 13 (i,p)).1,0):=by rw [← z]
 obtain ⟨n,hn,en⟩:=Zvn h (Ztz (n:=13) (q:=(i,p)) hi) hj;refine ⟨13+n,by omega,?_⟩;rw [Zrn,e,Zuq];exact en
theorem Zm5 (h:Int):SetTable.bits h<2^64:=by
 unfold SetTable.bits;have h1:(0:Int)≤h % 2^64:=Int.emod_nonneg _ (by decide);have h2:h % 2^64<2^64:=Int.emod_lt_of_pos _ (by decide);omega
theorem Zkx {t:SetTable} {j:Nat} (hd:t.dummies=#[]) (hj:j∉t.place.toList):t.slot j=.empty:=by
 unfold SetTable.slot
 have h1:(t.place[SetTable.below t.place j]? == some j)=false:=by
  rw [beq_eq_false_iff_ne];intro e;exact hj (by simpa using Array.mem_of_getElem? e)
 have h2:SetTable.has t.dummies j=false:=by
  rw [hd];unfold SetTable.has
  simp
 simp only [h1,h2];rfl
theorem Zlk {t:SetTable} {j:Nat} (hd:t.dummies=#[]):t.slot j=.empty∨∃ i,t.slot j=.live i∧t.place[i]? = some j:=by
 by_cases h:t.place[SetTable.below t.place j]? = some j
 · refine .inr ⟨_,?_,h⟩;unfold SetTable.slot;simp only [h,beq_self_eq_true,if_true]
 · left
   have h1:(t.place[SetTable.below t.place j]? == some j)=false:=beq_eq_false_iff_ne.mpr h
   have h2:SetTable.has t.dummies j=false:=by
    rw [hd];unfold SetTable.has
    simp
   unfold SetTable.slot;simp only [h1,h2];rfl
theorem Zhx (l:List Nat) (n:Nat) (h:l.length<n):∃ j,j<n∧j∉l:=by
 induction n generalizing l with
 | zero=>omega
 | succ n ih =>
   by_cases hm:n∈l
   · obtain ⟨j,hj,hl⟩:=ih (l.filter (·≠n)) (by
      have:(l.filter (·≠n)).length<l.length:=by
       refine List.length_filter_lt_length_iff_exists.mpr ⟨n,hm,by simp⟩
      omega)
     refine ⟨j,by omega,fun z=>hl ?_⟩;rw [n37_];exact ⟨z,by simp;omega⟩
   · exact ⟨n,n80_ n,hm⟩
def adv (t:SetTable):Nat→SetTable.Probe→SetTable.Probe
 | 0,p=>p
 | n+1,p=>adv t n (t.advance p)
theorem Zfk (t:SetTable) (a b:Nat) (p:SetTable.Probe):adv t (a+b) p=adv t b (adv t a p):=by
 induction a generalizing p with
 | zero=>rw [Nat.zero_add];rfl
 | succ a ih=>rw [Nat.succ_add];exact ih (t.advance p)
def start (t:SetTable) (q:Nat×Nat) (d:Option Nat):SetTable.Probe:={ j:=q.1,more:=SetTable.runEnd t.mask q.1-q.1,i:=q.1,perturb:=q.2,dummy:=d }
theorem Zqv (M i:Nat):SetTable.runEnd M i-i≤9:=by
 unfold SetTable.runEnd;split<;>omega
theorem Zij (t:SetTable):∀ (k:Nat) (p:SetTable.Probe),p.more=k→adv t (k+1) p=start t (step t.mask (p.i,p.perturb)) p.dummy
 | 0,p,h=>by
   show t.advance p=_
   unfold SetTable.advance;rw [if_neg (by omega)];rfl
 | k+1,p,h=>by
   show adv t (k+1) (t.advance p)=_
   have e:t.advance p={ p with j:=p.j+1,more:=p.more-1 }:=by
    unfold SetTable.advance;rw [if_pos (by omega)]
   rw [e]
   have:=Zij t k { p with j:=p.j+1,more:=p.more-1 } (by show p.more-1=k;omega)
   rw [this]
theorem Zlt (t:SetTable) (n:Nat) (q:Nat×Nat) (d:Option Nat):∃ m,m≤10*n∧adv t m (start t q d)=start t (nth t.mask n q) d:=by
 induction n generalizing q with
 | zero=>exact ⟨0,n10_ _,rfl⟩
 | succ n ih =>
   obtain ⟨m,hm,e⟩:=ih (step t.mask q);refine ⟨(SetTable.runEnd t.mask q.1-q.1)+1+m,?_,?_⟩
   · have:=Zqv t.mask q.1;omega
   · rw [Zfk,Zij t (SetTable.runEnd t.mask q.1-q.1) (start t q d) rfl];exact e
def Near (t:SetTable) (n:Nat) (p:SetTable.Probe):Prop:=∃ m,m≤n∧t.slot (adv t m p).j=.empty
theorem near_start {t:SetTable} {h:Int} (hm:masks t.mask) (hd:t.dummies=#[]) (hl:t.place.size<t.mask+1):Near t (10*(t.mask+13)) (t.probeStart h):=by
 obtain ⟨j,hj,hn⟩:=Zhx t.place.toList (t.mask+1) (by simpa using hl);have hi:SetTable.bits h % (t.mask+1)≤t.mask:=Nat.le_of_lt_succ (Nat.mod_lt _ (Nat.succ_pos _));obtain ⟨n,hn2,e⟩:=Zuw hm hi (Zm5 h) (Nat.le_of_lt_succ hj);obtain ⟨m,hm2,e2⟩:=Zlt t n (SetTable.bits h % (t.mask+1),SetTable.bits h) none;refine ⟨m,by omega,?_⟩
 have:t.probeStart h=start t (SetTable.bits h % (t.mask+1),SetTable.bits h) none:=rfl
 rw [this,e2];show t.slot (nth t.mask n _).1=.empty
 rw [e];exact Zkx hd hn
theorem Zgb (t:SetTable):∀ (n:Nat) (p:SetTable.Probe),(adv t n p).dummy=p.dummy
 | 0,_=>rfl
 | n+1,p=>by
   show (adv t n (t.advance p)).dummy=_
   rw [Zgb t n];unfold SetTable.advance;split<;>rfl
theorem Zg8 {M:Nat} {owner:Array (Option Nat)}:∀ (n fuel:Nat) (q:Nat×Nat),(∃ m,m≤n∧(owner.getD (nth M m q).1 (some 0)).isNone=true)→n<fuel →
 ∃ j,SetTable.layClean.free M owner fuel q.1 q.2=some j∧(owner.getD j (some 0)).isNone=true
 | n,0,_,_,hf=>by omega
 | n,fuel+1,q,⟨m,hm,e⟩,hf=>by
   unfold SetTable.layClean.free;cases hfi:(List.range (SetTable.runEnd M q.1+1-q.1)).find? fun k=>(owner.getD (q.1+k) (some 0)).isNone with
   | some k =>
     refine ⟨q.1+k,rfl,?_⟩;exact (List.find?_some (p:=fun k=>(owner.getD (q.1+k) (some 0)).isNone) hfi)
   | none =>
     have hm0:m≠0:=by
      rintro rfl
      have e0:(owner.getD q.1 (some 0)).isNone=true:=e
      have:=List.find?_eq_none.mp hfi 0 (by
       rw [n26_];unfold SetTable.runEnd;split<;>omega)
      rw [Nat.add_zero] at this;exact this e0
     obtain ⟨k,rfl⟩:∃ k,m=k+1:=⟨m-1,by omega⟩;exact Zg8 (n-1) fuel (step M q) ⟨k,by omega,e⟩ (by omega)
def cnt (owner:Array (Option Nat)):Nat:=owner.toList.countP (·.isSome)
structure Own (M n:Nat) (owner:Array (Option Nat)):Prop where
 size:owner.size=M+1
 cnt:cnt owner=n
 lt:∀ (j k:Nat),owner[j]? = some (some k)→k<n
theorem Zag {α:Type} (p:α→Bool):∀ (l:List α),l.countP p<l.length→∃ (j:Nat) (x:α),l[j]? = some x∧p x=false
 | [],h=>by simp at h
 | x :: l,h=>by
   by_cases hx:p x=true
   · rw [List.countP_cons,if_pos hx,n18_] at h;obtain ⟨j,y,e,hy⟩:=Zag p l (by omega);exact ⟨j+1,y,by simpa using e,hy⟩
   · exact ⟨0,x,rfl,by simpa using hx⟩
theorem Zea {α:Type} (p:α→Bool):∀ (l:List α) (j:Nat) (x y:α),l[j]? = some x→p x=false→p y=true→(l.set j y).countP p=l.countP p+1
 | [],j,x,y,h,_,_=>by simp at h
 | z :: l,0,x,y,h,hx,hy=>by
   have:z=x:=by simpa using h
   subst this;simp [List.countP_cons,hx,hy]
 | z :: l,j+1,x,y,h,hx,hy=>by
   have:=Zea p l j x y (by simpa using h) hx hy
   simp only [List.set_cons_succ,List.countP_cons,this];omega
theorem Own.free {M n:Nat} {owner:Array (Option Nat)} (o:Own M n owner) (hm:masks M) (hn:n<M+1) (h:Int):∃ j,SetTable.layClean.free M owner (SetTable.turns M) (SetTable.bits h % (M+1)) (SetTable.bits h)=some j∧owner[j]? = some none:=by
 obtain ⟨j,x,e,hx⟩:=Zag (fun x:Option Nat=>x.isSome) owner.toList (by
  have:owner.toList.countP (fun x:Option Nat=>x.isSome)=n:=o.cnt
  rw [this,Array.length_toList,o.size];exact hn)
 have hj:j≤M:=by
  have:=(n14_.mp e).1
  rw [Array.length_toList,o.size] at this;omega
 have e':owner[j]? = some x:=by simpa using e
 obtain ⟨m,hm2,em⟩:=Zuw hm (Nat.le_of_lt_succ (Nat.mod_lt (SetTable.bits h) (Nat.succ_pos M))) (Zm5 h) hj
 obtain ⟨j',r1,r2⟩:=Zg8 (M:=M) (owner:=owner) (M+13) (SetTable.turns M) (SetTable.bits h % (M+1),SetTable.bits h) ⟨m,hm2,by
  rw [em,Array.getD_eq_getD_getElem?,e'];cases x with
  | none=>rfl
  | some _=>cases hx⟩ (by unfold SetTable.turns;omega)
 refine ⟨j',r1,?_⟩;rw [Array.getD_eq_getD_getElem?] at r2;cases q:owner[j']? with
 | none=>rw [q] at r2;cases r2
 | some y =>
   rw [q] at r2;cases y with
   | none=>rfl
   | some _=>cases r2
theorem Own.put {M n:Nat} {owner:Array (Option Nat)} (o:Own M n owner) {j:Nat} (hj:owner[j]? = some none):Own M (n+1) (owner.setIfInBounds j (some n)) where
 size:=by rw [Array.size_setIfInBounds];exact o.size
 cnt:=by
  unfold STb.cnt;rw [Array.toList_setIfInBounds];rw [Zea (fun x:Option Nat=>x.isSome) owner.toList j none (some n) (by simpa using hj) rfl rfl]
  have:owner.toList.countP (fun x:Option Nat=>x.isSome)=n:=o.cnt
  rw [this]
 lt:=fun i k e=>by
  rw [Array.getElem?_setIfInBounds] at e;split at e
  · split at e
    · have:n=k:=by simpa using e
      omega
    · cases e
  · have:=o.lt i k e;omega
def Ys (M:Nat) (acc:Option (Array (Option Nat)×Nat)) (h:Int):Option (Array (Option Nat)×Nat):=do
 let (owner,k) ← acc
 let j ← SetTable.layClean.free M owner (SetTable.turns M) (SetTable.bits h % (M+1)) (SetTable.bits h)
 pure (owner.setIfInBounds j (some k),k+1)
theorem Zfa {M:Nat} (hm:masks M):∀ (hs:List Int) (n:Nat) (owner:Array (Option Nat)),Own M n owner→n+hs.length<M+1→∃ owner',hs.foldl (Ys M) (some (owner,n))=some (owner',n+hs.length)∧Own M (n+hs.length) owner'
 | [],n,owner,o,_=>⟨owner,rfl,o⟩
 | h :: hs,n,owner,o,hl=>by
   rw [n18_] at hl;obtain ⟨j,r1,r2⟩:=o.free hm (by omega) h
   have e:Ys M (some (owner,n)) h=some (owner.setIfInBounds j (some n),n+1):=by
    unfold Ys;show (SetTable.layClean.free M owner (SetTable.turns M) (SetTable.bits h % (M+1)) (SetTable.bits h)).bind _=_
    rw [r1];rfl
   obtain ⟨owner',e2,o2⟩:=Zfa hm hs (n+1) _ (o.put r2) (by omega);refine ⟨owner',?_,?_⟩
   · rw [n73_,e,e2,n18_];congr 2;omega
   · rw [n18_,show n+(hs.length+1)=n+1+hs.length by omega];exact o2
theorem own0 (M:Nat):Own M 0 (Array.replicate (M+1) none) where
 size:=by simp
 cnt:=by
  unfold STb.cnt;rw [Array.toList_replicate,List.countP_replicate];rfl
 lt:=fun j k e=>by
  rw [Array.getElem?_replicate] at e;split at e<;>cases e
theorem Zhy {M:Nat} (hm:masks M) (hs:Array Int) (hl:hs.size<M+1):∃ owner,SetTable.layClean M hs=some owner∧Own M hs.size owner:=by
 obtain ⟨owner,e,o⟩:=Zfa hm hs.toList 0 _ (own0 M) (by simpa using hl);refine ⟨owner,?_,by simpa using o⟩;unfold SetTable.layClean;rw [← Array.foldl_toList]
 have:(hs.toList.foldl (Ys M) (some (Array.replicate (M+1) none,0)))=some (owner,0+hs.toList.length):=e
 show (List.foldl (Ys M) (some (Array.replicate (M+1) none,0)) hs.toList).map (·.1)=some owner
 rw [this];rfl
theorem Xf {α β:Type} (f:α→Option β):∀ l:List α,(l.filterMap f).length=l.countP (fun x=>(f x).isSome)
 | []=>rfl
 | x :: l=>by
   rw [List.countP_cons];cases h:f x with
   | none=>rw [List.filterMap_cons_none h,Xf f l];simp
   | some y=>rw [List.filterMap_cons_some h,n18_,Xf f l];simp
theorem Zo0 {M n:Nat} {owner:Array (Option Nat)} (o:Own M n owner):((List.range (M+1)).filterMap fun j=>(owner.getD j none).map (j,·)).length=n:=by
 rw [Xf]
 have e:(List.range (M+1)).countP (fun j=>((owner.getD j none).map (j,·)).isSome)=(List.range owner.size).countP (fun j=>(owner.getD j none).isSome):=by
  rw [o.size];refine List.countP_congr fun j _=>?_;cases owner.getD j none<;>simp
 rw [e]
 have e2:owner.toList=(List.range owner.size).map (fun j=>owner.getD j none):=by
  refine n64_ (by simp) fun i h1 h2=>?_;have hi:i<owner.size:=by simpa using h1
  simp [Array.getD,hi]
 have:=o.cnt
 unfold STb.cnt at this;rw [e2,List.countP_map] at this;exact this
theorem pick_size {α:Type} {es:Array α} {order:Array Nat} (h1:order.size=es.size) (h2:∀ k∈order.toList,k<es.size):(order.filterMap (es[·]?)).size=es.size∧∀ x∈(order.filterMap (es[·]?)).toList,x∈es.toList:=by
 constructor
 · rw [← Array.length_toList,Array.toList_filterMap,Xf,← h1,← Array.length_toList];rw [List.countP_eq_length];intro k hk
   have:k<es.size:=h2 k hk
   simp [this]
 · intro x hx;rw [Array.toList_filterMap] at hx;obtain ⟨k,_,e⟩:=List.mem_filterMap.mp hx;exact by simpa using Array.mem_of_getElem? e
theorem insertAt_size {α:Type} (xs:Array α) (p:Nat) (x:α):(SetTable.insertAt xs p x).size=xs.size+1:=by
 unfold SetTable.insertAt;simp only [Array.size_append,Array.size_push,Array.size_extract];omega
end STb
namespace L2
open PySem PySem.Spec PyProof.Rows
section
variable {prog:Program} {w:World} {A:Around} {E:Value→Shared→Prop} {s:Shared} {K:Type} [DecidableEq K] {knd:KeyKind prog w K}
theorem Zdg {ks:List K} {a:Addr} {n:Nat} {Q:Bool→Shared→Prop} (hk:IsTupleKey knd s.heap ks a) (h:Q false s):wpAny (model prog w) A (ofAClassStatement (n+1) (.ref a)) Q E s:=by
 have hT:=hk.typeIs;obtain ⟨o,items,m,ho,_,hd,hi⟩:=hk;unfold ofAClassStatement;refine n0_ (wpAny_typeOf hT ?_);simp only [beq_self_eq_true,if_true];refine n0_ (n3_ ?_);simp only [Bool.not_true,n16_,if_false];refine n0_ (wpAny_seqItems ho hd ?_);refine n0_ ?_;show wpAny _ _ (forIn items _ _) _ _ s
 rw [← Array.forIn_toList];refine wpAny_forIn_list _ (fun rest r s'=>r.1=none∧s'=s∧∀ v∈rest,carriedByValue v=true) _ ?_ ?_ _ _ ⟨rfl,rfl,hi.byValue⟩
 · rintro v rest r s' ⟨hr,rfl,hall⟩
   have hv:=hall v n15_
   have e:ofAClassStatement n v=pure false:=by
    cases v<;>first|(unfold ofAClassStatement;rfl)|(cases hv)
   rw [e];refine n0_ (n3_ ?_);simp only [n16_,if_false];exact n3_ ⟨rfl,rfl,fun u hu'=>hall u (n17_ _ hu')⟩
 · rintro ⟨r1,r2⟩ s' ⟨hr,rfl,_⟩
   simp only at hr;subst hr;exact n3_ h
theorem Zs8 {k:List K} {a:Addr} {Q:Bool→Shared→Prop} (hk:IsTupleKey knd s.heap k a) (l:List Value) (hl:∀ y∈l,∃ b k',y=.ref b∧IsTupleKey knd s.heap k' b) (h:Q false s) :
 wpAny (model prog w) A (searchCouldBeSeen (.ref a) l) Q E s:=by
 unfold searchCouldBeSeen;refine n0_ ?_;refine wpAny_forIn_list _ (fun rest r s'=>r.1=none∧s'=s∧∀ y∈rest,∃ b k',y=.ref b∧IsTupleKey knd s.heap k' b) _ ?_ ?_ _ _ ⟨rfl,rfl,hl⟩
 · rintro y rest r s' ⟨hr,rfl,hall⟩
   obtain ⟨b,k',rfl,hb⟩:=hall y n15_;have rest':∀ y∈rest,∃ b k',y=.ref b∧IsTupleKey knd s'.heap k' b:=fun u hu=>hall u (n17_ _ hu);dsimp only;split
   · exact n3_ ⟨rfl,rfl,rest'⟩
   · refine n0_ (wpAny_eqIsQuiet_tuple hk ?_);simp only [Bool.not_true,n16_,if_false];refine n0_ (wpAny_eqIsQuiet_tuple hb ?_);simp only [Bool.not_true,n16_,if_false];refine n0_ (Zdg hk ?_);simp only [n16_,if_false];refine n0_ (Zdg hb ?_);simp only [n16_,if_false];exact n3_ ⟨rfl,rfl,rest'⟩
 · rintro ⟨r1,r2⟩ s' ⟨hr,rfl,_⟩
   simp only at hr;subst hr;exact n3_ h
end
section
variable {prog:Program} {w:World} {A:Around} {E:Value→Shared→Prop} {s:Shared} {K:Type} [DecidableEq K] {knd:KeyKind prog w K}
theorem Zn1 (t:SetTable) (j:Nat):(t.put j).1.place.size=t.place.size+1∧(t.dummies=#[]→(t.put j).1.dummies=#[])∧(t.put j).1.mask=t.mask:=by
 unfold SetTable.put;refine ⟨STb.insertAt_size _ _ _,fun hd=>?_,rfl⟩
 have h2:SetTable.has t.dummies j=false:=by
  rw [hd];unfold SetTable.has
  simp
 simp only [h2];exact hd
end
section
variable {X:Cx}
theorem items_int {prog:Program} {w:World}:∀ {ns:List Int} {us:List Value},Vals (ns.map V.int) us→ItemsAre (PySem.intKind prog w) ns us
 | [],_,.nil=>.nil
 | n :: ns,_,.cons r rs=>by
   obtain ⟨t,rfl⟩:=r;exact .cons (intKind_is _ _ _ _) (items_int rs)
theorem Zdx:∀ (bs:List Bool),((List.range bs.length).any fun i=>(bs[i]?).getD true)=bs.any id
 | []=>rfl
 | b :: bs=>by
   rw [n18_,List.range_succ_eq_map,List.any_cons,List.any_map,List.any_cons,← Zdx bs];rfl
theorem Zod (hc:X.calm=true):Yw X (.builtin "any") (fun xs H Q=>∃ (p:Addr) (bs:List Bool),xs=[.ref p]∧SqL X.K H p (bs.map V.bl)∧Q (.bl (bs.any id)) H):=by
 intro pins s σ H xs us Q I r h;obtain ⟨p,bs,rfl,hq,q⟩:=h;cases r with
 | cons rx r =>
   cases r
   cases (show _=Value.ref p from rx)
   obtain ⟨its,rv,pl,hz⟩:=I.list hq;have hl:=pl.isList;have hlt:p<s.heap.objs.size:=by obtain ⟨_,e,_⟩:=hl;exact n13_ e
   have hh:X.A.handled=none:=I.ok.hd hc;refine call_any_walk (wpAny_pyIter_list hl ⟨s.heap.objs.size,[s.heap.objs.size,p],[s.heap.objs.size],its.toArray.size,_,_,fun i=>(bs[i]?).getD true,rfl,Walks.list (A:=X.A.in1) hh _ p (n24_ hlt) its.toArray,⟨⟨_,n9_ _ rfl,rfl,rfl⟩,hl.push _⟩,fun i v s' Q' E' hP hQ=>?_,fun h' tk hk=>?_⟩)
   · obtain ⟨b,e,rfl⟩:=Zbz rv (show its[i]? = some v by simpa using hP);simp only [e,Option.getD_some] at hQ;exact wpAny_truthy_bool hQ
   · have e:((List.range its.toArray.size).any fun i=>(bs[i]?).getD true)=bs.any id:=by
      rw [n8_,← rv.length,n5_];exact Zdx bs
     rw [e];exact ⟨.bl _,H,I.kept (Zie hk),rfl,q⟩
theorem Zgd:∀ {ns:List Int} {us:List Value} {i:Nat} {v:Value},Vals (ns.map V.int) us→us[i]? = some v→∃ t,v=.int (ns.getD i 0) t
 | [],_,i,v,.nil,e=>by simp at e
 | n :: ns,_,0,v,.cons r t,e=>by
   obtain ⟨k,rfl⟩:=r
   have:v=.int n k:=by simpa using e.symm
   exact ⟨k,this⟩
 | n :: ns,_,i+1,v,.cons r t,e=>by
   obtain ⟨k,h⟩:=Zgd t (by simpa using e);exact ⟨k,by simpa using h⟩
theorem Zd4:∀ (ns:List Int) (acc:List Int),preSum (fun i=>(acc++ns).getD i 0) (acc.length+ns.length)=preSum (fun i=>(acc++ns).getD i 0) acc.length+ns.sum
 | [],acc=>by simp
 | n :: ns,acc=>by
   have:=Zd4 ns (acc++[n])
   rw [n52_] at this;simp only [n21_,n18_,n69_,List.singleton_append] at this ⊢;rw [show acc.length+(ns.length+1)=acc.length+(0+1)+ns.length by omega,this]
   have e:preSum (fun i=>(acc++n :: ns).getD i 0) (acc.length+(0+1))=preSum (fun i=>(acc++n :: ns).getD i 0) acc.length+n:=by
    show preSum (fun i=>(acc++n :: ns).getD i 0) acc.length+(acc++n :: ns).getD acc.length 0=_
    congr 1
    simp
   rw [e,List.sum_cons,Int.add_assoc]
theorem Zf1 (hc:X.calm=true):Yw X (.builtin "sum") (fun xs H Q=>∃ (p:Addr) (ns:List Int),xs=[.ref p]∧SqL X.K H p (ns.map V.int)∧Q (.int ns.sum) H):=by
 intro pins s σ H xs us Q I r h;obtain ⟨p,ns,rfl,hq,q⟩:=h;cases r with
 | cons rx r =>
   cases r
   cases (show _=Value.ref p from rx)
   obtain ⟨its,rv,pl,hz⟩:=I.list hq;have hl:=pl.isList;have hlt:p<s.heap.objs.size:=by obtain ⟨_,e,_⟩:=hl;exact n13_ e
   have hh:X.A.handled=none:=I.ok.hd hc;refine call_sum_walkG (wpAny_pyIter_list hl ⟨s.heap.objs.size,[s.heap.objs.size,p],[s.heap.objs.size],its.toArray.size,_,_,fun i=>ns.getD i 0,rfl,Walks.list (A:=X.A.in1) hh _ p (n24_ hlt) its.toArray,⟨⟨_,n9_ _ rfl,rfl,rfl⟩,hl.push _⟩,fun b hb=>?_,fun i v hP=>Zgd rv (by simpa using hP),fun h' tk t' hk=>?_⟩)
   · simp only [n11_,n12_,or_false] at hb;show b<(s.heap.push _).objs.size
     rw [n42_]
     rcases hb with rfl|rfl
     · exact n80_ _
     · exact n49_ hlt
   · have e:preSum (fun i=>ns.getD i 0) its.toArray.size=ns.sum:=by
      have:=Zd4 ns []
      simp only [List.nil_append,n69_,Nat.zero_add] at this;rw [n8_,← rv.length,n5_,this];show preSum _ 0+_=_
      simp [preSum]
     rw [e];exact ⟨.int _,H,I.kept (Zie hk),⟨_,rfl⟩,q⟩
end
section
variable {prog:Program} {w:World} {A:Around} {E:Value→Shared→Prop} {s:Shared}
theorem Zqk {it l:Addr} {items:Array Value} (ne:l≠it):∀ (n i:Nat) (s:Shared) (Q:List Value→Shared→Prop),s.heap.IsListIter it l i→s.heap.IsList l items→i+n≤items.size →
 (∀ h',h'.IsListIter it l (i+n)→Heap.SameBut it s.heap h'→Q ((items.toList.drop i).take n) { s with heap:=h' })→wpAny (model prog w) A (draw (.ref it) n) Q E s
 | 0,i,s,Q,hit,_,_,q=>by
   show wpAny _ _ (pure []) Q E s
   exact n3_ (by simpa using q s.heap hit (Heap.SameBut.refl ..))
 | n+1,i,s,Q,hit,hl,hle,q=>by
   have hlt:i<items.size:=by omega
   refine n0_ (m:=pyNext (.ref it)) (wpAny_pyNext_list_item hit hl (x:=items[i]) (by simp [hlt]) fun h1 it1 s1=>?_);refine n0_ (n36_ (Zqk ne n (i+1) _ _ it1 (hl.extBut s1.extBut ne) (by omega) fun h2 it2 s2=>n3_ ?_));have e:items.toList.drop i=items[i] :: items.toList.drop (i+1):=by simp [List.drop_eq_getElem_cons,hlt]
   have z:=q h2 (by rw [show i+(n+1)=i+1+n by omega];exact it2) (s1.trans s2);rw [e,List.take_succ_cons] at z;exact z
theorem Zey {l:Addr} {items:Array Value} {Q:List Value→Shared→Prop} (hh:A.handled=none) (hl:s.heap.IsList l items)
 (q:∀ h',Heap.ExtBut s.heap.objs.size s.heap h'→Q items.toList { s with heap:=h' }):wpAny (model prog w) A (unpackItems (.ref l) items.size none) Q E s:=by
 have ne:l≠s.heap.objs.size:=by obtain ⟨o,ho,_⟩:=hl;exact n24_ (n13_ ho)
 unfold unpackItems;refine n0_ ?_
 · unfold notIterableAtAll;refine n0_ (wpAny_specialOf hl.typeIs F.slot_list_iter.lookup (n3_ ?_));simp only [n16_,if_false];refine n0_ (n36_ (wpAny_pyIter_list hl ?_));refine n0_ (n36_ (Zqk ne items.size 0 _ _ ⟨_,n9_ _ rfl,rfl,rfl⟩ (hl.push _) (by omega) fun h1 it1 s1=>?_));rw [show List.take items.size (List.drop 0 items.toList)=items.toList by rw [List.drop_zero];exact n70_ (by simp),if_neg (by simp)];refine n0_ (n36_ (wpAny_pyNext_list_end hh it1 ((hl.push _).extBut s1.extBut ne) (by simp) fun h2 e2=>?_));simp only [Option.isSome_none,n16_,if_false];refine n3_ (q h2 fun b o hb e=>e2 b o hb (s1.extBut b o hb (n2_ _ e)))
theorem Zpl {env:Env} {elts:List Expr} {x1} {pos:Pos} {l:Addr} {items:Array Value} {Q:Unit→Shared→Prop} (hh:A.handled=none) (hl:s.heap.IsList l items)
 (hn:(assignEach elts env).length=items.size) (hs:(assignEach elts env).findIdx? (·.1)=none)
 (h:∀ h',Heap.ExtBut s.heap.objs.size s.heap h'→wpAny (model prog w) A (assignInOrder ((assignEach elts env).map (·.2)) items.toList) Q E { s with heap:=h' }) :
 wpAny (model prog w) A (assign (.Tuple elts x1 pos) env (.ref l)) Q E s:=by
 rw [assign_Tuple];refine n0_ (wpAny_standAt ?_);unfold unpack;rw [hn,hs];exact n0_ (n36_ (Zey hh hl h))
end
section
variable {X:Cx} {pos:Pos}
def gLst (K:PySem.W.Frag) (n:Nat) (t:TGs):TG:=fun v σ H Q=>∃ a xs,v=.ref a∧SqL K H a xs∧xs.length=n∧t xs σ H Q
theorem Zuk {es:List Expr} {k:Nat} {t:TGs} {n:Nat} (hc:X.calm=true) (h:PGs X es t) (hn:(assignEach es X.env).length=n:=by rfl) (hst:(assignEach es X.env).findIdx? (·.1)=none:=by rfl):PG X (.Tuple es k pos) (gLst X.K n t):=by
 intro pins s σ H v u Q I r hw;obtain ⟨a,xs,e1,hq,hl,hw⟩:=hw;subst e1;cases r
 obtain ⟨its,rv,pl,hz⟩:=I.list hq;refine Zpl (I.ok.hd hc) pl.isList (by simp [hn,← hl,rv.length]) hst fun h' hx=>?_;have I1:Inv X pins σ H { s with heap:=h' }:=I.kept (t':=s.toks) fun b o e=>hx b o (n24_ (n13_ e)) e;exact h pins _ σ H xs _ Q I1 (by simpa using rv) hw
theorem Zao:∀ {us:List Value} {ns:List Int},IntsAre us ns→Vals (ns.map V.int) us
 | _,_,.nil=>.nil
 | _,_,.cons n t r=>.cons ⟨t,rfl⟩ (Zao r)
theorem Zb5:Yw X (.builtin "sorted") (fun xs H Q=>∃ (p:Addr) (ns:List Int),xs=[.ref p]∧SqL X.K H p (ns.map V.int)∧ns.length<64∧∀ (l:Addr) (ns':List Int),H l=none→ns'.Perm ns→ns'.Pairwise (·≤·)→Q (.ref l) (upd H l (.lst (ns'.map V.int)))):=by
 intro pins s σ H xs us Q I r h;obtain ⟨p,ns,rfl,hq,h64,q⟩:=h;cases r with
 | cons rx r =>
   cases r
   cases (show _=Value.ref p from rx)
   obtain ⟨its,rv,pl,hz⟩:=I.list hq;have hlen:=rv.length;rw [n5_] at hlen;refine sorted_ints pl.isList (Za3 rv) (by omega) fun out ns' a1 a2 a3=>?_;obtain ⟨e,he⟩:=sortedAll_at s.heap its out;have fr:H (s.heap.objs.size+1)=none:=I.hok.fresh (Nat.le_succ _);refine ⟨.ref (s.heap.objs.size+1),_,I.laid (o:=.lst (ns'.map V.int)) (t':=s.toks) (fun b u e=>sortedAll_old e) (Nat.le_succ _) ⟨?_,out.toList,e,Zao a1,by simpa using he⟩,rfl,q _ ns' fr a2 a3⟩;rw [n5_,a2.length_eq,sizeLine_eq];omega
theorem Zih {n:Nat}:∀ {l:List Value} (k:Nat),l.length=n→(∀ (j:Nat) (v:Value),l[j]? = some v→∃ t,v=.int ((k:Int)+j) t)→Vals ((List.range' k n).map fun i:Nat=>V.int i) l:=by
 induction n with
 | zero=>intro l k hl _;cases l with
   | nil=>exact .nil
   | cons _ _=>simp at hl
 | succ n ih =>
   intro l k hl h;cases l with
   | nil=>simp at hl
   | cons x l =>
     obtain ⟨t,rfl⟩:=h 0 x rfl;refine .cons ⟨t,by simp⟩ (ih (k+1) (by simpa using hl) fun j v e=>?_);obtain ⟨t',e'⟩:=h (j+1) v (by simpa using e);exact ⟨t',by rw [e'];congr 1;omega⟩
theorem Ztt {a:Expr} {ta:TA} {p2 q2:Pos} (hg2:Gl X "range") (hm2:X.mg "range" = none) (ha:PA X [a] ta) (he:starEach [a] X.env=[(false,eval a X.env)]:=by rfl) :
 PE X (.Call (.Name "range" p2) [a] [] q2) (fun σ H Q=>ta σ H fun vs H1=>∃ n:Nat,vs=[.int n]∧∀ r,H1 r=none→Q (.ref r) (upd H1 r (.rng 0 n))):=by
 intro pins s σ H Q I h;refine Call_ (Zbf I hg2 hm2 boot_range (n55_ (thn (ha q2 pins s σ H _ I h) fun us s1 ⟨vs,H1,I1,r1,q1⟩=>?_) he rfl));obtain ⟨n,rfl,q⟩:=q1;cases r1 with
 | cons r rr =>
   cases rr
   obtain ⟨t,rfl⟩:=r;refine call_range_1 ?_;have fr:H1 s1.heap.objs.size=none:=I1.hok.fresh (n10_ _);exact ⟨.ref s1.heap.objs.size,_,I1.laid (o:=.rng 0 n) (fun b o e=>n2_ _ e) (n10_ _) ⟨_,_,_,n9_ _ rfl⟩,rfl,q _ fr⟩
theorem Zks (hc:X.calm=true):Yw X (.type "list") (fun xs H Q=>∃ (r:Addr) (n:Nat),xs=[.ref r]∧H r=some (.rng 0 n)∧n≤1000∧∀ l,H l=none→Q (.ref l) (upd H l (.lst ((List.range n).map fun i:Nat=>V.int i)))):=by
 intro pins s σ H xs us Q I r h;obtain ⟨a,n,rfl,hr,hn,q⟩:=h;cases r with
 | cons rx r =>
   cases r
   cases (show _=Value.ref a from rx)
   obtain ⟨t,u,v,e⟩:=(show ObjOk X.prog X.w H s.heap a (.rng 0 n) from I.hok a _ hr);have fr:H s.heap.objs.size=none:=I.hok.fresh (n10_ _);refine call_list_range (n:=n) (I.ok.hd hc) e (small_one (by omega) (by omega) (by omega) (by omega)) (by rw [rangeSize_one];split<;>omega) (by omega) fun h' tk acc c k hS it=>?_;refine ⟨.ref s.heap.objs.size,_,I.laid (o:=.lst ((List.range n).map fun i:Nat=>V.int i)) (t':=tk) k (n10_ _) ⟨?_,acc.toList,c,?_,by simpa using hS⟩,rfl,q _ fr⟩
   · rw [n5_,n65_,sizeLine_eq];omega
   · rw [List.range_eq_range'];refine Zih 0 (by rw [Array.length_toList];exact it.1) fun j v e=>?_;obtain ⟨t',e'⟩:=it.2 j v (by simpa using e);exact ⟨t',by rw [e'];congr 1;omega⟩
end
def Zua (c t0 i0 i1:Expr) (it acc:Value) (env:Env):Sem Fin:=do
 standAt i0.pos
 match ← pyNext it with
 | none=>pure (.done .next)
 | some v =>
   letOwnedTupleGo t0 it v
   assign t0 env v
   let mut ok:=true
   for c in ([]:List Expr) do
    if ok then ok ← isTrue c env (eval c env)
   if ok then do
    let x ← eval i1 env
    standAt i1.pos
    let x ← foldedSetIterable i1 env x
    let _ ← runOwn (.compStart c 1 (← holding [x] (pyIter x)) acc env) env
    again (.compLoop c 0 it acc env)
   else again (.compLoop c 0 it acc env)
def Zt8 (c t1 i1 elt:Expr) (add:Value→Sem PUnit) (it acc:Value) (env:Env):Sem Fin:=do
 standAt i1.pos
 match ← pyNext it with
 | none=>pure (.done .next)
 | some v =>
   letOwnedTupleGo t1 it v
   assign t1 env v
   let mut ok:=true
   for c in ([]:List Expr) do
    if ok then ok ← isTrue c env (eval c env)
   if ok then
    (do let v ← eval elt env;add v)
   again (.compLoop c 1 it acc env)
structure C2Ok (prog:Program) (w:World) (c t0 i0 t1 i1 elt:Expr) (id:String) (add:Value→Value→Sem PUnit):Prop where
 un:∀ (A:Around) (k:Nat) (it acc:Value) (env:Env),A.under (.compLoop c k it acc env)=A
 den:∀ (k:Nat) (it acc:Value) (env:Env),(model prog w).den (.compLoop c k it acc env)=(compTurn c k it acc env).onRaise (fun x=>do noteFrame x env;theTreesLotGoes x)
 qu:∀ (k:Nat) (it acc:Value) (env:Env),(Code.compLoop c k it acc env).quiet=true
 e0:∀ it acc env,compTurn c 0 it acc env=Zua c t0 i0 i1 it acc env
 e1:∀ it acc env,compTurn c 1 it acc env=Zt8 c t1 i1 elt (add acc) it acc env
 ha:∀ (A:Around) acc x s (P:Shared→Prop) E,wpAny (model prog w) A (call (.builtin id) [acc,x]) (fun _ s5=>P s5) NoX s→wpAny (model prog w) A (add acc x) (fun _ s5=>P s5) E s
 start:∀ (A:Around) k,k<2→∀ it acc env R s4,codeAny (model prog w) A (.compLoop c k it acc env) R s4→(∀ E,wpAny (model prog w) A (pyIter it) (fun it' s'=>codeAny (model prog w) A (.compLoop c k it' acc env) R s') E s4)→codeAny (model prog w) A (.compStart c k it acc env) R s4
section
variable {prog:Program} {w:World} {A:Around} {R:Result→Shared→Prop} {s:Shared} {c elt t0 i0 t1 i1:Expr} {it acc:Value} {env:Env} {add:Value→Value→Sem PUnit} {id:String} (c2:C2Ok prog w c t0 i0 t1 i1 elt id add)
include c2
theorem Zpw (I:Nat→Shared→Prop)
 (turn:∀ n s,I n s→Zlb (model prog w) A t1 it env R (fun n s3=>wpAny (model prog w) A (eval elt env) (fun x s4=>wpAny (model prog w) A (call (.builtin id) [acc,x]) (fun _ s5=>∃ m,m<n∧I m s5) NoX s4) NoX s3) n s)
 (n:Nat) (h:I n s):codeAny (model prog w) A (.compLoop c 1 it acc env) R s:=by
 refine codeAny_loop (c2.qu _ _ _ _) I (fun n s hI=>?_) n h;rw [c2.un,c2.den];refine wpAny_noted ?_;rw [c2.e1];unfold Zt8;refine n0_ (wpAny_standAt (n0_ (n46_ (turn n s hI) (fun r s1 h1=>?_) fun _ _ h'=>h'.elim)));cases r with
 | none=>exact n3_ h1
 | some v =>
   refine n0_ (n46_ h1 (fun _ s2 h2=>n0_ (n46_ h2 (fun _ s3 h3=>n0_ (n3_ ?_)) fun _ _ h'=>h'.elim)) fun _ _ h'=>h'.elim);simp only [if_true];exact n0_ (n0_ (n46_ h3 (fun x s4 h4=>n46_ (c2.ha _ _ x s4 _ _ h4) (fun _ s5 h5=>n3_ ⟨rfl,h5⟩) fun _ _ h'=>h') fun _ _ h'=>h'.elim))
theorem Zpk (hs1:∀ x,foldedSetIterable i1 env x=pure x) (I:Nat→Shared→Prop)
 (turn:∀ n s,I n s→Zlb (model prog w) A t0 it env R (fun n s3=>wpAny (model prog w) A (eval i1 env) (fun x s4=>wpAny (model prog w) A (pyIter x) (fun itv s5 =>
   codeAny (model prog w) A (.compStart c 1 itv acc env) (fun r s6=>match r with|.ok _=>∃ m,m<n∧I m s6|.error _=>False) s5) NoX s4) NoX s3) n s)
 (n:Nat) (h:I n s):codeAny (model prog w) A (.compLoop c 0 it acc env) R s:=by
 refine codeAny_loop (c2.qu _ _ _ _) I (fun n s hI=>?_) n h;rw [c2.un,c2.den];refine wpAny_noted ?_;rw [c2.e0];unfold Zua;refine n0_ (wpAny_standAt (n0_ (n46_ (turn n s hI) (fun r s1 h1=>?_) fun _ _ h'=>h'.elim)));cases r with
 | none=>exact n3_ h1
 | some v =>
   refine n0_ (n46_ h1 (fun _ s2 h2=>n0_ (n46_ h2 (fun _ s3 h3=>n0_ (n3_ ?_)) fun _ _ h'=>h'.elim)) fun _ _ h'=>h'.elim);simp only [if_true];refine n0_ (n46_ h3 (fun x s4 h4=>n0_ (wpAny_standAt (n0_ (wpAny_of_eq (hs1 x) (n0_ (n36_ (n46_ h4 (fun itv s5 h5=>n0_ (wpAny_runOwn ?_)) fun _ _ h'=>h'.elim))))))) fun _ _ h'=>h'.elim);refine codeAny_mono h5 fun r s6 h6=>?_;cases r with
   | ok f=>exact n3_ ⟨rfl,h6⟩
   | error e=>exact h6.elim
end
abbrev TAd:=V→Addr→Hp→(Hp→Prop)→Prop
abbrev adS:TAd:=fun v D H C=>∃ (k:Int) (S:Int→Bool) (n:Nat),v=.int k∧H D=some (.set S n)∧n+1<scanBound∧C (upd H D (.set (fun k'=>S k'||decide (k'=k)) (if S k then n else n+1)))
def PAd (id:String) (ad:TAd):Prop:=∀ (X:Cx) (pins:List (Addr×Obj)) (s:Shared) (σ:St) (H:Hp) (v:V) (u:Value) (D:Addr) (C:Hp→Prop),Inv X pins σ H s→RelV v u→ad v D H C→wpAny (model X.prog X.w) X.A (call (.builtin id) [.ref D,u]) (fun _ s'=>∃ H',Inv X pins σ H' s'∧C H') X.xe s
def C2In (ad:TAd) (J1:It) (g1:TG) (te:TE) (D:Addr) (σ4:St) (H5:Hp) (fin:St→Hp→Prop):Prop:=∃ W1:Nat→Nat→St→Hp→Prop,(∃ m1,W1 0 m1 σ4 H5)∧∀ i1 m1 σ6 H6,W1 i1 m1 σ6 H6 →
 (J1.stop i1 H6∧fin σ6 H6)∨(J1.go i1 H6∧∀ y H7,J1.yld i1 H6 y H7→g1 y σ6 H7 fun σ8 H8=>te σ8 H8 fun v H9=>ad v D H9 fun Hn=>∃ m1',m1'<m1∧W1 (i1+1) m1' σ8 Hn)
def C2Go (ad:TAd) (ac:HO) (J:It) (g0:TG) (wi1:TI) (g1:TG) (te:TE) (σ0:St) (H1:Hp) (D:Addr) (Q:VK):Prop:=∃ W:Nat→Nat→St→Hp→Prop,(∃ m,W 0 m σ0 (upd H1 D ac)) ∧
 ∀ i m σ2 H2,W i m σ2 H2→(J.stop i H2∧Q (.ref D) H2)∨(J.go i H2∧∀ x H3,J.yld i H2 x H3→g0 x σ2 H3 fun σ4 H4=>wi1 σ4 H4 fun J1 H5=>C2In ad J1 g1 te D σ4 H5 fun σ6 H6=>∃ m',m'<m∧W (i+1) m' σ6 H6)
theorem Zq2 {X:Cx} {pins:List (Addr×Obj)} {σ:St} {H2:Hp} {s2 s3:Shared} {scope:Scope} {cl:List (Str×Addr)} {N:List Str} {fr:List (Option Nat)} {t0 i0 t1 i1 elt:Expr} {g0 g1:TG} {wi1:TI} {te:TE} {J:It} {fp:List Addr} {it:Addr} {tn:Nat→Heap→Prop} {ac:HO} {ad:TAd} {id:String} {o0:Obj} {c:Expr} {Q:VK} {add:Value→Value→Sem PUnit}
 (hs3:s3={ s2 with heap:=s2.heap.push o0 }) (hc:X.calm=true) (L:LcO X scope cl N fr) (hg:∀ C s3 H3 fp,PG (blk X scope cl C N s3 H3 fp) t0 g0) (hi1:∀ C s3 H3 fp,PI (blk X scope cl C N s3 H3 fp) t1 i1 wi1) (hg1:∀ C s3 H3 fp,PG (blk X scope cl C N s3 H3 fp) t1 g1) (he:∀ C s3 H3 fp,PE (blk X scope cl C N s3 H3 fp) elt te) (hA:PAd id ad)
 (I2:Inv X pins σ H2 s2) (T:Turn X.prog X.w X.K t0 J fp it tn) (st2:tn 0 s2.heap) (f2:∀ b∈fp,FpOk X pins H2 b)
 (ok0:ObjOk X.prog X.w (upd H2 s2.heap.objs.size ac) (s2.heap.push o0) s2.heap.objs.size ac) (h:C2Go ad ac J g0 wi1 g1 te (Zar fr σ) H2 s2.heap.objs.size Q) (hs1:∀ env x,foldedSetIterable i1 env x=pure x)
 (c2:C2Ok X.prog X.w c t0 i0 t1 i1 elt id add) :
 wpAny (model X.prog X.w) X.A (newFunctionEnv scope X.env.globals cl [] X.env.qual none .none (some X.env)) (fun cenv s4=>codeAny (model X.prog X.w) X.A (.compStart c 0 (.ref it) (.ref s2.heap.objs.size) { cenv with scope:=relabel scope X.env }) (compPost (model X.prog X.w) X.A X.xe none (EP X pins σ Q) (.ref s2.heap.objs.size) cenv.locals) s4) X.xe s3:=by
 obtain ⟨W,⟨m0,w0⟩,turn⟩:=h;refine Zck (R:=fun C=>compPost (model X.prog X.w) X.A X.xe none (EP X pins σ Q) (.ref s2.heap.objs.size) C) hs3 hc L hg I2 T st2 f2 ok0 w0 turn (fun env s4 a b=>c2.start _ 0 (by decide) _ _ _ _ _ a b) (fun LI s4 t n h=>Zpk c2 (hs1 _) LI t n h) (fun H7 s7 qn _ _ c=>Ziu qn c) fun LI n i σ9 H9 s9 ps I9 q9 again=>?_;refine thn (hi1 _ _ _ _ ps s9 σ9 H9 _ I9 q9) fun xv s10 h10=>thn h10 fun itv s11 h11=>?_;obtain ⟨it1,fp1,tn1,J1,H11,e,I11,T1,st11,f11,W1,⟨m1,w1⟩,turn1⟩:=h11;subst e;have fpC:∀ {H':Hp} (b:Addr),b∈fp1→H' b=none→FpOk (blk X scope cl s3.heap.objs.size N s3 (upd H2 s2.heap.objs.size ac) fp) ps H' b:=fun b hb hn=>⟨hn,(f11 b hb).2⟩
 have lp:codeAny (model X.prog X.w) X.A (.compLoop c 1 (.ref it1) (.ref s2.heap.objs.size) (blk X scope cl s3.heap.objs.size N s3 (upd H2 s2.heap.objs.size ac) fp).env) (fun r s6=>match r with|.ok _=>∃ m,m<n∧LI m s6|.error _=>False) s11:=by
  refine Zpw c2 (fun n1 s'=>∃ j σ' H',Inv (blk X scope cl s3.heap.objs.size N s3 (upd H2 s2.heap.objs.size ac) fp) ps σ' H' s'∧tn1 j s'.heap∧(∀ b∈fp1,H' b=none)∧W1 j n1 σ' H') ?_ m1 ⟨0,_,_,I11,st11,fun b hb=>(f11 b hb).1,w1⟩;rintro n1 s13 ⟨j,σ13,H13,I13,st13,fr13,w13⟩
  unfold Zlb
  rcases turn1 j n1 σ13 H13 w13 with ⟨stop,m',hm',qn⟩|⟨go1,step1⟩
  · refine thn (T1.done (blk X scope cl s3.heap.objs.size N s3 (upd H2 s2.heap.objs.size ac) fp) rfl rfl rfl hc j _ s13 σ13 H13 (fun _ _=>False) I13 (fun b hb=>fpC b hb (fr13 b hb)) st13 stop) fun r s14 ⟨hr,I14⟩=>?_;subst hr;exact again I14 hm' qn
  · refine thn (T1.item (blk X scope cl s3.heap.objs.size N s3 (upd H2 s2.heap.objs.size ac) fp) rfl rfl rfl hc j _ s13 σ13 H13 (fun _ _=>False) I13 (fun b hb=>fpC b hb (fr13 b hb)) st13 go1) fun r s14 ⟨u1,hr,h14⟩=>?_;subst hr;refine thn h14 fun _ s15 ⟨y,H15,I15,r15,y15,st15,fr15⟩=>?_;have I15':=I15.pinned (fun b hb=>fpC b hb (fr15 b hb)) (T1.obj _ _ st15);refine thn (hg1 _ _ _ _ _ s15 σ13 H15 y u1 _ I15' r15 (step1 y H15 y15)) fun _ s16 ⟨σ16,H16,I16,q16⟩=>?_;refine thn (he _ _ _ _ _ s16 σ16 H16 _ I16 q16) fun vv s17 ⟨vk,H17,I17,r17,q17⟩=>?_;refine thn (hA _ _ s17 σ16 H17 vk vv _ _ I17 r17 q17) fun _ s18 ⟨H18,I18,m',hm',w18⟩=>?_;refine ⟨m',hm',j+1,σ16,_,I18.unpinned,T1.keep _ _ _ st15 fun b hb o e=>(I18.pin (b,o) (n33_ _ (n33_ _ (Y3 hb e)))).1,fun b hb=>?_,w18⟩;obtain ⟨o,e,d⟩:=T1.obj _ _ st15 b hb;exact (I18.pin (b,o) (n33_ _ (n33_ _ (Y3 hb e)))).2.1
 exact c2.start _ 1 (by decide) _ _ _ _ _ lp fun E=>T1.self _ 0 _ _ _ st11 lp
abbrev sc2 (elt t0 i0 t1 i1:Expr) (scope:Scope) (pos:Pos):Expr:=.SetComp elt [⟨t0,i0,[],0⟩,⟨t1,i1,[],0⟩] scope pos
theorem Zub {prog:Program} {w:World} {elt t0 i0 t1 i1:Expr} {scope:Scope} {pos:Pos}:C2Ok prog w (sc2 elt t0 i0 t1 i1 scope pos) t0 i0 t1 i1 elt "set.add" (fun acc v=>do standAt elt.pos;let _ ← call (.builtin "set.add") [acc,v]):=by
 refine ⟨fun _ _ _ _ _=>rfl,fun _ _ _ _=>rfl,fun _ _ _ _=>rfl,fun _ _ _=>rfl,fun _ _ _=>rfl,fun A acc x s P E h=>n0_ (wpAny_standAt (n0_ (n46_ h (fun _ s5 h5=>n3_ h5) fun _ _ h'=>h'.elim))),fun A k hk it acc env R s4 h0 h=>?_⟩;refine codeAny_of_tree ?_;show wpAny _ _ ((compStart (sc2 elt t0 i0 t1 i1 scope pos) k it acc env).onRaise (fun x=>do noteFrame x env;standAt theWindowsPlace)) _ _ s4
 refine wpAny_notedAt ?_;have hk':k=0∨k=1:=by omega
 rcases hk' with rfl|rfl <;>
 · unfold compStart;show wpAny _ _ (ask >>= _) _ _ s4
   refine n0_ (wpAny_askSetting (wpAny_ite ?_));split
   · first
      | exact n0_ (n3_ (n3_ (And.intro rfl h0)))
      | exact n3_ (And.intro rfl h0)
   · first
      | exact n0_ (wpAny_rule (n0_ (wpAny_standAt (n0_ (n46_ (h NoX) (fun it' s' h'=>n3_ (And.intro rfl h')) fun _ _ x=>x.elim)))))
      | (refine n0_ (wpAny_rule ?_);show wpAny _ _ (standAt _ >>= _) _ _ s4;exact n0_ (wpAny_standAt (n0_ (n46_ (h NoX) (fun it' s' h'=>n3_ (And.intro rfl h')) fun _ _ x=>x.elim))))
theorem Zvk:PAd "set.add" adS:=fun X pins s σ H v u D C I r ⟨k,S,nn,e,hS,hroom,q⟩=>by
 subst e;obtain ⟨tk,rfl⟩:=r;have hset:s.heap.SetOf (PySem.intKind X.prog X.w) D S nn:=I.hok _ _ hS;refine call_set_add (knd:=PySem.intKind X.prog X.w) (k:=k) (intKind_is _ _ _ _) rfl hset hroom fun h18 sb18 hset'=>⟨_,?_,q⟩;refine I.write (e:=D) (by rw [hS];trivial) (.inl rfl) (fun b o hb e=>(sb18.2 b hb).trans e) ?_ hset';obtain ⟨o,_,_,_,e,_⟩:=hset';exact ⟨o,e⟩
abbrev ScGo:=C2Go adS (.set (fun _=>false) 0)
def tSC (wi:TI) (g0:TG) (wi1:TI) (g1:TG) (te:TE) (fr:List (Option Nat)):TE:=fun σ H Q=>wi σ H fun J H1=>∀ D,H1 D=none→ScGo J g0 wi1 g1 te (Zar fr σ) H1 D Q
theorem Ztg {X:Cx} {t0 i0 t1 i1 elt:Expr} {scope:Scope} {cl:List (Str×Addr)} {N:List Str} {fr:List (Option Nat)} {pos:Pos} {wi wi1:TI} {g0 g1:TG} {te:TE}
 (hc:X.calm=true) (L:LcO X scope cl N fr) (hi:PI X t0 i0 wi) (hg:∀ C s3 H3 fp,PG (blk X scope cl C N s3 H3 fp) t0 g0) (hi1:∀ C s3 H3 fp,PI (blk X scope cl C N s3 H3 fp) t1 i1 wi1) (hg1:∀ C s3 H3 fp,PG (blk X scope cl C N s3 H3 fp) t1 g1)
 (he:∀ C s3 H3 fp,PE (blk X scope cl C N s3 H3 fp) elt te)
 (hs:∀ x,foldedSetIterable i0 X.env x=pure x:=by intro _;rfl) (hs1:∀ env x,foldedSetIterable i1 env x=pure x:=by intro _ _;rfl):PE X (sc2 elt t0 i0 t1 i1 scope pos) (tSC wi g0 wi1 g1 te fr):=by
 intro pins s σ H Q I h;rw [arm_eval_SetComp];dsimp only;refine wpAny_comprehension_free (use:=none) rfl hs L.clos L.kind L.names (thn (hi pins s σ H _ I h) fun v s1 h1=>thn h1 fun itv s2 h2=>?_);obtain ⟨it,fp,tn,J,H2,e,I2,T,st2,f2,h⟩:=h2;subst e;refine wpAny_newSet_of (knd:=PySem.intKind X.prog X.w) fun led setOf=>?_;exact Zq2 (ac:=.set (fun _=>false) 0) rfl hc L hg hi1 hg1 he Zvk I2 T st2 f2 setOf (h _ (I2.hok.fresh (n10_ _))) hs1 Zub
end L2
namespace L2
open PySem PySem.Spec PyProof.Rows PySem.W
def krun {α:Type} (f:Nat→Nat→Bool):KasT α→α
 | .ret a=>a
 | .ask i j k=>krun f (k (f i j))
def kin {α:Type} (n:Nat) (f:Nat→Nat→Bool):KasT α→Bool
 | .ret _=>true
 | .ask i j k=>decide (i<n)&&decide (j<n)&&kin n f (k (f i j))
theorem Zmo {α:Type} {n:Nat} {f:Nat→Nat→Bool} {cmp:Nat→Nat→(Bool→Shared→Prop)→Shared→Prop} {Q:α→Shared→Prop} {s:Shared} (hc:∀ i j C,i<n→j<n→C (f i j) s→cmp i j C s) :
 ∀ (t:KasT α),kin n f t=true→Q (krun f t) s→t.kasWp cmp Q s
 | .ret a,_,h=>h
 | .ask i j k,hk,h=>by
   unfold kin at hk;rw [n32_,n32_] at hk;exact hc i j _ (n30_ hk.1.1) (n30_ hk.1.2) (Zmo hc (k (f i j)) hk.2 h)
structure Ord (n:Nat) (f:Nat→Nat→Bool):Prop where
 irr:∀ i,i<n→f i i=false
 ant:∀ i j,i<n→j<n→i≠j→f j i = !f i j
 tr:∀ i j k,i<n→j<n→k<n→f i j=true→f j k=true→f i k=true
section
variable {prog:Program} {w:World} {A:Around} {E:Value→Shared→Prop} {s:Shared}
theorem Zrf {a:Addr} {vs:List Value} {n:Nat} {P:PySem.Fin→Shared→Prop} (good:List Nat→Prop) (g1:vs.length<2→good (List.range vs.length)) (ho:s.heap.get? a=some (seqObj "list" vs.toArray n)) (h64:vs.length<64)
 (ask:2≤vs.length→∀ h1,(∀ b u,b≠a→s.heap.get? b=some u→h1.get? b=some u)→wpAny (model prog w) A (keyKind' vs.toArray) (fun κ s1=>s1={ s with heap:=h1 }∧(kas_sort vs.length).kasWp (kas_ask prog w A κ vs) (fun p s2=>s2={ s with heap:=h1 }∧good p.toList) s1) (fun _ _=>False) { s with heap:=h1 })
 (h:∀ p:List Nat,good p→P (.done (.ret .none)) { s with heap:=sortedHeap s.heap a vs (p.map fun i=>vs.getD i Value.none).toArray }) :
 wpAny (model prog w) A (Builtin.«list.sort» ⟨[.ref a],[]⟩) P E s:=by
 have ha:a<s.heap.objs.size:=n13_ ho;obtain ⟨e1,o1⟩:∃ e1,(s.heap.update a (Obj.mapSeq fun _=>(#[]:Array Value))).get? a=some (seqObj "list" #[] e1):=⟨_,get?_update_seq ho fun _=>#[]⟩;have s1:=Heap.SameBut.update s.heap a (Obj.mapSeq fun _=>(#[]:Array Value));have k6:∀ b u,b≠a→s.heap.get? b=some u→(((s.heap.update a (Obj.mapSeq fun _=>#[])).push (seqObj "tuple" vs.toArray 0)).push (seqObj "list" #[] 0)).get? b=some u:=fun b u nb e=>n2_ _ (n2_ _ ((s1.2 b nb).trans e));have o6:(((s.heap.update a (Obj.mapSeq fun _=>#[])).push (seqObj "tuple" vs.toArray 0)).push (seqObj "list" #[] 0)).get? a=some (seqObj "list" #[] e1):=n2_ _ (n2_ _ o1);rw [list_sort_plain];refine n0_ (listItems_at ho rfl (n0_ (listUpdate_at ho rfl (n0_ (seqEpoch_at o1 rfl (n0_ (wpAny_newTuple (n0_ (wpAny_newList (n36_ ?_) (n51_ _))) (by show vs.length≤_;rw [sizeLine_eq];omega))))) (by rw [n8_,sizeLine_eq];omega) (n51_ _))));show wpAny (model prog w) A _ P E { s with heap:=((s.heap.update a (Obj.mapSeq fun _=>#[])).push (seqObj "tuple" vs.toArray 0)).push (seqObj "list" #[] 0) }
 dsimp only
 by_cases h2:vs.toArray.size<2
 · rw [if_pos h2,if_pos h2];refine n0_ (n3_ ?_);rw [StateT.run_pure];refine n0_ (n3_ ?_);dsimp only;have z:=h _ (g1 (by simpa using h2))
   have ev:((List.range vs.length).map fun i=>vs.getD i Value.none)=vs:=by
    refine n64_ (by simp) fun i a1 a2=>?_;simp [n4_,a2]
   rw [ev] at z;refine n0_ (seqEpoch_at o6 rfl (n0_ (listUpdate_at o6 rfl ?_ (hsz2:=by rw [Array.size_map];show (vs.toArray.zip vs.toArray).size≤_;rw [Array.size_zip,n8_,sizeLine_eq];omega))));simp only [bne_self_eq_false,n16_,if_false];refine n3_ ?_
   have em:((vs.toArray.zip vs.toArray).map (·.2))=vs.toArray:=by
    apply Array.ext (by simp)
    intro i a1 a2
    simp
   unfold sortedHeap at z;show P _ { s with heap:=(((s.heap.update a (Obj.mapSeq fun _=>#[])).push (seqObj "tuple" vs.toArray 0)).push (seqObj "list" #[] 0)).update a (Obj.mapSeq fun _=>(vs.toArray.zip vs.toArray).map (·.2)) }
   rw [em];exact z
 · have hn:2≤vs.length:=by simp at h2;omega
   rw [if_neg h2,if_neg h2];refine n0_ (n46_ (ask hn _ k6) (fun κ s0 hk=>?_) fun _ _ x=>x.elim);obtain ⟨rfl,hk⟩:=hk
   refine n0_ (n46_ (kat_run (Q:=fun st' s2=>∃ p:Array Nat,arrOf st'=p.map (kas_item (vs.toArray.zip vs.toArray))∧failedOf st'=none∧p.size=vs.length∧s2={ s with heap:=((s.heap.update a (Obj.mapSeq fun _=>#[])).push (seqObj "tuple" vs.toArray 0)).push (seqObj "list" #[] 0) }∧good p.toList)
    rfl hn h64 (fun p st' s2 a1 a2 a3 a4=>⟨p,a2,a3,a1,a4.1,a4.2⟩) hk) ?_ fun _ _ e=>e)
   rintro ⟨⟨⟩,st'⟩ s2 ⟨p,har,hf,hp,rfl,gp⟩
   dsimp only;rw [kat_snds rfl har];refine n0_ (seqEpoch_at o6 rfl (n0_ (listUpdate_at o6 rfl ?_ (n51_ _) (by rw [n8_,n5_,Array.length_toList,hp,sizeLine_eq];omega))));rw [hf];simp only [bne_self_eq_false,n16_,if_false];exact n3_ (h p.toList gp)
end
end L2
namespace L2
open PySem PySem.Spec PyProof.Rows PySem.W
section
variable {prog:Program} {w:World} {A:Around} {E:Value→Shared→Prop} {s:Shared}
theorem Zt3 {b:Bool} {x y:Int} {t u:Tok} {Q:Bool→Shared→Prop} (h:Q (decide (x<y)) s):wpAny (model prog w) A (oneLt' b (.int x t) (.int y u)) Q E s:=by
 cases b
 · refine kat_one _ _ (lt_int ?_);exact h
 · exact kat_lt_int h
end
theorem Zc8:∀ (a:List Int),HT.lexLt a a=false
 | []=>rfl
 | x :: a=>by rw [HT.lexLt_cons,if_pos rfl];exact Zc8 a
theorem Zp5:∀ (a b c:List Int),a.length=b.length→b.length=c.length→HT.lexLt a b=true→HT.lexLt b c=true→HT.lexLt a c=true
 | [],[],_,_,_,h,_=>by cases h
 | [],_ :: _,_,h,_,_,_=>by simp at h
 | _ :: _,[],_,h,_,_,_=>by simp at h
 | _ :: _,_ :: _,[],_,h,_,_=>by simp at h
 | x :: a,y :: b,z :: c,h1,h2,h3,h4=>by
   rw [HT.lexLt_cons] at h3 h4 ⊢
   by_cases e1:x=y
   · subst e1;rw [if_pos rfl] at h3
     by_cases e2:x=z
     · subst e2;rw [if_pos rfl] at h4 ⊢;exact Zp5 a b c (by simpa using h1) (by simpa using h2) h3 h4
     · rw [if_neg e2] at h4 ⊢;exact h4
   · rw [if_neg e1] at h3;have l1:x<y:=n30_ h3
     by_cases e2:y=z
     · subst e2;rw [if_neg e1];exact h3
     · rw [if_neg e2] at h4;have l2:y<z:=n30_ h4;rw [if_neg (by omega)];exact n40_ (by omega)
section
variable {X:Cx}
theorem Zdd {h:Heap}:∀ {vs:List Value} {kl:List (List Int)},Paired (fun v k=>∃ b o its n,v=Value.ref b∧h.get? b=some o∧o.cls=.type "tuple" ∧ o.data=.seq its n∧IntsAre its.toList k∧0<k.length) vs kl→∃ fs:List Value,KatTups h vs fs∧fs.length=vs.length∧∀ v∈fs,∃ x t,v=Value.int x t
 | [],[],.nil=>⟨[],.nil,rfl,fun v hv=>by simp at hv⟩
 | v :: vs,k :: kl,.cons r rs=>by
   obtain ⟨fs,h1,h2,h3⟩:=Zdd rs;obtain ⟨b,o,its,n,rfl,g,c,d,hi,hk⟩:=r;cases k with
   | nil=>simp at hk
   | cons x k =>
     have:∃ t,its[0]? = some (Value.int x t):=by
      cases hi':its.toList with
      | nil=>rw [hi'] at hi;cases hi
      | cons u us =>
        rw [hi'] at hi;cases hi with
        | cons _ t _=>exact ⟨t,by rw [← Array.getElem?_toList,hi'];rfl⟩
     obtain ⟨t,e⟩:=this;refine ⟨_ :: fs,.cons g c d e h1,by rw [n18_,n18_,h2],fun v hv=>?_⟩
     rcases n11_.mp hv with rfl|hv
     · exact ⟨_,_,rfl⟩
     · exact h3 v hv
end
abbrev ZR (h:Heap) (z t o:Addr) (f0:Value) (f1:Bool):Prop:=h.get? z=some { cls:=.type "zip",dict:=none,data:=.fields #[f0,.bool f1,.bool false,.ref t,.ref o],slots:=#[] }
def ZSt (h:Heap) (z t o:Addr):Prop:=∃ f0 f1,ZR h z t o f0 f1∧(f0=.none∨∃ T,f0=rawInt T)
section
variable {prog:Program} {w:World} {A:Around} {E:Value→Shared→Prop} {s:Shared} {k l:SK}
theorem Zip {M:Model} {a:Addr} {Q:Option Obj→Shared→Prop} (h:Q (s.heap.get? a) s):wpAny M A (loadIfAlive a) Q E s:=fun _ _ _=>h
theorem Zj6 {z t o:Addr} {Q:Bool→Shared→Prop} (hz:ZSt s.heap z t o) (q:∀ (b:Bool) (h1:Heap),ZSt h1 z t o→Heap.SameBut z s.heap h1→Q b { s with heap:=h1 }):wpAny (model prog w) A (n31_ (.ref z)) Q E s:=by
 obtain ⟨f0,f1,hz,hf⟩:=hz;unfold n31_;refine n0_ (wpAny_field hz rfl (x:=f0) rfl ?_)
 rcases hf with rfl|⟨T,rfl⟩
 · exact n3_ (q true s.heap ⟨_,_,hz,.inl rfl⟩ (Heap.SameBut.refl ..))
 · show wpAny _ _ (loadIfAlive _ >>= _) _ _ s
   refine n0_ (Zip ?_);split
   · exact n3_ (q true s.heap ⟨_,_,hz,.inr ⟨T,rfl⟩⟩ (Heap.SameBut.refl ..))
   · refine n0_ (wpAny_field hz rfl (x:=.bool f1) rfl ?_);split
     · refine n0_ (wpAny_setField_rec hz (by simp) fun h1 z1 s1=>n3_ (q false h1 ⟨_,true,z1,.inr ⟨T,rfl⟩⟩ s1))
     · exact n3_ (q false s.heap ⟨_,_,hz,.inr ⟨T,rfl⟩⟩ (Heap.SameBut.refl ..))
theorem Znf {z t o i j a b:Addr} {m n:Nat} {xs ys:Array Value} {x y c d:Value} {Q:Value→Shared→Prop} (D:ZP z t o i j a b)
 (hz:ZSt s.heap z t o) (ht:IsPair s.heap t (.ref i) (.ref j)) (ho:IsPair s.heap o c d)
 (hi:k.It s.heap i a m) (hj:l.It s.heap j b n) (ha:k.Is s.heap a xs) (hb:l.Is s.heap b ys) (hx:xs[m]? = some x) (hy:ys[n]? = some y)
 (q:∀ h1,ZSt h1 z t o→(∃ c d,IsPair h1 o c d)→k.It h1 i a (m+1)→l.It h1 j b (n+1)→IsPair h1 s.heap.objs.size x y→h1.objs.size=s.heap.objs.size+1 →
   (∀ e u,e≠z→e≠o→e≠i→e≠j→s.heap.get? e=some u→h1.get? e=some u)→Q (.ref s.heap.objs.size) { s with heap:=h1 }) :
 wpAny (model prog w) A (Builtin.«zip.__next__» ⟨[.ref z],[]⟩) (fun fin s'=>∃ v,fin=.done (.ret v)∧Q v s') E s:=by
 obtain ⟨f0,f1,hz0,hf⟩:=id hz;refine n0_ (m:=field (.ref z) 2) (wpAny_field hz0 rfl (x:=.bool false) rfl ?_);refine n0_ (m:=field (.ref z) 3) (wpAny_field hz0 rfl (x:=.ref t) rfl (n0_ (wpAny_seqItems ht rfl ?_)));refine n0_ (m:=n31_ (.ref z)) (Zj6 hz fun fr h0 hz' s0=>?_);have ho0:IsPair h0 o c d:=s0.extBut _ _ D.oz ho;have hi0:k.It h0 i a m:=hi.at fun u e=>s0.extBut _ _ D.iz e;have hj0:l.It h0 j b n:=hj.at fun u e=>s0.extBut _ _ D.jz e;have ha0:k.Is h0 a xs:=ha.at fun u e=>s0.extBut _ _ D.az e;have hb0:l.Is h0 b ys:=hb.at fun u e=>s0.extBut _ _ D.bz e;have n0:h0.objs.size=s.heap.objs.size:=s0.1;obtain ⟨g0,g1,hz0,hg⟩:=hz';cases fr with
 | true =>
   simp only [if_true];refine n0_ (wpAny_rule (n0_ (wpAny_field hz0 rfl (x:=.ref o) rfl (n0_ (wpAny_setField_rec hz0 (by simp) fun h1 z1 s1=>?_)))));replace z1:ZR h1 z t o .ellipsis g1:=z1;refine n0_ ?_;simp only [List.zipIdx_cons,List.zipIdx_nil,List.forIn_cons,List.forIn_nil];refine n0_ (n0_ (wpAny_onRaise (n0_ (m:=n25_ (.ref i)) ?_)));refine SK.draw (hi0.at fun u e=>s1.extBut _ _ D.iz e) (ha0.at fun u e=>s1.extBut _ _ D.az e) hx fun h2 i2 s2=>n3_ ?_;have o2:IsPair h2 o c d:=s2.extBut _ _ D.oi (s1.extBut _ _ D.oz ho0);refine n0_ (wpAny_seqItems o2 rfl (n0_ (wpAny_updateSeq_pair o2 fun h3 o3 s3=>?_)));replace o3:IsPair h3 o x d:=o3;refine n0_ (wpAny_letGo (n3_ (n0_ (n0_ (wpAny_onRaise (n0_ (m:=n25_ (.ref j)) ?_))))));refine SK.draw (hj0.at fun u e=>s3.extBut _ _ D.oj.symm (s2.extBut _ _ D.ij.symm (s1.extBut _ _ D.jz e))) (hb0.at fun u e=>s3.extBut _ _ D.bo (s2.extBut _ _ D.bi (s1.extBut _ _ D.bz e))) hy fun h4 j4 s4=>n3_ ?_;have o4:IsPair h4 o x d:=s4.extBut _ _ D.oj o3;refine n0_ (wpAny_seqItems o4 rfl (n0_ (wpAny_updateSeq_pair o4 fun h5 o5 s5=>?_)));replace o5:IsPair h5 o x y:=o5;refine n0_ (wpAny_letGo (n3_ (n3_ (n0_ (wpAny_seqItems o5 rfl (n0_ (wpAny_newTuple ?_)))))));have sz:h5.objs.size=s.heap.objs.size:=by rw [s5.1,s4.1,s3.1,s2.1,s1.1,n0]
   have z5:ZR h5 z t o .ellipsis g1:=s5.extBut _ _ D.oz.symm (s4.extBut _ _ D.jz.symm (s3.extBut _ _ D.oz.symm (s2.extBut _ _ D.iz.symm z1)));have k5:∀ e u,e≠z→e≠o→e≠i→e≠j→s.heap.get? e=some u→h5.get? e=some u:=fun e u e1 e2 e3 e4 g=>s5.extBut _ _ e2 (s4.extBut _ _ e4 (s3.extBut _ _ e2 (s2.extBut _ _ e3 (s1.extBut _ _ e1 (s0.extBut _ _ e1 g)))));have i5:k.It h5 i a (m+1):=i2.at fun u e=>s5.extBut _ _ D.oi.symm (s4.extBut _ _ D.ij (s3.extBut _ _ D.oi.symm e));have j5:l.It h5 j b (n+1):=j4.at fun u e=>s5.extBut _ _ D.oj.symm e;have zl:z<h5.objs.size:=n13_ z5;refine n0_ (m:=Builtin.SmallTypes.ownedTupleHandOut (.ref z) (.ref h5.objs.size)) ?_;unfold Builtin.SmallTypes.ownedTupleHandOut;have z6:ZR (h5.push { cls:=.type "tuple",data:=.seq #[x,y] }) z t o .ellipsis g1:=n2_ _ z5;refine n0_ (wpAny_setField_rec z6 (by simp) fun h7 z7 s7=>?_);replace z7:ZR h7 z t o (rawInt h5.objs.size) g1:=z7;refine wpAny_setField_rec z7 (by simp) fun h8 z8 s8=>?_;replace z8:ZR h8 z t o (rawInt h5.objs.size) false:=z8;have up:∀ e u,e≠z→h5.get? e=some u→h8.get? e=some u:=fun e u e1 g=>s8.extBut _ _ e1 (s7.extBut _ _ e1 (n2_ _ g));have T8:IsPair h8 h5.objs.size x y:=s8.extBut _ _ (n61_ zl) (s7.extBut _ _ (n61_ zl) (n9_ _ rfl));have l8:h8.objs.size=h5.objs.size+1:=by rw [s8.1,s7.1,n42_]
   rw [sz] at T8 l8;refine n3_ ⟨_,rfl,?_⟩;show Q (.ref h5.objs.size) _
   rw [sz];exact q h8 ⟨_,_,z8,.inr ⟨_,rfl⟩⟩ ⟨x,y,up _ _ D.oz o5⟩ (i5.at fun u e=>up _ u D.iz e) (j5.at fun u e=>up _ u D.jz e) T8 l8 fun e u e1 e2 e3 e4 g=>up e u e1 (k5 e u e1 e2 e3 e4 g)
 | false =>
   simp only [n16_,if_false];refine n0_ ?_;rw [← Array.forIn_toList];simp only [List.forIn_cons,List.forIn_nil];refine n0_ (n0_ (n36_ (n0_ (m:=n25_ (.ref i)) (SK.draw hi0 ha0 hx fun h2 i2 s2=>n3_ (n3_ ?_)))));refine n0_ (n0_ (n36_ (n0_ (m:=n25_ (.ref j)) (SK.draw (hj0.at fun u e=>s2.extBut _ _ D.ij.symm e) (hb0.at fun u e=>s2.extBut _ _ D.bi e) hy fun h4 j4 s4=>n3_ (n3_ ?_)))));refine n3_ ?_;have sz:h4.objs.size=s.heap.objs.size:=by rw [s4.1,s2.1,n0]
   have z4:ZR h4 z t o g0 g1:=s4.extBut _ _ D.jz.symm (s2.extBut _ _ D.iz.symm hz0);refine n0_ (wpAny_newTuple (n3_ ⟨_,rfl,?_⟩) (z2_));show Q (.ref h4.objs.size) _
   have up:∀ e u,h4.get? e=some u→(h4.push { cls:=.type "tuple",data:=.seq #[x,y] }).get? e=some u:=fun e u g=>n2_ _ g;have T4:IsPair (h4.push { cls:=.type "tuple",data:=.seq #[x,y] }) h4.objs.size x y:=n9_ _ rfl;rw [sz] at T4 ⊢;refine q _ ⟨_,_,up _ _ z4,hg⟩ ⟨c,d,up _ _ (s4.extBut _ _ D.oj (s2.extBut _ _ D.oi ho0))⟩ (i2.at fun u e=>up _ u (s4.extBut _ _ D.ij e)) (j4.at fun u e=>up _ u e) T4 (by rw [n42_,sz]) fun e u e1 e2 e3 e4 g=>up e u (s4.extBut _ _ e4 (s2.extBut _ _ e3 (s0.extBut _ _ e1 g)))
theorem Zox {z t o i j a b:Addr} {m n:Nat} {xs ys:Array Value} {c d:Value} {Q:Fin→Shared→Prop} (hh:A.handled=none) (D:ZP z t o i j a b)
 (hz:ZSt s.heap z t o) (ht:IsPair s.heap t (.ref i) (.ref j)) (ho:IsPair s.heap o c d)
 (hi:k.It s.heap i a m) (hj:l.It s.heap j b n) (ha:k.Is s.heap a xs) (hb:l.Is s.heap b ys) (hx:xs[m]? = none∨ys[n]? = none)
 (q:∀ h1 e,(∀ e u,e≠z→e≠o→e≠i→e≠j→s.heap.get? e=some u→h1.get? e=some u)→(∃ u,h1.get? e=some u∧u.cls=.type "StopIteration")→E (.ref e) { s with heap:=h1 }) :
 wpAny (model prog w) A (Builtin.«zip.__next__» ⟨[.ref z],[]⟩) Q E s:=by
 obtain ⟨f0,f1,hz0,hf⟩:=id hz;refine n0_ (m:=field (.ref z) 2) (wpAny_field hz0 rfl (x:=.bool false) rfl ?_);refine n0_ (m:=field (.ref z) 3) (wpAny_field hz0 rfl (x:=.ref t) rfl (n0_ (wpAny_seqItems ht rfl ?_)));refine n0_ (m:=n31_ (.ref z)) (Zj6 hz fun fr h0 hz' s0=>?_);have ho0:IsPair h0 o c d:=s0.extBut _ _ D.oz ho;have hi0:k.It h0 i a m:=hi.at fun u e=>s0.extBut _ _ D.iz e;have hj0:l.It h0 j b n:=hj.at fun u e=>s0.extBut _ _ D.jz e;have ha0:k.Is h0 a xs:=ha.at fun u e=>s0.extBut _ _ D.az e;have hb0:l.Is h0 b ys:=hb.at fun u e=>s0.extBut _ _ D.bz e;obtain ⟨g0,g1,hz0,hg⟩:=hz';cases fr with
 | true =>
   simp only [if_true];refine n0_ (wpAny_rule (n0_ (wpAny_field hz0 rfl (x:=.ref o) rfl (n0_ (wpAny_setField_rec hz0 (by simp) fun h1 z1 s1=>?_)))));replace z1:ZR h1 z t o .ellipsis g1:=z1;refine n0_ ?_;simp only [List.zipIdx_cons,List.zipIdx_nil,List.forIn_cons,List.forIn_nil];refine n0_ (n0_ (wpAny_onRaise (n0_ (m:=n25_ (.ref i)) ?_)));cases hm:xs[m]? with
   | none =>
     refine SK.dry hh (hi0.at fun u e=>s1.extBut _ _ D.iz e) (ha0.at fun u e=>s1.extBut _ _ D.az e) hm fun h2 e s2 ⟨u,g,cu⟩=>?_;have z2:ZR h2 z t o .ellipsis g1:=s2 _ _ D.iz.symm z1;have ez:e≠z:=fun r=>by subst r;rw [z2] at g;cases g;simp at cu
     exact wpAny_setField_rec z2 (by simp) fun h3 _ s3=>q h3 e (fun e' u' e1 _ e3 _ r=>s3.extBut _ _ e1 (s2 _ _ e3 (s1.extBut _ _ e1 (s0.extBut _ _ e1 r)))) ⟨u,s3.extBut _ _ ez g,cu⟩
   | some x =>
     have hn:ys[n]? = none:=by rcases hx with r|r;(rw [hm] at r;cases r);exact r
     refine SK.draw (hi0.at fun u e=>s1.extBut _ _ D.iz e) (ha0.at fun u e=>s1.extBut _ _ D.az e) hm fun h2 i2 s2=>n3_ ?_;have o2:IsPair h2 o c d:=s2.extBut _ _ D.oi (s1.extBut _ _ D.oz ho0);refine n0_ (wpAny_seqItems o2 rfl (n0_ (wpAny_updateSeq_pair o2 fun h3 o3 s3=>?_)));refine n0_ (wpAny_letGo (n3_ (n0_ (n0_ (wpAny_onRaise (n0_ (m:=n25_ (.ref j)) ?_))))));refine SK.dry hh (hj0.at fun u e=>s3.extBut _ _ D.oj.symm (s2.extBut _ _ D.ij.symm (s1.extBut _ _ D.jz e))) (hb0.at fun u e=>s3.extBut _ _ D.bo (s2.extBut _ _ D.bi (s1.extBut _ _ D.bz e))) hn fun h4 e s4 ⟨u,g,cu⟩=>?_;have z4:ZR h4 z t o .ellipsis g1:=s4 _ _ D.jz.symm (s3.extBut _ _ D.oz.symm (s2.extBut _ _ D.iz.symm z1));have ez:e≠z:=fun r=>by subst r;rw [z4] at g;cases g;simp at cu
     exact wpAny_setField_rec z4 (by simp) fun h5 _ s5=>q h5 e (fun e' u' e1 e2 e3 e4 r=>s5.extBut _ _ e1 (s4 _ _ e4 (s3.extBut _ _ e2 (s2.extBut _ _ e3 (s1.extBut _ _ e1 (s0.extBut _ _ e1 r)))))) ⟨u,s5.extBut _ _ ez g,cu⟩
 | false =>
   simp only [n16_,if_false];refine n0_ ?_;rw [← Array.forIn_toList];simp only [List.forIn_cons,List.forIn_nil];refine n0_ (n0_ (n36_ (n0_ (m:=n25_ (.ref i)) ?_)));cases hm:xs[m]? with
   | none=>exact SK.dry hh hi0 ha0 hm fun h2 e s2 hu=>q h2 e (fun e' u' e1 _ e3 _ r=>s2 _ _ e3 (s0.extBut _ _ e1 r)) hu
   | some x =>
     have hn:ys[n]? = none:=by rcases hx with r|r;(rw [hm] at r;cases r);exact r
     refine SK.draw hi0 ha0 hm fun h2 i2 s2=>n3_ (n3_ ?_);refine n0_ (n0_ (n36_ (n0_ (m:=n25_ (.ref j)) ?_)));exact SK.dry hh (hj0.at fun u e=>s2.extBut _ _ D.ij.symm e) (hb0.at fun u e=>s2.extBut _ _ D.bi e) hn fun h4 e s4 hu=>q h4 e (fun e' u' e1 _ e3 e4 r=>s4 _ _ e4 (s2.extBut _ _ e3 (s0.extBut _ _ e1 r))) hu
theorem Zla {e z t o i j a b:Addr} {n:Nat} {xs ys:Array Value} {x y c d old:Value} {Q:Option Value→Shared→Prop} (D:ZP z t o i j a b) (ne:e≠z∧e≠t∧e≠o∧e≠i∧e≠j∧a≠e∧b≠e)
 (he:IsEnum s.heap e z n old) (hz:ZSt s.heap z t o) (ht:IsPair s.heap t (.ref i) (.ref j)) (ho:IsPair s.heap o c d)
 (hi:k.It s.heap i a n) (hj:l.It s.heap j b n) (ha:k.Is s.heap a xs) (hb:l.Is s.heap b ys) (hx:xs[n]? = some x) (hy:ys[n]? = some y)
 (q:∀ h1 tk,IsEnumOut h1 e z ((n:Int)+1) (.ref s.heap.objs.size) (s.heap.objs.size+1)→ZSt h1 z t o→IsPair h1 t (.ref i) (.ref j)→(∃ c d,IsPair h1 o c d)→k.It h1 i a (n+1)→l.It h1 j b (n+1)→IsPair h1 s.heap.objs.size x y→IsPair h1 (s.heap.objs.size+1) (.int n tk) (.ref s.heap.objs.size) →
   (∀ f u,f≠e→f≠z→f≠o→f≠i→f≠j→s.heap.get? f=some u→h1.get? f=some u)→Q (some (.ref (s.heap.objs.size+1))) { s with heap:=h1,toks:=tk+1 }) :
 wpAny (model prog w) A (pyNext (.ref e)) Q E s:=by
 have hT:s.TypeIs (.ref e) "enumerate" := ⟨_,he,rfl⟩;obtain ⟨n1,n2,n3,n4,n5,n6,n7⟩:=ne;unfold pyNext;refine n0_ (wpAny_attempt (wpAny_callSpecial?_slot (name:=Str.ofString "__next__") hT F.slot_enumerate_next (wpAny_call_entry F.slot_enumerate_next hT F.entry_enumerate_next ?_ (F.args_enumerate_next_1 _))));refine n0_ (m:=field (.ref e) 2) (wpAny_field he rfl (x:=.ref z) rfl ?_);obtain ⟨f0,f1,hz0,hf⟩:=id hz;have hTz:s.TypeIs (.ref z) "zip" := ⟨_,hz0,rfl⟩;refine n0_ (m:=n25_ (.ref z)) ?_;unfold n25_;refine n0_ (wpAny_callSpecial?_slot (name:=Str.ofString "__next__") hTz F.slot_zip_next (wpAny_call_entry F.slot_zip_next hTz F.entry_zip_next (Znf D hz ht ho hi hj ha hb hx hy fun h1 r1 r2 r3 r4 r5 r6 r7=>n3_ ?_) (F.args_zip_next_1 _)));have he1:IsEnum h1 e z n old:=r7 _ _ n1 n3 n4 n5 he;have el:e<s.heap.objs.size:=n13_ he;refine n0_ (m:=field (.ref e) 3) (wpAny_field he1 rfl (x:=rawInt n) rfl ?_);refine n0_ (m:=field (.ref e) 4) (wpAny_field he1 rfl (x:=.none) rfl ?_);refine n0_ (m:=mkInt n) (wpAny_mkInt ?_);refine n0_ (m:=setField (.ref e) 3 (rawInt ((n:Int)+1))) (wpAny_setField_rec he1 (by simp) fun h2 e2 s2=>?_);replace e2:IsEnum h2 e z ((n:Int)+1) old:=e2;refine n0_ (m:=setField (.ref e) 4 .none) (wpAny_setField_rec e2 (by simp) fun h3 e3 s3=>?_);replace e3:IsEnum h3 e z ((n:Int)+1) old:=e3;refine n0_ (m:=newTuple _) (wpAny_newTuple ?_);have sz:h3.objs.size=s.heap.objs.size+1:=by rw [s3.1,s2.1];exact r6
 have e4:IsEnum (h3.push { cls:=.type "tuple",data:=.seq #[.int n s.toks,.ref s.heap.objs.size] }) e z ((n:Int)+1) old:=n2_ _ e3;have T4:(h3.push { cls:=.type "tuple",data:=.seq #[.int n s.toks,.ref s.heap.objs.size] }).get? (s.heap.objs.size+1)=some { cls:=.type "tuple",data:=.seq #[.int n s.toks,.ref s.heap.objs.size] }:=by rw [← sz];exact n9_ _ rfl
 have k4:∀ f u,f≠e→h1.get? f=some u→(h3.push { cls:=.type "tuple",data:=.seq #[.int n s.toks,.ref s.heap.objs.size] }).get? f=some u:=fun f u fe g=>n2_ _ (s3.extBut _ _ fe (s2.extBut _ _ fe g));generalize h3.push { cls:=.type "tuple",data:=.seq #[.int n s.toks,.ref s.heap.objs.size] }=h4 at e4 T4 k4;refine n0_ (m:=n31_ (.ref e)) ?_;unfold n31_;refine n0_ (wpAny_field e4 rfl (x:=.none) rfl (n3_ ?_));simp only [if_true];refine n0_ (wpAny_rule (n0_ (wpAny_field e4 rfl (x:=old) rfl (n0_ (wpAny_setField_rec e4 (by simp) fun h5 e5 s5=>?_)))));replace e5:IsEnum h5 e z ((n:Int)+1) (.ref s.heap.objs.size):=e5;refine n0_ ?_;unfold Builtin.SmallTypes.ownedTupleHandOut;refine n0_ (wpAny_setField_rec e5 (by simp) fun h6 e6 s6=>?_);refine wpAny_setField_rec e6 (by simp) fun h7 e7 s7=>?_;rw [sz] at e7;replace e7:IsEnumOut h7 e z ((n:Int)+1) (.ref s.heap.objs.size) (s.heap.objs.size+1):=e7;refine n0_ (wpAny_letGo (n3_ ⟨_,rfl,n3_ ?_⟩));rw [sz];have up:∀ f u,f≠e→h1.get? f=some u→h7.get? f=some u:=fun f u fe g=>s7.extBut _ _ fe (s6.extBut _ _ fe (s5.extBut _ _ fe (k4 f u fe g)));obtain ⟨g0,g1,z1,hg⟩:=r1;obtain ⟨c',d',o1⟩:=r2;refine q h7 s.toks e7 ⟨g0,g1,up _ _ n1.symm z1,hg⟩ (up _ _ n2.symm (r7 _ _ D.tz D.to D.ti D.tj ht)) ⟨c',d',up _ _ n3.symm o1⟩ (r3.at fun u g=>up _ u n4.symm g) (r4.at fun u g=>up _ u n5.symm g) (up _ _ (n61_ el) r5) ?_ fun f u f1 f2 f3 f4 f5 g=>up f u f1 (r7 f u f2 f3 f4 f5 g);have ne:s.heap.objs.size+1≠e:=n61_ (n49_ el);exact s7.extBut _ _ ne (s6.extBut _ _ ne (s5.extBut _ _ ne T4))
theorem Zl5 {e z t o i j a b:Addr} {n:Nat} {xs ys:Array Value} {c d old:Value} {Q:Option Value→Shared→Prop} (hh:A.handled=none) (D:ZP z t o i j a b) (ne:e≠z∧e≠t∧e≠o∧e≠i∧e≠j∧a≠e∧b≠e)
 (he:IsEnum s.heap e z n old) (hz:ZSt s.heap z t o) (ht:IsPair s.heap t (.ref i) (.ref j)) (ho:IsPair s.heap o c d)
 (hi:k.It s.heap i a n) (hj:l.It s.heap j b n) (ha:k.Is s.heap a xs) (hb:l.Is s.heap b ys) (hx:xs[n]? = none∨ys[n]? = none)
 (q:∀ h1,(∀ f u,f≠e→f≠z→f≠o→f≠i→f≠j→s.heap.get? f=some u→h1.get? f=some u)→Q none { s with heap:=h1 }) :
 wpAny (model prog w) A (pyNext (.ref e)) Q E s:=by
 have hT:s.TypeIs (.ref e) "enumerate" := ⟨_,he,rfl⟩;unfold pyNext;refine n0_ (wpAny_attempt (wpAny_callSpecial?_slot (name:=Str.ofString "__next__") hT F.slot_enumerate_next (wpAny_call_entry F.slot_enumerate_next hT F.entry_enumerate_next ?_ (F.args_enumerate_next_1 _))));refine n0_ (m:=field (.ref e) 2) (wpAny_field he rfl (x:=.ref z) rfl ?_);obtain ⟨f0,f1,hz0,hf⟩:=id hz;have hTz:s.TypeIs (.ref z) "zip" := ⟨_,hz0,rfl⟩;refine n0_ (m:=n25_ (.ref z)) ?_;unfold n25_;refine n0_ (wpAny_callSpecial?_slot (name:=Str.ofString "__next__") hTz F.slot_zip_next (wpAny_call_entry F.slot_zip_next hTz F.entry_zip_next (Zox hh D hz ht ho hi hj ha hb hx fun h1 x r1 ⟨u,g,cu⟩=>?_) (F.args_zip_next_1 _)));exact n0_ (wpAny_isInstance (T := "StopIteration") (b:=true) ⟨u,g,cu⟩ isSubtype_stop (n3_ (q _ fun f u _ f2 f3 f4 f5 r=>r1 f u f2 f3 f4 f5 r)))
end
open AutoSeq1 (wpAny_loadPart')
section
variable {X:Cx} {pins:List (Addr×Obj)} {σ:List (Option V)} {H H':Hp} {s:Shared} {h':Heap}
theorem Inv.turnGen {t':Nat} {ch:List Addr} (I:Inv X pins σ H s) (k:∀ b u,b∉ch→s.heap.get? b=some u→h'.get? b=some u) (hf:∀ b∈ch,FpOk X pins H b)
 (old:∀ b u,H b=some u→H' b=some u) (non:∀ b u,s.heap.get? b=some u→H b=none→H' b=none) (new:∀ b u,H b=none→H' b=some u→ObjOk X.prog X.w H' h' b u):Inv X pins σ H' { s with heap:=h',toks:=t' }:=by
 have nc:∀ b u,H b=some u→b∉ch:=fun b u e z=>by rw [(hf b z).1] at e;cases e
 refine I.step (g':=s.gens) (d':=s.drawn) (ch:=ch) (fun b hb=>?_) (fun b u _ _ hc e _=>k b u hc e) (fun b u _ _ hc e _=>⟨u.slots,k b u hc e⟩) (fun b u _ e n=>non b u e n)
  (fun b u hc e=>⟨u,k b u hc e⟩) (fun b xs e=>old b _ e) (fun b u v e=>old b _ e) (fun b ps e=>⟨#[],by rw [old b _ e];simp⟩) (fun m hm=>?_) (fun b u e=>?_) I.bare
 · obtain ⟨f0,f1,f2,f3,f4,f5⟩:=hf b hb;exact ⟨f3,f1,f4,f5⟩
 · obtain ⟨u,es,ep,hu,r⟩:=hm;exact ⟨u,es,ep,k _ u (fun z=>(hf _ z).2.1 rfl) hu,r⟩
 · cases hb:H b with
   | none=>exact new b u hb e
   | some v =>
     rw [old b v hb] at e;cases e
     refine (I.hok b _ hb).stay (fun c w hc q=>k c w ?_ q) (fun c q=>old c _ q) fun c xs q=>old c _ q
     rcases hc with z|z
     · rw [z];exact nc b _ hb
     · exact nc c _ z
end
def Itez (k l:SK) (K:PySem.W.Frag) (a b:Addr):It :=
 ⟨fun i H=>∃ xs ys x y,k.Sq K H a xs∧l.Sq K H b ys∧xs[i]? = some x∧ys[i]? = some y,
  fun i H v H'=>∃ p p' x y,v=.ref p'∧H p=none∧H p'=none∧p≠p'∧H'=upd (upd H p (.tup [x,y])) p' (.tup [.int i,.ref p])∧(∀ xs,k.Sq K H a xs→xs[i]? = some x)∧∀ ys,l.Sq K H b ys→ys[i]? = some y,
  fun i H=>∃ xs ys,k.Sq K H a xs∧l.Sq K H b ys∧(xs.length≤i∨ys.length≤i)⟩
theorem Zft {P:Program} {w:World} {K:PySem.W.Frag} {es:List Expr} {x1:Nat} {tp:Pos} {k l:SK} {e z t o i j a b:Addr} (D:ZP z t o i j a b) (ne:e≠z∧e≠t∧e≠o∧e≠i∧e≠j∧a≠e∧b≠e) :
 Turn P w K (.Tuple es x1 tp) (Itez k l K a b) [e,z,t,o,i,j] e (fun n h=>(∃ old,IsEnum h e z n old)∧ZSt h z t o∧IsPair h t (.ref i) (.ref j)∧(∃ c d,IsPair h o c d)∧k.It h i a n∧l.It h j b n) where
 mem:=by simp
 obj:=fun n h st f hf=>by
  obtain ⟨⟨old,h0⟩,⟨f0,f1,h1,_⟩,h2,⟨c,d,h3⟩,h4,h5⟩:=st;simp only [n11_,n12_,or_false] at hf
  rcases hf with rfl|rfl|rfl|rfl|rfl|rfl
  · exact ⟨_,h0,fun v q=>by cases (show Data.fields _=Data.cell v from q)⟩
  · exact ⟨_,h1,fun v q=>by cases (show Data.fields _=Data.cell v from q)⟩
  · exact ⟨_,h2,fun v q=>by cases (show Data.seq _ _=Data.cell v from q)⟩
  · exact ⟨_,h3,fun v q=>by cases (show Data.seq _ _=Data.cell v from q)⟩
  · obtain ⟨u,e,_,q⟩:=h4.ex;exact ⟨u,e,fun v r=>by rw [q] at r;cases r⟩
  · obtain ⟨u,e,_,q⟩:=h5.ex;exact ⟨u,e,fun v r=>by rw [q] at r;cases r⟩
 keep:=fun n h h' st f=>by
  obtain ⟨⟨old,h0⟩,⟨f0,f1,h1,hf⟩,h2,⟨c,d,h3⟩,h4,h5⟩:=st;exact ⟨⟨old,f e (by simp) _ h0⟩,⟨f0,f1,f z (by simp) _ h1,hf⟩,f t (by simp) _ h2,⟨c,d,f o (by simp) _ h3⟩,h4.at fun u q=>f i (by simp) u q,h5.at fun u q=>f j (by simp) u q⟩
 item:=by
  intro X hP hw hK hc n pins s σ H E I hf st hg;subst hP hw hK;obtain ⟨⟨old,h0⟩,hz,h2,⟨c,d,h3⟩,h4,h5⟩:=st;obtain ⟨xs,ys,x,y,q1,q2,hx,hy⟩:=hg;obtain ⟨us,ru,pu⟩:=q1.is I;obtain ⟨vs,rv,pv⟩:=q2.is I;obtain ⟨u,hu,ux⟩:=ru.get hx;obtain ⟨v,hv,vy⟩:=rv.get hy;have lt:∀ {b o'},s.heap.get? b=some o'→b≠s.heap.objs.size∧b≠s.heap.objs.size+1:=fun q=>⟨n24_ (n13_ q),n24_ (n49_ (n13_ q))⟩;refine Zla D ne h0 hz h2 h3 h4 h5 pu pv (x:=u) (y:=v) (by simpa using hu) (by simpa using hv) fun g tk r0 r1 r2 r3 r4 r5 r6 r7 r8=>?_;refine ⟨_,rfl,wpAny_letOwnedTupleGo_enum r0 fun g2 z2 s2=>?_⟩;have hp:H s.heap.objs.size=none:=I.hok.fresh (n10_ _);have hp':H (s.heap.objs.size+1)=none:=I.hok.fresh (Nat.le_succ _);have pp:s.heap.objs.size≠s.heap.objs.size+1:=n24_ (n80_ _);have T1:IsPair g2 s.heap.objs.size u v:=s2.extBut _ _ (Ne.symm (lt h0).1) r6;have T2:IsPair g2 (s.heap.objs.size+1) (.int n tk) (.ref s.heap.objs.size):=s2.extBut _ _ (Ne.symm (lt h0).2) r7
  have I2:Inv X pins σ (upd (upd H s.heap.objs.size (.tup [x,y])) (s.heap.objs.size+1) (.tup [.int n,.ref s.heap.objs.size])) { s with heap:=g2,toks:=tk+1 }:=by
   refine I.turnGen (ch:=[e,z,o,i,j]) (fun f o' nf q=>?_) (fun f hf'=>hf f ?_) (fun b u' q=>?_) (fun b u' q n'=>?_) (fun b u' q r=>?_)
   · simp only [n11_,n12_,or_false,not_or] at nf;exact s2.extBut _ _ nf.1 (r8 f o' nf.1 nf.2.1 nf.2.2.1 nf.2.2.2.1 nf.2.2.2.2 q)
   · simp only [n11_,n12_,or_false] at hf' ⊢
     rcases hf' with q|q|q|q|q<;>simp [q]
   · rw [Zh (Zi q hp'),Zh (Zi q hp)];exact q
   · rw [Zh (lt q).2,Zh (lt q).1];exact n'
   · by_cases e1:b=s.heap.objs.size+1
     · subst e1;rw [Zc] at r;cases r;exact ⟨z2_,[.int n tk,.ref s.heap.objs.size],.cons ⟨tk,rfl⟩ (.cons rfl .nil),⟨_,T2,rfl,_,rfl⟩⟩
     · rw [Zh e1] at r
       by_cases e2:b=s.heap.objs.size
       · subst e2;rw [Zc] at r;cases r;exact ⟨z2_,[u,v],.cons ux (.cons vy .nil),⟨_,T1,rfl,_,rfl⟩⟩
       · rw [Zh e2,q] at r;cases r
  obtain ⟨n1,n2,n3,n4,n5,n6,n7⟩:=ne;obtain ⟨g0,g1,z1,hg1⟩:=r1;obtain ⟨c',d',o1⟩:=r3;refine ⟨.ref (s.heap.objs.size+1),_,I2,rfl,⟨_,_,x,y,rfl,hp,hp',pp,rfl,fun xs' q=>by rw [q.inj q1 I];exact hx,fun ys' q=>by rw [q.inj q2 I];exact hy⟩,⟨⟨_,by simpa using z2⟩,⟨g0,g1,s2.extBut _ _ n1.symm z1,hg1⟩,s2.extBut _ _ n2.symm r2,⟨c',d',s2.extBut _ _ n3.symm o1⟩,r4.at fun u' q=>s2.extBut _ _ n4.symm q,r5.at fun u' q=>s2.extBut _ _ n5.symm q⟩,fun f hf'=>?_⟩
  have nf:f≠s.heap.objs.size∧f≠s.heap.objs.size+1:=by
   obtain ⟨f0,f1,hz1,_⟩:=hz;simp only [n11_,n12_,or_false] at hf'
   rcases hf' with rfl|rfl|rfl|rfl|rfl|rfl
   · exact lt h0
   · exact lt hz1
   · exact lt h2
   · exact lt h3
   · obtain ⟨_,q,_⟩:=h4.ex;exact lt q
   · obtain ⟨_,q,_⟩:=h5.ex;exact lt q
  rw [Zh nf.2,Zh nf.1];exact (hf f hf').1
 done:=by
  intro X hP hw hK hc n pins s σ H E I hf st hg;subst hP hw hK;obtain ⟨⟨old,h0⟩,hz,h2,⟨c,d,h3⟩,h4,h5⟩:=st;obtain ⟨xs,ys,q1,q2,hl⟩:=hg;obtain ⟨us,ru,pu⟩:=q1.is I;obtain ⟨vs,rv,pv⟩:=q2.is I;have e1:=ru.length;have e2:=rv.length;refine Zl5 (I.ok.hd hc) D ne h0 hz h2 h3 h4 h5 pu pv ?_ fun g r=>⟨rfl,?_⟩
  · rcases hl with q|q
    · left;simp;omega
    · right;simp;omega
  · refine I.turnOnly (t':=s.toks) (ch:=[e,z,o,i,j]) (fun f o' nf q=>?_) (fun f hf'=>hf f ?_)
    · simp only [n11_,n12_,or_false,not_or] at nf;exact r f o' nf.1 nf.2.1 nf.2.2.1 nf.2.2.2.1 nf.2.2.2.2 q
    · simp only [n11_,n12_,or_false] at hf' ⊢
      rcases hf' with q|q|q|q|q<;>simp [q]
 self:=fun _ _ _ _ _ st h=>by obtain ⟨⟨old,h1⟩,_⟩:=st;exact wpAny_pyIter_enum h1 h
theorem Zil (z:Addr) (t o:Addr):Meets (Builtin.«enumerate.__new__» ⟨[.type "enumerate",.ref z],[]⟩) (fun _ R s=>IsZip s.heap z t o .none ∧
 R (.ok (.ret (.ref s.heap.objs.size))) { s with heap:=s.heap.push (X5 z) }) :=
 .of_wp fun prog w A R s h=>by
  obtain ⟨hp,g,d,tk,os⟩:=s;obtain ⟨hz,h⟩:=h;have hsub:=sub_enumerate;have r1:IsZip (Shared.heap ⟨hp,g,d,tk,os⟩) z t o .none:=hz
  wp_walk using wpAny_loadPart' hz
  refine wpAny_stack_any fun st=>n3_ ?_;split
  · rename_i c _ _ _ _ _
    cases (c == Value.type "enumerate")
    · (wp_walk using wpAny_loadPart' hz,wpAny_pyIter_zip r1);exact ⟨_,rfl,h⟩
    · (wp_walk using wpAny_loadPart' hz,wpAny_pyIter_zip r1);exact ⟨_,rfl,h⟩
  · (wp_walk using wpAny_loadPart' hz,wpAny_pyIter_zip r1);exact ⟨_,rfl,h⟩
section
variable {X:Cx} {es:List Expr} {x1:Nat} {tp:Pos}
def Zpg (k l:SK) (K:PySem.W.Frag) (ta:TA):TI:=fun σ H R=>ta σ H fun vs H1=>∃ a b,vs=[.ref a,.ref b]∧(∃ xs,k.Sq K H1 a xs)∧(∃ ys,l.Sq K H1 b ys)∧R (Itez k l K a b) H1
theorem Zlg (k l:SK) {a b:Expr} {ta:TA} {p p2 pos pos2:Pos} (hg:Gl X "enumerate") (hm:X.mg "enumerate" = none) (hg2:Gl X "zip") (hm2:X.mg "zip" = none) (ha:PA X [a,b] ta)
 (hs:starEach [a,b] X.env=[(false,eval a X.env),(false,eval b X.env)]:=by rfl) (hs2:starEach [b] X.env=[(false,eval b X.env)]:=by rfl)
 (he:starEach [Expr.Call (.Name "zip" p2) [a,b] [] pos2] X.env=[(false,eval (.Call (.Name "zip" p2) [a,b] [] pos2) X.env)]:=by rfl) :
 PI X (.Tuple es x1 tp) (.Call (.Name "enumerate" p) [.Call (.Name "zip" p2) [a,b] [] pos2] [] pos) (Zpg k l X.K ta):=by
 intro pins s σ H R I h;refine Call_ (Zbf I hg hm Zdu (n55_ ?_ he rfl));rw [he];refine Calls.spliced_cons ?_;refine Call_ (Zbf I hg2 hm2 Zgl (n55_ (thn (ha pos2 pins s σ H _ I h) fun us s1 ⟨vs,H1,I1,r1,q1⟩=>?_) (by rw [hs,hs2]) (by rw [hs2];rfl)));obtain ⟨a,b,e,⟨xs,hx⟩,⟨ys,hy⟩,q⟩:=q1;subst e;cases r1 with
 | cons r rr =>
   cases rr with
   | cons r' rr =>
     cases rr
     cases r
     cases r'
     obtain ⟨us,ru,pu⟩:=hx.is I1;obtain ⟨ws,rw',pw⟩:=hy.is I1;have la:a<s1.heap.objs.size:=by obtain ⟨_,_,e,_⟩:=pu.ex;exact n13_ e
     have lb:b<s1.heap.objs.size:=by obtain ⟨_,_,e,_⟩:=pw.ex;exact n13_ e
     refine Zjt pu pw fun h1 m1 m2 m3 m4 m5 m6 m7=>Calls.spliced_nil ?_;refine callType_new F.called_enumerate (by decide) (F.typeCall_enumerate_1 _) (F.newCall_enumerate_1 _) (fun obj=>F.args_object_init_2 obj _) F.entry_enumerate_new (Zil _ _ _) ⟨m1,?_⟩;have m8:(h1.push (X5 (s1.heap.objs.size+4))).get? h1.objs.size=some (X5 (s1.heap.objs.size+4)):=n9_ _ rfl;have up:∀ c o,h1.get? c=some o→(h1.push (X5 (s1.heap.objs.size+4))).get? c=some o:=fun c o e=>n2_ _ e;rw [m6] at m8;show _∧_
     rw [m6];refine ⟨⟨_,m8,rfl⟩,wpAny_pyIter_enum m8 ?_⟩;have I2:Inv X pins σ H1 { s1 with heap:=h1.push (X5 (s1.heap.objs.size+4)),toks:=s1.toks }:=I1.kept fun c o e=>up c o (m7 c o e);refine ⟨_,_,_,_,H1,rfl,I2,Zft (e:=s1.heap.objs.size+5) (z:=s1.heap.objs.size+4) (t:=s1.heap.objs.size+2) (o:=s1.heap.objs.size+3) (i:=s1.heap.objs.size) (j:=s1.heap.objs.size+1) (k:=k) (l:=l) (a:=a) (b:=b) (Zq0 la lb) ?_,⟨⟨_,m8⟩,⟨_,_,up _ _ m1,.inl rfl⟩,up _ _ m2,⟨_,_,up _ _ m3⟩,m4.at fun u e=>up _ u e,m5.at fun u e=>up _ u e⟩,?_,q⟩
     · have la':@LT.lt Nat _ a s1.heap.objs.size:=la;have lb':@LT.lt Nat _ b s1.heap.objs.size:=lb;refine ⟨?_,?_,?_,?_,?_,?_,?_⟩<;>(intro h;have h':@Eq Nat _ _:=h;clear h;omega)
     · exact I1.fps (fp:=[s1.heap.objs.size+5,s1.heap.objs.size+4,s1.heap.objs.size+2,s1.heap.objs.size+3,s1.heap.objs.size,s1.heap.objs.size+1]) (by
        intro e he;simp only [n11_,n12_,or_false] at he
        rcases he with rfl|rfl|rfl|rfl|rfl|rfl<;>omega)
end
def Tk (H H':Hp):Prop:=∀ a xs,H a=some (.tup xs)→H' a=some (.tup xs)
theorem Tk.trans {H H1 H2:Hp} (a:Tk H H1) (b:Tk H1 H2):Tk H H2:=fun p xs e=>b p xs (a p xs e)
theorem Same.tk {H H':Hp} (s:Same H H'):Tk H H':=fun a xs e=>s a _ e
theorem Tk.of_keep {H H':Hp} {l:Addr} {ys:List V} (k:Keep l H H') (e:H l=some (.lst ys)):Tk H H':=fun a xs q=>k a _ (Zns q e (by intro z;cases z)) q
theorem Tk.upd_lst {H:Hp} {D:Addr} {ys zs:List V} (e:H D=some (.lst ys)):Tk H (upd H D (.lst zs)):=fun a xs q=>by rw [Zh (Zns q e (by intro z;cases z))];exact q
def Al {α:Type} (R:V→α→Prop) (vs:List V) (xs:List α):Prop:=vs.length=xs.length∧∀ (i:Nat) (v:V) (x:α),vs[i]? = some v→xs[i]? = some x→R v x
theorem Al.nil {α:Type} {R:V→α→Prop}:Al R [] []:=⟨rfl,fun i v x e=>by simp at e⟩
theorem Al.snoc {α:Type} {R:V→α→Prop} {vs:List V} {xs:List α} {v:V} {x:α} (h:Al R vs xs) (r:R v x):Al R (vs++[v]) (xs++[x]):=by
 refine ⟨by simp [h.1],fun i w y e1 e2=>?_⟩
 by_cases hi:i<vs.length
 · rw [n47_ hi] at e1;rw [n47_ (by rw [← h.1];exact hi)] at e2;exact h.2 i w y e1 e2
 · have:i=vs.length:=by
    have:=(n14_.mp e1).1
    simp at this;omega
   subst this;rw [n41_ (n10_ _)] at e1;rw [h.1,n41_ (n10_ _)] at e2;simp at e1 e2;subst e1;subst e2;exact r
theorem Al.imp {α:Type} {R S:V→α→Prop} {vs:List V} {xs:List α} (h:Al R vs xs) (f:∀ v x,R v x→S v x):Al S vs xs:=⟨h.1,fun i v x e1 e2=>f v x (h.2 i v x e1 e2)⟩
theorem Al.get {α:Type} {R:V→α→Prop} {vs:List V} {xs:List α} {i:Nat} {v:V} (h:Al R vs xs) (e:vs[i]? = some v):∃ x,xs[i]? = some x∧R v x:=by
 have hi:i<xs.length:=by rw [← h.1];exact (n14_.mp e).1
 exact ⟨xs[i],n1_ hi,h.2 i v _ e (n1_ hi)⟩
theorem Al.got {α:Type} {R:V→α→Prop} {vs:List V} {xs:List α} {i:Nat} {x:α} (h:Al R vs xs) (e:xs[i]? = some x):∃ v,vs[i]? = some v∧R v x:=by
 have hi:i<vs.length:=by rw [h.1];exact (n14_.mp e).1
 exact ⟨vs[i],n1_ hi,h.2 i _ x (n1_ hi) e⟩
theorem Al.cons {α:Type} {R:V→α→Prop} {v:V} {vs:List V} {x:α} {xs:List α} (r:R v x) (h:Al R vs xs):Al R (v :: vs) (x :: xs):=by
 refine ⟨by simp [h.1],fun i w y e1 e2=>?_⟩;cases i with
 | zero=>simp at e1 e2;subst e1;subst e2;exact r
 | succ i=>exact h.2 i w y (by simpa using e1) (by simpa using e2)
theorem Al.bls {vs:List V} {bs:List Bool} (h:Al (fun v b=>v=V.bl b) vs bs):vs=bs.map V.bl:=by
 refine List.ext_getElem? fun i=>?_;rw [n7_];cases e:bs[i]? with
 | none =>
   have:=List.getElem?_eq_none_iff.mp e
   rw [List.getElem?_eq_none (by rw [h.1];exact this)];rfl
 | some b =>
   obtain ⟨v,ev,rfl⟩:=h.got e;rw [ev];rfl
theorem Al.ints {vs:List V} {ns:List Int} (h:Al (fun v n=>v=V.int n) vs ns):vs=ns.map V.int:=by
 refine List.ext_getElem? fun i=>?_;rw [n7_];cases e:ns[i]? with
 | none =>
   have:=List.getElem?_eq_none_iff.mp e
   rw [List.getElem?_eq_none (by rw [h.1];exact this)];rfl
 | some b =>
   obtain ⟨v,ev,rfl⟩:=h.got e;rw [ev];rfl
theorem Al.of_ints (ns:List Int):Al (fun v n=>v=V.int n) (ns.map V.int) ns:=⟨by simp,fun i v n e1 e2=>by rw [n7_,e2] at e1;exact (Option.some.inj e1).symm⟩
theorem Zhc {J:It} {n:Nat} {D:Addr} {g:TG} {te:TE} {σ0:St} {H:Hp} {Q:VK} {α:Type} (R:Hp→V→α→Prop) (hR:∀ H1 H2 v x,Tk H1 H2→R H1 v x→R H2 v x) (ys_:List α) (hn:ys_.length=n) (hz:n≤1000) (ok:St→Prop) (h0:ok σ0) (hD:H D=none)
 (hgo:∀ i H2,Same H H2→i<n→J.go i H2) (hstop:∀ H2,Same H H2→J.stop n H2)
 (hs:∀ i x σ2 H2 H3 (C:St→V→Hp→Prop),i<n→Same H H2→J.yld i H2 x H3→ok σ2→(∀ σ4 y H5 z,ok σ4→Same H2 H5→ys_[i]? = some z→R H5 y z→C σ4 y H5)→g x σ2 H3 fun σ4 H4=>te σ4 H4 (C σ4))
 (hd:∀ H2 vs,Same H H2→H2 D=some (.lst vs)→Al (R H2) vs ys_→Q (.ref D) H2):LcGo J g tYes te σ0 H D Q:=by
 refine Zgm (n:=n) (fun i σ H2=>Same H H2∧ok σ∧∃ vs,H2 D=some (.lst vs)∧Al (R H2) vs (ys_.take i)) ⟨Same.new hD,h0,[],Zc,by rw [List.take_zero];exact .nil⟩ (fun i σ H2 hi p=>hgo i H2 p.1 hi) (fun σ H2 p=>hstop H2 p.1) (fun i x σ2 H2 H3 hi y p=>?_) (fun σ2 H2 p=>?_)
 · obtain ⟨s2,o2,vs,e2,a2⟩:=p
   have:=hs i x σ2 H2 H3 (fun σ4 y H6=>∃ ys,H6 D=some (.lst ys)∧ys.length<sizeLine∧∃ m',m'<n-i∧LcN n (fun i σ H2=>Same H H2∧ok σ∧∃ vs,H2 D=some (.lst vs)∧Al (R H2) vs (ys_.take i)) (i+1) m' σ4 (upd H6 D (.lst (ys++[y])))) hi s2 y o2 ?_
   · exact this
   · intro σ4 v H5 z o4 s5 ez rz;have e5:H5 D=some (.lst vs):=s5 _ _ e2;refine ⟨vs,e5,?_,n-(i+1),by omega,by omega,rfl,fun b o e=>?_,o4,vs++[v],Zc,?_⟩
     · rw [a2.1,n57_,sizeLine_eq];omega
     · rw [Zh (Zi e hD)];exact s5 _ _ (s2 _ _ e)
     · have tk:Tk H5 (upd H5 D (.lst (vs++[v]))):=Tk.upd_lst e5;have hi':i<ys_.length:=by omega
       rw [List.take_succ_eq_append_getElem hi'];rw [n1_ hi'] at ez;cases ez
       exact (a2.imp fun v x r=>hR _ _ v x tk (hR _ _ v x s5.tk r)).snoc (hR _ _ _ _ tk rz)
 · obtain ⟨s2,_,vs,e2,a2⟩:=p;rw [n70_ (by omega)] at a2;exact hd H2 vs s2 e2 a2
def SK.At (H:Hp) (a:Addr) (vs:List V):SK→Prop
 | .l=>H a=some (.lst vs)
 | .t=>H a=some (.tup vs)
theorem SK.At.sq {k:SK} {K:PySem.W.Frag} {H:Hp} {a:Addr} {vs:List V} (h:k.At H a vs):k.Sq K H a vs:=by
 cases k with
 | l=>exact SqL.of h
 | t=>exact SqT.of h
theorem SK.At.same {k:SK} {H H':Hp} {a:Addr} {vs:List V} (h:k.At H a vs) (s:Same H H'):k.At H' a vs:=by
 cases k with
 | l=>exact s _ _ h
 | t=>exact s _ _ h
def SK.Itk (K:PySem.W.Frag) (a:Addr):SK→L2.It
 | .l=>Itl K a
 | .t=>Itt K a
theorem Zgw {k:SK} {K:PySem.W.Frag} {a:Addr} {H:Hp} {vs:List V} {i:Nat} (h:k.At H a vs) (hi:i<vs.length):(k.Itk K a).go i H:=by
 cases k with
 | l=>exact ⟨vs,vs[i],SqL.of h,n1_ hi⟩
 | t=>exact ⟨vs,vs[i],SqT.of h,n1_ hi⟩
theorem Zbq {k:SK} {K:PySem.W.Frag} {a:Addr} {H:Hp} {vs:List V} {i:Nat} (h:k.At H a vs) (hi:vs.length≤i):(k.Itk K a).stop i H:=by
 cases k with
 | l=>exact ⟨vs,SqL.of h,hi⟩
 | t=>exact ⟨vs,SqT.of h,hi⟩
theorem Zcx {k:SK} {K:PySem.W.Frag} {a:Addr} {H H':Hp} {vs:List V} {i:Nat} {x:V} (h:k.At H a vs) (y:(k.Itk K a).yld i H x H'):H'=H∧vs[i]? = some x:=by
 cases k with
 | l=>exact ⟨y.1,y.2 vs (SqL.of h)⟩
 | t=>exact ⟨y.1,y.2 vs (SqT.of h)⟩
theorem lc_T {k:SK} {K:PySem.W.Frag} {a D:Addr} {vs:List V} {te:TE} {u0:Option V} {rest:St} {H:Hp} {Q:VK} {α:Type} (R:Hp→V→α→Prop) (hR:∀ H1 H2 v x,Tk H1 H2→R H1 v x→R H2 v x) (ys:List α) (hn:ys.length=vs.length) (hz:vs.length≤1000) (hD:H D=none) (ha:k.At H a vs)
 (hs:∀ (i:Nat) (w:V) (H2:Hp) (C:V→Hp→Prop),vs[i]? = some w→Same H H2→(∀ y H5 z,Same H2 H5→ys[i]? = some z→R H5 y z→C y H5)→te (some w :: rest) H2 C)
 (hd:∀ H2 us,Same H H2→H2 D=some (.lst us)→Al (R H2) us ys→Q (.ref D) H2):LcGo (k.Itk K a) (Yr 0) tYes te (u0 :: rest) H D Q:=by
 refine Zhc R hR ys hn hz (fun σ=>∃ u,σ=u :: rest) ⟨_,rfl⟩ hD (fun i H2 s hi=>Zgw (ha.same s) hi) (fun H2 s=>Zbq (ha.same s) (n10_ _)) (fun i x σ2 H2 H3 C hi s y o c=>?_) hd;obtain ⟨u,rfl⟩:=o;obtain ⟨rfl,e⟩:=Zcx (ha.same s) y;exact hs i x H3 (C (some x :: rest)) e s fun y H5 z s5 ez rz=>c _ y H5 z ⟨_,rfl⟩ s5 ez rz
theorem lc_Z {k l:SK} {K:PySem.W.Frag} {a b D:Addr} {vs ws:List V} {te:TE} {u0 u1:Option V} {rest:St} {H:Hp} {Q:VK} {α:Type} (R:Hp→V→α→Prop) (hR:∀ H1 H2 v x,Tk H1 H2→R H1 v x→R H2 v x) (ys:List α) (hn:ys.length=min vs.length ws.length) (hz:min vs.length ws.length≤1000) (hD:H D=none) (ha:k.At H a vs) (hb:l.At H b ws)
 (hs:∀ (i:Nat) (v w:V) (H2:Hp) (C:V→Hp→Prop),vs[i]? = some v→ws[i]? = some w→Same H H2→(∀ y H5 z,Same H2 H5→ys[i]? = some z→R H5 y z→C y H5)→te (some v :: some w :: rest) H2 C)
 (hd:∀ H2 us,Same H H2→H2 D=some (.lst us)→Al (R H2) us ys→Q (.ref D) H2):LcGo (Itz k l K a b) (gTup K 2 (Xu (Yr 0) (Xu (Yr 1) gNil))) tYes te (u0 :: u1 :: rest) H D Q:=by
 refine Zhc R hR ys hn hz (fun σ=>∃ u u',σ=u :: u' :: rest) ⟨_,_,rfl⟩ hD (fun i H2 s hi=>?_) (fun H2 s=>?_) (fun i x σ2 H2 H3 C hi s y o c=>?_) hd
 · have h1:i<vs.length:=by omega
   have h2:i<ws.length:=by omega
   exact ⟨vs,ws,vs[i],ws[i],(ha.same s).sq,(hb.same s).sq,n1_ h1,n1_ h2⟩
 · exact ⟨vs,ws,(ha.same s).sq,(hb.same s).sq,by omega⟩
 · obtain ⟨u,u',rfl⟩:=o;obtain ⟨p,v,w,rfl,hp,rfl,y1,y2⟩:=y;have s3:Same H2 (upd H2 p (.tup [v,w])):=Same.new hp;refine ⟨p,[v,w],rfl,SqT.of Zc,rfl,v,[w],rfl,w,[],rfl,rfl,?_⟩;exact hs i v w _ (C (some v :: some w :: rest)) (y1 vs (ha.same s).sq) (y2 ws (hb.same s).sq) (s.trans s3) fun y H5 z s5 ez rz=>c _ y H5 z ⟨_,_,rfl⟩ (s3.trans s5) ez rz
theorem lc_E {k:SK} {K:PySem.W.Frag} {a D:Addr} {vs:List V} {tt:TT} {te:TE} {u0 u1:Option V} {rest:St} {H:Hp} {Q:VK} {α:Type} (R:Hp→V→α→Prop) (hR:∀ H1 H2 v x,Tk H1 H2→R H1 v x→R H2 v x) (f:Nat→Option α) (hz:vs.length≤1000) (hD:H D=none) (ha:k.At H a vs)
 (hs:∀ (i:Nat) (w:V) (H2:Hp) (C:V→Hp→Prop) (N:Hp→Prop),vs[i]? = some w→Same H H2→(∀ y H5 z,Same H2 H5→f i=some z→R H5 y z→C y H5)→(∀ H5,Same H2 H5→f i=none→N H5)→tt (some (.int i) :: some w :: rest) H2 fun b H5=>if b=true then te (some (.int i) :: some w :: rest) H5 C else N H5)
 (hd:∀ H2 us,Same H H2→H2 D=some (.lst us)→Al (R H2) us ((List.range vs.length).filterMap f)→Q (.ref D) H2):LcGo (Ite k K a) (gTup K 2 (Xu (Yr 0) (Xu (Yr 1) gNil))) tt te (u0 :: u1 :: rest) H D Q:=by
 refine Zgm (n:=vs.length) (fun i σ H2=>Same H H2∧(∃ u u',σ=u :: u' :: rest)∧∃ us,H2 D=some (.lst us)∧us.length≤i∧Al (R H2) us ((List.range i).filterMap f)) ⟨Same.new hD,⟨_,_,rfl⟩,[],Zc,n10_ _,.nil⟩ (fun i σ H2 hi p=>⟨vs,vs[i],(ha.same p.1).sq,n1_ hi⟩) (fun σ H2 p=>⟨vs,(ha.same p.1).sq,rfl⟩) (fun i x σ2 H2 H3 hi y p=>?_) (fun σ2 H2 p=>?_)
 · obtain ⟨s2,⟨u,u',rfl⟩,us,e2,l2,a2⟩:=p;obtain ⟨q,w,rfl,hq,rfl,y1⟩:=y;have s3:Same H2 (upd H2 q (.tup [.int i,w])):=Same.new hq
   have rg:(List.range (i+1)).filterMap f=(List.range i).filterMap f++(f i).toList:=by
    rw [List.range_succ,List.filterMap_append];cases e:f i<;>simp [e]
   refine ⟨q,[.int i,w],rfl,SqT.of Zc,rfl,_,_,rfl,_,_,rfl,rfl,?_⟩;refine hs i w _ _ _ (y1 vs (ha.same s2).sq) (s2.trans s3) (fun v H5 z s5 ez rz=>?_) (fun H5 s5 ez=>?_)
   · have e5:H5 D=some (.lst us):=s5 _ _ (s3 _ _ e2);refine ⟨us,e5,by rw [sizeLine_eq];omega,vs.length-(i+1),by omega,by omega,rfl,fun b o e=>?_,⟨_,_,rfl⟩,us++[v],Zc,by simp;omega,?_⟩
     · rw [Zh (Zi e hD)];exact s5 _ _ (s3 _ _ (s2 _ _ e))
     · have tk:Tk H5 (upd H5 D (.lst (us++[v]))):=Tk.upd_lst e5;rw [rg,ez];exact (a2.imp fun v x r=>hR _ _ v x tk (hR _ _ v x (s3.trans s5).tk r)).snoc (hR _ _ _ _ tk rz)
   · refine ⟨vs.length-(i+1),by omega,by omega,rfl,s2.trans (s3.trans s5),⟨_,_,rfl⟩,us,s5 _ _ (s3 _ _ e2),by omega,?_⟩;rw [rg,ez];simp only [Option.toList_none,List.append_nil];exact a2.imp fun v x r=>hR _ _ v x (s3.trans s5).tk r
 · obtain ⟨s2,_,us,e2,_,a2⟩:=p;exact hd H2 us s2 e2 a2
abbrev Pnt:=Int×Int
def IsI (H:Hp) (v:V) (ns:List Int):Prop:=∃ a,v=.ref a∧H a=some (.tup (ns.map V.int))
def IsP (H:Hp) (v:V) (p:Pnt):Prop:=IsI H v [p.1,p.2]
theorem IsI.tk {H H':Hp} {v:V} {ns:List Int} (t:Tk H H') (h:IsI H v ns):IsI H' v ns:=let ⟨a,e,q⟩:=h;⟨a,e,t _ _ q⟩
theorem IsP.tk {H H':Hp} {v:V} {p:Pnt} (t:Tk H H') (h:IsP H v p):IsP H' v p:=IsI.tk t h
def IsTup' {α:Type} (R:Hp→V→α→Prop) (H:Hp) (v:V) (xs:List α):Prop:=∃ a vs,v=.ref a∧H a=some (.tup vs)∧Al (R H) vs xs
theorem IsTup'.tk {α:Type} {R:Hp→V→α→Prop} (hR:∀ H1 H2 v x,Tk H1 H2→R H1 v x→R H2 v x) {H H':Hp} {v:V} {xs:List α} (t:Tk H H') (h:IsTup' R H v xs):IsTup' R H' v xs:=let ⟨a,vs,e,q,r⟩:=h;⟨a,vs,e,t _ _ q,r.imp fun v x=>hR _ _ v x t⟩
structure Pl where
 cs:List Pnt
 ps:List (List Int)
 ts:List Int
 l:Int
 m:Int
def IsCs (H:Hp) (v:V) (cs:List Pnt):Prop:=IsTup' IsP H v cs
def IsPs (H:Hp) (v:V) (ps:List (List Int)):Prop:=IsTup' IsI H v ps
theorem IsCs.tk {H H':Hp} {v:V} {cs:List Pnt} (t:Tk H H') (h:IsCs H v cs):IsCs H' v cs:=IsTup'.tk (R:=IsP) (fun _ _ _ _ t r=>IsP.tk t r) t h
theorem IsPs.tk {H H':Hp} {v:V} {ps:List (List Int)} (t:Tk H H') (h:IsPs H v ps):IsPs H' v ps:=IsTup'.tk (R:=IsI) (fun _ _ _ _ t r=>IsI.tk t r) t h
def IsPl (H:Hp) (v:V) (P:Pl):Prop:=∃ a c p t s,v=.ref a∧H a=some (.tup [c,p,t,s])∧IsCs H c P.cs∧IsPs H p P.ps∧IsI H t P.ts∧IsI H s [P.l,P.m]
theorem IsPl.tk {H H':Hp} {v:V} {P:Pl} (t:Tk H H') (h:IsPl H v P):IsPl H' v P:=let ⟨a,c,p,q,s,e,h1,h2,h3,h4,h5⟩:=h;⟨a,c,p,q,s,e,t _ _ h1,h2.tk t,h3.tk t,h4.tk t,h5.tk t⟩
def tn (a b c:Pnt):Int:=(b.1-a.1)*(c.2-a.2)-(c.1-a.1)*(b.2-a.2)
structure Tri where
 a:Pnt
 b:Pnt
 c:Pnt
def tri (a b c:Pnt):Tri:=if tn a b c<0 then ⟨a,c,b⟩ else ⟨a,b,c⟩
def Tri.pts (t:Tri):List Pnt:=[t.a,t.b,t.c]
def Tri.edges (t:Tri):List (Pnt×Pnt):=[(t.a,t.b),(t.b,t.c),(t.c,t.a)]
def Zay (p:Pnt) (t:Tri):Bool:=(t.edges.map fun e=>decide (0≤tn e.1 e.2 p)).all id
def Zcp (e:Pnt×Pnt) (u:Tri):Bool:=(u.pts.map fun q=>decide (tn e.1 e.2 q≤0)).all id
def Yu (t u:Tri):Bool:=t.edges.any fun e=>Zcp e u
def apart (t u:Tri):Bool:=Yu t u||Yu u t
def IsT (H:Hp) (v:V) (t:Tri):Prop:=∃ a x y z,v=.ref a∧H a=some (.tup [x,y,z])∧IsP H x t.a∧IsP H y t.b∧IsP H z t.c
theorem IsT.tk {H H':Hp} {v:V} {u:Tri} (t:Tk H H') (h:IsT H v u):IsT H' v u:=let ⟨a,x,y,z,e,h1,h2,h3,h4⟩:=h;⟨a,x,y,z,e,t _ _ h1,h2.tk t,h3.tk t,h4.tk t⟩
def near (p:Pnt):Prop:=(-100≤p.1∧p.1≤100)∧(-100≤p.2∧p.2≤100)
def Tri.near (t:Tri):Prop:=L2.near t.a∧L2.near t.b∧L2.near t.c
def cAt (cs:List Pnt) (i:Int):Pnt:=cs.getD i.toNat (0,0)
def trOf (cs:List Pnt) (p:List Int):Tri:=tri (cAt cs (p.getD 0 0)) (cAt cs (p.getD 1 0)) (cAt cs (p.getD 2 0))
def dOf (cs:List Pnt) (p:List Int):Int:=tn (cAt cs (p.getD 0 0)) (cAt cs (p.getD 1 0)) (cAt cs (p.getD 2 0))
def Za5 (q:(Int→Bool)×Nat) (k:Int):(Int→Bool)×Nat:=(fun k'=>q.1 k'||decide (k'=k),if q.1 k then q.2 else q.2+1)
def cntS (l:List Int):Nat:=(l.foldl Za5 (fun _=>false,0)).2
structure PieceOk (cs:List Pnt) (p:List Int):Prop where
 len:p.length=3
 bd:∀ i∈p,0≤i∧i≤(cs.length:Int)-1
 rise:p.getD 0 0<p.getD 1 0∧p.getD 1 0<p.getD 2 0
 d:dOf cs p≠0
structure PlOk (P:Pl):Prop where
 c3:3≤P.cs.length
 c30:P.cs.length≤30
 nr:∀ p∈P.cs,near p
 nd:P.cs.Nodup
 p1:1≤P.ps.length
 p40:P.ps.length≤40
 pc:∀ p∈P.ps,PieceOk P.cs p
 rise:∀ i:Nat,i+1<P.ps.length→HT.lexLt (P.ps.getD i []) (P.ps.getD (i+1) [])=true
 t1:P.ts.length=P.ps.length
 t9:∀ t∈P.ts,1≤t∧t≤9
 l9:0≤P.l∧P.l≤9
 m9:1≤P.m∧P.m≤9
 used:cntS P.ps.flatten=P.cs.length
 strange:∀ p∈P.ps,∀ j:Nat,j<P.cs.length→(j:Int)∉p→Zay (P.cs.getD j (0,0)) (trOf P.cs p)=false
 apart:∀ i j:Nat,i<j→j<P.ps.length→L2.apart (trOf P.cs (P.ps.getD j [])) (trOf P.cs (P.ps.getD i []))=true
abbrev Nms:=List (Str×NameKind)
def relN (sc:Nms) (dn:Nms):Nms:=sc.map fun y=>if y.2 == .free&&dn.lookup y.1 == some .cell then (y.1,.cell) else y
def chk (sc dn:Nms) (N XN:List Str) (fr:List (Option Nat)):Bool :=
 sc.all (fun y=>y.2 != .free||dn.lookup y.1 == some .cell)&&sc.all (fun y=>y.2 != .local||sc.lookup y.1 == some .local)&&sc.all (fun y=>y.2 != .cell||sc.lookup y.1 == some .cell)&&(fr.length == N.length) &&
  (List.range fr.length).all fun i=>match fr[i]? with
    | some (some j)=>match N[i]? with
      | some x=>XN[j]? == some x&&dn.lookup x == some .cell&&(relN sc dn).lookup x == some .cell&&sc.all (fun y=>y.1 != x||y.2 != .cell)&&sc.any (fun y=>y.1 == x&&y.2 == .free)
      | none=>false
    | _=>true
theorem Za8 {cells:List (Str×Addr)} {sc:Nms} {x:Str} (key:(x,NameKind.free)∈sc):∃ c,(Yo cells sc).lookup x=some c:=by
 have hm:(x,(cells.lookup x).getD 0)∈Yo cells sc:=by
  unfold Yo;exact List.mem_reverse.mpr (n29_.mpr ⟨(x,.free),n37_.mpr ⟨key,rfl⟩,rfl⟩)
 cases q:(Yo cells sc).lookup x with
 | some c'=>exact ⟨c',rfl⟩
 | none =>
   have z:=(List.lookup_eq_none_iff.mp q) _ hm;simp at z
theorem Zfo {sc dn:Nms} {x:Str} {k:NameKind} (hk:k=.cell∨k=.free) (h:(relN sc dn).lookup x=some k):(x,NameKind.free)∈sc∨(x,NameKind.cell)∈sc:=by
 have m:=n38_ h;obtain ⟨⟨n,k'⟩,hm,e⟩:=n29_.mp m
 by_cases hf:k'=.free
 · subst hf
   have:n=x:=by
    dsimp only at e;split at e<;>(injection e)
   subst this;exact .inl hm
 · have b:(k' == NameKind.free)=false:=by simpa using hf
   simp only [b,Bool.false_and,n16_,if_false] at e;injection e with e1 e2
   subst e1 e2
   rcases hk with rfl|rfl
   · exact .inr hm
   · exact absurd rfl hf
theorem Zbj {scope:Scope} {env:Env} {dn:Nms} (hn:env.scope.names=dn) (hk:env.scope.kind=.function):(relabel scope env).names=relN scope.names dn:=by
 unfold relabel relN;show scope.names.map _=scope.names.map _
 refine n78_ fun y _=>?_;obtain ⟨n,k⟩:=y;have e:(env.scope.kind == ScopeKind.function)=true:=by rw [hk];rfl
 have e2:env.kindOf n=dn.lookup n:=by rw [← hn];rfl
 simp only [e,e2,Bool.and_true]
theorem Z0 {X:Cx} {scope:Scope} {N XN:List Str} {fr:List (Option Nat)} (dn:Nms) (hn:X.env.scope.names=dn) (hk:X.env.scope.kind=.function) (hX:X.N=XN) (hc:∀ x,dn.lookup x=some .cell→∃ c,X.env.cells.lookup x=some c)
 (h:chk scope.names dn N XN fr=true) (hs:scope.kind=.function):LcO X scope (Yo X.env.cells scope.names) N fr:=by
 unfold chk at h;simp only [n32_] at h;obtain ⟨⟨⟨⟨h1,h2⟩,h3⟩,h4⟩,h5⟩:=h
 have hf:∀ y∈scope.names,y.2=.free→∃ c,X.env.cells.lookup y.1=some c:=fun y hy e=>by
  have:=n27_.mp h1 y hy
  rw [e] at this;exact hc _ (by simpa using this)
 refine ⟨Zci hf,fun x c e=>?_,fun x e=>?_,hs,fun y hy e=>?_,by simpa using h4,fun i j e=>?_⟩
 · have m:=n38_ e;unfold Yo at m;obtain ⟨⟨n,k⟩,hm,e2⟩:=n29_.mp (List.mem_reverse.mp m);obtain ⟨h1',h2'⟩:=n37_.mp hm;obtain ⟨c',hc'⟩:=hf _ h1' (by simpa using h2');injection e2 with e3 e4
   subst e3;rw [hc'] at e4;rw [hc',← e4];rfl
 · rw [Zbj hn hk] at e
   have:(x,NameKind.free)∈scope.names∨(x,NameKind.cell)∈scope.names:=e.elim (Zfo (.inl rfl)) (Zfo (.inr rfl))
   rcases this with m|m
   · exact .inr (Za8 m)
   · have:=n27_.mp h3 _ m
     exact .inl (by simpa using this)
 · have:=n27_.mp h2 y hy
   rw [e] at this
   simpa using this
 · have hi:i<fr.length:=(n14_.mp e).1
   have:=n27_.mp h5 i (n26_.mpr hi)
   rw [e] at this;cases hx:N[i]? with
   | none=>rw [hx] at this;cases this
   | some x =>
     rw [hx] at this;simp only [n32_,beq_iff_eq] at this;obtain ⟨⟨⟨⟨t1,t2⟩,t3⟩,t4⟩,t5⟩:=this;obtain ⟨⟨z1,z2⟩,m1,m2⟩:=List.any_eq_true.mp t5;simp only [n32_,beq_iff_eq] at m2;obtain ⟨rfl,rfl⟩:=m2;refine ⟨z1,rfl,by rw [hX];exact t1,.inl (by rw [hn];exact t2),.inl (by rw [Zbj hn hk];exact t3),Za8 m1,fun m=>?_⟩
     have:=n27_.mp t4 _ m
     simp at this
theorem Zgj {cells:List (Str×Addr)} {sc dn:Nms} {x:Str} {n:Nat} (hc:sc.all (fun y=>y.2 != .cell||sc.lookup y.1 == some .cell)=true) (h:(relN sc dn).lookup x=some .cell):∃ c,(cellsFrom n sc (Yo cells sc)).lookup x=some c:=by
 refine Option.isSome_iff_exists.mp (PySem.W.cellsFrom_some sc n _ ?_)
 rcases Zfo (.inl rfl) h with m|m
 · obtain ⟨c,e⟩:=Za8 (cells:=cells) m;exact .inr (by rw [e];rfl)
 · have:=n27_.mp hc _ m
   exact .inl (by simpa using this)
theorem Yv {X:Cx} {scope:Scope} {N:List Str} {fr:List (Option Nat)} (h:scope.names.all (fun y=>y.2 != .cell&&y.2 != .free)=true) (hk:scope.kind=.function)
 (hn:∀ y∈scope.names,y.2=.local→scope.names.lookup y.1=some .local) (hl:fr.length=N.length) (hf:fr.all (·.isNone)=true):LcO X scope [] N fr:=by
 have no:∀ y∈scope.names,y.2≠.cell∧y.2≠.free:=fun y hy=>by
  have:=n27_.mp h y hy
  rw [n32_] at this
  simpa using this
 refine ⟨closureFor_none fun x hx=>(no x hx).2,fun x c e=>by simp at e,fun x e=>?_,hk,hn,hl,fun i j e=>?_⟩
 · exfalso
   have key:∀ k,(relabel scope X.env).names.lookup x=some k→k≠.cell∧k≠.free:=fun k e=>by
    obtain ⟨⟨n,k'⟩,hm,e2⟩:=n29_.mp (n38_ e);have b:(k' == NameKind.free)=false:=by simpa using (no _ hm).2
    simp only [b,Bool.false_and,n16_,if_false] at e2;cases e2
    exact no _ hm
   rcases e with e|e
   · exact (key _ e).1 rfl
   · exact (key _ e).2 rfl
 · have:=n27_.mp hf _ (n6_ e)
   cases this
theorem Zr4 {X:Cx} {x:Str} {k j:Nat} {sp:Sp} {p pos:Pos} (C:Cal X.prog X.w X.K X.mg X.base x k [] sp) (hr:Room j X.A) (hj:k≤j) (hg:Gl X x) (hdb:(x == ("__debug__" : Str))=false:=by decide) :
 PE X (.Call (.Name x p) [] [] pos) (fun _ H Q=>sp [] H Q E0):=by
 obtain ⟨f,fd,F,hm,hk,hb⟩:=C.ex;have h:=Zpy (dvs:=[]) (E:=E0) (p:=p) (pos:=pos) F (hr.mono hj) hg hm hk hb .nil Zth hdb;exact h
def rNeL (K:PySem.W.Frag):R2:=fun x y H Q=>∃ a b xs,x=.ref a∧y=.ref b∧SqL K H a xs∧SqL K H b []∧Q (.bl (!decide (xs=[]))) H
theorem Zuu {X:Cx} (hu:X.A.units<cLine):OpR X (compareOp .NotEq) (rNeL X.K):=by
 intro pins s σ H x y v u Q I rx ry h;obtain ⟨a,b,xs,rfl,rfl,h1,h2,q⟩:=h;cases rx;cases ry
 obtain ⟨us,r1,p1,_⟩:=I.list h1;obtain ⟨ws,r2,p2,_⟩:=I.list h2;have l1:=r1.length;have e:ws=[]:=r2.nil_iff.mpr rfl;subst e;cases hx:xs with
 | nil =>
   subst hx;have e:us=[]:=r1.nil_iff.mpr rfl;subst e;exact SeqAt.RcNeAt.lists (e:=fun j=>true) p1.isList p2.isList rfl hu (fun j h1 h2=>absurd h2 (by simp)) _ _ _ _ ⟨.bl _,H,I,rfl,q⟩
 | cons y ys =>
   subst hx;exact SeqAt.RcNeAt.lists_lengths p1.isList p2.isList (by simp at l1;simp [← l1]) hu _ _ _ _ ⟨.bl _,H,I,rfl,q⟩
theorem Zkd (K:PySem.W.Frag) {X:Cx} (h:X.K=K):IxR X (rIxL K):=h ▸ Yk
theorem Zh1 (K:PySem.W.Frag) {X:Cx} (h:X.K=K):IxR X (rIxT K):=h ▸ Zz
theorem Zll (K:PySem.W.Frag) {X:Cx} (h:X.K=K):OpR X (compareOp .In) (rIn K false):=h ▸ Zl8
theorem Ze8 (K:PySem.W.Frag) {X:Cx} (h:X.K=K):OpR X (compareOp .NotIn) (rIn K true):=h ▸ Zfw
theorem Zbl (K:PySem.W.Frag) {X:Cx} (h:X.K=K):Yw X (.builtin "len") (fun xs H Q=>∃ p ys,xs=[.ref p]∧(SqL K H p ys∨SqT K H p ys)∧Q (.int ys.length) H):=h ▸ Zr
theorem Za6 (K:PySem.W.Frag) {X:Cx} (h:X.K=K):Yw X (.type "tuple") (fun xs H Q=>∃ p ys,xs=[.ref p]∧((SqL K H p ys∧∀ l,H l=none→Q (.ref l) (upd H l (.tup ys)))∨(SqT K H p ys∧Q (.ref p) H))):=h ▸ Z3
theorem Zfe (K:PySem.W.Frag) {X:Cx} (h:X.K=K):Yw X (.builtin "sorted") (fun xs H Q=>∃ (p:Addr) (ns:List Int),xs=[.ref p]∧SqL K H p (ns.map V.int)∧ns.length<64∧∀ (l:Addr) (ns':List Int),H l=none→ns'.Perm ns→ns'.Pairwise (·≤·)→Q (.ref l) (upd H l (.lst (ns'.map V.int)))):=h ▸ Zb5
theorem Zph (K:PySem.W.Frag) {X:Cx} {tg l:Expr} {tl:TE} (h:X.K=K) (hl:PE X l tl):PI X tg l (Zs4 K tl):=h ▸ Yn hl
theorem Zms (K:PySem.W.Frag) {X:Cx} {tg l:Expr} {tl:TE} (h:X.K=K) (hl:PE X l tl):PI X tg l (iTup K tl):=h ▸ Yy hl
theorem Zvd {k:SK} {K:PySem.W.Frag} {a D:Addr} {vs:List V} {te:TE} {u0 u1:Option V} {rest:St} {H:Hp} {Q:VK} {α:Type} (R:Hp→V→α→Prop) (hR:∀ H1 H2 v x,Tk H1 H2→R H1 v x→R H2 v x) (ys:List α) (hn:ys.length=vs.length) (hz:vs.length≤1000) (hD:H D=none) (ha:k.At H a vs)
 (hp:∀ (i:Nat) (w:V),vs[i]? = some w→∃ p x y,w=.ref p∧H p=some (.tup [x,y]))
 (hs:∀ (i:Nat) (p:Addr) (x y:V) (H2:Hp) (C:V→Hp→Prop),vs[i]? = some (.ref p)→H p=some (.tup [x,y])→Same H H2→(∀ y H5 z,Same H2 H5→ys[i]? = some z→R H5 y z→C y H5)→te (some x :: some y :: rest) H2 C)
 (hd:∀ H2 us,Same H H2→H2 D=some (.lst us)→Al (R H2) us ys→Q (.ref D) H2):LcGo (k.Itk K a) (gTup K 2 (Xu (Yr 0) (Xu (Yr 1) gNil))) tYes te (u0 :: u1 :: rest) H D Q:=by
 refine Zhc R hR ys hn hz (fun σ=>∃ u u',σ=u :: u' :: rest) ⟨_,_,rfl⟩ hD (fun i H2 s hi=>Zgw (ha.same s) hi) (fun H2 s=>Zbq (ha.same s) (n10_ _)) (fun i x σ2 H2 H3 C hi s y o c=>?_) hd;obtain ⟨u,u',rfl⟩:=o;obtain ⟨rfl,e⟩:=Zcx (ha.same s) y;obtain ⟨p,x1,y1,rfl,e2⟩:=hp i x e;exact ⟨p,[x1,y1],rfl,SqT.of (s _ _ e2),rfl,x1,[y1],rfl,y1,[],rfl,rfl,hs i p x1 y1 H3 (C (some x1 :: some y1 :: rest)) e e2 s fun y H5 z s5 ez rz=>c _ y H5 z ⟨_,_,rfl⟩ s5 ez rz⟩
theorem Zrr {K:PySem.W.Frag} {a D:Addr} {vs:List V} {ps:List (List Int)} {u0 u1:Option V} {rest:St} {H:Hp} {Q:VK} (ha:H a=some (.tup vs)) (al:Al (IsI H) vs ps) (hl:ps.flatten.length<1000) (hD:H D=none)
 (hd:∀ S,Q (.ref D) (upd H D (.set S (cntS ps.flatten)))) :
 ScGo (Itt K a) (Yr 0) (iTup K (tVar 0)) (Yr 1) (tVar 1) (u0 :: u1 :: rest) H D Q:=by
 have hsz:∀ l:List Int,(l.foldl Za5 (fun _=>false,0)).2≤l.length:=by
  intro l
  have:∀ (l:List Int) q,(l.foldl Za5 q).2≤q.2+l.length:=by
   intro l
   induction l with
   | nil=>intro q;simp
   | cons x l ih =>
     intro q
     have:=ih (Za5 q x)
     rw [n73_,n18_];have h2:(Za5 q x).2≤q.2+1:=by unfold Za5;dsimp only;split<;>omega
     omega
  have:=this l (fun _=>false,0)
  simpa using this
 have sb:∀ n,n<1001→n+1<scanBound:=fun n h=>Nat.lt_trans (show n+1<1002 by omega) (by decide)
 let f:List Int→(Int→Bool)×Nat:=fun l=>l.foldl Za5 (fun _=>false,0)
 refine ⟨fun i m σ H2=>m=vs.length-i∧i≤vs.length∧(∃ u u',σ=u :: u' :: rest)∧H2=upd H D (.set (f (ps.take i).flatten).1 (f (ps.take i).flatten).2),⟨_,rfl,n51_ _,⟨_,_,rfl⟩,by simp [f]⟩,?_⟩;rintro i m σ2 H2 ⟨rfl,hi,⟨u,u',rfl⟩,rfl⟩
 have e0:upd H D (.set (f (ps.take i).flatten).1 (f (ps.take i).flatten).2) a=some (.tup vs):=by rw [Zh (Zi ha hD)];exact ha
 by_cases hlt:i<vs.length
 · refine .inr ⟨⟨vs,vs[i],SqT.of e0,n1_ hlt⟩,fun x H3 y=>?_⟩;obtain ⟨rfl,y2⟩:=y;have ex:=y2 vs (SqT.of e0);obtain ⟨p,ep,b,rfl,hb⟩:=al.get ex;have hip:i<ps.length:=(n14_.mp ep).1;have tk:ps.take (i+1)=ps.take i++[p]:=by rw [List.take_succ,ep];rfl
   have fl:(ps.take (i+1)).flatten=(ps.take i).flatten++p:=by rw [tk];simp
   have le1:(ps.take (i+1)).flatten.length≤ps.flatten.length:=by
    have:=congrArg (fun l:List (List Int)=>l.flatten.length) (List.take_append_drop (i+1) ps)
    rw [List.flatten_append,n21_] at this;omega
   have eb:∀ o,upd H D o b=some (.tup (p.map V.int)):=fun o=>by rw [Zh (Zi hb hD)];exact hb
   refine ⟨.ref b,rfl,b,rfl,⟨_,SqT.of (eb _)⟩,?_⟩;refine ⟨fun i1 m1 σ6 H6=>m1=p.length-i1∧i1≤p.length∧(∃ u',σ6=some (.ref b) :: u' :: rest)∧H6=upd H D (.set (f ((ps.take i).flatten++p.take i1)).1 (f ((ps.take i).flatten++p.take i1)).2),⟨_,rfl,n51_ _,⟨_,rfl⟩,by simp⟩,?_⟩;rintro i1 m1 σ6 H6 ⟨rfl,hi1,⟨u2,rfl⟩,rfl⟩
   by_cases hl1:i1<p.length
   · refine .inr ⟨⟨p.map V.int,V.int p[i1],SqT.of (eb _),by simp [hl1]⟩,fun y H7 yy=>?_⟩;obtain ⟨rfl,y3⟩:=yy;have ey:=y3 _ (SqT.of (eb _));rw [n7_,n1_ hl1] at ey;cases ey
     have len:(ps.take i).flatten.length+p.length≤ps.flatten.length:=by rw [fl,n21_] at le1;exact le1
     refine ⟨_,rfl,p[i1],_,_,rfl,Zc,sb _ ?_,_,(by omega:p.length-(i1+1)<_),rfl,by omega,⟨_,rfl⟩,?_⟩
     · have:=hsz ((ps.take i).flatten++p.take i1)
       simp only [f];rw [n21_,n57_] at this;omega
     · have e5:p.take (i1+1)=p.take i1++[p[i1]]:=List.take_succ_eq_append_getElem hl1;rw [Zsc,e5,← n52_];simp only [f,List.foldl_append,n73_,List.foldl_nil];rfl
   · refine .inl ⟨⟨_,SqT.of (eb _),by simp;omega⟩,_,(by omega:vs.length-(i+1)<_),rfl,by omega,⟨_,_,rfl⟩,?_⟩;rw [fl,show p.take i1=p from n70_ (by omega)]
 · have e:i=vs.length:=by omega
   subst e;refine .inl ⟨⟨vs,SqT.of e0,n10_ _⟩,?_⟩;rw [n70_ (by rw [al.1];exact n10_ _)];exact hd _
theorem Znv {X:Cx}:Yw X (.builtin "len") (fun xs H Q=>∃ D S n,xs=[.ref D]∧H D=some (.set S n)∧Q (.int n) H):=by
 intro pins s σ H xs us Q I r h;obtain ⟨D,S,n,rfl,hS,q⟩:=h;cases r with
 | cons rx r =>
   cases r
   cases (show _=Value.ref D from rx)
   obtain ⟨o,es,ep,t,e,ex,d,_,_,sz,f,en⟩:=(show ObjOk X.prog X.w H s.heap D (.set S n) from I.hok D _ hS);have hl:=Zcw
   have:(4096:Nat)=scanBound:=rfl
   refine call_len_set e ex d f (by omega) ⟨.int n,H,I.tok _,⟨_,by rw [en]⟩,q⟩
theorem Znt {X:Cx} {x:Str} {pos' spos:Pos} {tg elt iter:Expr} {ifs:List Expr} {scope:Scope} {cl:List (Str×Addr)} {N:List Str} {fr:List (Option Nat)} {pos:Pos} {wi:TI} {g g':TG} {tt:TT} {te:TE}
 (hw:swapsWith (.ListComp elt [⟨tg,iter,ifs,0⟩] scope pos) (some (.Name x pos')) spos.line X.env=pure true)
 (hc:X.calm=true) (hg':PG X (.Name x pos') g') (L:LcO X scope cl N fr) (hi:PI X tg iter wi) (hg:∀ C s3 H3 fp,PG (blk X scope cl C N s3 H3 fp) tg g)
 (ht:∀ C s3 H3 fp,PIfs (blk X scope cl C N s3 H3 fp) ifs tt) (he:∀ C s3 H3 fp,PE (blk X scope cl C N s3 H3 fp) elt te)
 (hs:∀ x,foldedSetIterable iter X.env x=pure x:=by intro _;rfl):PS X (.Assign [.Name x pos'] (.ListComp elt [⟨tg,iter,ifs,0⟩] scope pos) spos) (tAsg (tLC wi g tt te fr) g'):=by
 intro pins s σ H D I h;rw [exec_Assign_Name_used _ _ _ _ hw];refine n0_ (wpAny_standAt (n0_ ?_));rw [arm_evalThenUse_ListComp];refine n0_ (wpAny_comprehension_free (Q:=fun _ s'=>wpAny (model X.prog X.w) X.A (pure ()) (fun _ s''=>wpAny (model X.prog X.w) X.A (pure Flow.next) (SP X pins D) X.xe s'') X.xe s') (use:=some (assign (.Name x pos') X.env)) rfl hs L.clos L.kind L.names (thn (hi pins s σ H _ I h) fun v s1 h1=>thn h1 fun itv s2 h2=>?_));obtain ⟨it,fp,tn,J,H2,e,I2,T,st2,f2,h⟩:=h2;subst e;obtain ⟨W,⟨m0,w0⟩,turn⟩:=h s2.heap.objs.size (I2.hok.fresh (n10_ _));refine wpAny_newObj_type ?_;generalize hs3:({ s2 with heap:=s2.heap.push { cls:=.type "list",dict:=none,data:=.seq ([]:List Value).toArray } }:Shared)=s3;refine Zck (ac:=.lst []) hs3.symm hc L hg I2 T st2 f2 ⟨n51_ _,[],_,.nil,n9_ _ rfl⟩ w0 turn (fun _ _ a b=>codeAny_compStart_list a (b _)) (fun LI s4 t n h=>Zcc LI t n h) (fun H6 s7 qn I3 fr7 c=>?_) (Zny ht he);obtain ⟨m7,hn7,c7⟩:=c;have I8:Inv X pins σ H6 s7:=c7 s7.heap (Heap.SameBut.refl ..)
 have fpC:∀ {H6:Hp},H6 s3.heap.objs.size=none→∀ b∈[s3.heap.objs.size],FpOk X pins H6 b:=fun fr b hb=>by
  rw [n23_] at hb;subst hb;exact I3.fpOk (n10_ _) fr
 obtain ⟨oC,esC,epC,geC,dC,skC,nfC⟩:=hn7
 have I9:=I8.pinned (fpC fr7) (fun b hb=>by
  rw [n23_] at hb;subst hb;exact ⟨oC,geC,fun v z=>by rw [dC] at z;cases z⟩)
 refine thn (hg' _ s7 σ H6 (.ref s2.heap.objs.size) (.ref s2.heap.objs.size) _ I9 rfl qn) fun _ s9 ⟨σ9,H9,I10,q9⟩=>?_;have pC:=I10.pin (s3.heap.objs.size,oC) (n33_ _ (n33_ _ (Y3 (n23_.mpr rfl) geC)));refine ⟨m7,⟨oC,esC,epC,pC.1,dC,skC,nfC⟩,fun h' sb=>?_⟩;refine n3_ (n3_ ?_);exact ⟨σ9,H9,I10.unpinned.turnGen (t':=s9.toks) (ch:=[s3.heap.objs.size]) (fun b u nb e=>(sb.2 b (fun z=>nb (by rw [z];exact n23_.mpr rfl))).trans e) (fpC pC.2.1) (fun _ _ e=>e) (fun _ _ _ e=>e) (fun b u e1 e2=>by rw [e1] at e2;cases e2),q9⟩
def tD (a b c x y q:Pnt):Int:=tn a b c*tn x y q
def inS (a b c q:Pnt):Prop:=0≤tD a b c a b q∧0≤tD a b c b c q∧0≤tD a b c c a q
def bey (a b c x y u v w:Pnt):Prop:=tD a b c x y u≤0∧tD a b c x y v≤0∧tD a b c x y w≤0
def sepS (a b c u v w:Pnt):Prop:=bey a b c a b u v w∨bey a b c b c u v w∨bey a b c c a u v w
instance {a b c q:Pnt}:Decidable (inS a b c q):=by unfold inS;infer_instance
instance {a b c x y u v w:Pnt}:Decidable (bey a b c x y u v w):=by unfold bey;infer_instance
instance {a b c u v w:Pnt}:Decidable (sepS a b c u v w):=by unfold sepS;infer_instance
theorem Za7 (a b q:Pnt):tn b a q =-tn a b q:=by unfold tn;grind
theorem Zqx (a b c:Pnt):tn b c a=tn a b c:=by unfold tn;grind
theorem Zsa (a b c x y q:Pnt):tD b a c x y q=tD a b c y x q:=by
 unfold tD;rw [Za7 a b c,Za7 x y q];grind
theorem Zp4 (a b c x y q:Pnt):tD b c a x y q=tD a b c x y q:=by unfold tD;rw [Zqx]
theorem Zmr (a b c x y q:Pnt):tD b a c y x q=tD a b c x y q:=Zsa a b c y x q
theorem Zq8 {a b c q:Pnt} (h:inS a b c q):inS b c a q:=by
 unfold inS at *;simp only [Zp4];exact ⟨h.2.1,h.2.2,h.1⟩
theorem Zum {a b c q:Pnt} (h:inS a b c q):inS b a c q:=by
 unfold inS at *;simp only [Zmr];exact ⟨h.1,h.2.2,h.2.1⟩
theorem Zrs {a b c x y u v w:Pnt}:bey b c a x y u v w=bey a b c x y u v w:=by unfold bey;simp only [Zp4]
theorem Zuj {a b c x y u v w:Pnt}:bey b a c y x u v w=bey a b c x y u v w:=by unfold bey;simp only [Zmr]
theorem Zr2 {a b c u v w:Pnt} (h:sepS a b c u v w):sepS b c a u v w:=by
 unfold sepS at *;simp only [Zrs];rcases h with h|h|h
 · exact .inr (.inr h)
 · exact .inl h
 · exact .inr (.inl h)
theorem Ztj {a b c u v w:Pnt} (h:sepS a b c u v w):sepS b a c u v w:=by
 unfold sepS at *;simp only [Zuj];rcases h with h|h|h
 · exact .inl h
 · exact .inr (.inr h)
 · exact .inr (.inl h)
theorem Zom {a b c u v w:Pnt} (h:sepS a b c u v w):sepS a b c v w u:=by
 unfold sepS bey at *;rcases h with ⟨h1,h2,h3⟩|⟨h1,h2,h3⟩|⟨h1,h2,h3⟩
 · exact .inl ⟨h2,h3,h1⟩
 · exact .inr (.inl ⟨h2,h3,h1⟩)
 · exact .inr (.inr ⟨h2,h3,h1⟩)
theorem Zsh {a b c u v w:Pnt} (h:sepS a b c u v w):sepS a b c v u w:=by
 unfold sepS bey at *;rcases h with ⟨h1,h2,h3⟩|⟨h1,h2,h3⟩|⟨h1,h2,h3⟩
 · exact .inl ⟨h2,h1,h3⟩
 · exact .inr (.inl ⟨h2,h1,h3⟩)
 · exact .inr (.inr ⟨h2,h1,h3⟩)
theorem Zpb {α:Type} [DecidableEq α] {x y z a b c:α} (h:[x,y,z].Perm [a,b,c]) (P:α→α→α→Prop) (rot:∀ a b c,P a b c→P b c a) (sw:∀ a b c,P a b c→P b a c) (p:P a b c):P x y z:=by
 have hx:x∈[a,b,c]:=h.mem_iff.mp (by simp);simp only [n11_,n12_,or_false] at hx
 have two:∀ {y z b c:α},[y,z].Perm [b,c]→(y=b∧z=c)∨(y=c∧z=b):=by
  intro y z b c h;have hy:y∈[b,c]:=h.mem_iff.mp (by simp);simp only [n11_,n12_,or_false] at hy
  rcases hy with rfl|rfl
  · have:=List.perm_cons y |>.mp h
    exact .inl ⟨rfl,by simpa using this⟩
  · have:=List.perm_cons y |>.mp (h.trans (List.Perm.swap y b []))
    exact .inr ⟨rfl,by simpa using this⟩
 rcases hx with rfl|rfl|rfl
 · rcases two ((List.perm_cons x).mp h) with ⟨rfl,rfl⟩|⟨rfl,rfl⟩
   · exact p
   · exact sw _ _ _ (rot _ _ _ (rot _ _ _ p))
 · rcases two ((List.perm_cons x).mp (h.trans (List.Perm.swap x a [c]))) with ⟨rfl,rfl⟩|⟨rfl,rfl⟩
   · exact sw _ _ _ p
   · exact rot _ _ _ p
 · have h2:[x,y,z].Perm [x,a,b]:=h.trans (((List.Perm.swap x b []).cons a).trans (List.Perm.swap x a [b]))
   rcases two ((List.perm_cons x).mp h2) with ⟨rfl,rfl⟩|⟨rfl,rfl⟩
   · exact rot _ _ _ (rot _ _ _ p)
   · exact sw _ _ _ (rot _ _ _ p)
theorem Zku {a b c q:Pnt} (hd:tn a b c≠0):Zay q (tri a b c)=true↔inS a b c q:=by
 unfold Zay tri inS tD
 by_cases h:tn a b c<0
 · rw [if_pos h];have e1:tn a c q =-tn c a q:=Za7 c a q;have e2:tn c b q =-tn b c q:=Za7 b c q;have e3:tn b a q =-tn a b q:=Za7 a b q;simp only [Tri.edges,n34_,List.map_nil,List.all_cons,List.all_nil,id,Bool.and_true,n32_,decide_eq_true_eq,e1,e2,e3]
   have k:∀ t:Int,(0≤tn a b c*t↔0≤-t):=fun t=>by
    constructor
    · intro g
      by_cases ht:0<t
      · have:=Int.mul_neg_of_neg_of_pos h ht
        omega
      · omega
    · intro g;exact Int.mul_nonneg_of_nonpos_of_nonpos (by omega) (by omega)
   rw [k,k,k];constructor
   · rintro ⟨h1,h2,h3⟩;exact ⟨h3,h2,h1⟩
   · rintro ⟨h1,h2,h3⟩;exact ⟨h3,h2,h1⟩
 · rw [if_neg h];have hp:0<tn a b c:=by omega
   simp only [Tri.edges,n34_,List.map_nil,List.all_cons,List.all_nil,id,Bool.and_true,n32_,decide_eq_true_eq]
   have k:∀ t:Int,(0≤tn a b c*t↔0≤t):=fun t=>by
    constructor
    · intro g
      by_cases ht:t<0
      · have:=Int.mul_neg_of_pos_of_neg hp ht
        omega
      · omega
    · intro g;exact Int.mul_nonneg (by omega) g
   rw [k,k,k]
theorem Zed {e:Pnt×Pnt} {u v w:Pnt} {t:Tri} (ht:t=tri u v w):Zcp e t=true↔tn e.1 e.2 u≤0∧tn e.1 e.2 v≤0∧tn e.1 e.2 w≤0:=by
 subst ht;unfold Zcp tri;split
 · simp only [Tri.pts,n34_,List.map_nil,List.all_cons,List.all_nil,id,Bool.and_true,n32_,decide_eq_true_eq];constructor
   · rintro ⟨h1,h2,h3⟩;exact ⟨h1,h3,h2⟩
   · rintro ⟨h1,h2,h3⟩;exact ⟨h1,h3,h2⟩
 · simp only [Tri.pts,n34_,List.map_nil,List.all_cons,List.all_nil,id,Bool.and_true,n32_,decide_eq_true_eq]
theorem Zb6 {a b c u v w:Pnt} (hd:tn a b c≠0) (h:sepS a b c u v w):Yu (tri a b c) (tri u v w)=true:=by
 unfold Yu
 have k:∀ x y:Pnt,bey a b c x y u v w→(tn a b c<0→Zcp (y,x) (tri u v w)=true)∧(¬ tn a b c<0→Zcp (x,y) (tri u v w)=true):=by
  intro x y g;unfold bey tD at g;refine ⟨fun hn=>(Zed rfl).mpr ?_,fun hn=>(Zed rfl).mpr ?_⟩
  · have kk:∀ q:Pnt,tn a b c*tn x y q≤0→tn y x q≤0:=fun q hq=>by
     rw [Za7 x y q]
     by_cases ht:tn x y q<0
     · have:=Int.mul_pos_of_neg_of_neg hn ht
       omega
     · omega
    exact ⟨kk _ g.1,kk _ g.2.1,kk _ g.2.2⟩
  · have hp:0<tn a b c:=by omega
    have kk:∀ q:Pnt,tn a b c*tn x y q≤0→tn x y q≤0:=fun q hq=>by
     by_cases ht:0<tn x y q
     · have:=Int.mul_pos hp ht
       omega
     · omega
    exact ⟨kk _ g.1,kk _ g.2.1,kk _ g.2.2⟩
 rw [List.any_eq_true];generalize tri u v w=T at k ⊢;unfold tri
 by_cases hn:tn a b c<0
 · rw [if_pos hn]
   rcases h with h|h|h
   · exact ⟨(b,a),by simp [Tri.edges],(k _ _ h).1 hn⟩
   · exact ⟨(c,b),by simp [Tri.edges],(k _ _ h).1 hn⟩
   · exact ⟨(a,c),by simp [Tri.edges],(k _ _ h).1 hn⟩
 · rw [if_neg hn]
   rcases h with h|h|h
   · exact ⟨(a,b),by simp [Tri.edges],(k _ _ h).2 hn⟩
   · exact ⟨(b,c),by simp [Tri.edges],(k _ _ h).2 hn⟩
   · exact ⟨(c,a),by simp [Tri.edges],(k _ _ h).2 hn⟩
structure Aff where
 a:Int
 b:Int
 c:Int
 d:Int
 s:Int
 t:Int
def Aff.at (A:Aff) (p:Pnt):Pnt:=(A.a*p.1+A.b*p.2+A.s,A.c*p.1+A.d*p.2+A.t)
def Aff.det (A:Aff):Int:=A.a*A.d-A.b*A.c
theorem Aff.tn (A:Aff) (p q r:Pnt):L2.tn (A.at p) (A.at q) (A.at r)=A.det*L2.tn p q r:=by
 unfold L2.tn Aff.at Aff.det;dsimp only
 grind
theorem Aff.tD (A:Aff) (a b c x y q:Pnt):L2.tD (A.at a) (A.at b) (A.at c) (A.at x) (A.at y) (A.at q)=A.det*A.det*L2.tD a b c x y q:=by
 unfold L2.tD;rw [A.tn,A.tn]
 grind
theorem Aff.sq {A:Aff} (h:A.det≠0):0<A.det*A.det:=by
 by_cases g:0<A.det
 · exact Int.mul_pos g g
 · exact Int.mul_pos_of_neg_of_neg (by omega) (by omega)
theorem Aff.nn {A:Aff} (h:A.det≠0) (t:Int):0≤A.det*A.det*t↔0≤t:=by
 have hp:=A.sq h;constructor
 · intro g
   by_cases ht:t<0
   · have:=Int.mul_neg_of_pos_of_neg hp ht
     omega
   · omega
 · intro g;exact Int.mul_nonneg (by omega) g
theorem Aff.np {A:Aff} (h:A.det≠0) (t:Int):A.det*A.det*t≤0↔t≤0:=by
 have hp:=A.sq h;constructor
 · intro g
   by_cases ht:0<t
   · have:=Int.mul_pos hp ht
     omega
   · omega
 · intro g
   have:=Int.mul_nonneg (a:=A.det*A.det) (b:=-t) (by omega) (by omega)
   rw [Int.mul_neg] at this;omega
theorem Aff.inS {A:Aff} (h:A.det≠0) {a b c q:Pnt}:L2.inS (A.at a) (A.at b) (A.at c) (A.at q)↔L2.inS a b c q:=by
 unfold L2.inS;rw [A.tD,A.tD,A.tD,A.nn h,A.nn h,A.nn h]
theorem Aff.bey {A:Aff} (h:A.det≠0) {a b c x y u v w:Pnt}:L2.bey (A.at a) (A.at b) (A.at c) (A.at x) (A.at y) (A.at u) (A.at v) (A.at w)↔L2.bey a b c x y u v w:=by
 unfold L2.bey;rw [A.tD,A.tD,A.tD,A.np h,A.np h,A.np h]
theorem Aff.sep {A:Aff} (h:A.det≠0) {a b c u v w:Pnt}:L2.sepS (A.at a) (A.at b) (A.at c) (A.at u) (A.at v) (A.at w)↔L2.sepS a b c u v w:=by
 unfold L2.sepS;rw [A.bey h,A.bey h,A.bey h]
theorem Aff.inj {A:Aff} (h:A.det≠0) {p q:Pnt} (e:A.at p=A.at q):p=q:=by
 unfold Aff.at at e;have e1:=congrArg Prod.fst e;have e2:=congrArg Prod.snd e;dsimp only at e1 e2;unfold Aff.det at h;have f1:(A.a*A.d-A.b*A.c)*(p.1-q.1)=0:=by grind
 have f2:(A.a*A.d-A.b*A.c)*(p.2-q.2)=0:=by grind
 have g1:=(Int.mul_eq_zero.mp f1).resolve_left h;have g2:=(Int.mul_eq_zero.mp f2).resolve_left h;exact Prod.ext (by omega) (by omega)
def Zki (pts:List Pnt):List Int→Bool
 | [i,j,k]=>decide (0≤i∧i<(pts.length:Int))&&decide (0≤j∧j<(pts.length:Int))&&decide (0≤k∧k<(pts.length:Int))&&decide (i≠j∧i≠k∧j≠k)&&decide (tn (cAt pts i) (cAt pts j) (cAt pts k)≠0) &&
    (List.range pts.length).all fun x=>decide ((x:Int)=i∨(x:Int)=j∨(x:Int)=k)||!decide (inS (cAt pts i) (cAt pts j) (cAt pts k) (cAt pts x))
 | _=>false
def sepB (pts:List Pnt):List Int→List Int→Bool
 | [i,j,k],[u,v,w]=>decide (sepS (cAt pts i) (cAt pts j) (cAt pts k) (cAt pts u) (cAt pts v) (cAt pts w))||decide (sepS (cAt pts u) (cAt pts v) (cAt pts w) (cAt pts i) (cAt pts j) (cAt pts k))
 | _,_=>false
def Zrv (pts:List Pnt) (pcs:List (List Int)):Bool :=
 decide (3≤pts.length∧pts.length≤6)&&decide (1≤pcs.length∧pcs.length≤4)&&pts.all (fun p=>decide (p.1.natAbs≤6∧p.2.natAbs≤6))&&decide pts.Nodup&&pcs.all (Zki pts) &&
  ((List.range pts.length).all fun k=>pcs.any fun p=>decide ((k:Int)∈p)) &&
  (List.range pcs.length).all fun i=>(List.range pcs.length).all fun j=>decide (i=j)||(sepB pts (pcs.getD i []) (pcs.getD j [])&&(pcs.getD i []).any fun x=>decide (x∉pcs.getD j []))
structure Base (pts:List Pnt) (pcs:List (List Int)):Prop where
 n3:3≤pts.length
 n6:pts.length≤6
 p1:1≤pcs.length
 p4:pcs.length≤4
 bd:∀ p∈pts,p.1.natAbs≤6∧p.2.natAbs≤6
 nd:pts.Nodup
 pc:∀ p∈pcs,Zki pts p=true
 us:∀ k:Nat,k<pts.length→∃ p∈pcs,(k:Int)∈p
 sep:∀ i j:Nat,i<pcs.length→j<pcs.length→i≠j→sepB pts (pcs.getD i []) (pcs.getD j [])=true∧∃ x∈pcs.getD i [],x∉pcs.getD j []
theorem Zc6 {pts:List Pnt} {pcs:List (List Int)} (h:Zrv pts pcs=true):Base pts pcs:=by
 unfold Zrv at h;simp only [n32_,decide_eq_true_eq,n27_,List.any_eq_true,n26_,Bool.or_eq_true] at h;obtain ⟨⟨⟨⟨⟨⟨⟨h1,h2⟩,h3,h4⟩,h5⟩,h6⟩,h7⟩,h8⟩,h9⟩:=h;exact ⟨h1,h2,h3,h4,h5,h6,h7,h8,fun i j hi hj ne=>(h9 i hi j hj).resolve_left ne⟩
structure CoOrd (n:Nat) (o:List Int):Prop where
 len:o.length=n
 bd:∀ j:Nat,j<n→0≤o.getD j 0∧o.getD j 0<n
 inj:∀ i j:Nat,i<n→j<n→o.getD i 0=o.getD j 0→i=j
 sur:∀ k:Nat,k<n→∃ j:Nat,j<n∧o.getD j 0=k
theorem Zta {n:Nat} {o:List Int} (h:o.Perm ((List.range n).map fun i:Nat=>(i:Int))):CoOrd n o:=by
 have hl:o.length=n:=by rw [h.length_eq];simp
 have nd:o.Nodup:=h.symm.nodup (List.Pairwise.map _ (fun a b ne e=>ne (Int.ofNat.inj e)) List.nodup_range);have g:∀ j:Nat,(hj:j<n)→o.getD j 0=o[j]'(by omega):=fun j hj=>by rw [n4_,n1_ (by omega)];rfl
 refine ⟨hl,fun j hj=>?_,fun i j hi hj e=>?_,fun k hk=>?_⟩
 · rw [g j hj]
   have:o[j]'(by omega)∈(List.range n).map fun i:Nat=>(i:Int):=h.mem_iff.mp (n43_ _)
   obtain ⟨k,hk,e⟩:=n29_.mp this
   have:=n26_.mp hk
   omega
 · rw [g i hi,g j hj] at e;exact (n63_ nd).mp e
 · have:(k:Int)∈o:=h.mem_iff.mpr (n29_.mpr ⟨k,n26_.mpr hk,rfl⟩)
   obtain ⟨j,hj,e⟩:=n44_ this;exact ⟨j,by omega,by rw [g j (by omega)];exact e⟩
def oAt (o:List Int) (i:Int):Int:=o.getD i.toNat 0
theorem Zqb {pts:List Pnt} {p:List Int} (h:Zki pts p=true):∃ i j k,p=[i,j,k]∧(0≤i∧i<(pts.length:Int))∧(0≤j∧j<(pts.length:Int))∧(0≤k∧k<(pts.length:Int))∧(i≠j∧i≠k∧j≠k)∧tn (cAt pts i) (cAt pts j) (cAt pts k)≠0 ∧
 ∀ x:Nat,x<pts.length→(x:Int)∉p→¬ inS (cAt pts i) (cAt pts j) (cAt pts k) (cAt pts x):=by
 unfold Zki at h;split at h
 · rename_i i j k
   simp only [n32_,decide_eq_true_eq,n27_,n26_,Bool.or_eq_true,Bool.not_eq_true',decide_eq_false_iff_not] at h;obtain ⟨⟨⟨⟨⟨h1,h2⟩,h3⟩,h4⟩,h5⟩,h6⟩:=h;refine ⟨i,j,k,rfl,h1,h2,h3,h4,h5,fun x hx nm=>(h6 x hx).resolve_left fun z=>nm ?_⟩
   simpa using z
 · cases h
theorem Zgq {n:Nat} (l:List Int) (hb:∀ x∈l,0≤x∧x<n) (hs:∀ k:Nat,k<n→(k:Int)∈l):cntS l=n:=by
 have key:∀ (l:List Int),(∀ x∈l,0≤x∧x<n)→∀ q:(Int→Bool)×Nat,q.2=(List.range n).countP (fun k:Nat=>q.1 k)→(l.foldl Za5 q).2=(List.range n).countP (fun k:Nat=>(l.foldl Za5 q).1 k)∧∀ x,(l.foldl Za5 q).1 x=(q.1 x||decide (x∈l)):=by
  intro l
  induction l with
  | nil=>intro _ q h;exact ⟨h,fun x=>by simp⟩
  | cons y l ih =>
    intro hb q h;rw [n73_];have hy:=hb y n15_
    have step:(Za5 q y).2=(List.range n).countP (fun k:Nat=>(Za5 q y).1 k):=by
     unfold Za5;dsimp only
     by_cases g:q.1 y=true
     · rw [if_pos g,h];refine congrArg (fun f=>List.countP f (List.range n)) (funext fun k=>?_)
       by_cases e:(k:Int)=y
       · rw [e,g];rfl
       · simp [e]
     · rw [if_neg g,h];have g':q.1 y=false:=by simpa using g
       obtain ⟨m,rfl⟩:∃ m:Nat,y=m:=⟨y.toNat,by omega⟩;have hm:m<n:=by omega
       have:∀ r:Nat,(List.range r).countP (fun k:Nat=>q.1 k||decide ((k:Int)=(m:Int)))=(List.range r).countP (fun k:Nat=>q.1 k)+(if m<r then 1 else 0):=by
        intro r
        induction r with
        | zero=>rfl
        | succ r ihr =>
          rw [List.range_succ,List.countP_append,List.countP_append,ihr];simp only [List.countP_singleton]
          by_cases e:r=m
          · subst e;rw [g']
            simp
          · have e2:¬ (r:Int)=(m:Int):=by omega
            simp only [e2,decide_false,Bool.or_false];have e3:(m<r+1)↔(m<r):=by omega
            simp only [e3];omega
       rw [this n,if_pos hm]
    obtain ⟨i1,i2⟩:=ih (fun x hx=>hb x (n17_ _ hx)) (Za5 q y) step;refine ⟨i1,fun x=>?_⟩;rw [i2];unfold Za5;dsimp only
    by_cases e:x=y
    · subst e;simp
    · simp [e]
 obtain ⟨k1,k2⟩:=key l hb (fun _=>false,0) (by simp);unfold cntS;rw [k1]
 have:(List.range n).countP (fun k:Nat=>(l.foldl Za5 (fun _=>false,0)).1 k)=(List.range n).length:=by
  rw [List.countP_eq_length];intro k hk;rw [k2];simp [hs k (n26_.mp hk)]
 rw [this,n65_]
structure Small (A:Aff):Prop where
 a:A.a.natAbs≤3
 b:A.b.natAbs≤3
 c:A.c.natAbs≤3
 d:A.d.natAbs≤3
 s:A.s.natAbs≤20
 t:A.t.natAbs≤20
theorem Zrx {A:Aff} (S:Small A) {p:Pnt} (h:p.1.natAbs≤6∧p.2.natAbs≤6):near (A.at p):=by
 have h1:(A.a*p.1).natAbs≤3*6:=by rw [Int.natAbs_mul];exact Nat.mul_le_mul S.a h.1
 have h2:(A.b*p.2).natAbs≤3*6:=by rw [Int.natAbs_mul];exact Nat.mul_le_mul S.b h.2
 have h3:(A.c*p.1).natAbs≤3*6:=by rw [Int.natAbs_mul];exact Nat.mul_le_mul S.c h.1
 have h4:(A.d*p.2).natAbs≤3*6:=by rw [Int.natAbs_mul];exact Nat.mul_le_mul S.d h.2
 have h5:=S.s;have h6:=S.t;unfold near Aff.at;dsimp only;omega
structure Drawn (pts:List Pnt) (pcs:List (List Int)) (A:Aff) (o:List Int) (cs:List Pnt) (kl:List (List Int)) (q:List Nat):Prop where
 base:Base pts pcs
 det:A.det≠0
 small:Small A
 ord:CoOrd pts.length o
 len:cs.length=pts.length
 at_:∀ j:Nat,j<pts.length→cs[(o.getD j 0).toNat]? = some (A.at (pts.getD j (0,0)))
 klen:kl.length=pcs.length
 key:∀ i:Nat,i<pcs.length→(kl.getD i []).Perm ((pcs.getD i []).map (oAt o))∧(kl.getD i []).Pairwise (·≤·)
 perm:q.Perm (List.range pcs.length)
section
variable {pts:List Pnt} {pcs:List (List Int)} {A:Aff} {o:List Int} {cs:List Pnt} {kl:List (List Int)} {q:List Nat}
theorem Drawn.corner (D:Drawn pts pcs A o cs kl q) {i:Int} (h:0≤i∧i<pts.length):cAt cs (oAt o i)=A.at (cAt pts i):=by
 obtain ⟨n,rfl⟩:∃ n:Nat,i=n:=⟨i.toNat,by omega⟩
 have:=D.at_ n (by omega)
 unfold cAt oAt;rw [show ((n:Int)).toNat=n from rfl,n4_ (i:=(o.getD n 0).toNat),this];rfl
theorem Drawn.piece (D:Drawn pts pcs A o cs kl q) {n:Nat} (hn:n<pcs.length):∃ i j k x y z,pcs.getD n []=[i,j,k]∧kl.getD n []=[x,y,z]∧[x,y,z].Perm [oAt o i,oAt o j,oAt o k]∧(x<y∧y<z)∧(0≤i∧i<(pts.length:Int))∧(0≤j∧j<(pts.length:Int))∧(0≤k∧k<(pts.length:Int))∧tn (cAt pts i) (cAt pts j) (cAt pts k)≠0 ∧
 ∀ x:Nat,x<pts.length→(x:Int)∉[i,j,k]→¬ inS (cAt pts i) (cAt pts j) (cAt pts k) (cAt pts x):=by
 have hm:pcs.getD n []∈pcs:=by rw [n4_,n1_ hn];exact n43_ hn
 obtain ⟨i,j,k,e,hi,hj,hk,⟨n1,n2,n3⟩,hd,hs⟩:=Zqb (D.base.pc _ hm);obtain ⟨pm,so⟩:=D.key n hn;rw [e] at pm hs;have l3:(kl.getD n []).length=3:=by rw [pm.length_eq];rfl
 generalize hr:kl.getD n []=r at *
 match r,l3 with
 | [x,y,z],_ =>
   have io:∀ {a b:Int},(0≤a∧a<(pts.length:Int))→(0≤b∧b<(pts.length:Int))→a≠b→oAt o a≠oAt o b:=fun {a b} ha hb ne z=>ne (by
    have:=D.ord.inj a.toNat b.toNat (by omega) (by omega) z
    omega)
   have nd:[x,y,z].Nodup:=pm.symm.nodup (by simp [io hi hj n1,io hi hk n2,io hj hk n3]);simp only [List.nodup_cons,n11_,n12_,or_false,not_or,List.pairwise_cons] at nd so;have s1:=so.1 y (by simp);have s2:=so.2.1 z (by simp);exact ⟨i,j,k,x,y,z,e,rfl,pm,⟨by omega,by omega⟩,hi,hj,hk,hd,hs⟩
theorem Drawn.knd (D:Drawn pts pcs A o cs kl q):kl.Nodup:=by
 rw [n56_,n54_];intro i j hi hj lt e;rw [D.klen] at hi hj;obtain ⟨_,x,hx,nx⟩:=D.base.sep i j hi hj (by omega);have g:∀ n,(h:n<pcs.length)→kl.getD n []=kl[n]'(by rw [D.klen];exact h):=fun n h=>by rw [n4_,n1_ (by rw [D.klen];exact h)];rfl
 have m1:oAt o x∈kl.getD i []:=(D.key i hi).1.mem_iff.mpr (n29_.mpr ⟨x,hx,rfl⟩);rw [g i hi,e,← g j hj] at m1;obtain ⟨y,hy,ey⟩:=n29_.mp ((D.key j hj).1.mem_iff.mp m1)
 have bdm:∀ n,n<pcs.length→∀ x∈pcs.getD n [],0≤x∧x<(pts.length:Int):=fun n hn x hx=>by
  obtain ⟨i,j,k,_,_,_,e,_,_,_,hi,hj,hk,_⟩:=D.piece hn;rw [e] at hx;simp only [n11_,n12_,or_false] at hx
  rcases hx with rfl|rfl|rfl<;>assumption
 have b1:=bdm i hi x hx;have b2:=bdm j hj y hy
 have:=D.ord.inj y.toNat x.toNat (by omega) (by omega) ey
 have:x=y:=by omega
 exact nx (this ▸ hy)
theorem Drawn.ok (D:Drawn pts pcs A o cs kl q) {ts:List Int} {l m:Int} (rise:(q.map fun i=>kl.getD i []).Pairwise fun a b=>HT.lexLt a b=true) (tl:ts.length=pcs.length) (t9:∀ t∈ts,1≤t∧t≤9) (l9:0≤l∧l≤9) (m9:1≤m∧m≤9) :
 PlOk ⟨cs,q.map fun i=>kl.getD i [],ts,l,m⟩:=by
 have n3:=D.base.n3;have n6:=D.base.n6;have p1:=D.base.p1;have p4:=D.base.p4;have hl:=D.len;have qlen:q.length=pcs.length:=by rw [D.perm.length_eq,n65_]
 have qlt:∀ i∈q,i<pcs.length:=fun i hi=>n26_.mp (D.perm.mem_iff.mp hi);have qnd:q.Nodup:=D.perm.symm.nodup List.nodup_range
 have whence:∀ k:Nat,k<cs.length→∃ j:Nat,j<pts.length∧o.getD j 0=k∧cs[k]? = some (A.at (pts.getD j (0,0))):=fun k hk=>by
  obtain ⟨j,hj,e⟩:=D.ord.sur k (by omega)
  have:=D.at_ j hj
  rw [e] at this;exact ⟨j,hj,e,this⟩
 have ptm:∀ j:Nat,j<pts.length→pts.getD j (0,0)∈pts:=fun j hj=>by rw [n4_,n1_ hj];exact n43_ hj
 have pieceOk:∀ n,n<pcs.length→PieceOk cs (kl.getD n []):=fun n hn=>by
  obtain ⟨i,j,k,x,y,z,e,e2,pm,lt,hi,hj,hk,hd,hs⟩:=D.piece hn;rw [e2]
  have bo:∀ a∈[oAt o i,oAt o j,oAt o k],0≤a∧a≤(cs.length:Int)-1:=fun a ha=>by
   simp only [n11_,n12_,or_false] at ha;have b1:=D.ord.bd i.toNat (by omega);have b2:=D.ord.bd j.toNat (by omega);have b3:=D.ord.bd k.toNat (by omega);unfold oAt at ha
   rcases ha with rfl|rfl|rfl<;>omega
  refine ⟨rfl,fun a ha=>bo a (pm.mem_iff.mp ha),lt,?_⟩;refine Zpb pm (fun x y z=>tn (cAt cs x) (cAt cs y) (cAt cs z)≠0) (fun a b c h=>by rw [Zqx];exact h) (fun a b c h=>by rw [Za7];omega) ?_;rw [D.corner hi,D.corner hj,D.corner hk,A.tn];exact Int.mul_ne_zero D.det hd
 have strange:∀ n,n<pcs.length→∀ j:Nat,j<cs.length→(j:Int)∉kl.getD n []→Zay (cs.getD j (0,0)) (trOf cs (kl.getD n []))=false:=fun n hn jj hjj nm=>by
  have ok:=pieceOk n hn;obtain ⟨i,j,k,x,y,z,e,e2,pm,lt,hi,hj,hk,hd,hs⟩:=D.piece hn;rw [e2] at nm ok ⊢;have hne:=ok.d;refine Bool.eq_false_iff.mpr fun h=>?_;have h2:inS (cAt cs x) (cAt cs y) (cAt cs z) (cs.getD jj (0,0)):=(Zku hne).mp h;have h3:inS (cAt cs (oAt o i)) (cAt cs (oAt o j)) (cAt cs (oAt o k)) (cs.getD jj (0,0)):=Zpb pm.symm (fun x y z=>inS (cAt cs x) (cAt cs y) (cAt cs z) (cs.getD jj (0,0))) (fun a b c h=>Zq8 h) (fun a b c h=>Zum h) h2;obtain ⟨j0,hj0,ej,ec⟩:=whence jj hjj;rw [D.corner hi,D.corner hj,D.corner hk,n4_,ec] at h3;have h4:=(A.inS D.det).mp h3;refine hs j0 hj0 (fun z=>nm (pm.mem_iff.mpr ?_)) (by unfold cAt at h4 ⊢;exact h4)
  have:oAt o (j0:Int)=jj:=ej
  rw [← this];have m2:oAt o (j0:Int)∈[i,j,k].map (oAt o):=n29_.mpr ⟨_,z,rfl⟩;exact m2
 refine ⟨by show 3≤cs.length;omega,by show cs.length≤30;omega,fun p hp=>?_,?_,by simp;omega,by simp;omega,fun p hp=>?_,fun i hi=>?_,by simp [tl,qlen],t9,l9,m9,?_,fun p hp=>?_,fun i j hij hj=>?_⟩
 · obtain ⟨k,hk,e⟩:=n44_ (show p∈cs from hp);obtain ⟨j,hj,_,ec⟩:=whence k hk;rw [n1_ hk,e] at ec;cases ec
   exact Zrx D.small (D.base.bd _ (ptm j hj))
 · show cs.Nodup
   rw [n56_,n54_];intro k1 k2 h1 h2 lt e;obtain ⟨j1,hj1,e1,c1⟩:=whence k1 h1;obtain ⟨j2,hj2,e2,c2⟩:=whence k2 h2;rw [n1_ h1,e] at c1;rw [n1_ h2] at c2;rw [c1] at c2
   have:=A.inj D.det (Option.some.inj c2)
   have gd:∀ j,(h:j<pts.length)→pts.getD j (0,0)=pts[j]:=fun j h=>by rw [n4_,n1_ h];rfl
   rw [gd j1 hj1,gd j2 hj2] at this;have e3:=(n63_ D.base.nd).mp this;subst e3;omega
 · obtain ⟨n,hn,rfl⟩:=n29_.mp (show p∈q.map _ from hp);exact pieceOk n (qlt n hn)
 · have hi':i+1<(q.map fun i=>kl.getD i []).length:=hi
   have:=n54_.mp rise i (i+1) (by omega) hi' (by omega)
   show HT.lexLt ((q.map fun i=>kl.getD i []).getD i []) ((q.map fun i=>kl.getD i []).getD (i+1) [])=true
   rw [n4_,n4_,n1_ (by omega),n1_ hi'];exact this
 · show cntS (q.map fun i=>kl.getD i []).flatten=cs.length
   refine Zgq _ (fun x hx=>?_) (fun k hk=>?_)
   · obtain ⟨r,hr,hxr⟩:=n74_.mp hx;obtain ⟨n,hn,rfl⟩:=n29_.mp hr
     have:=(pieceOk n (qlt n hn)).bd x hxr
     omega
   · obtain ⟨j,hj,e⟩:=D.ord.sur k (by omega);obtain ⟨p,hp,hjp⟩:=D.base.us j hj;obtain ⟨n,hn,rfl⟩:=n44_ hp;have g:pcs.getD n []=pcs[n]:=by rw [n4_,n1_ hn];rfl
     refine n74_.mpr ⟨kl.getD n [],n29_.mpr ⟨n,D.perm.mem_iff.mpr (n26_.mpr hn),rfl⟩,(D.key n hn).1.mem_iff.mpr ?_⟩;rw [g,← e];exact n29_.mpr ⟨_,hjp,rfl⟩
 · obtain ⟨n,hn,rfl⟩:=n29_.mp (show p∈q.map _ from hp);exact strange n (qlt n hn)
 · have hj':j<(q.map fun i=>kl.getD i []).length:=hj;have hjq:j<q.length:=by simpa using hj'
   have hiq:i<q.length:=by omega
   show apart (trOf cs ((q.map fun i=>kl.getD i []).getD j [])) (trOf cs ((q.map fun i=>kl.getD i []).getD i []))=true
   have gq:∀ i,(h:i<q.length)→(q.map fun i=>kl.getD i []).getD i []=kl.getD q[i] []:=fun i h=>by
    rw [n4_,n7_,n1_ h];rfl
   rw [gq j hjq,gq i hiq];have h1:=qlt q[j] (n43_ _);have h2:=qlt q[i] (n43_ _);have ne:q[j]≠q[i]:=fun z=>by have:=(n63_ qnd).mp z;omega
   generalize q[j]=n1 at *;generalize q[i]=n2 at *;have sb:=(D.base.sep n1 n2 h1 h2 ne).1;have ok1:=pieceOk n1 h1;have ok2:=pieceOk n2 h2;obtain ⟨i1,j1,k1,x1,y1,z1,e1,f1,pm1,lt1,hi1,hj1,hk1,hd1,hs1⟩:=D.piece h1;obtain ⟨i2,j2,k2,x2,y2,z2,e2,f2,pm2,lt2,hi2,hj2,hk2,hd2,hs2⟩:=D.piece h2;rw [f1] at ok1 ⊢;rw [f2] at ok2 ⊢;rw [e1,e2] at sb;unfold sepB at sb;simp only [Bool.or_eq_true,decide_eq_true_eq] at sb
   have tr:∀ {i1 j1 k1 x1 y1 z1 i2 j2 k2 x2 y2 z2:Int},[x1,y1,z1].Perm [oAt o i1,oAt o j1,oAt o k1]→[x2,y2,z2].Perm [oAt o i2,oAt o j2,oAt o k2]→(0≤i1∧i1<(pts.length:Int))→(0≤j1∧j1<(pts.length:Int))→(0≤k1∧k1<(pts.length:Int))→(0≤i2∧i2<(pts.length:Int))→(0≤j2∧j2<(pts.length:Int))→(0≤k2∧k2<(pts.length:Int)) →
    sepS (cAt pts i1) (cAt pts j1) (cAt pts k1) (cAt pts i2) (cAt pts j2) (cAt pts k2)→sepS (cAt cs x1) (cAt cs y1) (cAt cs z1) (cAt cs x2) (cAt cs y2) (cAt cs z2):=by
    intro i1 j1 k1 x1 y1 z1 i2 j2 k2 x2 y2 z2 pm1 pm2 a1 a2 a3 b1 b2 b3 h;refine Zpb pm1 (fun x y z=>sepS (cAt cs x) (cAt cs y) (cAt cs z) (cAt cs x2) (cAt cs y2) (cAt cs z2)) (fun a b c h=>Zr2 h) (fun a b c h=>Ztj h) ?_;refine Zpb pm2 (fun x y z=>sepS (cAt cs (oAt o i1)) (cAt cs (oAt o j1)) (cAt cs (oAt o k1)) (cAt cs x) (cAt cs y) (cAt cs z)) (fun a b c h=>Zom h) (fun a b c h=>Zsh h) ?_;rw [D.corner a1,D.corner a2,D.corner a3,D.corner b1,D.corner b2,D.corner b3];exact (A.sep D.det).mpr h
   unfold apart;rw [Bool.or_eq_true]
   rcases sb with sb|sb
   · exact .inl (Zb6 ok1.d (tr pm1 pm2 hi1 hj1 hk1 hi2 hj2 hk2 sb))
   · exact .inr (Zb6 ok2.d (tr pm2 pm1 hi2 hj2 hk2 hi1 hj1 hk1 sb))
end
def Zc2:List (List Pnt×List (List Int)) :=
 [([(0,0),(2,0),(0,3)],[[0,1,2]]),
  ([(0,0),(3,0),(3,2),(0,2)],[[0,1,2],[0,2,3]]),
  ([(0,0),(2,1),(2,-1),(-2,1),(-3,-1)],[[0,1,2],[0,3,4]]),
  ([(0,0),(2,0),(0,2),(4,0),(6,1),(4,3)],[[0,1,2],[3,4,5]]),
  ([(0,0),(6,0),(0,6),(2,1)],[[0,1,3],[0,2,3],[1,2,3]]),
  ([(0,0),(0,2),(2,0),(3,2),(5,0)],[[0,1,2],[1,2,3],[2,3,4]]),
  ([(0,0),(1,2),(2,0),(3,2),(4,0),(5,3)],[[0,1,2],[2,3,4],[3,4,5]]),
  ([(0,0),(2,0),(0,3),(-2,0),(0,-1)],[[0,1,2],[0,2,3],[0,3,4],[0,1,4]])]
theorem Znd:Zc2.all (fun s=>Zrv s.1 s.2)=true:=by decide +kernel
theorem Zky {s:List Pnt×List (List Int)} (h:s∈Zc2):Base s.1 s.2:=Zc6 (n27_.mp Znd s h)
theorem PE.weak {X:Cx} {e:Expr} {t t':TE} (h:PE X e t) (w:∀ σ H Q,t' σ H Q→t σ H Q):PE X e t':=fun pins s σ H Q I q=>h pins s σ H Q I (w σ H Q q)
theorem PA.weak {X:Cx} {es:List Expr} {t t':TA} (h:PA X es t) (w:∀ σ H Q,t' σ H Q→t σ H Q):PA X es t':=fun pos pins s σ H Q I q=>h pos pins s σ H Q I (w σ H Q q)
def Zsp:Expr→Option Int
 | .Constant (.int i) _ _=>some i
 | .UnaryOp .USub (.Constant (.int i) _ _) _=>some (-i)
 | _=>none
theorem Zrz {X:Cx} {e:Expr} {i:Int} (h:Zsp e=some i):PE X e (fun _ H Q=>Q (.int i) H)∧∀ es env,starEach (e :: es) env=(false,eval e env) :: starEach es env:=by
 unfold Zsp at h;split at h
 · cases h;exact ⟨Zf,fun _ _=>rfl⟩
 · cases h
   exact ⟨PE.weak (Ztv Zqf Zf) fun σ H Q q=>⟨_,rfl,q⟩,fun _ _=>rfl⟩
 · cases h
def Zi1:List Expr→Option (List Int)
 | []=>some []
 | e :: es=>match Zsp e,Zi1 es with
   | some i,some is=>some (i :: is)
   | _,_=>none
theorem Zkh {X:Cx}:∀ (es:List Expr) (is:List Int),Zi1 es=some is→PA X es (fun _ H Q=>Q (is.map V.int) H)
 | [],is,h=>by
   cases h
   exact PA.weak Zb fun σ H Q q=>q
 | e :: es,is,h=>by
   unfold Zi1 at h;split at h
   · rename_i i js h1 h2
     cases h
     obtain ⟨p1,p2⟩:=Zrz (X:=X) h1;exact PA.weak (Za p1 (Zkh es js h2) (p2 _ _)) fun σ H Q q=>q
   · cases h
def Zse:Expr→Option (List Int)
 | .Tuple es _ _=>Zi1 es
 | _=>none
theorem Zsq {X:Cx} {e:Expr} {is:List Int} (h:Zse e=some is) (hz:is.length≤1000):PE X e (fun _ H Q=>∀ H' v,Same H H'→IsI H' v is→Q v H')∧∀ es env,starEach (e :: es) env=(false,eval e env) :: starEach es env:=by
 unfold Zse at h;split at h
 · exact ⟨PE.weak (Z4 (Zkh _ _ h)) fun σ H Q q=>⟨by rw [n5_,sizeLine_eq];omega,fun p np=>q _ _ (Same.new np) ⟨p,rfl,Zc⟩⟩,fun _ _=>rfl⟩
 · cases h
def Zi5:List Expr→Option (List (List Int))
 | []=>some []
 | e :: es=>match Zse e,Zi5 es with
   | some i,some is=>if i.length≤1000 then some (i :: is) else none
   | _,_=>none
theorem Zi7 {X:Cx}:∀ (es:List Expr) (is:List (List Int)),Zi5 es=some is→PA X es (fun _ H Q=>∀ H' vs,Same H H'→Al (IsI H') vs is→Q vs H')
 | [],is,h=>by
   cases h
   exact PA.weak Zb fun σ H Q q=>q _ _ (Same.refl _) .nil
 | e :: es,is,h=>by
   unfold Zi5 at h;split at h
   · rename_i i js h1 h2
     split at h
     · rename_i hz
       cases h
       obtain ⟨p1,p2⟩:=Zsq (X:=X) h1 hz;exact PA.weak (Za p1 (Zi7 es js h2) (p2 _ _)) fun σ H Q q H1 v s1 i1 H2 vs s2 i2=>q _ _ (s1.trans s2) (.cons (i1.tk s2.tk) i2)
     · cases h
   · cases h
def Zpo:Expr→Option (List (List Int))
 | .Tuple es _ _=>match Zi5 es with
   | some is=>if is.length≤1000 then some is else none
   | none=>none
 | _=>none
theorem Zl6 {X:Cx} {e:Expr} {is:List (List Int)} (h:Zpo e=some is):PE X e (fun _ H Q=>∀ H' v,Same H H'→IsPs H' v is→Q v H')∧∀ es env,starEach (e :: es) env=(false,eval e env) :: starEach es env:=by
 unfold Zpo at h;split at h
 · split at h
   · rename_i js h1
     split at h
     · rename_i hz
       cases h
       refine ⟨PE.weak (Z4 (Zi7 _ _ h1)) fun σ H Q q H1 vs s1 a1=>⟨by rw [a1.1,sizeLine_eq];omega,fun p np=>?_⟩,fun _ _=>rfl⟩;have s2:Same H1 (upd H1 p (.tup vs)):=Same.new np;exact q _ _ (s1.trans s2) ⟨p,vs,rfl,Zc,a1.imp fun v x r=>r.tk s2.tk⟩
     · cases h
   · cases h
 · cases h
def IsSh (H:Hp) (v:V) (s:List Pnt×List (List Int)):Prop:=∃ a c p,v=.ref a∧H a=some (.tup [c,p])∧IsCs H c s.1∧IsPs H p s.2
theorem IsSh.tk {H H':Hp} {v:V} {s:List Pnt×List (List Int)} (t:Tk H H') (h:IsSh H v s):IsSh H' v s:=let ⟨a,c,p,e,h1,h2,h3⟩:=h;⟨a,c,p,e,t _ _ h1,h2.tk t,h3.tk t⟩
def shOf:Expr→Option (List (List Int)×List (List Int))
 | .Tuple [c,p] _ _=>match Zpo c,Zpo p with
   | some a,some b=>some (a,b)
   | _,_=>none
 | _=>none
theorem Zo2 {H:Hp} {v:V} {cs:List Pnt} (h:IsPs H v (cs.map fun p=>[p.1,p.2])):IsCs H v cs:=by
 obtain ⟨a,vs,e,q,al⟩:=h;refine ⟨a,vs,e,q,by rw [al.1,n5_],fun i w p e1 e2=>?_⟩;exact al.2 i w _ e1 (by rw [n7_,e2];rfl)
theorem Xq {X:Cx} {e:Expr} {s:List Pnt×List (List Int)} (h:shOf e=some (s.1.map (fun p=>[p.1,p.2]),s.2)):PE X e (fun _ H Q=>∀ H' v,Same H H'→IsSh H' v s→Q v H'):=by
 unfold shOf at h;split at h
 · split at h
   · rename_i h1 h2
     cases h
     obtain ⟨p1,s1⟩:=Zl6 (X:=X) h1;obtain ⟨p2,s2⟩:=Zl6 (X:=X) h2;refine PE.weak (Z4 (Za p1 (Za p2 Zb (s2 _ _)) (s1 _ _))) fun σ H Q q H1 v s1 i1 H2 w s2 i2=>⟨z2_,fun p np=>?_⟩;have s3:Same H2 (upd H2 p (.tup [v,w])):=Same.new np;exact q _ _ (s1.trans (s2.trans s3)) ⟨p,v,w,rfl,Zc,Zo2 (i1.tk (s2.trans s3).tk),i2.tk s3.tk⟩
   · cases h
 · cases h
theorem Zto {c:TT} {ta tb rest:TS} {D:Ends} {σ:St} {H:Hp} (R:St→Hp→Prop) (h:c σ H fun k H1=>if k=true then ta { D with nx:=R } σ H1 else tb { D with nx:=R } σ H1)
 (mc:∀ Q Q':Bool→Hp→Prop,(∀ b H1,Q b H1→Q' b H1)→c σ H Q→c σ H Q') (ma:(∀ σ H,R σ H→rest D σ H)→∀ H1,ta { D with nx:=R } σ H1→ta { D with nx:=rest D } σ H1) (mb:(∀ σ H,R σ H→rest D σ H)→∀ H1,tb { D with nx:=R } σ H1→tb { D with nx:=rest D } σ H1)
 (key:∀ σ H,R σ H→rest D σ H):tSeq (tIfS c ta tb) rest D σ H:=mc _ _ (fun b H1 q=>by
 cases b with
 | true=>exact ma key H1 q
 | false=>exact mb key H1 q) h
theorem lc_R {n:Nat} {D:Addr} {te:TE} {u0:Option V} {rest:St} {H:Hp} {Q:VK} {α:Type} (R:Hp→V→α→Prop) (hR:∀ H1 H2 v x,Tk H1 H2→R H1 v x→R H2 v x) (ys:List α) (hn:ys.length=n) (hz:n≤1000) (hD:H D=none)
 (hs:∀ (i:Nat) (H2:Hp) (C:V→Hp→Prop),i<n→Same H H2→(∀ y H5 z,Same H2 H5→ys[i]? = some z→R H5 y z→C y H5)→te (some (.int (0+i)) :: rest) H2 C)
 (hd:∀ H2 us,Same H H2→H2 D=some (.lst us)→Al (R H2) us ys→Q (.ref D) H2):LcGo (Itr 0 n) (Yr 0) tYes te (u0 :: rest) H D Q:=by
 refine Zhc R hR ys hn hz (fun σ=>∃ u,σ=u :: rest) ⟨_,rfl⟩ hD (fun i H2 s hi=>hi) (fun H2 s=>n10_ _) (fun i x σ2 H2 H3 C hi s y o c=>?_) hd;obtain ⟨u,rfl⟩:=o;obtain ⟨rfl,rfl⟩:=y;exact hs i H3 (C _) hi s fun y H5 z s5 ez rz=>c _ y H5 z ⟨_,rfl⟩ s5 ez rz
open AutoSeq1 (wpAny_loadPart')
section
variable {X:Cx}
def EqT {α:Type} [DecidableEq α] (X:Cx) (d:Nat) (R:Hp→V→α→Prop):Prop:=∀ (A:Around) (pins:List (Addr×Obj)) (σ:St) (H:Hp) (s:Shared) (v u:V) (a b:Value) (x y:α),A.units+d<cLine→Inv X pins σ H s→R H v x→R H u y→RelV v a→RelV u b→SeqAt.EqAt A s a b (decide (x=y))
theorem Zic:EqT X 0 (fun _ v (i:Int)=>v=.int i):=by
 intro A pins σ H s v u a b x y hu I h1 h2 r1 r2;subst h1 h2;obtain ⟨t,rfl⟩:=r1;obtain ⟨t',rfl⟩:=r2
 have:=SeqAt.EqAt.int_int (A:=A) (s:=s) x t y t'
 rw [show decide (x=y)=(x == y) by rw [Bool.eq_iff_iff];simp];exact this
theorem Znr {α:Type} [DecidableEq α] [Inhabited α] (xs ys:List α):((List.range (min xs.length ys.length)).all (fun j=>decide (xs.getD j default=ys.getD j default))&&xs.length == ys.length)=decide (xs=ys):=by
 by_cases h:xs=ys
 · subst h
   simp
 · rw [n35_ h,Bool.and_eq_false_iff]
   by_cases hl:xs.length=ys.length
   · left
     rw [Bool.eq_false_iff];intro z;rw [n27_] at z;apply h
     apply n64_ hl
     intro i h1 h2
     have:=z i (by simp;omega)
     simpa [h1,h2] using this
   · right
     simpa using hl
theorem Zes {α:Type} [DecidableEq α] [Inhabited α] {d:Nat} {R:Hp→V→α→Prop} (E:EqT X d R) {A:Around} {pins:List (Addr×Obj)} {σ:St} {H:Hp} {s:Shared} (hu:A.units+d<cLine) (I:Inv X pins σ H s) {vs us:List V} {xs ys:List α} (h1:Al (R H) vs xs) (h2:Al (R H) us ys) {as bs:List Value} (r1:Vals vs as) (r2:Vals us bs) (j:Nat) (z1:j<as.toArray.size) (z2:j<bs.toArray.size):SeqAt.EqAt A s as.toArray[j] bs.toArray[j] (decide (xs.getD j default=ys.getD j default)):=by
 simp only [n8_] at z1 z2;simp only [List.getElem_toArray];have l1:=r1.length;have l2:=r2.length;have g1:vs[j]? = some vs[j]:=n1_ (by omega);have g2:us[j]? = some us[j]:=n1_ (by omega);obtain ⟨a,e1,ra⟩:=r1.get g1;obtain ⟨b,e2,rb⟩:=r2.get g2;obtain ⟨x,ex,rx⟩:=h1.get g1;obtain ⟨y,ey,ry⟩:=h2.get g2;rw [n1_ z1] at e1;rw [n1_ z2] at e2;cases e1
 cases e2
 rw [n4_,n4_,ex,ey];exact E A pins σ H s _ _ _ _ x y hu I rx ry ra rb
theorem Zr7 {α:Type} [DecidableEq α] [Inhabited α] {d:Nat} {R:Hp→V→α→Prop} (E:EqT X d R) (inj:∀ H v x y,R H v x→R H v y→x=y):EqT X (d+1) (IsTup' R):=by
 intro A pins σ H s v u a b xs ys hu I h1 h2 r1 r2;obtain ⟨p,vs,rfl,e1,a1⟩:=h1;obtain ⟨q,us,rfl,e2,a2⟩:=h2;cases r1
 cases r2
 by_cases hpq:p=q
 · subst hpq;rw [e1] at e2;cases e2
   have:xs=ys:=by
    apply n64_ (by rw [← a1.1,← a2.1])
    intro i z1 z2;obtain ⟨v,ev,rv⟩:=a1.got (n1_ z1);exact inj H v _ _ rv (a2.2 i v _ ev (n1_ z2))
   rw [n40_ this];exact SeqAt.EqAt.same _
 · obtain ⟨as,q1,p1,_⟩:=I.tuple (SqT.of e1);obtain ⟨bs,q2,p2,_⟩:=I.tuple (SqT.of e2);have l1:=q1.length;have l2:=q2.length;have h:=SeqAt.RcAt.tuples (A:=A) (e:=fun j=>decide (xs.getD j default=ys.getD j default)) p1 p2 (by omega) fun j z1 z2=>Zes E (A:=A.in1) (by rw [Around.in1_units];omega) I a1 a2 q1 q2 j z1 z2;rw [n8_,n8_,← l1,← l2,a1.1,a2.1,Znr] at h;exact SeqAt.EqAt.of_refs hpq h
def Zvo {α:Type} [DecidableEq α] (R:Hp→V→α→Prop) (neg:Bool):R2:=fun x y H Q=>∃ (a b:Addr) (vs us:List V) (xs ys:List α),x=.ref a∧y=.ref b∧H a=some (.lst vs)∧H b=some (.lst us)∧Al (R H) vs xs∧Al (R H) us ys∧Q (.bl (if neg then !decide (xs=ys) else decide (xs=ys))) H
theorem Zjj {α:Type} [DecidableEq α] [Inhabited α] (xs ys:List α) (hl:xs.length=ys.length):((List.range xs.length).all (fun j=>decide (xs.getD j default=ys.getD j default)))=decide (xs=ys):=by
 rw [← Znr xs ys,← hl,Nat.min_self,beq_self_eq_true,Bool.and_true]
theorem Zr8 {α:Type} [DecidableEq α] [Inhabited α] {d:Nat} {R:Hp→V→α→Prop} (E:EqT X d R) (hu:X.A.units+d+1<cLine):OpR X (compareOp .NotEq) (Zvo R true):=by
 intro pins s σ H x y v u Q I rx ry h;obtain ⟨p,q,vs,us,xs,ys,rfl,rfl,e1,e2,a1,a2,k⟩:=h;cases rx
 cases ry
 obtain ⟨as,q1,p1,_⟩:=I.list (SqL.of e1);obtain ⟨bs,q2,p2,_⟩:=I.list (SqL.of e2);have l1:=q1.length;have l2:=q2.length
 by_cases hl:xs.length=ys.length
 · refine SeqAt.RcNeAt.lists (e:=fun j=>decide (xs.getD j default=ys.getD j default)) p1.isList p2.isList (by rw [n8_,n8_,← l1,← l2,a1.1,a2.1,hl]) (by omega) (fun j z1 z2=>Zes E (A:=X.A.in1) (by rw [Around.in1_units];omega) I a1 a2 q1 q2 j z1 z2) _ _ _ _ ⟨.bl _,H,I,rfl,?_⟩;rw [n8_,← l1,a1.1,Zjj xs ys hl];exact k
 · refine SeqAt.RcNeAt.lists_lengths p1.isList p2.isList (by rw [n8_,n8_,← l1,← l2,a1.1,a2.1];simpa using hl) (by omega) _ _ _ _ ⟨.bl true,H,I,rfl,?_⟩
   have:¬ xs=ys:=fun z=>hl (by rw [z])
   rw [n35_ this] at k;exact k
end
theorem lc_F {k:SK} {K:PySem.W.Frag} {a D:Addr} {vs:List V} {tt:TT} {te:TE} {u0:Option V} {rest:St} {H:Hp} {Q:VK} {α:Type} (R:Hp→V→α→Prop) (hR:∀ H1 H2 v x,Tk H1 H2→R H1 v x→R H2 v x) (f:Nat→Option α) (hz:vs.length≤1000) (hD:H D=none) (ha:k.At H a vs)
 (hs:∀ (i:Nat) (w:V) (H2:Hp) (C:V→Hp→Prop) (N:Hp→Prop),vs[i]? = some w→Same H H2→(∀ y H5 z,Same H2 H5→f i=some z→R H5 y z→C y H5)→(∀ H5,Same H2 H5→f i=none→N H5)→tt (some w :: rest) H2 fun b H5=>if b=true then te (some w :: rest) H5 C else N H5)
 (hd:∀ H2 us,Same H H2→H2 D=some (.lst us)→Al (R H2) us ((List.range vs.length).filterMap f)→Q (.ref D) H2):LcGo (k.Itk K a) (Yr 0) tt te (u0 :: rest) H D Q:=by
 refine Zgm (n:=vs.length) (fun i σ H2=>Same H H2∧(∃ u,σ=u :: rest)∧∃ us,H2 D=some (.lst us)∧us.length≤i∧Al (R H2) us ((List.range i).filterMap f)) ⟨Same.new hD,⟨_,rfl⟩,[],Zc,n10_ _,.nil⟩ (fun i σ H2 hi p=>Zgw (ha.same p.1) hi) (fun σ H2 p=>Zbq (ha.same p.1) (n10_ _)) (fun i x σ2 H2 H3 hi y p=>?_) (fun σ2 H2 p=>?_)
 · obtain ⟨s2,⟨u,rfl⟩,us,e2,l2,a2⟩:=p;obtain ⟨rfl,ex⟩:=Zcx (ha.same s2) y
   have rg:(List.range (i+1)).filterMap f=(List.range i).filterMap f++(f i).toList:=by
    rw [List.range_succ,List.filterMap_append];cases h:f i<;>simp [h]
   show tt (some x :: rest) H3 _
   refine hs i x H3 _ _ ex s2 (fun y H5 z s5 ef r=>?_) (fun H5 s5 ef=>?_)
   · have sD:∀ us',Tk H5 (upd H5 D (.lst us')):=fun us'=>Tk.upd_lst (s5 _ _ e2);refine ⟨us,s5 _ _ e2,by rw [sizeLine_eq];omega,_,n20_ (Nat.sub_succ_lt_self _ _ hi) (n10_ _),hi,rfl,fun b o e=>?_,⟨_,rfl⟩,_,Zc,by simp;omega,?_⟩
     · rw [Zh (Zi e hD)];exact s5 _ _ (s2 _ _ e)
     · rw [rg,ef];exact (a2.imp fun v x r=>hR _ _ v x (s5.tk.trans (sD _)) r).snoc (hR _ _ _ _ (sD _) r)
   · refine ⟨_,n20_ (Nat.sub_succ_lt_self _ _ hi) (n10_ _),hi,rfl,s2.trans s5,⟨_,rfl⟩,us,s5 _ _ e2,by omega,?_⟩;rw [rg,ef]
     simpa using a2.imp fun v x r=>hR _ _ v x s5.tk r
 · obtain ⟨s2,⟨u,rfl⟩,us,e2,l2,a2⟩:=p;exact hd H2 us s2 e2 a2
section
variable {κ:Type} [DecidableEq κ]
def valV (kvs:List (κ×V)) (k:κ):Option V:=(kvs.find? fun kv=>decide (kv.1=k)).map (·.2)
def putK (kvs:List (κ×V)) (k:κ) (v:V):List (κ×V) :=
 if (kvs.any fun kv=>decide (kv.1=k))=true then kvs.map (fun kv=>if kv.1=k then (kv.1,v) else kv) else kvs++[(k,v)]
theorem Zel {p:κ×V} {r:List (κ×V)} {k:κ} (e:p.1=k):valV (p :: r) k=some p.2:=by simp [valV,List.find?_cons,e]
theorem Ze6 {p:κ×V} {r:List (κ×V)} {k:κ} (e:¬ p.1=k):valV (p :: r) k=valV r k:=by simp [valV,List.find?_cons,e]
theorem Zjo (k:κ):∀ kvs:List (κ×V),(kvs.any fun kv=>decide (kv.1=k))=(valV kvs k).isSome
 | []=>rfl
 | p :: r=>by
   rw [List.any_cons]
   by_cases e:p.1=k
   · simp only [Zel e,n40_ e,Bool.true_or,Option.isSome_some]
   · rw [Ze6 e,n35_ e,Bool.false_or];exact Zjo k r
theorem Zaa (kvs:List (κ×V)) (k:κ) (v:V):(putK kvs k v).length≤kvs.length+1:=by
 unfold putK;split
 · rw [n5_];omega
 · rw [n21_,n18_,n69_];omega
theorem RelO.isSome_eq {o:Option V} {u:Option Value} (r:RelO o u):o.isSome=u.isSome:=by
 cases o with
 | none=>cases u with
   | none=>rfl
   | some _=>exact (show False from r).elim
 | some _=>cases u with
   | none=>exact (show False from r).elim
   | some _=>rfl
theorem KV.val {kvs:List (κ×V)} {vs:List (κ×Value)} (r:KV kvs vs) (k:κ):RelO (valV kvs k) (valueAt vs k):=by
 unfold KV at r
 induction r with
 | nil=>exact True.intro
 | @cons p q ps qs h t ih =>
   obtain ⟨h1,h2⟩:=h
   by_cases e:p.1=k
   · have e':q.1=k:=h1.symm.trans e;have b:valueAt (q :: qs) k=some q.2:=by simp [valueAt,List.find?_cons,e']
     rw [Zel e,b];exact h2
   · have e':¬ q.1=k:=fun z=>e (h1.trans z);have b:valueAt (q :: qs) k=valueAt qs k:=by simp [valueAt,List.find?_cons,e']
     rw [Ze6 e,b];exact ih
theorem KV.any {kvs:List (κ×V)} {vs:List (κ×Value)} (r:KV kvs vs) (k:κ):(kvs.any fun kv=>decide (kv.1=k))=vs.any fun kv=>decide (kv.1=k):=by
 unfold KV at r
 induction r with
 | nil=>rfl
 | cons h t ih=>rw [List.any_cons,List.any_cons,ih,h.1]
theorem KV.repl {kvs:List (κ×V)} {vs:List (κ×Value)} (r:KV kvs vs) (k:κ) {y:V} {u:Value} (ry:RelV y u) :
 KV (kvs.map fun kv=>if kv.1=k then (kv.1,y) else kv) (vs.map fun kv=>if kv.1=k then (kv.1,u) else kv):=by
 unfold KV at r ⊢
 induction r with
 | nil=>exact .nil
 | @cons p q ps qs h t ih =>
   rw [n34_,n34_];refine .cons ?_ ih;obtain ⟨h1,h2⟩:=h
   by_cases e:p.1=k
   · rw [if_pos e,if_pos (h1.symm.trans e)];exact ⟨h1,ry⟩
   · rw [if_neg e,if_neg (fun z=>e (h1.trans z))];exact ⟨h1,h2⟩
theorem KV.put {kvs:List (κ×V)} {vs:List (κ×Value)} (r:KV kvs vs) (k:κ) {y:V} {u:Value} (ry:RelV y u):KV (putK kvs k y) (stored vs k u):=by
 unfold putK stored;rw [r.any k]
 by_cases e:(vs.any fun kv=>decide (kv.1=k))=true
 · rw [if_pos e,if_pos e];exact r.repl k ry
 · rw [if_neg e,if_neg e];exact Paired.snoc r ⟨rfl,ry⟩
theorem KV.length {kvs:List (κ×V)} {vs:List (κ×Value)} (r:KV kvs vs):kvs.length=vs.length:=Paired.length r
end
theorem Zn9 {P:Program} {w:World} {k:Key} {u:Value} (r:RelV (kV k) u):(Yb P w).is k u=true:=by
 cases k with
 | inl i=>obtain ⟨t,e⟩:=(show ∃ t,u=Value.int i t from r);subst e;exact Zhw P w i t
 | inr x=>obtain ⟨t,e⟩:=(show ∃ t,u=Value.str x t from r);subst e;exact Zh9 P w x t
theorem Zhm {P:Program} {w:World}:∀ {ks:List Key} {us:List Value},Vals (ks.map kV) us→ItemsAre (Yb P w) ks us
 | [],_,r=>by rw [List.map_nil] at r;cases r;exact .nil
 | k :: ks,_,r=>by
   rw [n34_] at r;cases r with
   | cons h t=>exact .cons (Zn9 h) (Zhm t)
abbrev KT (H:Hp):List (List Key×V)→List (List Key×Addr×Value)→Prop:=Paired fun p q=>p.1=q.1∧H q.2.1=some (.tup (p.1.map kV))∧RelV p.2 q.2.2
theorem KT.val {H:Hp} {kvs:List (List Key×V)} {xs:List (List Key×Addr×Value)} (r:KT H kvs xs) (k:List Key):RelO (valV kvs k) ((atKey xs k).map (·.2)):=by
 induction r with
 | nil=>exact True.intro
 | @cons p q ps qs h t ih =>
   obtain ⟨h1,_,h2⟩:=h
   by_cases e:p.1=k
   · have e':q.1=k:=h1.symm.trans e;have b:atKey (q :: qs) k=some q.2:=by simp [atKey,List.find?_cons,e']
     rw [Zel e,b];exact h2
   · have e':¬ q.1=k:=fun z=>e (h1.trans z);have b:atKey (q :: qs) k=atKey qs k:=by simp [atKey,List.find?_cons,e']
     rw [Ze6 e,b];exact ih
theorem KT.repl {H:Hp} {kvs:List (List Key×V)} {xs:List (List Key×Addr×Value)} (r:KT H kvs xs) (k:List Key) {y:V} {u:Value} (ry:RelV y u) :
 KT H (kvs.map fun kv=>if kv.1=k then (kv.1,y) else kv) (xs.map (putAt k u)):=by
 induction r with
 | nil=>exact .nil
 | @cons p q ps qs h t ih =>
   rw [n34_,n34_];refine .cons ?_ ih;obtain ⟨h1,h2,h3⟩:=h;unfold putAt
   by_cases e:p.1=k
   · rw [if_pos e,if_pos (h1.symm.trans e)];exact ⟨h1,h2,ry⟩
   · rw [if_neg e,if_neg (fun z=>e (h1.trans z))];exact ⟨h1,h2,h3⟩
theorem KT.put {H:Hp} {kvs:List (List Key×V)} {xs:List (List Key×Addr×Value)} (r:KT H kvs xs) (k:List Key) {b:Addr} {y:V} {u:Value} (hb:H b=some (.tup (k.map kV))) (ry:RelV y u) :
 KT H (putK kvs k y) (storedH xs k b u):=by
 have e:(kvs.any fun kv=>decide (kv.1=k))=(atKey xs k).isSome:=by
  rw [Zjo,(r.val k).isSome_eq,Option.isSome_map]
 unfold putK storedH;rw [e]
 by_cases q:(atKey xs k).isSome=true
 · rw [if_pos q,if_pos q];exact r.repl k ry
 · rw [if_neg q,if_neg q];exact Paired.snoc r ⟨rfl,hb,ry⟩
theorem KT.keeps {H H':Hp} {kvs:List (List Key×V)} {xs:List (List Key×Addr×Value)} (r:KT H kvs xs) (ht:∀ b ys,H b=some (.tup ys)→H' b=some (.tup ys)):KT H' kvs xs :=
 Paired.mapP r fun _ _ z=>⟨z.1,ht _ _ z.2.1,z.2.2⟩
section
variable {P:Program} {w:World} {H:Hp} {h:Heap} {a:Addr}
theorem Zu2 {u:HO} (ok:HOk P w H h) (e:Rd H a u):ObjOk P w H h a u:=e.ok ok
theorem Zmz {kvs:List (Key×V)} (ok:HOk P w H h) (e:Rd H a (.dK kvs)):kvs.length≤sizeLine∧(a == sysModules)=false∧∃ vs,KV kvs vs∧h.DictOf (Yb P w) a vs :=
 show ObjOk P w H h a (.dK kvs) from Zu2 ok e
theorem Ztl {kvs:List (Key×V)} (ok:HOk P w H h) (e:H a=some (.dK kvs)):kvs.length≤sizeLine∧(a == sysModules)=false∧∃ vs,KV kvs vs∧h.DictOf (Yb P w) a vs:=Zmz ok (.inl e)
theorem Zga {ks:List Key} (ok:HOk P w H h) (e:H a=some (.tup (ks.map kV))):(tupleKind (Yb P w)).is h ks a:=by
 obtain ⟨_,its,r,o,h1,h2,n,h3⟩:=(show ObjOk P w H h a (.tup (ks.map kV)) from ok a _ e);exact ⟨o,its.toArray,n,h1,h2,h3,by simpa using Zhm r⟩
theorem Zlq {kvs:List (List Key×V)} (ok:HOk P w H h) (e:Rd H a (.dT kvs)):kvs.length≤sizeLine∧(a == sysModules)=false ∧
 ∃ xs,KT H kvs xs∧h.DictOfH (tupleKind (Yb P w)) a xs:=by
 obtain ⟨z,y,xs,r,o,es,ep,h1,h2,h3,h4,h5⟩:=(show ObjOk P w H h a (.dT kvs) from Zu2 ok e);refine ⟨z,y,xs,r,o,es,ep,h1,h2,h3,h4,fun x hx=>?_,h5⟩
 have all:∀ {l:List (List Key×V)} {m:List (List Key×Addr×Value)},KT H l m→∀ x∈m,(tupleKind (Yb P w)).is h x.1 x.2.1:=by
  intro l m q
  induction q with
  | nil=>intro x hx;exact nomatch hx
  | @cons p q ps qs hq t ih =>
    intro x hx
    rcases n11_.mp hx with e|hx
    · subst e;exact Zga ok (by rw [← hq.1];exact hq.2.1)
    · exact ih x hx
 exact all r x hx
theorem Zty {kvs:List (List Key×V)} (ok:HOk P w H h) (e:H a=some (.dT kvs)):kvs.length≤sizeLine∧(a == sysModules)=false ∧
 ∃ xs,KT H kvs xs∧h.DictOfH (tupleKind (Yb P w)) a xs:=Zlq ok (.inl e)
end
def DGet (H:Hp) (a:Addr) (y:V) (r:Option V):Prop :=
 (∃ kvs k,Rd H a (.dK kvs)∧y=kV k∧r=valV kvs k)∨∃ kvs k b,Rd H a (.dT kvs)∧y=.ref b∧H b=some (.tup (k.map kV))∧r=valV kvs k
def DPut (H:Hp) (a:Addr) (y v:V) (H':Hp):Prop :=
 (∃ kvs k,H a=some (.dK kvs)∧y=kV k∧kvs.length<sizeLine∧H'=upd H a (.dK (putK kvs k v))) ∨
 ∃ kvs k b,H a=some (.dT kvs)∧y=.ref b∧H b=some (.tup (k.map kV))∧kvs.length<sizeLine∧H'=upd H a (.dT (putK kvs k v))
theorem DGet.k {H:Hp} {a:Addr} {kvs:List (Key×V)} {k:Key} (e:H a=some (.dK kvs)):DGet H a (kV k) (valV kvs k):=.inl ⟨kvs,k,.inl e,rfl,rfl⟩
theorem DGet.t {H:Hp} {a b:Addr} {kvs:List (List Key×V)} {k:List Key} (e:H a=some (.dT kvs)) (eb:H b=some (.tup (k.map kV))):DGet H a (.ref b) (valV kvs k):=.inr ⟨kvs,k,b,.inl e,rfl,eb,rfl⟩
theorem DPut.k {H:Hp} {a:Addr} {kvs:List (Key×V)} {k:Key} {v:V} (e:H a=some (.dK kvs)) (hl:kvs.length<sizeLine):DPut H a (kV k) v (upd H a (.dK (putK kvs k v))):=.inl ⟨kvs,k,e,rfl,hl,rfl⟩
section
variable {X:Cx} {pins:List (Addr×Obj)} {σ:St} {H:Hp} {s:Shared} {a:Addr} {y v:V} {u r:Value} {o:Option V} {A:Around} {E:Value→Shared→Prop}
theorem Inv.big (I:Inv X pins σ H s):sysModules<s.heap.objs.size:=by
 have h:mainGlobals<s.heap.objs.size:=(I.mod.glob.keeps I.bk).lt;exact Nat.lt_trans (by decide) h
theorem Znp {Q:Value→Shared→Prop} (hu:A.units+1<cLine) (I:Inv X pins σ H s) (g:DGet H a y (some v)) (ry:RelV y u) (h:∀ w' s',Inv X pins σ H s'→RelV v w'→Q w' s') :
 wpAny (model X.prog X.w) A (getItem (.ref a) u) Q E s:=by
 rcases g with ⟨kvs,k,e,ey,l⟩|⟨kvs,k,b,e,ey,eb,l⟩
 · subst ey;obtain ⟨z,hd,vs,rel,dd⟩:=Zmz I.hok e;obtain ⟨w',hw,rw'⟩:=RelO.some_of (v:=v) (o:=valueAt vs k) (by rw [l];exact rel.val k);exact wpAny_getItem_of (Zn9 ry) dd.mapOf hw (h w' _ (I.tok _) rw')
 · subst ey;cases (show u=Value.ref b from ry)
   obtain ⟨z,hd,xs,rel,dd⟩:=Zlq I.hok e;obtain ⟨w',hw,rw'⟩:=RelO.some_of (v:=v) (o:=(atKey xs k).map (·.2)) (by rw [l];exact rel.val k);obtain ⟨p,hp,hp2⟩:=n19_.mp hw;refine wpAny_getItem_heap (tupleKind_room_in1 hu) (Zga I.hok eb) dd hp ?_;rw [hp2];exact h w' _ (I.tok _) rw'
theorem Zq9 {Q:Value→Shared→Prop} (hu:A.units+1<cLine) (I:Inv X pins σ H s) (g:DGet H a y o) (ry:RelV y u) (h:∀ s',Inv X pins σ H s'→Q (.bool (!o.isSome)) s') :
 wpAny (model X.prog X.w) A (compareOp .NotIn u (.ref a)) Q E s:=by
 rcases g with ⟨kvs,k,e,ey,l⟩|⟨kvs,k,b,e,ey,eb,l⟩
 · subst ey;obtain ⟨z,hd,vs,rel,dd⟩:=Zmz I.hok e;refine wpAny_notIn_of (Zn9 ry) hd dd.mapOf ?_;rw [← (rel.val k).isSome_eq,← l];exact h _ (I.tok _)
 · subst ey;cases (show u=Value.ref b from ry)
   obtain ⟨z,hd,xs,rel,dd⟩:=Zlq I.hok e;refine wpAny_notIn_heap (tupleKind_room_in1 hu) (Zga I.hok eb) hd dd ?_;have q:=(rel.val k).isSome_eq;rw [Option.isSome_map] at q;rw [← q,← l];exact h _ (I.tok _)
theorem Zdc {h':Heap} {t':Nat} {ob:HO} (I:Inv X pins σ H s) (mu:Mut (H a)) (hs:Heap.SameBut a s.heap h') (he:∃ q,h'.get? a=some q) (new:ObjOk X.prog X.w (upd H a ob) h' a ob) :
 Inv X pins σ (upd H a ob) { s with heap:=h',toks:=t' } :=
 I.write (x:=a) (e:=a) mu (.inl rfl) (fun b q hb z=>(hs.2 b hb).trans z) he new
theorem Zqi {P:Program} {w:World} {H':Hp} {h':Heap} {kvs:List (Key×V)} {vs:List (Key×Value)} (z:kvs.length≤sizeLine) (hd:(a == sysModules)=false) (rel:KV kvs vs) (dd:h'.DictOf (Yb P w) a vs) :
 ObjOk P w H' h' a (.dK kvs):=⟨z,hd,vs,rel,dd⟩
theorem Zmy {H':Hp} {Q:Unit→Shared→Prop} (hu:A.units+1<cLine) (I:Inv X pins σ H s) (g:DPut H a y v H') (ry:RelV y u) (rv:RelV v r) (h:∀ s',Inv X pins σ H' s'→Q () s') :
 wpAny (model X.prog X.w) A (setItem (.ref a) u r) Q E s:=by
 rcases g with ⟨kvs,k,e,ey,l,eH⟩|⟨kvs,k,b,e,ey,eb,l,eH⟩
 · subst ey eH;obtain ⟨z,hd,vs,rel,dd⟩:=Ztl I.hok e;have hz:vs.length≤sizeLine:=by rw [← rel.length];exact z
   have hl:(putK kvs k v).length≤sizeLine:=by have:=Zaa kvs k v;omega
   refine wpAny_setItem_pairs (hsz:=hz) (Zn9 ry) dd fun h' dd' hs=>h _ ?_;have he:∃ q,h'.get? a=some q:=let ⟨q,_,_,hq,_⟩:=dd';⟨q,hq⟩;exact Zdc I (by rw [e];exact True.intro) hs he (Zqi hl hd (rel.put k rv) dd')
 · subst ey eH;cases (show u=Value.ref b from ry)
   obtain ⟨z,hd,xs,rel,dd⟩:=Zty I.hok e;have hz:xs.length≤sizeLine:=by rw [← Paired.length rel];exact z
   have hl:(putK kvs k v).length≤sizeLine:=by have:=Zaa kvs k v;omega
   refine wpAny_setItem_heap (hsz:=hz) (tupleKind_room_in1 hu) (Zga I.hok eb) dd fun h' dd' hs=>h _ ?_;obtain ⟨q,es,ep,hq,h2,h3,h4,_,h5⟩:=dd';refine Zdc I (by rw [e];exact True.intro) hs ⟨q,hq⟩ ⟨hl,hd,_,(rel.put k eb rv).keeps fun c ys ec=>?_,q,es,ep,hq,h2,h3,h4,h5⟩;rw [Zh (Zns ec e (fun z=>nomatch z))];exact ec
end
section
variable {X:Cx} {pins:List (Addr×Obj)} {σ:St} {H:Hp} {s:Shared} {a:Addr} {kvs:List (Key×V)} {k:Key} {u:Value} {A:Around} {E:Value→Shared→Prop}
end
def NoSl (i:Expr):Prop:=∀ ov iv,subscripted i false ov iv=operate [ov,iv] (getItem ov iv)
theorem Zrm {prog:Program} {w:World} {A:Around} {E:Value→Shared→Prop} {s:Shared} {env:Env} {value slice:Expr} {pos:Pos} {T id:String} {Q:Value→Shared→Prop}
 (hl:typeLookup (.type T) "__getitem__" = pure (some (.builtin id))) (hs:NoSl slice)
 (h:wpAny (model prog w) A (eval value env) (fun o s₁=>wpAny (model prog w) A (eval slice env) (fun i s₂=>s₂.TypeIs o T∧wpAny (model prog w) A (getItem o i) Q E s₂) E s₁) E s) :
 wpAny (model prog w) A (eval (.Subscript value slice pos) env) Q E s:=by
 refine Subscript_ (n46_ h (fun o s₁ h₁=>n46_ h₁ (fun i s₂ h₂=>?_) fun _ _ x=>x) fun _ _ x=>x);obtain ⟨hT,h₂⟩:=h₂;unfold subscriptTail;refine n0_ ?_;rw [getitemInPython_of_ne hT.not_modules];refine n0_ (wpAny_specialOf hT hl ?_)
 have fin:wpAny (model prog w) A (subscripted slice false o i) (fun r s₃=>wpAny (model prog w) A (letTemporaryGo value o r >>= fun _=>pure r) Q E s₃) E s₂:=by
  rw [hs o i];exact wpAny_operating (n46_ h₂ (fun r s₃ h₃=>n0_ (wpAny_letTemporaryGo (n3_ h₃))) fun _ _ x=>x)
 first
  | exact n3_ (n0_ fin)
  | exact n0_ (n3_ (n0_ fin))
  | exact n0_ fin
theorem Zhu {X:Cx} {pins:List (Addr×Obj)} {σ:St} {H:Hp} {s:Shared} {a:Addr} {y:V} {o:Option V} (I:Inv X pins σ H s) (g:DGet H a y o):s.TypeIs (.ref a) "dict" := by
 rcases g with ⟨kvs,k,e,_,_⟩|⟨kvs,k,b,e,_,_,_⟩
 · obtain ⟨_,_,vs,_,dd⟩:=Zmz I.hok e;exact dd.typeIs
 · obtain ⟨_,_,xs,_,dd⟩:=Zlq I.hok e;exact dd.typeIs
def Zvy (td ty:TE):TE:=fun σ H Q=>td σ H fun x H1=>ty σ H1 fun y H2=>∃ a v,x=.ref a∧DGet H2 a y (some v)∧Q v H2
def Zri (ty td:TE):TE:=fun σ H Q=>ty σ H fun y H1=>td σ H1 fun x H2=>∃ a o,x=.ref a∧DGet H2 a y o∧Q (.bl (!o.isSome)) H2
def Zvu (td ty tv:TE):TS:=fun D σ H=>tv σ H fun v H1=>td σ H1 fun x H2=>ty σ H2 fun y H3=>∃ a H4,x=.ref a∧DPut H3 a y v H4∧D.nx σ H4
section
variable {X:Cx} {o i e value:Expr} {pos pos' tpos:Pos} {td ty tv:TE}
theorem Zsj (hu:X.A.units+1<cLine) (ho:PE X o td) (hi:PE X i ty) (hs:NoSl i):PE X (.Subscript o i pos) (Zvy td ty):=by
 intro pins s σ H Q I h;refine Zrm PySem.F.slot_dict_getitem.lookup hs (thn (ho pins s σ H _ I h) fun u s1 ⟨x,H1,I1,rx,q1⟩=>thn (hi pins s1 σ H1 _ I1 q1) fun iv s2 ⟨y,H2,I2,ry,a,v,ex,g,q2⟩=>?_);subst ex;obtain rfl:u=Value.ref a:=rx;exact ⟨Zhu I2 g,Znp hu I2 g ry fun w' s3 I3 rw'=>⟨v,H2,I3,rw',q2⟩⟩
theorem Zm8 (hu:X.A.units+1<cLine) (hi:PE X i ty) (ho:PE X o td):PC X .NotIn i o (Zri ty td):=by
 intro pins s σ H Q I h;refine thn (hi pins s σ H _ I h) fun iv s1 ⟨y,H1,I1,ry,q1⟩=>thn (ho pins s1 σ H1 _ I1 q1) fun u s2 ⟨x,H2,I2,rx,a,ov,ex,g,q2⟩=>?_;subst ex;obtain rfl:u=Value.ref a:=rx;exact Zq9 hu I2 g ry fun s3 I3=>⟨.bl (!ov.isSome),H2,I3,rfl,q2⟩
theorem Zsx (hu:X.A.units+1<cLine) (ho:PE X o td) (hi:PE X i ty) (hv:PE X value tv) (hs:swapsWith value (some (.Subscript o i pos')) pos.line X.env=pure false) :
 PS X (.Assign [.Subscript o i pos'] value pos) (Zvu td ty tv):=by
 intro pins s σ H D I h;refine wpAny_Assign_Subscript (thn (hv pins s σ H _ I h) fun r s1 ⟨v,H1,I1,rv,q1⟩=>thn (ho pins s1 σ H1 _ I1 q1) fun u s2 ⟨x,H2,I2,rx,q2⟩=>thn (hi pins s2 σ H2 _ I2 q2) fun iv s3 ⟨y,H3,I3,ry,a,H4,ex,g,q3⟩=>?_) hs;subst ex;obtain rfl:u=Value.ref a:=rx;exact Zmy hu I3 g ry rv fun s4 I4=>⟨σ,H4,I4,q3⟩
end
theorem Zoo {P:Program} {w:World} {H:Hp} (h:Heap) (hb:sysModules<h.objs.size):ObjOk P w H (h.push { cls:=.type "dict",data:=.dict #[] }) h.objs.size (.dK []) :=
 ⟨n51_ _,beq_eq_false_iff_ne.mpr (Ne.symm (n24_ hb)),[],.nil,Heap.DictOf.new h⟩
theorem Zpz {P:Program} {w:World} {H:Hp} (h:Heap) (hb:sysModules<h.objs.size):ObjOk P w H (h.push { cls:=.type "dict",data:=.dict #[] }) h.objs.size (.dT []) :=
 ⟨n51_ _,beq_eq_false_iff_ne.mpr (Ne.symm (n24_ hb)),[],.nil,_,#[],0,n9_ _ rfl,⟨rfl,rfl,rfl⟩,rfl,rfl,List.nodup_nil⟩
def Zt5:TE:=fun _ H Q=>∀ p,H p=none→Q (.ref p) (upd H p (.dT []))
section
variable {X:Cx} {pos:Pos}
theorem Zpi:PE X (.Dict [] [] pos) Zt5:=fun pins s σ H Q I h =>
 wpAny_Dict_empty ⟨.ref s.heap.objs.size,_,I.laid (a:=s.heap.objs.size) (o:=.dT []) (t':=s.toks) (fun _ _ q=>n2_ _ q) (n10_ _) (Zpz s.heap I.big),rfl,h _ (I.hok.fresh (n10_ _))⟩
end
def Zok:List (TE×TE)→St→Hp→(List (V×V)→Hp→Prop)→Prop
 | [],_,H,Q=>Q [] H
 | (tk,tv) :: r,σ,H,Q=>tk σ H fun x H1=>tv σ H1 fun y H2=>Zok r σ H2 fun ps H3=>Q ((x,y) :: ps) H3
abbrev VV:List (V×V)→List (Value×Value)→Prop:=Paired fun p q=>RelV p.1 q.1∧RelV p.2 q.2
def PPs (X:Cx) (pos:Pos) (keys:List (Option Expr)) (values:List Expr) (trs:List (TE×TE)):Prop :=
 ∀ (pins:List (Addr×Obj)) (s:Shared) (σ:St) (H:Hp) (Q:List (V×V)→Hp→Prop),Inv X pins σ H s→Zok trs σ H Q →
   wpAny (model X.prog X.w) X.A (evalPairs (pairTrees keys values X.env pos)) (fun vs s'=>∃ ps H',Inv X pins σ H' s'∧VV ps vs∧Q ps H') X.xe s
theorem Zsw {X:Cx} {pos:Pos}:PPs X pos [] [] []:=fun pins s σ H Q I h=>pairTrees_nil_walk ⟨[],H,I,.nil,h⟩
theorem Zou {X:Cx} {pos:Pos} {k v:Expr} {ks:List (Option Expr)} {vs:List Expr} {tk tv:TE} {trs:List (TE×TE)} (hk:PE X k tk) (hv:PE X v tv) (hr:PPs X pos ks vs trs) :
 PPs X pos (some k :: ks) (v :: vs) ((tk,tv) :: trs):=fun pins s σ H Q I h =>
 pairTrees_cons_walk (thn (hk pins s σ H _ I h) fun u s1 ⟨x,H1,I1,rx,q1⟩=>thn (hv pins s1 σ H1 _ I1 q1) fun w2 s2 ⟨y,H2,I2,ry,q2⟩ =>
  thn (hr pins s2 σ H2 _ I2 q2) fun ws s3 ⟨ps,H3,I3,rel,q3⟩=>⟨(x,y) :: ps,H3,I3,.cons ⟨rx,ry⟩ rel,q3⟩)
def Zca (kvs more:List (Key×V)):List (Key×V):=more.foldl (fun acc kv=>putK acc kv.1 kv.2) kvs
theorem KV.merge:∀ {more:List (Key×V)} {rs:List (Key×Value)} {kvs:List (Key×V)} {vs:List (Key×Value)},KV more rs→KV kvs vs→KV (Zca kvs more) (merged vs rs):=by
 intro more rs kvs vs r;unfold KV at r
 induction r generalizing kvs vs with
 | nil=>intro q;exact q
 | @cons p q ps qs h t ih =>
   intro r0
   have e:KV (putK kvs p.1 p.2) (stored vs q.1 q.2):=by
    have:=r0.put p.1 h.2
    rw [← h.1];exact this
   exact ih e
theorem Zbo:∀ (more kvs:List (Key×V)),(Zca kvs more).length≤kvs.length+more.length
 | [],kvs=>by show kvs.length≤kvs.length+0;omega
 | p :: r,kvs=>by
   have h1:=Zbo r (putK kvs p.1 p.2);have h2:=Zaa kvs p.1 p.2;show (Zca (putK kvs p.1 p.2) r).length≤_
   rw [n18_];omega
theorem Zdv {P:Program} {w:World}:∀ {kvs:List (Key×V)} {ws:List (Value×Value)},VV (kvs.map fun kv=>(kV kv.1,kv.2)) ws→∃ rs,Carries (Yb P w) ws rs∧KV kvs rs
 | [],_,r=>by rw [List.map_nil] at r;cases r;exact ⟨[],True.intro,.nil⟩
 | p :: kvs,_,r=>by
   rw [n34_] at r;cases r with
   | @cons a b as bs h t =>
     obtain ⟨rs,c,q⟩:=Zdv (P:=P) (w:=w) t;obtain ⟨b1,b2⟩:=b;exact ⟨(p.1,b2) :: rs,⟨Zn9 h.1,rfl,c⟩,.cons ⟨rfl,h.2⟩ q⟩
def Zve (trs:List (TE×TE)):TE:=fun σ H Q=>∀ p,H p=none→Zok trs σ (upd H p (.dK [])) fun ps H2=>H2 p=some (.dK [])∧∃ kvs:List (Key×V),ps=kvs.map (fun kv=>(kV kv.1,kv.2))∧kvs.length≤15∧Q (.ref p) (upd H2 p (.dK (Zca [] kvs)))
theorem Zst {X:Cx} {pos:Pos} {keys:List (Option Expr)} {values:List Expr} {trs:List (TE×TE)} (h:PPs X pos keys values trs) (hall:keys.all (·.isSome)=true) (hl:keys.length=values.length) (h0:keys≠[])
 (h15:keys.length≤15):PE X (.Dict keys values pos) (Zve trs):=by
 intro pins s σ H Q I q;have hn:=I.hok.fresh (n10_ s.heap.objs.size);have I1:=I.laid (a:=s.heap.objs.size) (o:=.dK []) (h':=s.heap.push { cls:=.type "dict",data:=.dict #[] }) (t':=s.toks) (fun _ _ q=>n2_ _ q) (n10_ _) (Zoo s.heap I.big);refine wpAny_Dict_walk (knd:=Yb X.prog X.w) hall hl h0 h15 (thn (h pins _ σ _ _ I1 (q _ hn)) fun ws s2 ⟨ps,H2,I2,rel,e,kvs,ep,lk,q2⟩=>?_);subst ep;obtain ⟨rs,c,rk⟩:=Zdv (P:=X.prog) (w:=X.w) rel;obtain ⟨z,hd,vs0,r0,dd⟩:=Ztl I2.hok e;cases r0
 refine ⟨rs,c,dd,fun h' dd' hs=>⟨.ref s.heap.objs.size,_,?_,rfl,q2⟩⟩
 have hz:(Zca [] kvs).length≤sizeLine:=by
  have h1:=Zbo kvs [];rw [n69_] at h1;rw [sizeLine_eq];omega
 have he:∃ q,h'.get? s.heap.objs.size=some q:=let ⟨q,_,_,hq,_⟩:=dd';⟨q,hq⟩;exact Zdc I2 (by rw [e];exact True.intro) hs he (Zqi hz hd (rk.merge .nil) dd')
def IsD (H:Hp) (a:Addr):Prop:=(∃ kvs,Rd H a (.dK kvs))∨∃ kvs,Rd H a (.dT kvs)
theorem Zl4 {X:Cx} {pins:List (Addr×Obj)} {σ:St} {H:Hp} {s:Shared} {a:Addr} (I:Inv X pins σ H s) (d:IsD H a) :
 s.TypeIs (.ref a) "dict" ∧ (∀ b,Value.ref a=.ref b→∃ ob,s.heap.get? b=some ob∧ob.dict=none)∧(a == sysModules)=false:=by
 rcases d with ⟨kvs,e⟩|⟨kvs,e⟩
 · obtain ⟨_,hd,vs,_,dd⟩:=Zmz I.hok e;refine ⟨dd.typeIs,fun b q=>?_,hd⟩;cases q
   obtain ⟨ob,_,_,h1,h2,_⟩:=dd;exact ⟨ob,h1,h2.2.1⟩
 · obtain ⟨_,hd,xs,_,dd⟩:=Zlq I.hok e;refine ⟨dd.typeIs,fun b q=>?_,hd⟩;cases q
   obtain ⟨ob,_,_,h1,h2,_⟩:=dd;exact ⟨ob,h1,h2.2.1⟩
section
variable {X:Cx} {pins:List (Addr×Obj)} {σ:St} {H:Hp} {s:Shared} {a:Addr} {y d:V} {u r:Value} {o:Option V} {A:Around} {E:Value→Shared→Prop}
end
section
variable {X:Cx} {o e f:Expr} {apos cpos:Pos} {td ty tx:TE}
end
section
variable {X:Cx} {pins:List (Addr×Obj)} {σ:St} {H:Hp} {s:Shared} {a:Addr} {kvs:List (Key×V)} {A:Around} {E:Value→Shared→Prop}
end
section
variable {X:Cx} {pins:List (Addr×Obj)} {σ:St} {H:Hp} {s:Shared} {a:Addr} {y:V} {u:Value} {A:Around} {E:Value→Shared→Prop}
end
end L2
namespace PySem
section
variable {prog:Program} {w:World} {A:Around} {E:Value→Shared→Prop} {s:Shared} {it d:Addr} {i ep:Nat} {es:Array DictEntry} {ok ov:Value}
def EntAt (h:Heap) (d:Addr) (es:Array DictEntry) (ep:Nat):Prop:=∃ o:Obj,h.get? d=some o∧o.data=.dict es ep
theorem EntAt.at {h h':Heap} (x:EntAt h d es ep) (k:∀ o,h.get? d=some o→h'.get? d=some o):EntAt h' d es ep:=let ⟨o,e,q⟩:=x;⟨o,k o e,q⟩
end
end PySem
namespace L2
open PySem PySem.Spec PyProof.Rows
theorem Zm1 {P:Program} {w:World} {H:Hp} {h:Heap} {d:Addr} {o:Obj} {kvs:List (List Key×V)} {es:Array DictEntry} {ep:Nat} (x:HOk P w H h) (e:H d=some (.frz o (.dT kvs))) (od:o.data=.dict es ep) :
 EntAt h d es ep∧es.size=kvs.length∧∀ (i:Nat) (k:List Key) (y:V),kvs[i]? = some (k,y)→∃ (b:Addr) (u:Value) (t:Int),es[i]? = some ⟨t,.ref b,u⟩∧H b=some (.tup (k.map kV))∧RelV y u:=by
 obtain ⟨g,z,_,xs,rel,o2,es2,ep2,g2,_,d2,q,_⟩:=x d _ e;rw [g] at g2;cases g2
 rw [od] at d2;cases d2
 have l1:es.size=xs.length:=by rw [← Array.length_toList,q,n5_]
 have l2:=Paired.length rel;refine ⟨⟨o,g,od⟩,by omega,fun i k y hi=>?_⟩
 have get:∀ (l1:List (List Key×V)) (l2:List (List Key×Addr×Value)),Paired (fun (p:List Key×V) (q:List Key×Addr×Value)=>p.1=q.1∧H q.2.1=some (.tup (p.1.map kV))∧RelV p.2 q.2.2) l1 l2→∀ i:Nat,l1[i]? = some (k,y)→∃ (b:Addr) (u:Value),l2[i]? = some (k,b,u)∧H b=some (.tup (k.map kV))∧RelV y u:=by
  intro l1 l2 r
  induction r with
  | nil=>intro i h;simp at h
  | cons r t ih =>
    intro i h;cases i with
    | zero =>
      cases h
      rename_i _ b _ _
      obtain ⟨b1,b2,b3⟩:=b;obtain ⟨r1,r2,r3⟩:=r;cases r1
      exact ⟨b2,b3,rfl,r2,r3⟩
    | succ i=>exact ih i h
 obtain ⟨b,u,e1,e2,e3⟩:=get _ _ rel i hi;refine ⟨b,u,(tupleKind (Yb P w)).hash k,?_,e2,e3⟩;rw [← Array.getElem?_toList,q,n7_,e1];rfl
section
variable {X:Cx} {pins:List (Addr×Obj)} {σ:St} {H:Hp} {s:Shared}
theorem Inv.freeze {d:Addr} {kvs:List (List Key×V)} (I:Inv X pins σ H s) (e:H d=some (.dT kvs)):∃ o es ep,o.data=.dict es ep∧(d == sysModules)=false∧EntAt s.heap d es ep∧Inv X pins σ (upd H d (.frz o (.dT kvs))) s:=by
 have ok:=I.hok d _ e;obtain ⟨z,hd,xs,rel,o,es,ep,g,c,dd,q,nd⟩:=id ok;refine ⟨o,es,ep,dd,hd,⟨o,g,dd⟩,?_⟩;refine Zdc (t':=s.toks) I (by rw [e];exact True.intro) (Heap.SameBut.refl _ _) ⟨o,g⟩ ⟨g,z,hd,xs,Paired.mapP rel fun p r h=>⟨h.1,by rw [Zh (Zns h.2.1 e (fun z=>nomatch z))];exact h.2.1,h.2.2⟩,o,es,ep,g,c,dd,q,nd⟩
end
theorem Zj3 {v:V} {u:Value} (h:RelV v u):absV u=some v:=by
 cases v<;>simp only [RelV] at h<;>first|(subst h;rfl)|(obtain ⟨_,rfl⟩:=h;rfl)
theorem Zo8 {v v':V} {u:Value} (h:RelV v u) (h':RelV v' u):v=v':=Option.some.inj ((Zj3 h).symm.trans (Zj3 h'))
section
variable {X:Cx} {α:Type} [DecidableEq α] {R:Hp→V→α→Prop} {d:Nat}
noncomputable def eqOf (R:Hp→V→α→Prop) (H:Hp) (a:α) (y:Value):Bool:=@decide (∃ v,RelV v y∧R H v a) (Classical.propDecidable _)
theorem Zib {H:Hp} {v:V} {y:Value} {x a:α} (inj:∀ v x y,R H v x→R H v y→x=y) (rv:RelV v y) (r:R H v x):eqOf R H a y=decide (x=a):=by
 unfold eqOf;rw [Bool.eq_iff_iff];simp only [decide_eq_true_iff];refine ⟨fun ⟨v',h1,h2⟩=>?_,fun h=>⟨v,rv,h ▸ r⟩⟩;rw [Zo8 h1 rv] at h2;exact inj v x a r h2
theorem Zkp {H:Hp} {a:α} (inj:∀ v x y,R H v x→R H v y→x=y):∀ {vs:List V} {us:List Value} {xs:List α},Vals vs us→Al (R H) vs xs→us.any (eqOf R H a)=decide (a∈xs)
 | [],_,xs,.nil,al=>by
   have:xs=[]:=List.length_eq_zero_iff.mp al.1.symm
   subst this;rfl
 | v :: vs,u :: us,xs,.cons r t,al=>by
   match xs,al with
   | [],al=>exact absurd al.1 (by simp)
   | x :: xs,al =>
     have h0:=al.2 0 v x rfl rfl;have tl:Al (R H) vs xs:=⟨by simpa using al.1,fun i v' x' e1 e2=>al.2 (i+1) v' x' e1 e2⟩;rw [List.any_cons,Zkp inj t tl,Zib inj r h0,Bool.eq_iff_iff];simp only [Bool.or_eq_true,decide_eq_true_eq,n11_];exact ⟨fun h=>h.elim (fun e=>.inl e.symm) .inr,fun h=>h.elim (fun e=>.inl e.symm) .inr⟩
def rInG (R:Hp→V→α→Prop) (neg:Bool):R2:=fun x y H Q=>∃ (p:Addr) (vs:List V) (xs:List α) (a:α),y=.ref p∧H p=some (.lst vs)∧Al (R H) vs xs∧R H x a∧Q (.bl (if neg then !decide (a∈xs) else decide (a∈xs))) H
theorem Zql {A:Around} {pins:List (Addr×Obj)} {σ:St} {H:Hp} {s:Shared} (E:EqT X d R) (inj:∀ v x y,R H v x→R H v y→x=y) (hu:A.units+d<cLine) (I:Inv X pins σ H s) {vs:List V} {us:List Value} {xs:List α} (r:Vals vs us) (al:Al (R H) vs xs) {x:V} {v:Value} {a:α} (rx:RelV x v) (ra:R H x a) :
 ∀ y∈us.toArray,SeqAt.EqAt A s y v (eqOf R H a y):=fun y hy=>by
 obtain ⟨i,hi,e⟩:=n44_ (show y∈us by simpa using hy);have l1:=r.length;obtain ⟨u,eu,ru⟩:=r.get (n1_ (show i<vs.length by omega));rw [n1_ hi,e] at eu;cases eu
 obtain ⟨z,ez,rz⟩:=al.get (n1_ (show i<vs.length by omega));rw [Zib inj ru rz];exact E A pins σ H s _ _ _ _ z a hu I rz ra ru rx
theorem Zmj (E:EqT X d R) (inj:∀ H v x y,R H v x→R H v y→x=y) (hu:X.A.units+d+1<cLine):OpR X (compareOp .NotIn) (rInG R true):=by
 intro pins s σ H x y v u Q I rx ry h;obtain ⟨p,vs,xs,a,rfl,e,al,ra,q⟩:=h;cases ry
 obtain ⟨us,r,pl,_⟩:=I.list (SqL.of e);refine SeqAt.notIn_listAt (eqOf R H a) pl.isList (Zql E (inj H) (by rw [Around.in1_units];omega) I r al rx ra) ⟨.bl _,H,I,rfl,?_⟩;rw [show us.toArray.any (eqOf R H a)=us.any (eqOf R H a) by simp,Zkp (inj H) r al];exact q
end
theorem Zrq:∀ H v x y,IsI H v x→IsI H v y→x=y:=fun H v x y ⟨a,e1,h1⟩ ⟨b,e2,h2⟩=>by
 subst e1;cases e2
 rw [h1] at h2
 have:=Option.some.inj h2
 injection this with this
 exact (List.map_inj_right (fun _ _ h=>by injection h)).mp this
theorem Zvi {X:Cx}:EqT X 1 IsI:=by
 intro A pins σ H s v u a b x y hu I h1 h2 r1 r2;obtain ⟨p,rfl,e1⟩:=h1;obtain ⟨q,rfl,e2⟩:=h2;exact Zr7 (X:=X) Zic (fun H v x y (h1:v=.int x) (h2:v=.int y)=>by rw [h1] at h2;cases h2;rfl) A pins σ H s (.ref p) (.ref q) a b x y hu I ⟨p,_,rfl,e1,Al.of_ints x⟩ ⟨q,_,rfl,e2,Al.of_ints y⟩ r1 r2
end L2
namespace L2
open PySem PySem.Spec PyProof.Rows PySem.W
def kok {α:Type} (n:Nat) (f:Nat→Nat→Bool) (P:α→Prop):KasT α→Prop
 | .ret a=>P a
 | .ask i j k=>i<n∧j<n∧kok n f P (k (f i j))
theorem Za1 {α β:Type} {n:Nat} {f:Nat→Nat→Bool} {P:β→Prop} {g:α→KasT β}:∀ (t:KasT α),kok n f (fun a=>kok n f P (g a)) t→kok n f P (t.bind g)
 | .ret a,h=>h
 | .ask i j k,h=>⟨h.1,h.2.1,Za1 (k (f i j)) h.2.2⟩
theorem Zn6 {α:Type} {n:Nat} {f:Nat→Nat→Bool} {P:α→Prop}:∀ (t:KasT α),kok n f P t→kin n f t=true∧P (krun f t)
 | .ret a,h=>⟨rfl,h⟩
 | .ask i j k,h=>by
   obtain ⟨a,b⟩:=Zn6 (k (f i j)) h.2.2;refine ⟨?_,b⟩;unfold kin;rw [n40_ h.1,n40_ h.2.1,a];rfl
section
variable {n:Nat} {f:Nat→Nat→Bool}
def Pm (n:Nat) (p:Array Nat):Prop:=p.toList.Perm (List.range n)
theorem Pm.size {p:Array Nat} (h:Pm n p):p.size=n:=by have:=h.length_eq;simpa using this
theorem Pm.lt {p:Array Nat} (h:Pm n p) {i:Nat} (hi:i<n):p.getD i 0<n:=by
 have hs:=h.size
 have:p.getD i 0∈p.toList:=by
  rw [Array.getD_eq_getD_getElem?,Array.getElem?_eq_getElem (show i<p.size by omega)];simp
 exact n26_.mp (h.mem_iff.mp this)
theorem Pm.ne {p:Array Nat} (h:Pm n p) {i j:Nat} (hi:i<n) (hj:j<n) (ne:i≠j):p.getD i 0≠p.getD j 0:=fun z=>by
 have hs:=h.size;have nd:p.toList.Nodup:=h.nodup_iff.mpr List.nodup_range;rw [Array.getD_eq_getD_getElem?,Array.getElem?_eq_getElem (show i<p.size by omega),Array.getD_eq_getD_getElem?,Array.getElem?_eq_getElem (show j<p.size by omega)] at z;exact ne ((n63_ (xs:=p.toList) (h₀:=by simpa using (show i<p.size by omega)) (h₁:=by simpa using (show j<p.size by omega)) nd).mp (by simpa using z))
theorem Pm.perm {p q:Array Nat} (h:Pm n p) (e:q.Perm p):Pm n q:=(Array.perm_iff_toList_perm.mp e).trans h
abbrev at' (p:Array Nat) (i:Nat):Nat:=p.getD i 0
theorem Zco {p q:Array Nat} {i j:Nat} (h:p[i]? = q[j]?):at' p i=at' q j:=by simp only [at',Array.getD_eq_getD_getElem?,h]
def Asc (f:Nat→Nat→Bool) (p:Array Nat) (k:Nat):Prop:=∀ i j,i<j→j<k→f (at' p i) (at' p j)=true
def Dsc (f:Nat→Nat→Bool) (p:Array Nat) (k:Nat):Prop:=∀ i j,i<j→j<k→f (at' p j) (at' p i)=true
theorem Ord.flip (o:Ord n f) {p:Array Nat} (h:Pm n p) {i j:Nat} (hi:i<n) (hj:j<n) (ne:i≠j) (z:f (at' p i) (at' p j)=false):f (at' p j) (at' p i)=true:=by
 have:=o.ant _ _ (h.lt hi) (h.lt hj) (h.ne hi hj ne)
 rw [this,show f (p.getD i 0) (p.getD j 0)=false from z];rfl
theorem Zpe (o:Ord n f) {p:Array Nat} (h:Pm n p) {k:Nat} (k1:1≤k) (hk:k<n) (a:Asc f p k) (z:f (at' p (k-1)) (at' p k)=true):Asc f p (k+1):=fun i j hij hj=>by
 by_cases e:j=k
 · subst e
   by_cases e2:i=j-1
   · rw [e2];exact z
   · exact o.tr _ _ _ (h.lt (by omega)) (h.lt (by omega)) (h.lt hk) (a i (j-1) (by omega) (by omega)) z
 · exact a i j hij (by omega)
theorem Zjm (o:Ord n f) {p:Array Nat} (h:Pm n p) {k:Nat} (k1:1≤k) (hk:k<n) (a:Dsc f p k) (z:f (at' p k) (at' p (k-1))=true):Dsc f p (k+1):=fun i j hij hj=>by
 by_cases e:j=k
 · subst e
   by_cases e2:i=j-1
   · rw [e2];exact z
   · exact o.tr _ _ _ (h.lt hk) (h.lt (by omega)) (h.lt (by omega)) z (a i (j-1) (by omega) (by omega))
 · exact a i j hij (by omega)
theorem Zir (o:Ord n f) {p:Array Nat} (h:Pm n p) {P:Nat→Prop}:∀ (u k:Nat),1≤k→k+u≤n→Asc f p k→(∀ m,k≤m→m≤k+u→Asc f p m→(m<k+u→f (at' p m) (at' p (m-1))=true)→P m)→kok n f P (kas_asc p u k)
 | 0,k,k1,hu,a,q=>q k (n10_ _) (n10_ _) a (by omega)
 | u+1,k,k1,hu,a,q=>by
   refine ⟨h.lt (by omega),h.lt (by omega),?_⟩;cases c:f (p.getD k 0) (p.getD (k-1) 0) with
   | true=>dsimp only;rw [if_pos rfl];exact q k (n10_ _) (by omega) a fun _=>c
   | false =>
     dsimp only;rw [if_neg (by simp)];exact Zir o h u (k+1) (by omega) (by omega) (Zpe o h k1 (by omega) a (o.flip h (by omega) (by omega) (by omega) c)) fun m m1 m2 am z=>q m (by omega) (by omega) am fun hm=>z (by omega)
theorem Zkq (o:Ord n f) {p:Array Nat} (h:Pm n p) {P:Array Nat×Nat×Nat→Prop}:∀ (u k:Nat),1≤k→k+u≤n→Dsc f p k→(∀ m,k≤m→m≤k+u→Dsc f p m→P (p,m,0))→kok n f P (kas_desc u p k 0)
 | 0,k,k1,hu,a,q=>q k (n10_ _) (n10_ _) a
 | u+1,k,k1,hu,a,q=>by
   refine ⟨h.lt (by omega),h.lt (by omega),?_⟩;cases c:f (p.getD k 0) (p.getD (k-1) 0) with
   | true =>
     dsimp only;rw [if_pos rfl,if_neg (by omega)];exact Zkq o h u (k+1) (by omega) (by omega) (Zjm o h k1 (by omega) a c) fun m m1 m2 am=>q m (by omega) (by omega) am
   | false =>
     dsimp only;rw [if_neg (by simp)];refine ⟨h.lt (by omega),h.lt (by omega),?_⟩;dsimp only;rw [show f (p.getD (k-1) 0) (p.getD k 0)=true from o.flip h (by omega) (by omega) (by omega) c,if_pos rfl];exact q k (n10_ _) (by omega) a
theorem Zqy {p:Array Nat} {m:Nat} (hm:m≤p.size) (k:Nat) (hk:k<m):at' (kas_rev p 0 m) k=at' p (m-1-k):=by
 have e:=getElem?_mirror_all (xs:=p) (i:=0) hm k;rw [if_pos ⟨n51_ _,hk⟩] at e;exact Zco (e.trans (by rw [Nat.zero_add]))
theorem Zmv (o:Ord n f) {p:Array Nat} (h:Pm n p) (h2:2≤n) {P:Nat×Array Nat→Prop} (q:∀ m p',1≤m→m≤n→Pm n p'→Asc f p' m→P (m,p')):kok n f P (kas_count n p):=by
 unfold kas_count;refine Za1 _ (Zir o h (n-1) 1 (n10_ _) (by omega) (fun i j _ _=>by omega) fun m m1 m2 am z=>?_)
 by_cases e:m=n
 · rw [if_pos (by simp [e])];exact q m p m1 (by omega) h am
 rw [if_neg (by simp [e])]
 by_cases g:m>1
 · rw [if_pos g];refine ⟨h.lt (by omega),h.lt (by omega),?_⟩;dsimp only;rw [show f (p.getD 0 0) (p.getD (m-1) 0)=true from am 0 (m-1) (by omega) (by omega),if_pos rfl];exact q m p m1 (by omega) h am
 rw [if_neg g];have em:m=1:=by omega
 subst em;unfold kas_descPart;refine Za1 _ (Zkq o h (n-2) 2 (by omega) (by omega) (Zjm o h (n10_ _) (by omega) (fun i j _ _=>by omega) (z (by omega))) fun m m1 m2 dm=>?_);show kok n f P (if 0>0 then _ else kas_tail3 m n p)
 rw [if_neg (by omega)];unfold kas_tail3;have hs:=h.size;have hr:Pm n (kas_rev p 0 m):=h.perm (mirror_perm _ _ _ _);refine Za1 _ (Zir o hr (n-m) m (by omega) (by omega) (fun i j hij hj=>?_) fun m' m1' m2' am' _=>q m' _ (by omega) (by omega) hr am');rw [Zqy (by omega) i (by omega),Zqy (by omega) j hj];exact dm (m-1-j) (m-1-i) (by omega) (by omega)
theorem Zde (o:Ord n f) {p:Array Nat} (h:Pm n p) {k:Nat} (hk:k<n) (a:Asc f p k) {P:Nat→Prop} (q:∀ l,l≤k→(∀ i,i<l→f (at' p i) (at' p k)=true)→(∀ i,l≤i→i<k→f (at' p k) (at' p i)=true)→P l) :
 ∀ (u l r:Nat),l≤r→r≤k→r-l≤u→(∀ i,i<l→f (at' p i) (at' p k)=true)→(∀ i,r≤i→i<k→f (at' p k) (at' p i)=true)→kok n f P (kas_place p k u l r)
 | 0,l,r,lr,rk,hu,b1,b2=>q l (by omega) b1 fun i h1 h2=>b2 i (by omega) h2
 | u+1,l,r,lr,rk,hu,b1,b2=>by
   unfold kas_place
   by_cases g:l ≥ r
   · rw [if_pos g];exact q l (by omega) b1 fun i h1 h2=>b2 i (by omega) h2
   rw [if_neg g];refine ⟨h.lt hk,h.lt (by omega),?_⟩;cases c:f (p.getD k 0) (p.getD ((l+r)/2) 0) with
   | true =>
     dsimp only;rw [if_pos rfl];refine Zde o h hk a q u l ((l+r)/2) (by omega) (by omega) (by omega) b1 fun i h1 h2=>?_
     by_cases e:i=(l+r)/2
     · rw [e];exact c
     · exact o.tr _ _ _ (h.lt hk) (h.lt (show (l+r)/2<n by omega)) (h.lt (by omega)) c (a _ i (by omega) h2)
   | false =>
     dsimp only;rw [if_neg (by simp)];have c':=o.flip h hk (show (l+r)/2<n by omega) (by omega) c;refine Zde o h hk a q u ((l+r)/2+1) r (by omega) rk (by omega) (fun i h1=>?_) b2
     by_cases e:i=(l+r)/2
     · rw [e];exact c'
     · exact o.tr _ _ _ (h.lt (by omega)) (h.lt (show (l+r)/2<n by omega)) (h.lt hk) (a i _ (by omega) (by omega)) c'
theorem Zqp {p:Array Nat} {k d:Nat} (hk:k<p.size) (hd:d≤k) (j:Nat):at' (bubble p k d) j=if j=k-d then at' p k else if k-d<j∧j≤k then at' p (j-1) else at' p j:=by
 have e:=getElem?_bubble hk d hd j
 by_cases h1:j=k-d
 · rw [if_pos h1] at e ⊢;exact Zco e
 · rw [if_neg h1] at e ⊢
   by_cases h2:k-d<j∧j≤k
   · rw [if_pos h2] at e ⊢;exact Zco e
   · rw [if_neg h2] at e ⊢;exact Zco e
theorem Zl2 (o:Ord n f) {P:Array Nat→Prop} (q:∀ p,Pm n p→Asc f p n→P p):∀ (u:Nat) (p:Array Nat) (k:Nat),k+u=n→Pm n p→Asc f p k→kok n f P (kas_bin u p k)
 | 0,p,k,e,h,a=>q p h (by rw [← e];exact a)
 | u+1,p,k,e,h,a=>by
   have hk:k<n:=by omega
   have hs:=h.size;unfold kas_bin;refine Za1 _ (Zde o h hk a (fun l lk b1 b2=>?_) k 0 k (n51_ _) (n10_ _) (by omega) (fun i hi=>by omega) (fun i h1 h2=>by omega));refine Zl2 o q u _ (k+1) (by omega) (h.perm (bubble_perm _ _ _)) fun i j hij hj=>?_;rw [Zqp (by omega) (by omega) i,Zqp (by omega) (by omega) j];have el:k-(k-l)=l:=by omega
   rw [el]
   by_cases i1:i=l
   · rw [if_pos i1,if_neg (by omega),if_pos (by omega)];exact b2 (j-1) (by omega) (by omega)
   rw [if_neg i1]
   by_cases i2:l<i∧i≤k
   · rw [if_pos i2,if_neg (by omega),if_pos (by omega)];exact a (i-1) (j-1) (by omega) (by omega)
   rw [if_neg i2]
   by_cases j1:j=l
   · rw [if_pos j1];exact b1 i (by omega)
   rw [if_neg j1]
   by_cases j2:l<j∧j≤k
   · rw [if_pos j2]
     by_cases e3:i=j-1
     · omega
     · exact a i (j-1) (by omega) (by omega)
   · rw [if_neg j2];exact a i j hij (by omega)
theorem Zl7 (o:Ord n f) (h2:2≤n):kin n f (kas_sort n)=true∧(krun f (kas_sort n)).toList.Perm (List.range n)∧(krun f (kas_sort n)).toList.Pairwise (fun i j=>f i j=true):=by
 have fin:∀ p:Array Nat,Pm n p→Asc f p n→p.toList.Perm (List.range n)∧p.toList.Pairwise (fun i j=>f i j=true):=fun p h a=>by
  refine ⟨h,n54_.mpr fun i j hi hj hij=>?_⟩;have hs:=h.size;have hj':j<p.size:=by simpa using hj
  have:=a i j hij (by omega)
  simp only [at',Array.getD_eq_getD_getElem?] at this;rw [Array.getElem?_eq_getElem (show i<p.size by omega),Array.getElem?_eq_getElem hj'] at this
  simpa using this
 refine Zn6 (P:=fun p:Array Nat=>p.toList.Perm (List.range n)∧p.toList.Pairwise (fun i j=>f i j=true)) (kas_sort n) ?_;unfold kas_sort;have h0:Pm n (List.toArray (List.range n)):=by unfold Pm;simp
 refine Za1 _ (Zmv o h0 h2 fun m p' m1 m2 h a=>?_)
 by_cases g:m<n
 · rw [if_pos g];refine Zl2 o fin _ p' _ (by simp only [];omega) h ?_;rw [show max (m,p').1 1=m by simp only [];omega];exact a
 · rw [if_neg g]
   have:m=n:=by omega
   subst this;exact fin p' h a
end
end L2
namespace PySem
section
variable {prog:Program} {w:World} {A:Around} {E:Value→Shared→Prop} {s:Shared} {it d:Addr} {i ep:Nat} {es:Array DictEntry}
theorem Zpc {x:DictEntry} {Q:Option Value→Shared→Prop} (hit:s.heap.IsKeyIter it d i es.size ep) (hm:EntAt s.heap d es ep) (hx:es[i]? = some x)
 (hQ:∀ h',h'.IsKeyIter it d (i+1) es.size ep→Heap.SameBut it s.heap h'→Q (some x.key) { s with heap:=h' }):wpAny (model prog w) A (pyNext (.ref it)) Q E s:=by
 obtain ⟨o,ho,hc,hd⟩:=id hit;obtain ⟨od,e0,q0⟩:=hm;obtain ⟨li,rfl⟩:=Array.getElem?_eq_some_iff.mp hx;unfold pyNext;refine n0_ <| wpAny_attempt <| wpAny_callSpecial?_slot (name:=Str.ofString "__next__") hit.typeIs F.slot_dict_keyiterator_next <| wpAny_call_entry F.slot_dict_keyiterator_next hit.typeIs F.entry_dict_keyiterator_next ?_ (F.args_dict_keyiterator_next_1 _);refine n0_ <| n3_ <| n0_ <| n0_ <| n0_ <| wpAny_typeNameOfWhole_keyiter hit.typeIs <| n3_ <| n0_ <| wpAny_fieldsOf ho hd ?_;have own:Builtin.Dict_items.ownsTuple "dict_keyiterator" = false:=by decide
 simp only [own,n16_,if_false];show wpAny _ _ (if (Value.ref d == Value.none)=true then _ else _) _ _ _
 rw [if_neg (by intro z;cases z)];refine n0_ <| n3_ <| n0_ <| wpAny_dictEntries e0 q0 ?_;rw [if_neg (by simp)];refine n0_ <| n3_ <| n0_ <| wpAny_dictEpoch e0 q0 ?_;rw [if_neg (by simp)];refine n3_ ?_;have nn:¬ ((i:Int)<0):=by omega
 simp only [nn,if_false,n59_,hx];refine n0_ <| n0_ <| wpAny_typeNameOfWhole_keyiter hit.typeIs <| n3_ <| n0_ <| wpAny_isOneOf_keyiter hit.typeIs ?_;show wpAny _ _ (setField (.ref it) 1 (rawInt ((i:Int)+1)) >>= _) _ _ s
 refine n0_ (wpAny_setField ho hd (by simp) ?_)
 have hit':(s.heap.update it (Obj.mapFields (·.setIfInBounds 1 (rawInt ((i:Int)+1))))).IsKeyIter it d (i+1) es.size ep :=
  ⟨_,n48_ _ ho (Obj.isFreed_of_fields (Obj.data_mapFields hd _)),(Obj.cls_mapFields ..).trans hc,by rw [Obj.data_mapFields hd];simp [rawInt]⟩
 refine n0_ (n36_ ?_);refine n0_ (wpAny_isOneOf_keyiter (s:={ s with heap:=s.heap.update it (Obj.mapFields (·.setIfInBounds 1 (rawInt ((i:Int)+1)))) }) hit'.typeIs ?_);show wpAny _ _ (pure es[i].key) _ _ _
 exact n3_ (n3_ ⟨_,rfl,n3_ (hQ _ hit' (Heap.SameBut.update ..))⟩)
theorem Zsg {Q:Option Value→Shared→Prop} (hh:A.handled=none) (hit:s.heap.IsKeyIter it d i es.size ep) (hm:EntAt s.heap d es ep) (hx:es[i]? = none)
 (hQ:∀ h',Heap.ExtBut it s.heap h'→Q none { s with heap:=h' }):wpAny (model prog w) A (pyNext (.ref it)) Q E s:=by
 obtain ⟨o,ho,hc,hd⟩:=id hit;obtain ⟨od,e0,q0⟩:=hm;unfold pyNext;refine n0_ <| wpAny_attempt <| wpAny_callSpecial?_slot (name:=Str.ofString "__next__") hit.typeIs F.slot_dict_keyiterator_next <| wpAny_call_entry F.slot_dict_keyiterator_next hit.typeIs F.entry_dict_keyiterator_next ?_ (F.args_dict_keyiterator_next_1 _);refine n0_ <| n3_ <| n0_ <| n0_ <| n0_ <| wpAny_typeNameOfWhole_keyiter hit.typeIs <| n3_ <| n0_ <| wpAny_fieldsOf ho hd ?_;have own:Builtin.Dict_items.ownsTuple "dict_keyiterator" = false:=by decide
 simp only [own,n16_,if_false];show wpAny _ _ (if (Value.ref d == Value.none)=true then _ else _) _ _ _
 rw [if_neg (by intro z;cases z)];refine n0_ <| n3_ <| n0_ <| wpAny_dictEntries e0 q0 ?_;rw [if_neg (by simp)];refine n0_ <| n3_ <| n0_ <| wpAny_dictEpoch e0 q0 ?_;rw [if_neg (by simp)];refine n3_ ?_;have nn:¬ ((i:Int)<0):=by omega
 simp only [nn,if_false,n59_,hx];refine n0_ <| n0_ <| wpAny_typeNameOfWhole_keyiter hit.typeIs <| n3_ ?_;show wpAny _ _ (setField (.ref it) 0 .none >>= _) _ _ s
 refine n0_ (wpAny_setField ho hd (by simp) ?_);show wpAny _ _ (newExc (.type "StopIteration") [] >>= _) _ _ _
 refine n0_ ?_;simp only [newExc,newTuple];refine n0_ (wpAny_newObj_type ?_ (by size_fits));refine n0_ (m:=firstArgMember _ _) (wpAny_of_eq (a:=Value.none) (by first|rfl|(simp only [firstArgMember];rfl)) ?_);refine wpAny_newObj_type ?_ (by size_fits);simp only [raiseNew];refine n0_ (wpAny_handled ?_);rw [show A.in1.handled=none from hh];refine n0_ (n3_ (wpAny_throw ?_));refine n0_ (wpAny_isInstance (T := "StopIteration") (b:=true) ⟨_,n9_ _ rfl,rfl⟩ isSubtype_stop ?_);exact n3_ (hQ _ (((Heap.SameBut.update ..).extBut.push _).push _))
theorem Zjh {Q:Value→Shared→Prop} (hT:s.TypeIs (.ref d) "dict") (hd:(d == sysModules)=false) (hm:EntAt s.heap d es ep)
 (hQ:Q (.ref s.heap.objs.size) { s with heap:=s.heap.push { cls:=.type "dict_keyiterator",data:=.fields #[.ref d,.int 0 0,.int es.size 0,.int ep 0] } }):wpAny (model prog w) A (pyIter (.ref d)) Q E s:=by
 obtain ⟨o,ho,hdat⟩:=hm;refine wpAny_pyIter_slot hT F.slot_dict_iter (wpAny_call_entry F.slot_dict_iter hT F.entry_dict_iter ?_ (F.args_dict_iter_1 _));unfold Builtin.«dict.__iter__»;refine n0_ ?_;unfold Builtin.Dict.dictSlotNone;refine n0_ (wpAny_notOrdered_dict hT ?_);show wpAny _ _ (pure (Value.ref d)) _ _ s
 refine n3_ ?_;show wpAny _ _ (Builtin.Dict.showsAll d >>= _) _ _ s
 unfold Builtin.Dict.showsAll;rw [if_neg (by rw [hd];exact n22_)];refine n0_ (n3_ ?_);refine n0_ (wpAny_dictEntries ho hdat (n0_ (wpAny_dictEpoch ho hdat ?_)));refine n0_ (wpAny_newObj_type (n3_ ⟨_,rfl,"dict_keyiterator",_,⟨_,n9_ _ rfl,rfl⟩,F.slot_dict_keyiterator_next.lookup,?_⟩))
 simpa [rawInt] using hQ
end
end PySem
namespace L2
open PySem PySem.Spec PyProof.Rows
section
variable {X:Cx} {tg:Expr}
end
end L2
namespace L2
open PySem PySem.Spec PyProof.Rows PySem.W
section
variable {X:Cx}
end
theorem Ztb {a b:List Int} (h:HT.lexLt a b=true):a≠b:=fun z=>by rw [z,Zc8] at h;cases h
theorem Zm0 {ks:List (List Int)} {m:Nat} (hm:∀ k∈ks,k.length=m) (h:∀ i:Nat,i+1<ks.length→HT.lexLt (ks.getD i []) (ks.getD (i+1) [])=true):∀ (d i:Nat),i+d+1<ks.length→HT.lexLt (ks.getD i []) (ks.getD (i+d+1) [])=true
 | 0,i,hi=>h i hi
 | d+1,i,hi=>by
   have l:∀ j,j<ks.length→(ks.getD j []).length=m:=fun j hj=>by
    have:ks.getD j []=ks[j]:=by simp [n4_,hj]
    rw [this];exact hm _ (n43_ hj)
   exact Zp5 _ _ _ (by rw [l i (by omega),l (i+d+1) (by omega)]) (by rw [l (i+d+1) (by omega),l (i+(d+1)+1) hi]) (Zm0 hm h d i (by omega)) (h (i+d+1) (by omega))
theorem PlOk.pnd {P:Pl} (ok:PlOk P):P.ps.Nodup:=by
 rw [n56_,n54_];intro i j hi hj hij
 have:=Zm0 (m:=3) (fun k hk=>(ok.pc k hk).len) ok.rise (j-i-1) i (by omega)
 rw [show i+(j-i-1)+1=j by omega] at this;have e:∀ n (h:n<P.ps.length),P.ps.getD n []=P.ps[n]:=fun n h=>by simp [n4_,h]
 rw [e i hi,e j hj] at this;exact Ztb this
end L2
namespace L2
open PySem PySem.Spec PyProof.Rows PySem.W
mutual
inductive DB (k:Nat):PyData→Prop
 | int {i:Int}:i.natAbs<2^k→DB k (.int i)
 | tup {ds:List PyData}:DBs k ds→DB k (.tuple ds)
 | lst {ds:List PyData}:DBs k ds→DB k (.list ds)
inductive DBs (k:Nat):List PyData→Prop
 | nil:DBs k []
 | cons {d:PyData} {ds:List PyData}:DB k d→DBs k ds→DBs k (d :: ds)
end
variable {k:Nat}
mutual
theorem DB.showable (hk:k<1920):∀ {d:PyData},DB k d→d.showable=true
 | _,.int h=>n40_ (Xx h hk)
 | _,.tup r=>DBs.showable hk r
 | _,.lst r=>DBs.showable hk r
theorem DBs.showable (hk:k<1920):∀ {ds:List PyData},DBs k ds→PyData.showableAll ds=true
 | _,.nil=>rfl
 | _,.cons r rs=>by
   show (_&&_)=true
   rw [DB.showable hk r,DBs.showable hk rs];rfl
end
mutual
theorem DB.shownLen (hk:k<1920):∀ {d:PyData},DB k d→d.shown.length≤2000*nz d
 | _,.int (i:=i) h=>by
   have:=int_text_length_le (by decide) (Xx h hk)
   show (Str.ofString (toString i)).length≤2000*1
   rw [PySem.ofString_length];omega
 | _,.tup (ds:=ds) r=>by
   have:=DBs.shownLen hk r
   have z:=tupleText_len_le (PyData.shownAll ds);rw [Zax] at z;show (tupleText (PyData.shownAll ds)).length≤2000*(1+Zah ds)
   omega
 | _,.lst (ds:=ds) r=>by
   have:=DBs.shownLen hk r
   have z:=listText_len_le (PyData.shownAll ds);rw [Zax] at z;show (listText (PyData.shownAll ds)).length≤2000*(1+Zah ds)
   omega
theorem DBs.shownLen (hk:k<1920):∀ {ds:List PyData},DBs k ds→((PyData.shownAll ds).map (·.length)).sum+2*ds.length≤2000*Zah ds
 | _,.nil=>by simp [PyData.shownAll,Zah]
 | _,.cons r rs=>by
   have a:=DB.shownLen hk r;have b:=DBs.shownLen hk rs;simp only [PyData.shownAll,Zah,n34_,List.sum_cons,n18_];omega
end
section
variable {X:Cx} {pins:List (Addr×Obj)} {σ:St} {H:Hp} {s:Shared}
end
section
variable {X:Cx}
end
theorem Zuh {X:Cx} (K:PySem.W.Frag) (hK:X.K=K) {o e:Expr} {es:List Expr} {to:TE} {t:TA} {name:Str} {apos cpos:Pos} {T:String} {r:V→List V→Hp→VK→Prop} (h:PE X (.Call (.Attribute o name apos) (e :: es) [] cpos) (tBM X.K T r to t)):PE X (.Call (.Attribute o name apos) (e :: es) [] cpos) (tBM K T r to t):=hK ▸ h
structure Cal1 (P:Program) (w:World) (K:PySem.W.Frag) (mg:Str→Option Value) (base:Heap) (x:Str) (k:Nat) (p1:Str) (sp:Sp):Prop where
 ex:∃ (f:Addr) (fd:FuncData),FnOk P w K mg base CX0 k f fd [p1] sp∧mg x=some (.ref f)∧PySem.W.keepIn K (.ref f)=true ∧
  ∀ (s:Shared) (u:Value),K.In s.heap→BindsTo s fd ⟨[],[(p1,u)]⟩ [(p1,u)]
theorem Zr5 {X:Cx} {x p1:Str} {k j:Nat} {sp:Sp} {p pos:Pos} {kws:List Keyword} {tk:TA} (C:Cal1 X.prog X.w X.K X.mg X.base x k p1 sp) (hr:Room j X.A) (hj:k≤j) (hg:Gl X x) (hkw:PK X kws tk)
 (hks:(backToKw pos (keywordEach kws X.env)).filterMap (·.1)=[p1]:=by rfl) (hall:(backToKw pos (keywordEach kws X.env)).all (·.1.isSome)=true:=by rfl)
 (hdb:(x == ("__debug__" : Str))=false:=by decide) (hpl:((backTo pos (starEach [] X.env)).any (·.1)||(backToKw pos (keywordEach kws X.env)).any (·.1.isNone))=false:=by rfl) :
 PE X (.Call (.Name x p) [] kws pos) (fun σ H Q=>tk σ H fun zs H1=>∃ v,zs=[v]∧sp [v] H1 Q E0):=by
 intro pins s σ H Q I h;obtain ⟨f,fd,F,hm,hk,hb⟩:=C.ex;refine wpAny_Call_Name_kw (Ze7 I hg hm ?_ hdb);refine PySem.W.callWith_KW0 (h₀:=X.base) I.ok.mod.kin hk hall (thn (hkw pos pins s σ H _ I h) fun ws s2 ⟨zs,H2,I2,rz,v,e,q2⟩=>⟨I2.kIn,?_⟩) hpl;subst e;obtain ⟨wv,rfl,rv⟩:=rz.one;rw [hks];refine wpAny_call (codeAny_mono (F.run X.A X.stack s2 H2 ⟨[],[(p1,wv)]⟩ [wv] [v] Q E0 (hr.mono hj) I2.env0 (hb s2 wv I2.kIn) (.cons rv .nil) q2) fun r s' hq=>?_);cases r with
 | error e=>exact (show False from hq).elim
 | ok fl =>
   cases fl with
   | ret u=>exact I2.after hq
   | next=>exact False.elim hq
   | brk=>exact False.elim hq
   | cont=>exact False.elim hq
section
variable {N:Addr→Prop} {H:Hp}
end
end L2
namespace L2
open PySem PySem.Spec PyProof.Rows PySem.W
theorem fsc {N P:List Str} {sc:Scope} (h:sc.kind=.function∧sc.isCoroutine=false∧sc.isGenerator=false∧N.Nodup∧N.take P.length=P∧(∀ x∈P,sc.names.lookup x=some .local∨sc.names.lookup x=some .cell)∧∀ y∈sc.names,y.2≠.free):FnScope N P sc:=let ⟨a,b,c,d,e,f,g⟩:=h;⟨a,b,c,d,e,f,g⟩
def gPt (w i:Nat):Pnt:=(7*((i % (w+1):Nat):Int),9*((i/(w+1):Nat):Int))
def gCs (w h:Nat):List Pnt:=(List.range ((h+1)*(w+1))).map (gPt w)
def gPc (w k way half:Nat):List Int :=
 let a:=k/w*(w+1)+k % w
 let r:Nat×Nat×Nat:=if way=0 then (if half=0 then (a,a+1,a+w+1) else (a+1,a+w+1,a+w+2)) else (if half=0 then (a,a+1,a+w+2) else (a,a+w+1,a+w+2))
 [(r.1:Int),(r.2.1:Int),(r.2.2:Int)]
def gOne (w h k way half:Nat):Bool :=
 let cs:=gCs w h;let p:=gPc w k way half
 p.all (fun i=>decide (0≤i)&&decide (i≤(cs.length:Int)-1))&&decide (p.getD 0 0<p.getD 1 0)&&decide (p.getD 1 0<p.getD 2 0)&&decide (dOf cs p≠0) &&
  (List.range cs.length).all fun j=>decide ((j:Int)∈p)||!Zay (cs.getD j (0,0)) (trOf cs p)
def gTwo (w h k way half k' way' half':Nat):Bool :=
 let cs:=gCs w h;let p:=gPc w k way half;let q:=gPc w k' way' half'
 if k=k'∧way≠way' then true else if k=k'∧half=half' then true else decide (p≠q)&&apart (trOf cs p) (trOf cs q)
def gAll (w h:Nat):Bool :=
 (List.range (w*h)).all fun k=>[0,1].all fun way=>[0,1].all fun half=>gOne w h k way half&&(List.range (w*h)).all fun k'=>[0,1].all fun way'=>[0,1].all fun half'=>gTwo w h k way half k' way' half'
def gUse (w h:Nat):Bool:=(List.range ((h+1)*(w+1))).all fun c=>(List.range (w*h)).any fun k=>[0,1].all fun way=>decide ((c:Int)∈gPc w k way 0)||decide ((c:Int)∈gPc w k way 1)
theorem Zu6:([1,2,3,4].all fun w=>[1,2,3].all fun h=>gAll w h&&gUse w h)=true:=by decide +kernel
theorem g_nd:([1,2,3,4].all fun w=>[1,2,3].all fun h=>decide (gCs w h).Nodup)=true:=by decide +kernel
section
variable {w h:Nat} (hw:1≤w∧w≤4) (hh:1≤h∧h≤3)
include hw hh
theorem g_wh:gAll w h=true∧gUse w h=true∧(gCs w h).Nodup:=by
 have h1:w∈[1,2,3,4]:=by simp;omega
 have h2:h∈[1,2,3]:=by simp;omega
 have a:=n27_.mp (n27_.mp Zu6 w h1) h h2;have b:=n27_.mp (n27_.mp g_nd w h1) h h2;rw [n32_] at a;exact ⟨a.1,a.2,n30_ b⟩
theorem Zoc:4≤(h+1)*(w+1)∧(h+1)*(w+1)≤20∧1≤w*h∧w*h≤12:=by
 have h1:w=1∨w=2∨w=3∨w=4:=by omega
 have h2:h=1∨h=2∨h=3:=by omega
 rcases h1 with rfl|rfl|rfl|rfl<;>rcases h2 with rfl|rfl|rfl<;>decide
end
theorem Zeo (w h:Nat):(gCs w h).length=(h+1)*(w+1):=by simp [gCs]
def gG (w:Nat) (f:Nat→Nat) (i:Nat):List Int:=gPc w (i/2) (f (i/2)) (i % 2)
def gKl (w h:Nat) (f:Nat→Nat):List (List Int):=(List.range (2*(w*h))).map (gG w f)
theorem bit {n:Nat} (h:n=0∨n=1):n∈[0,1]:=by rcases h with rfl|rfl<;>simp
section
variable {w h:Nat} {f:Nat→Nat} (hw:1≤w∧w≤4) (hh:1≤h∧h≤3) (hf:∀ k,f k=0∨f k=1)
include hw hh hf
theorem Zu9 {i:Nat} (hi:i<2*(w*h)):gOne w h (i/2) (f (i/2)) (i % 2)=true:=by
 have a:=n27_.mp (n27_.mp (n27_.mp (g_wh hw hh).1 (i/2) (n26_.mpr (by omega))) _ (bit (hf (i/2)))) (i % 2) (bit (by omega));rw [n32_] at a;exact a.1
theorem Zuo {i j:Nat} (hi:i<2*(w*h)) (hj:j<2*(w*h)) (hij:i≠j):gG w f i≠gG w f j∧apart (trOf (gCs w h) (gG w f i)) (trOf (gCs w h) (gG w f j))=true:=by
 have a:=n27_.mp (n27_.mp (n27_.mp (g_wh hw hh).1 (i/2) (n26_.mpr (by omega))) _ (bit (hf (i/2)))) (i % 2) (bit (by omega));rw [n32_] at a;have b:=n27_.mp (n27_.mp (n27_.mp a.2 (j/2) (n26_.mpr (by omega))) _ (bit (hf (j/2)))) (j % 2) (bit (by omega));unfold gTwo at b;dsimp only at b;rw [if_neg (fun z=>z.2 (by rw [z.1])),if_neg (fun z=>hij (by omega)),n32_] at b;exact ⟨n30_ b.1,b.2⟩
theorem g_pc {i:Nat} (hi:i<2*(w*h)):PieceOk (gCs w h) (gG w f i)∧∀ j:Nat,j<(gCs w h).length→(j:Int)∉gG w f i→Zay ((gCs w h).getD j (0,0)) (trOf (gCs w h) (gG w f i))=false:=by
 have a:=Zu9 hw hh hf hi;unfold gOne at a;simp only [n32_] at a;obtain ⟨⟨⟨⟨a1,a2⟩,a3⟩,a4⟩,a5⟩:=a;refine ⟨⟨rfl,fun x hx=>?_,⟨n30_ a2,n30_ a3⟩,n30_ a4⟩,fun j hj nm=>?_⟩
 · have:=n27_.mp a1 x hx
   rw [n32_] at this;exact ⟨n30_ this.1,n30_ this.2⟩
 · have:=n27_.mp a5 j (n26_.mpr hj)
   rw [Bool.or_eq_true] at this
   rcases this with z|z
   · exact absurd (n30_ z) nm
   · rw [Bool.not_eq_true'] at z;exact z
theorem Zt0:(gKl w h f).Nodup:=by
 unfold gKl List.Nodup;rw [List.pairwise_map];refine List.Pairwise.imp_of_mem (fun {a b} ha hb hab=>?_) List.pairwise_lt_range;exact (Zuo hw hh hf (n26_.mp ha) (n26_.mp hb) (by omega)).1
theorem Zsb {q:List Nat} {ts:List Int} {l m:Int} (hq:q.Perm (List.range (gKl w h f).length)) (pw:(q.map fun i=>(gKl w h f).getD i []).Pairwise (fun a b=>HT.lexLt a b=true))
 (tl:ts.length=q.length) (t9:∀ t∈ts,1≤t∧t≤9) (l9:0≤l∧l≤9) (m9:1≤m∧m≤9):PlOk ⟨gCs w h,q.map fun i=>(gKl w h f).getD i [],ts,l,m⟩:=by
 obtain ⟨s1,s2,s3,s4⟩:=Zoc hw hh;have kl:(gKl w h f).length=2*(w*h):=by simp [gKl]
 rw [kl] at hq;have ql:q.length=2*(w*h):=by rw [hq.length_eq,n65_]
 have qm:∀ i∈q,i<2*(w*h):=fun i hi=>n26_.mp (hq.mem_iff.mp hi)
 have at':∀ i,i<2*(w*h)→(gKl w h f).getD i []=gG w f i:=fun i hi=>by
  unfold gKl;rw [n4_,n7_,List.getElem?_range hi];rfl
 have pm:∀ p∈q.map (fun i=>(gKl w h f).getD i []),∃ i,i<2*(w*h)∧p=gG w f i:=fun p hp=>by
  obtain ⟨i,hi,rfl⟩:=n29_.mp hp;exact ⟨i,qm i hi,at' i (qm i hi)⟩
 have qn:q.Nodup:=hq.nodup_iff.mpr List.nodup_range;refine ⟨by show 3≤(gCs w h).length;rw [Zeo];omega,by show (gCs w h).length≤30;rw [Zeo];omega,fun p hp=>?_,(g_wh hw hh).2.2,by show 1≤(q.map _).length;rw [n5_];omega,by show (q.map _).length≤40;rw [n5_];omega,fun p hp=>?_,fun i hi=>?_,by show ts.length=(q.map _).length;rw [n5_];exact tl,t9,l9,m9,?_,fun p hp=>?_,fun i j hij hj=>?_⟩
 · obtain ⟨i,hi,rfl⟩:=n29_.mp (show p∈(List.range ((h+1)*(w+1))).map (gPt w) from hp);have hi':=n26_.mp hi;have h1:i % (w+1)<w+1:=Nat.mod_lt _ (by omega);have h2:i/(w+1)<h+1:=Nat.div_lt_of_lt_mul (by rw [Nat.mul_comm];exact hi');unfold near gPt;dsimp only;generalize i % (w+1)=A at h1 ⊢;generalize i/(w+1)=B at h2 ⊢;omega
 · obtain ⟨i,hi,rfl⟩:=pm p hp;exact (g_pc hw hh hf hi).1
 · have hi':i+1<(q.map fun i=>(gKl w h f).getD i []).length:=hi;show HT.lexLt ((q.map fun i=>(gKl w h f).getD i []).getD i []) ((q.map fun i=>(gKl w h f).getD i []).getD (i+1) [])=true
   have:=n54_.mp pw i (i+1) (by omega) hi' (by omega)
   rw [n4_,n4_,n1_ (show i<(q.map fun i=>(gKl w h f).getD i []).length by omega),n1_ hi'];exact this
 · show cntS (q.map fun i=>(gKl w h f).getD i []).flatten=(gCs w h).length
   rw [Zeo];refine Zgq _ (fun x hx=>?_) (fun c hc=>?_)
   · obtain ⟨p,hp,hx⟩:=n74_.mp hx;obtain ⟨i,hi,rfl⟩:=pm p hp
     have:=(g_pc hw hh hf hi).1.bd x hx
     rw [Zeo] at this;omega
   · have u:=n27_.mp (g_wh hw hh).2.1 c (n26_.mpr hc);obtain ⟨k,hk,u⟩:=List.any_eq_true.mp u;have hk':=n26_.mp hk;have u:=n27_.mp u _ (bit (hf k));rw [Bool.or_eq_true] at u
     have key:∀ j,j<2→(c:Int)∈gPc w k (f k) j→(c:Int)∈(q.map fun i=>(gKl w h f).getD i []).flatten:=fun j hj hm=>by
      refine n74_.mpr ⟨gG w f (2*k+j),n29_.mpr ⟨2*k+j,hq.mem_iff.mpr (n26_.mpr (by omega)),at' _ (by omega)⟩,?_⟩;unfold gG;rw [show (2*k+j)/2=k by omega,show (2*k+j) % 2=j by omega];exact hm
     rcases u with u|u
     · exact key 0 (by decide) (n30_ u)
     · exact key 1 (by decide) (n30_ u)
 · obtain ⟨i,hi,rfl⟩:=pm p hp;exact (g_pc hw hh hf hi).2
 · have hj':j<q.length:=by simpa using hj
   show apart (trOf (gCs w h) ((q.map fun i=>(gKl w h f).getD i []).getD j [])) (trOf (gCs w h) ((q.map fun i=>(gKl w h f).getD i []).getD i []))=true
   rw [n4_,n4_,n7_,n7_,n1_ hj',n1_ (show i<q.length by omega)];show apart (trOf (gCs w h) ((gKl w h f).getD q[j] [])) (trOf (gCs w h) ((gKl w h f).getD q[i] []))=true
   rw [at' _ (qm _ (n43_ hj')),at' _ (qm _ (n43_ (show i<q.length by omega)))];refine (Zuo hw hh hf (qm _ (n43_ hj')) (qm _ (n43_ (show i<q.length by omega))) fun z=>?_).2
   have:=(n63_ (h₀:=hj') (h₁:=show i<q.length by omega) qn).mp z
   omega
end
end L2
namespace STb
open PySem
structure TW (bt:Bool) (t:SetTable):Prop where
 led:t.led = !bt
 ris:t.place.toList.Pairwise (·<·)
 dum:t.dummies=#[]
theorem Zdz {l:List Nat} (h:l.Pairwise (·<·)) {i j x y:Nat} (hi:l[i]? = some x) (hj:l[j]? = some y) (hij:i<j):x<y:=by
 obtain ⟨h1,rfl⟩:=n14_.mp hi;obtain ⟨h2,rfl⟩:=n14_.mp hj;exact n54_.mp h i j h1 h2 hij
theorem Zff {xs:Array Nat} {j:Nat} (hp:xs.toList.Pairwise (·<·)):∀ (fuel lo hi:Nat),hi-lo≤fuel→lo≤hi→hi≤xs.size→(∀ (i x:Nat),i<lo→xs.toList[i]? = some x→x<j)→(∀ (i x:Nat),hi≤i→xs.toList[i]? = some x→j≤x) →
 (∀ (i x:Nat),i<SetTable.below.go xs j fuel lo hi→xs.toList[i]? = some x→x<j)∧(∀ (i x:Nat),SetTable.below.go xs j fuel lo hi≤i→xs.toList[i]? = some x→j≤x)∧SetTable.below.go xs j fuel lo hi≤xs.size
 | 0,lo,hi,hf,hl,hz,h1,h2=>by
   have:hi=lo:=by omega
   subst this;exact ⟨h1,h2,hz⟩
 | fuel+1,lo,hi,hf,hl,hz,h1,h2=>by
   unfold SetTable.below.go
   by_cases c:lo<hi
   · rw [if_pos c];have m1:(lo+hi)/2<hi:=by omega
     have m2:lo≤(lo+hi)/2:=by omega
     generalize (lo+hi)/2=mid at m1 m2;have hm:mid<xs.size:=by omega
     have em:xs.toList[mid]? = some xs[mid]:=by rw [Array.getElem?_toList];exact Array.getElem?_eq_getElem hm
     have eg:xs.getD mid j=xs[mid]:=by simp [Array.getD,hm]
     dsimp only;rw [eg]
     by_cases c2:xs[mid]<j
     · rw [if_pos c2];refine Zff hp fuel (mid+1) hi (by omega) (by omega) hz (fun i x hi' e=>?_) h2
       by_cases ci:i=mid
       · subst ci;rw [em] at e;cases e;exact c2
       · have:=Zdz hp e em (by omega);omega
     · rw [if_neg c2];refine Zff hp fuel lo mid (by omega) m2 (by omega) h1 (fun i x hi' e=>?_)
       by_cases ci:i=mid
       · subst ci;rw [em] at e;cases e;omega
       · have:=Zdz hp em e (by omega);omega
   · rw [if_neg c]
     have:hi=lo:=by omega
     subst this;exact ⟨h1,h2,hz⟩
theorem Xw {xs:Array Nat} (j:Nat) (hp:xs.toList.Pairwise (·<·)):(∀ (i x:Nat),i<SetTable.below xs j→xs.toList[i]? = some x→x<j)∧(∀ (i x:Nat),SetTable.below xs j≤i→xs.toList[i]? = some x→j≤x)∧SetTable.below xs j≤xs.size :=
 Zff hp xs.size 0 xs.size (by omega) (by omega) (n10_ _) (fun i x h=>absurd h (by omega)) (fun i x h e=>by
  have:=(n14_.mp e).1
  rw [Array.length_toList] at this;omega)
theorem below_next {xs:Array Nat} (hp:xs.toList.Pairwise (·<·)) {k x:Nat} (e:xs.toList[k]? = some x):SetTable.below xs (x+1)=k+1:=by
 obtain ⟨h1,h2,h3⟩:=Xw (x+1) hp;have lk:=(n14_.mp e).1;rw [Array.length_toList] at lk
 by_cases c:SetTable.below xs (x+1)≤k
 · have:=h2 k x c e;omega
 · by_cases c2:k+1<SetTable.below xs (x+1)
   · have lt:k+1<xs.toList.length:=by rw [Array.length_toList];omega
     have e2:xs.toList[k+1]? = some xs.toList[k+1]:=n1_ lt;have a:=h1 (k+1) _ c2 e2;have b:=Zdz hp e e2 (by omega);omega
   · omega
theorem below_zero {xs:Array Nat} (hp:xs.toList.Pairwise (·<·)):SetTable.below xs 0=0:=by
 obtain ⟨h1,h2,h3⟩:=Xw 0 hp
 by_cases c:SetTable.below xs 0=0
 · exact c
 · have lt:0<xs.toList.length:=by rw [Array.length_toList];omega
   have:=h1 0 _ (by omega) (n1_ lt)
   omega
theorem Zhl {t:SetTable} {j:Nat} (hp:t.place.toList.Pairwise (·<·)) (h:t.slot j=.empty):j∉t.place.toList:=fun hm=>by
 obtain ⟨i,hi,e⟩:=n44_ hm;have e':t.place.toList[i]? = some j:=by rw [n1_ hi,e]
 obtain ⟨h1,h2,h3⟩:=Xw j hp
 have c1:SetTable.below t.place j≤i:=by
  by_cases c:i<SetTable.below t.place j
  · have:=h1 i j c e';omega
  · omega
 have c2:SetTable.below t.place j=i:=by
  by_cases c:SetTable.below t.place j=i
  · exact c
  · have lt:SetTable.below t.place j<t.place.toList.length:=by omega
    have e2:=n1_ lt;have a:=h2 _ _ (n10_ _) e2;have b:=Zdz hp e2 e' (by omega);omega
 have:t.place[SetTable.below t.place j]? = some j:=by rw [c2,← Array.getElem?_toList];exact e'
 unfold SetTable.slot at h;simp only [this,beq_self_eq_true,if_true] at h;cases h
theorem insertAt_list {α:Type} (xs:Array α) (p:Nat) (x:α):(SetTable.insertAt xs p x).toList=xs.toList.take p++x :: xs.toList.drop p:=by
 unfold SetTable.insertAt;simp [Array.toList_extract,List.extract_eq_take_drop];exact n70_ (by simp)
theorem TW.put {bt:Bool} {t:SetTable} {j:Nat} (w:TW bt t) (h:t.slot j=.empty):TW bt (t.put j).1:=by
 obtain ⟨h1,h2,h3⟩:=Xw j w.ris;have nj:=Zhl w.ris h;refine ⟨w.led,?_,?_⟩
 · show (SetTable.insertAt t.place (SetTable.below t.place j) j).toList.Pairwise (·<·)
   rw [insertAt_list,List.pairwise_append];refine ⟨w.ris.sublist (List.take_sublist ..),List.pairwise_cons.mpr ⟨fun y hy=>?_,w.ris.sublist (List.drop_sublist ..)⟩,fun a ha b hb=>?_⟩
   · obtain ⟨i,hi,e⟩:=n44_ hy;rw [List.getElem_drop] at e;have e':t.place.toList[SetTable.below t.place j+i]? = some y:=by rw [← e];exact n1_ _
     have:=h2 _ _ (Nat.le_add_right _ _) e'
     have:y≠j:=fun z=>nj (z ▸ n6_ e')
     omega
   · obtain ⟨i,hi,e⟩:=n44_ ha;rw [n57_] at hi;rw [List.getElem_take] at e;have e':t.place.toList[i]? = some a:=by rw [← e];exact n1_ _
     have aj:=h1 i a (by omega) e'
     rcases n11_.mp hb with rfl|hb
     · exact aj
     · obtain ⟨i2,hi2,e2⟩:=n44_ hb;rw [List.getElem_drop] at e2;have e2':t.place.toList[SetTable.below t.place j+i2]? = some b:=by rw [← e2];exact n1_ _
       have:=h2 _ _ (Nat.le_add_right _ _) e2'
       omega
 · have h2:SetTable.has t.dummies j=false:=by
    rw [w.dum];unfold SetTable.has;simp
   show (if SetTable.has t.dummies j=true then _ else t.dummies)=#[]
   rw [h2];exact w.dum
theorem TW.laid {bt:Bool} {mask finger moves:Nat} {led plain:Bool} {hs:Array Int} {t':SetTable} {order:Array Nat} (hl:led = !bt) (e:SetTable.laid mask finger moves led plain hs=some (t',order)):TW bt t':=by
 unfold SetTable.laid at e;cases q:SetTable.layClean mask hs with
 | none=>rw [q] at e;cases e
 | some owner =>
   rw [q] at e;have e:=Option.some.inj e;have e1:=(Prod.mk.inj e).1;rw [← e1];refine ⟨hl,?_,rfl⟩;show (List.map (·.1) (List.filterMap (fun j=>(owner.getD j none).map (j,·)) (List.range (mask+1)))).Pairwise (·<·)
   rw [List.map_filterMap];refine List.Pairwise.filterMap _ (fun a b hab x hx y hy=>?_) List.pairwise_lt_range
   have ex:x=a:=by
    cases z:owner.getD a none with
    | none=>simp [z] at hx
    | some i=>simp [z] at hx;exact hx.symm
   have ey:y=b:=by
    cases z:owner.getD b none with
    | none=>simp [z] at hy
    | some i=>simp [z] at hy;exact hy.symm
   rw [ex,ey];exact hab
end STb
namespace STb
open PySem
def vals (owner:Array (Option Nat)):List Nat:=owner.toList.filterMap id
theorem Zev (n:Nat):∀ (l:List (Option Nat)) (j:Nat),l[j]? = some none→((l.set j (some n)).filterMap id).Perm (n :: l.filterMap id)
 | [],j,h=>by simp at h
 | z :: l,0,h=>by
   have:z=none:=by simpa using h
   subst this;exact .refl _
 | none :: l,j+1,h=>Zev n l j (by simpa using h)
 | some k :: l,j+1,h=>((Zev n l j (by simpa using h)).cons k).trans (.swap ..)
theorem Zow {owner:Array (Option Nat)} {j n:Nat} (h:owner[j]? = some none):(vals (owner.setIfInBounds j (some n))).Perm (n :: vals owner):=by
 unfold vals;rw [Array.toList_setIfInBounds];exact Zev n _ j (by simpa using h)
theorem Zhd {M:Nat} (hm:masks M):∀ (hs:List Int) (n:Nat) (owner:Array (Option Nat)),Own M n owner→(vals owner).Perm (List.range n)→n+hs.length<M+1→∃ owner',hs.foldl (Ys M) (some (owner,n))=some (owner',n+hs.length)∧Own M (n+hs.length) owner'∧(vals owner').Perm (List.range (n+hs.length))
 | [],n,owner,o,p,_=>⟨owner,rfl,o,p⟩
 | h :: hs,n,owner,o,p,hl=>by
   rw [n18_] at hl;obtain ⟨j,r1,r2⟩:=o.free hm (by omega) h
   have e:Ys M (some (owner,n)) h=some (owner.setIfInBounds j (some n),n+1):=by
    unfold Ys;show (SetTable.layClean.free M owner (SetTable.turns M) (SetTable.bits h % (M+1)) (SetTable.bits h)).bind _=_
    rw [r1];rfl
   have p2:(vals (owner.setIfInBounds j (some n))).Perm (List.range (n+1)):=by
    rw [List.range_succ];exact (Zow r2).trans ((p.cons n).trans (List.perm_append_singleton n _).symm)
   obtain ⟨owner',e2,o2,p3⟩:=Zhd hm hs (n+1) _ (o.put r2) p2 (by omega);refine ⟨owner',?_,?_,?_⟩
   · rw [n73_,e,e2,n18_];congr 2;omega
   · rw [n18_,show n+(hs.length+1)=n+1+hs.length by omega];exact o2
   · rw [n18_,show n+(hs.length+1)=n+1+hs.length by omega];exact p3
theorem Zfm {M:Nat} (hm:masks M) (hs:Array Int) (hl:hs.size<M+1):∃ owner,SetTable.layClean M hs=some owner∧Own M hs.size owner∧(vals owner).Perm (List.range hs.size):=by
 obtain ⟨owner,e,o,p⟩:=Zhd hm hs.toList 0 _ (own0 M) (by
  unfold vals;rw [Array.toList_replicate,List.filterMap_eq_nil_iff.mpr fun x hx=>by rw [List.eq_of_mem_replicate hx];rfl];exact .refl _) (by simpa using hl)
 refine ⟨owner,?_,by simpa using o,by simpa using p⟩;unfold SetTable.layClean;rw [← Array.foldl_toList]
 have:(hs.toList.foldl (Ys M) (some (Array.replicate (M+1) none,0)))=some (owner,0+hs.toList.length):=e
 show (List.foldl (Ys M) (some (Array.replicate (M+1) none,0)) hs.toList).map (·.1)=some owner
 rw [this];rfl
theorem Zlr {M n:Nat} {owner:Array (Option Nat)} (o:Own M n owner):(List.map (·.2) ((List.range (M+1)).filterMap fun j=>(owner.getD j none).map (j,·)))=vals owner:=by
 have e2:owner.toList=(List.range owner.size).map (fun j=>owner.getD j none):=by
  refine n64_ (by simp) fun i h1 h2=>?_;have hi:i<owner.size:=by simpa using h1
  simp [Array.getD,hi]
 unfold vals;rw [e2,o.size,List.filterMap_map,List.map_filterMap];refine congrArg (fun f=>List.filterMap f (List.range (M+1))) (funext fun j=>?_);show Option.map (·.2) ((owner.getD j none).map (j,·))=owner.getD j none
 cases owner.getD j none<;>rfl
theorem relaid_perm {t:SetTable} {hs:Array Int} {wanted M:Nat} (hM:SetTable.sizeAbove wanted-1=M) (hm:masks M) (hl:hs.size<M+1):∃ (t':SetTable) (order:Array Nat),t.relaid hs wanted=some (t',order)∧t'.mask=M∧t'.dummies=#[]∧t'.place.size=hs.size∧t'.plain=t.plain∧order.toList.Perm (List.range hs.size):=by
 obtain ⟨owner,e,o,p⟩:=Zfm hm hs hl;unfold SetTable.relaid SetTable.laid;rw [hM,e];refine ⟨_,_,rfl,rfl,rfl,?_,rfl,?_⟩
 · simp only [n8_,n5_];exact Zo0 o
 · show (List.map (·.2) ((List.range (M+1)).filterMap fun j=>(owner.getD j none).map (j,·))).Perm _
   rw [Zlr o];exact p
structure TP (bt:Bool) (n:Nat) (t:SetTable):Prop where
 tw:TW bt t
 pl:t.plain=true
 msk:masks t.mask
 sz:t.place.size=n
 few:n*5<t.mask*3
theorem fits_of {t:SetTable} {n:Nat} (sz:t.place.size=n) (dum:t.dummies=#[]) (h:n≤t.mask):t.fits n=true:=by
 unfold SetTable.fits SetTable.fill;rw [dum,sz]
 simp
 exact h
theorem TP.fits {bt:Bool} {n:Nat} {t:SetTable} (w:TP bt n t):t.fits n=true:=fits_of w.sz w.tw.dum (by have:=w.few;omega)
theorem TP.fresh (bt:Bool):TP bt 0 (.fresh 0 0 (!bt)):=⟨⟨rfl,.nil,rfl⟩,rfl,.inl rfl,rfl,show 0*5<7*3 by decide⟩
end STb
namespace L2
open PySem PySem.Spec PyProof.Rows
def Y1 (w:World):Bool:=w.params.followText "set-order"
theorem Zkk:∀ {vs:List Value} {ns:List Int},IntsAre vs ns→vs.length=ns.length
 | _,_,.nil=>rfl
 | _,_,.cons n t r=>by simp [Zkk r]
section
variable {P:Program} {w:World} {bt:Bool} {A:Around} {E:Value→Shared→Prop} {s:Shared}
end
theorem Xy {α:Type}:∀ {l:List α} {i:Nat} (h:i<l.length),(l[i] :: l.eraseIdx i).Perm l
 | x :: l,0,h=>.refl _
 | x :: l,i+1,h=>(List.Perm.swap ..).trans ((Xy (l:=l) (i:=i) (by simpa using h)).cons x)
theorem Zog {α:Type} (next:Nat→Nat):∀ (fuel k:Nat) (left:List α) (out:Array α),left.length=fuel→(pickOrder.go next fuel k left out).toList.Perm (out.toList++left)
 | 0,k,left,out,h=>by
   have:left=[]:=List.eq_nil_of_length_eq_zero h
   subst this;unfold pickOrder.go
   simp
 | fuel+1,k,left,out,h=>by
   have hp:0<left.length:=by omega
   have hi:next k % left.length<left.length:=Nat.mod_lt _ hp
   unfold pickOrder.go;rw [n1_ hi];dsimp only;refine (Zog next fuel (k+1) _ _ (by rw [List.length_eraseIdx_of_lt hi];omega)).trans ?_;rw [Array.toList_push,n52_];exact List.Perm.append_left _ (Xy hi)
theorem Zfy {α:Type} (next:Nat→Nat) (xs:Array α):(pickOrder next xs).toList.Perm xs.toList:=by
 have:=Zog next xs.size 0 xs.toList #[] (by simp)
 simpa [pickOrder] using this
def Zam (w:World) (S:Addr) (ep:Nat) (es:Array (Int×Value)):List Value:=(if Y1 w=true then (pickOrder (w.params.setOrder S ep) es).toList else es.toList).map (·.2)
theorem Zgt (w:World) (S:Addr) (ep:Nat) (es:Array (Int×Value)):(Zam w S ep es).Perm (es.toList.map (·.2)):=by
 unfold Zam;split
 · exact (Zfy _ es).map _
 · exact .refl _
def Xn (w:World) (t:SetTable):Nat→Nat
 | 0=>0
 | i+1=>if Y1 w=true then 0 else t.place.getD i 0+1
theorem Zif {w:World} {t:SetTable} (h:Y1 w=true):∀ i,Xn w t i=0
 | 0=>rfl
 | i+1=>if_pos h
structure SetAt (w:World) (h:Heap) (S:Addr) (es:Array (Int×Value)) (ep:Nat) (t:SetTable):Prop where
 get:∃ o,h.get? S=some o∧o.ExactSet∧o.data=.set es ep t
 tp:STb.TP (Y1 w) es.size t
theorem SetAt.stay {w:World} {h h':Heap} {S:Addr} {es:Array (Int×Value)} {ep:Nat} {t:SetTable} (x:SetAt w h S es ep t) (e:∀ o,h.get? S=some o→h'.get? S=some o):SetAt w h' S es ep t:=⟨let ⟨o,a,b⟩:=x.get;⟨o,e _ a,b⟩,x.tp⟩
section
variable {P:Program} {w:World} {A:Around} {E:Value→Shared→Prop} {s:Shared}
theorem Zbk {Q:Bool→Shared→Prop} (h:Q (Y1 w) s):wpAny (model P w) A setsByText Q E s:=n0_ (wpAny_askSetting (n3_ h))
theorem Zb4 {S:Addr} {es:Array (Int×Value)} {ep:Nat} {t:SetTable} {Q:Array (Int×Value)→Shared→Prop} (x:SetAt w s.heap S es ep t) (ht:Y1 w=true) (h:Q (pickOrder (w.params.setOrder S ep) es) s):wpAny (model P w) A (setWalk S) Q E s:=by
 obtain ⟨o,g,ex,d⟩:=x.get;unfold setWalk;refine n0_ (wpAny_setState_of g d x.tp.fits ?_);dsimp only;refine n0_ (Zbk ?_);rw [ht];simp only [if_true];exact n0_ (wpAny_askSetting (n3_ h))
theorem Znu {S:Addr} {es:Array (Int×Value)} {ep i:Nat} {t:SetTable} {v:Value} {Q:Option (Value×Nat)→Shared→Prop} (x:SetAt w s.heap S es ep t) (hv:(Zam w S ep es)[i]? = some v) (h:Q (some (v,Xn w t (i+1))) s) :
 wpAny (model P w) A (setNext S (Xn w t i) i ep) Q E s:=by
 obtain ⟨o,g,ex,d⟩:=id x.get;unfold setNext;refine n0_ (wpAny_setState_of g d x.tp.fits ?_);dsimp only;refine n0_ (Zbk ?_);cases ht:Y1 w with
 | true =>
   simp only [if_true];rw [if_neg (by simp)];refine n0_ (Zb4 x ht (n3_ ?_));unfold Zam at hv;rw [if_pos ht,n7_,Array.getElem?_toList] at hv;cases q:(pickOrder (w.params.setOrder S ep) es)[i]? with
   | none=>rw [q] at hv;cases hv
   | some e =>
     rw [q] at hv;have hv:e.2=v:=by simpa using hv
     rw [Zif ht] at h ⊢;show Q (some (e.2,0)) s
     rw [hv];exact h
 | false =>
   simp only [n16_,if_false];rw [if_neg (by show ¬ ((!t.plain&&decide (es.size>1))=true);rw [x.tp.pl];simp)];have led:t.led=true:=by rw [x.tp.tw.led,ht];rfl
   refine n0_ ?_;show wpAny _ _ (if (!t.led&&!es.isEmpty)=true then _ else _) _ _ _
   rw [if_neg (by rw [led];simp)];refine n3_ (n3_ ?_)
   have hv':es[i]? = some (es.getD i default)∧(es.getD i default).2=v:=by
    unfold Zam at hv;rw [if_neg (by rw [ht];decide),n7_,Array.getElem?_toList] at hv;cases q:es[i]? with
    | none=>rw [q] at hv;cases hv
    | some e =>
      rw [q] at hv
      have:es.getD i default=e:=by rw [Array.getD_eq_getD_getElem?,q];rfl
      rw [this];exact ⟨rfl,by simpa using hv⟩
   have hi:i<t.place.size:=by
    rw [x.tp.sz];exact (Array.getElem?_eq_some_iff.mp hv'.1).1
   have ej:t.place[i]? = some (t.place.getD i 0):=by rw [Array.getD_eq_getD_getElem?,Array.getElem?_eq_getElem hi];rfl
   have eb:SetTable.below t.place (Xn w t i)=i:=by
    cases i with
    | zero=>exact STb.below_zero x.tp.tw.ris
    | succ k =>
      show SetTable.below t.place (if Y1 w=true then 0 else t.place.getD k 0+1)=k+1
      rw [if_neg (by rw [ht];decide)];have hk:k<t.place.size:=by omega
      refine STb.below_next x.tp.tw.ris ?_;rw [Array.getElem?_toList,Array.getD_eq_getD_getElem?,Array.getElem?_eq_getElem hk];rfl
   rw [eb,hv'.1,ej];show Q (some ((es.getD i default).2,t.place.getD i 0+1)) s
   rw [hv'.2]
   have:Xn w t (i+1)=t.place.getD i 0+1:=if_neg (by rw [ht];decide)
   rw [this] at h;exact h
theorem Zpt {S:Addr} {es:Array (Int×Value)} {ep:Nat} {t:SetTable} {Q:Option (Value×Nat)→Shared→Prop} (x:SetAt w s.heap S es ep t) (h:Q none s) :
 wpAny (model P w) A (setNext S (Xn w t es.size) es.size ep) Q E s:=by
 obtain ⟨o,g,ex,d⟩:=id x.get;unfold setNext;refine n0_ (wpAny_setState_of g d x.tp.fits ?_);dsimp only;refine n0_ (Zbk ?_);cases ht:Y1 w with
 | true =>
   simp only [if_true];rw [if_neg (by simp)];refine n0_ (Zb4 x ht (n3_ ?_))
   have:(pickOrder (w.params.setOrder S ep) es)[es.size]? = none:=by
    refine Array.getElem?_eq_none ?_
    have:=(Zfy (w.params.setOrder S ep) es).length_eq
    rw [Array.length_toList,Array.length_toList] at this;omega
   rw [this];exact h
 | false =>
   simp only [n16_,if_false];rw [if_neg (by show ¬ ((!t.plain&&decide (es.size>1))=true);rw [x.tp.pl];simp)];have led:t.led=true:=by rw [x.tp.tw.led,ht];rfl
   refine n0_ ?_;show wpAny _ _ (if (!t.led&&!es.isEmpty)=true then _ else _) _ _ _
   rw [if_neg (by rw [led];simp)];refine n3_ (n3_ ?_)
   have eb:es[SetTable.below t.place (Xn w t es.size)]? = none:=by
    have:SetTable.below t.place (Xn w t es.size)=es.size:=by
     have sz:=x.tp.sz;cases q:es.size with
     | zero=>exact STb.below_zero x.tp.tw.ris
     | succ k =>
       show SetTable.below t.place (if Y1 w=true then 0 else t.place.getD k 0+1)=k+1
       rw [if_neg (by rw [ht];decide)];have hk:k<t.place.size:=by omega
       refine STb.below_next x.tp.tw.ris ?_;rw [Array.getElem?_toList,Array.getD_eq_getD_getElem?,Array.getElem?_eq_getElem hk];rfl
    rw [this];exact Array.getElem?_eq_none (n10_ _)
   rw [eb];exact h
end
def IsSetIter (h:Heap) (I S:Addr) (n ep slot i:Nat):Prop:=∃ o,h.get? I=some o∧o.cls=.type "set_iterator" ∧ o.data=.fields #[.int slot 0,.int i 0,.ref S,.int n 0,.int ep 0]
theorem IsSetIter.typeIs {s:Shared} {I S:Addr} {n ep slot i:Nat} (x:IsSetIter s.heap I S n ep slot i):s.TypeIs (.ref I) "set_iterator" := let ⟨o,a,b,_⟩:=x;⟨o,a,b⟩
theorem IsSetIter.stay {h h':Heap} {I S:Addr} {n ep slot i:Nat} (x:IsSetIter h I S n ep slot i) (e:∀ o,h.get? I=some o→h'.get? I=some o):IsSetIter h' I S n ep slot i:=let ⟨o,a,r⟩:=x;⟨o,e _ a,r⟩
theorem Zb1:Slot "set" "__iter__" "set.__iter__" :=
 .of (owner := "set") (n := "__iter__") (by rw [typeLookup_type,builtinLookup_eq_fast];kernel_rfl) (by decide +kernel) (by decide +kernel) (by decide +kernel)
  (by first|exact .inl (by decide +kernel)|exact .inr (by decide +kernel)) (by rw [isSubtype_type];kernel_rfl)
theorem Yp:Slot "set_iterator" "__next__" "set_iterator.__next__" :=
 .of (owner := "set_iterator") (n := "__next__") (by rw [typeLookup_type,builtinLookup_eq_fast];kernel_rfl) (by decide +kernel) (by decide +kernel) (by decide +kernel)
  (by first|exact .inl (by decide +kernel)|exact .inr (by decide +kernel)) (by rw [isSubtype_type];kernel_rfl)
theorem Zaf:Slot "set_iterator" "__iter__" "set_iterator.__iter__" :=
 .of (owner := "set_iterator") (n := "__iter__") (by rw [typeLookup_type,builtinLookup_eq_fast];kernel_rfl) (by decide +kernel) (by decide +kernel) (by decide +kernel)
  (by first|exact .inl (by decide +kernel)|exact .inr (by decide +kernel)) (by rw [isSubtype_type];kernel_rfl)
theorem Ze9:entryFor table "set.__iter__" = some Builtin.«frozenset.__iter__»:=entryFor_alias (id' := "frozenset.__iter__") (by kernel_rfl) rfl (by decide +kernel) (by kernel_rfl)
theorem Zbs:entryFor table "set_iterator.__iter__" = some Builtin.«dict_keyiterator.__iter__»:=entryFor_alias (id' := "dict_keyiterator.__iter__") (by kernel_rfl) rfl (by decide +kernel) (by kernel_rfl)
theorem Zch (a:Value):argsOk "set_iterator.__iter__" ⟨[a],[]⟩:=by unfold argsOk;kernel_rfl
theorem Zbr:entryFor table "set_iterator.__next__" = some Builtin.«set_iterator.__next__»:=entryFor_of_fast (by kernel_rfl)
theorem Zf8 (a:Value):argsOk "set.__iter__" ⟨[a],[]⟩:=by unfold argsOk;kernel_rfl
theorem Zce (a:Value):argsOk "set_iterator.__next__" ⟨[a],[]⟩:=by unfold argsOk;kernel_rfl
section
variable {P:Program} {w:World} {A:Around} {E:Value→Shared→Prop} {s:Shared} {I S:Addr} {es:Array (Int×Value)} {ep i:Nat} {t:SetTable}
theorem SetAt.typeIs (x:SetAt w s.heap S es ep t):s.TypeIs (.ref S) "set" := let ⟨o,a,b,_⟩:=x.get;⟨o,a,b.1⟩
theorem SetAt.ents {Q:Array (Int×Value)→Shared→Prop} (x:SetAt w s.heap S es ep t) (h:Q es s):wpAny (model P w) A (setEntries S) Q E s:=by
 obtain ⟨o,g,ex,d⟩:=x.get;exact wpAny_setEntries_of g d x.tp.fits h
theorem Zop {Q:Value→Shared→Prop} (x:SetAt w s.heap S es ep t)
 (hQ:Q (.ref s.heap.objs.size) { s with heap:=s.heap.push { cls:=.type "set_iterator",data:=.fields #[.int (0:Nat) 0,.int (0:Nat) 0,.ref S,.int es.size 0,.int ep 0] } }) :
 wpAny (model P w) A (pyIter (.ref S)) Q E s:=by
 obtain ⟨o,g,ex,d⟩:=id x.get;refine wpAny_pyIter_slot x.typeIs Zb1 (wpAny_call_entry Zb1 x.typeIs Ze9 ?_ (Zf8 _));unfold Builtin.«frozenset.__iter__»;show wpAny _ _ (Builtin.Frozenset.sizeOf S >>= _) _ _ s
 unfold Builtin.Frozenset.sizeOf;refine n0_ (n0_ (x.ents (n3_ ?_)));refine n0_ ?_;unfold setDrawn;refine n0_ (wpAny_setState_of g d x.tp.fits ?_);dsimp only;refine n0_ (Zbk (n3_ ?_));have nd:(!Y1 w&&(!t.plain&&decide (es.size>1)))=false:=by rw [x.tp.pl];simp
 show wpAny _ _ (if (!Y1 w&&(!t.plain&&decide (es.size>1)))=true then _ else _) _ _ s
 rw [nd];simp only [n16_,if_false];refine n0_ (n3_ ?_);unfold setEpoch;refine n0_ (n0_ (wpAny_setState_of g d x.tp.fits (n3_ ?_)));exact n0_ (wpAny_newObj_type (n3_ ⟨_,rfl,"set_iterator",_,⟨_,n9_ _ rfl,rfl⟩,Yp.lookup,hQ⟩))
theorem Zm9 {Q:Value→Shared→Prop} {n slot:Nat} (hit:IsSetIter s.heap I S n ep slot i) (h:Q (.ref I) s):wpAny (model P w) A (pyIter (.ref I)) Q E s:=by
 refine wpAny_pyIter_slot hit.typeIs Zaf (wpAny_call_entry Zaf hit.typeIs Zbs ?_ (Zch _));show wpAny _ _ (ret (.ref I)) _ _ s
 exact n3_ ⟨_,rfl,"set_iterator",_,hit.typeIs,Yp.lookup,h⟩
theorem Zk5 {v:Value} {Q:Option Value→Shared→Prop} (hne:S≠I) (hit:IsSetIter s.heap I S es.size ep (Xn w t i) i) (x:SetAt w s.heap S es ep t) (hv:(Zam w S ep es)[i]? = some v)
 (hQ:∀ h',IsSetIter h' I S es.size ep (Xn w t (i+1)) (i+1)→Heap.SameBut I s.heap h'→Q (some v) { s with heap:=h' }):wpAny (model P w) A (pyNext (.ref I)) Q E s:=by
 obtain ⟨o,ho,hc,hd⟩:=id hit;unfold pyNext;refine n0_ (wpAny_attempt (wpAny_callSpecial?_slot (name:=Str.ofString "__next__") hit.typeIs Yp (wpAny_call_entry Yp hit.typeIs Zbr ?_ (Zce _))));unfold Builtin.«set_iterator.__next__»;refine n0_ (n3_ ?_);refine n0_ (wpAny_fieldsOf ho hd ?_);dsimp only;refine n0_ (x.ents ?_);rw [if_neg (by simp)];simp only [n59_];refine n0_ (Znu x hv ?_);dsimp only;refine n0_ (wpAny_setField ho hd (by simp) ?_);have hd1:=Obj.data_mapFields hd (·.setIfInBounds 0 (rawInt (Xn w t (i+1))));have ho1:=n48_ (Obj.mapFields (·.setIfInBounds 0 (rawInt (Xn w t (i+1))))) ho (Obj.isFreed_of_fields hd1);refine n0_ (wpAny_setField ho1 hd1 (by simp) ?_);have hd2:=Obj.data_mapFields hd1 (·.setIfInBounds 1 (rawInt ((i:Int)+1)));have ho2:=n48_ (Obj.mapFields (·.setIfInBounds 1 (rawInt ((i:Int)+1)))) ho1 (Obj.isFreed_of_fields hd2);refine n3_ ⟨v,rfl,n3_ (hQ _ ⟨_,ho2,?_,?_⟩ ((Heap.SameBut.update ..).trans (Heap.SameBut.update ..)))⟩
 · exact (Obj.cls_mapFields ..).trans ((Obj.cls_mapFields ..).trans hc)
 · rw [hd2];simp [rawInt]
theorem Zej {Q:Option Value→Shared→Prop} (hh:A.handled=none) (hit:IsSetIter s.heap I S es.size ep (Xn w t es.size) es.size) (x:SetAt w s.heap S es ep t)
 (hQ:∀ h',Heap.ExtBut I s.heap h'→Q none { s with heap:=h' }):wpAny (model P w) A (pyNext (.ref I)) Q E s:=by
 obtain ⟨o,ho,hc,hd⟩:=id hit;unfold pyNext;refine n0_ (wpAny_attempt (wpAny_callSpecial?_slot (name:=Str.ofString "__next__") hit.typeIs Yp (wpAny_call_entry Yp hit.typeIs Zbr ?_ (Zce _))));unfold Builtin.«set_iterator.__next__»;refine n0_ (n3_ ?_);refine n0_ (wpAny_fieldsOf ho hd ?_);dsimp only;refine n0_ (x.ents ?_);rw [if_neg (by simp)];simp only [n59_];refine n0_ (Zpt x ?_);dsimp only;refine n0_ (wpAny_setField ho hd (by simp) ?_);show wpAny _ _ (newExc (.type "StopIteration") [] >>= _) _ _ _
 refine n0_ ?_;simp only [newExc,newTuple];refine n0_ (wpAny_newObj_type ?_ (by size_fits));refine n0_ (m:=firstArgMember _ _) (wpAny_of_eq (a:=Value.none) (by first|rfl|(simp only [firstArgMember];rfl)) ?_);refine wpAny_newObj_type ?_ (by size_fits);simp only [raiseNew];refine n0_ (wpAny_handled ?_);rw [show A.in1.handled=none from hh];refine n0_ (n3_ (wpAny_throw ?_));refine n0_ (wpAny_isInstance (T := "StopIteration") (b:=true) ⟨_,n9_ _ rfl,rfl⟩ isSubtype_stop ?_);exact n3_ (hQ _ (((Heap.SameBut.update ..).extBut.push _).push _))
end
section
variable {P:Program} {w:World} {A:Around} {E:Value→Shared→Prop} {s:Shared} {S:Addr} {es:Array (Int×Value)} {ep:Nat} {t:SetTable}
theorem Zjd:(Zam w S ep es).length=es.size:=by rw [(Zgt w S ep es).length_eq,n5_,Array.length_toList]
theorem Zml (hh:A.handled=none) (I:Addr) (hne:S≠I) :
 Walks P w A I [I,S] [I] es.size (fun i v=>(Zam w S ep es)[i]? = some v) (fun i h=>IsSetIter h I S es.size ep (Xn w t i) i∧SetAt w h S es ep t) where
 sub:=fun b hb=>by simp at hb;simp [hb]
 frame:=fun _ _ _ st hk=>⟨st.1.stay fun o e=>hk I (by simp) o e,st.2.stay fun o e=>hk S (by simp) o e⟩
 item:=fun i s Q E hi st hQ=>by
  have hl:i<(Zam w S ep es).length:=by rw [Zjd];exact hi
  have hv:=n1_ hl;exact Zk5 hne st.1 st.2 hv fun h' hit' hs'=>hQ _ h' s.toks hv ⟨hit',st.2.stay fun o e=>(hs'.2 S hne).trans e⟩ fun b o hb e=>(hs'.2 b (fun z=>hb (by simp [z]))).trans e
 done:=fun s Q E st hQ=>Zej hh st.1 st.2 fun h' he'=>hQ h' s.toks fun b o hb e=>he' b o (fun z=>hb (by simp [z])) e
 self:=fun _ _ _ _ st hQ=>Zm9 st.1 hQ
theorem Zsn:typeLookup (.type "set") "__len__" = pure (some (.builtin "set.__len__")):=by rw [typeLookup_type,builtinLookup_eq_fast];kernel_rfl
theorem Zk3 {vs:List Value} {acc:Array Value} (h:ItemsOf (fun i v=>vs[i]? = some v) acc vs.length):acc.toList=vs:=by
 refine List.ext_getElem? fun j=>?_;rw [Array.getElem?_toList];cases e:acc[j]? with
 | some v=>exact (h.2 j v e).symm
 | none =>
   have:vs.length≤j:=by
    have:=Array.getElem?_eq_none_iff.mp e
    rw [h.1] at this;exact this
   exact (List.getElem?_eq_none this).symm
set_option maxHeartbeats 4000000 in
end
end L2
namespace L2
open PySem PySem.Spec PyProof.Rows PySem.W
theorem Zp1:typeLookup (.type "dict") "__len__" = pure (some (.builtin "dict.__len__")):=by rw [typeLookup_type,builtinLookup_eq_fast];kernel_rfl
section
variable {P:Program} {w:World} {A:Around} {E:Value→Shared→Prop} {s:Shared} {S:Addr}
theorem Zba {T:String} {vs:List Value} {it0:Obj} {St:Addr→Nat→Heap→Prop} {Q:List Value→Shared→Prop} (hh:A.handled=none) (hTT:T = "set" ∨ T = "dict") (x:s.TypeIs (.ref S) T) (hn:vs.length≤sizeLine)
 (iter:∀ (A:Around) (s1:Shared) (Q:Value→Shared→Prop) (E:Value→Shared→Prop),(∀ o,s.heap.get? S=some o→s1.heap.get? S=some o)→Q (.ref s1.heap.objs.size) { s1 with heap:=s1.heap.push it0 }→wpAny (model P w) A (pyIter (.ref S)) Q E s1) (hf:it0.isFreed=false)
 (W:∀ (A:Around) (I:Addr),A.handled=none→S≠I→Walks P w A I [I,S] [I] vs.length (fun i v=>vs[i]? = some v) (St I))
 (st0:∀ (h:Heap) (I:Addr),h.get? I=some it0→(∀ o,s.heap.get? S=some o→h.get? S=some o)→St I 0 h)
 (h:∀ h' tk,(∀ b o,s.heap.get? b=some o→h'.get? b=some o)→s.heap.objs.size≤h'.objs.size→Q vs { s with heap:=h',toks:=tk }):wpAny (model P w) A (collect (.ref S)) Q E s:=by
 obtain ⟨oS,gS,cS⟩:=id x;have hSz:S<s.heap.objs.size:=n13_ gS;unfold collect;refine n0_ (wpAny_runValue (codeAny_builtin F.entry_proto_collect ?_));rw [Around.under_plainId F.plain_proto_collect _];show wpAny _ A.in1 (newList [] >>= fun l=>again (.builtin "list.__iadd__" ⟨[l,.ref S],[]⟩)) _ _ s
 refine n0_ (wpAny_newObj_type ?_);refine n3_ ⟨plainId_quiet F.plain_list_iadd _,codeAny_builtin F.entry_list_iadd ?_⟩;rw [Around.under_plainId F.plain_list_iadd _];generalize hs1:({ s with heap:=s.heap.push { cls:=.type "list",data:=.seq ([]:List Value).toArray } }:Shared)=s1;have k1:∀ b o,s.heap.get? b=some o→s1.heap.get? b=some o:=fun b o e=>by rw [← hs1];exact n2_ _ e
 have x1:s1.TypeIs (.ref S) T:=⟨oS,k1 _ _ gS,cS⟩;have g1:s1.heap.get? s.heap.objs.size=some { cls:=.type "list",data:=.seq ([]:List Value).toArray }:=by rw [← hs1];exact n9_ _ rfl
 have z1:s1.heap.objs.size=s.heap.objs.size+1:=by rw [← hs1];exact n42_ ..
 show wpAny _ A.in1 (Builtin.List.listExtendWith (.ref s.heap.objs.size) (.ref S) (.ref s.heap.objs.size)) _ _ s1
 unfold Builtin.List.listExtendWith;refine n0_ (wpAny_typeOf x1 ?_);have h1:Builtin.List.listSameRef (.ref s.heap.objs.size) (.ref S)=false:=by simp [Builtin.List.listSameRef,n61_ hSz]
 have h2:(Value.type T == Value.type "list")=false:=by rcases hTT with rfl|rfl<;>decide
 have h3:(Value.type T == Value.type "tuple")=false:=by rcases hTT with rfl|rfl<;>decide
 simp only [h1,h2,h3,Bool.or_false,n16_,if_false];refine n0_ (iter _ s1 _ _ (fun o e=>k1 _ _ e) ?_);generalize hs2:({ s1 with heap:=s1.heap.push it0 }:Shared)=s2;have k2:∀ b o,s.heap.get? b=some o→s2.heap.get? b=some o:=fun b o e=>by rw [← hs2];exact n2_ _ (k1 b o e)
 have x2:s2.TypeIs (.ref S) T:=⟨oS,k2 _ _ gS,cS⟩;have it2:s2.heap.get? (s.heap.objs.size+1)=some it0:=by rw [← hs2,← z1];exact n9_ _ hf
 have g2:s2.heap.get? s.heap.objs.size=some { cls:=.type "list",data:=.seq ([]:List Value).toArray }:=by rw [← hs2];exact n2_ _ g1
 refine n0_ (n36_ ?_);unfold Builtin.List.listLengthHint;have lk:typeLookup (.type T) "__len__" = pure (some (.builtin (T ++ ".__len__"))):=by rcases hTT with rfl|rfl<;>first|exact Zsn|exact Zp1
 have hsp:splitId (T ++ ".__len__")=some (T,"__len__"):=by rcases hTT with rfl|rfl<;>decide +kernel
 have sub:isSubtype (.type T) (.type T)=pure true:=by rcases hTT with rfl|rfl<;>first|exact sub_set_self|exact sub_dict_self
 refine n0_ (wpAny_specialOf x2 lk ?_);dsimp only;rw [hsp];dsimp only;refine n0_ (wpAny_isInstance (b:=true) x2 sub ?_);simp only [Bool.not_true,n16_,if_false];rw [if_pos (by rcases hTT with rfl|rfl<;>decide +kernel)];refine n0_ (wpAny_typeOf x2 ?_);dsimp only;refine n3_ ?_;rw [if_pos (by rcases hTT with rfl|rfl<;>decide +kernel)];refine n0_ (wpAny_rule ?_);refine n0_ ?_;show wpAny _ A.in1 (updateSeq s.heap.objs.size (·.push .none) >>= fun _=>updateSeq s.heap.objs.size (·.pop)) _ _ _
 refine n0_ (wpAny_updateSeq g2 rfl ?_);have g3:=n48_ (Obj.mapSeq (·.push Value.none)) g2 rfl;refine wpAny_updateSeq g3 rfl ?_;have g4:=n48_ (Obj.mapSeq (·.pop)) g3 rfl
 have oth:∀ b o,b≠s.heap.objs.size→s2.heap.get? b=some o→((s2.heap.update s.heap.objs.size (Obj.mapSeq (·.push Value.none))).update s.heap.objs.size (Obj.mapSeq (·.pop))).get? b=some o :=
  fun b o hb e=>(n60_ _ _ (Ne.symm hb)).trans ((n60_ _ _ (Ne.symm hb)).trans e)
 rw [z1];have hne:S≠s.heap.objs.size+1:=n24_ (n49_ hSz);have W2:=(W A.in1 (s.heap.objs.size+1) (by simp [hh]) hne).toS
 have hSf:s.heap.objs.size∉[s.heap.objs.size+1,S]:=by
  simp only [n11_,n12_,or_false,not_or];exact ⟨n24_ (n80_ _),n61_ hSz⟩
 refine n3_ ⟨plainId_quiet F.plain_extend_loop _,codeAny_extend_loopS W2 hn _ hSf _ vs.length 0 _ _ _ rfl (n51_ _)
  (st0 _ _ (oth _ _ (n61_ (n80_ _)) it2) fun o e=>oth _ o (n24_ hSz) (k2 _ _ e)) g4 (ItemsOf.nil _) fun s' acc' c' hm hS' hacc=>?_⟩
 show wpAny _ A (load s.heap.objs.size >>= _) _ _ s'
 refine n0_ (wpAny_load hS' ?_);have ea:=Zk3 hacc;have em:=hm.eq_with;rw [em];show wpAny _ _ (pure acc'.toList) _ _ _
 rw [ea];refine n3_ ?_;subst hs2;subst hs1;refine h _ _ (fun b o e=>?_) ?_
 · have lb:=n13_ e;exact hm.heap b o (by simp only [n11_,n12_,or_false,not_or];exact ⟨n24_ lb,n24_ (n49_ lb)⟩) (oth b o (n24_ lb) (k2 b o e))
 · exact Nat.le_of_lt (n13_ hS')
theorem Zd8 {es:Array DictEntry} {ep:Nat} (A:Around) (I:Addr) (hh:A.handled=none) (hne:S≠I) :
 Walks P w A I [I,S] [I] (es.toList.map (·.key)).length (fun i v=>(es.toList.map (·.key))[i]? = some v) (fun i h=>h.IsKeyIter I S i es.size ep∧EntAt h S es ep) where
 sub:=fun b hb=>by simp at hb;simp [hb]
 frame:=fun _ _ _ st hk=>⟨st.1.at fun o e=>hk I (by simp) o e,st.2.at fun o e=>hk S (by simp) o e⟩
 item:=fun i s Q E hi st hQ=>by
  have hl:i<es.size:=by simpa using hi
  refine Zpc st.1 st.2 (Array.getElem?_eq_getElem hl) fun h' hit' hs'=>?_;exact hQ _ h' s.toks (by simp [hl]) ⟨hit',st.2.at fun o e=>(hs'.2 S hne).trans e⟩ fun b o hb e=>(hs'.2 b (fun z=>hb (by simp [z]))).trans e
 done:=fun s Q E st hQ=>by
  have e:(es.toList.map (·.key)).length=es.size:=by simp
  rw [e] at st;exact Zsg hh st.1 st.2 (Array.getElem?_eq_none (n10_ _)) fun h' he'=>hQ h' s.toks fun b o hb e=>he' b o (fun z=>hb (by simp [z])) e
 self:=fun _ _ _ _ st hQ=>wpAny_pyIter_keyiter st.1 hQ
theorem Zhp {vs:List Value} {Q:Value→Shared→Prop} (good:List Nat→Prop) (g1:vs.length<2→good (List.range vs.length)) (h64:vs.length<64)
 (coll:∀ Q:List Value→Shared→Prop,(∀ h' tk,(∀ b o,s.heap.get? b=some o→h'.get? b=some o)→s.heap.objs.size≤h'.objs.size→Q vs { s with heap:=h',toks:=tk })→wpAny (model P w) A.in1 (collect (.ref S)) Q (fun _ _=>False) s)
 (ask:2≤vs.length→∀ h1 tk,(∀ b u,s.heap.get? b=some u→h1.get? b=some u)→wpAny (model P w) A.in1.in1 (keyKind' vs.toArray) (fun κ s1=>s1={ s with heap:=h1,toks:=tk }∧(kas_sort vs.length).kasWp (kas_ask P w A.in1.in1 κ vs) (fun p s2=>s2={ s with heap:=h1,toks:=tk }∧good p.toList) s1) (fun _ _=>False) { s with heap:=h1,toks:=tk })
 (h:∀ (p:List Nat) (L:Addr) (h':Heap) (tk e:Nat),good p→s.heap.objs.size≤L→(∀ b o,s.heap.get? b=some o→h'.get? b=some o)→h'.get? L=some (seqObj "list" (p.map fun i=>vs.getD i Value.none).toArray e)→Q (.ref L) { s with heap:=h',toks:=tk }) :
 wpAny (model P w) A (call (.builtin "sorted") [.ref S]) Q E s:=by
 refine Calls.call_function_entry kind_sorted plain_sorted entry_sorted (args_sorted1 _) ?_;unfold Builtin.«sorted»;refine n0_ (m:=checkCount "sorted" 1 1 _) (n3_ ?_);refine n0_ (n46_ (coll _ fun h' tk keep le=>?_) (fun _ _ z=>z) fun _ _ z=>z.elim);refine n0_ (wpAny_newList ?_ (by rw [sizeLine_eq];omega));have oL:(h'.push (seqObj "list" vs.toArray 0)).get? h'.objs.size=some (seqObj "list" vs.toArray 0):=n9_ _ rfl;refine n0_ (n36_ (wpAny_call_entry (s:={ s with heap:=h'.push (seqObj "list" vs.toArray 0),toks:=tk }) slot_list_sort ⟨_,oL,rfl⟩ entry_list_sort (Zrf (s:={ s with heap:=h'.push (seqObj "list" vs.toArray 0),toks:=tk }) good g1 oL h64 (fun h2 h1 k1=>ask h2 h1 tk fun b u e=>k1 b u (n24_ (n13_ (keep b u e))) (n2_ _ (keep b u e))) fun p gp=>⟨_,rfl,?_⟩) (args_list_sort _)));obtain ⟨e,he⟩:=sortedHeap_at (out:=(p.map fun i=>vs.getD i Value.none).toArray) oL;refine n3_ ⟨_,rfl,h p _ _ _ e gp le (fun b o eb=>?_) he⟩;have hk:=keep b o eb;have hlt:=n13_ hk;rw [sortedHeap_old (n24_ hlt) (by rw [n42_];exact n49_ hlt)];exact n2_ _ hk
end
end L2
namespace STb
open PySem
theorem Zf9 {t u:SetTable} (h:u.mask=t.mask) (p:SetTable.Probe):u.advance p=t.advance p:=by
 unfold SetTable.advance;rw [h]
theorem Zj1 {t u:SetTable} (h:u.mask=t.mask):∀ (n:Nat) (p:SetTable.Probe),adv u n p=adv t n p
 | 0,_=>rfl
 | n+1,p=>by show adv u n (u.advance p)=adv t n (t.advance p);rw [Zf9 h,Zj1 h n]
theorem Zkw {t u:SetTable} (h:u.mask=t.mask) (x:Int):u.probeStart x=t.probeStart x:=by
 unfold SetTable.probeStart;rw [h]
theorem Zfh (t:SetTable) (n:Nat) (p:SetTable.Probe):adv t (n+1) p=t.advance (adv t n p):=Zfk t n 1 p
def look (t:SetTable) (h:Int) (n:Nat):Nat:=(adv t n (t.probeStart h)).j
theorem Zhg {t u:SetTable} (e:u.mask=t.mask) (h:Int) (n:Nat):look u h n=look t h n:=by
 unfold look;rw [Zkw e,Zj1 e]
def Rch (t:SetTable) (h:Int) (j:Nat):Prop:=∃ m,m<10*SetTable.turns t.mask∧look t h m=j∧∀ m',m'<m→look t h m'∈t.place.toList
def RE {α:Type} (t:SetTable) (es:Array (Int×α)):Prop:=∀ (i:Nat) (e:Int×α) (j:Nat),es[i]? = some e→t.place[i]? = some j→Rch t e.1 j
def Trail (t:SetTable) (h:Int) (N:Nat→Prop) (m:Nat):Prop:=∀ m',m'<m→∃ i,t.place[i]? = some (look t h m')∧N i
theorem go_trail {t:SetTable} {f:Nat→Int} {h:Int} {N:Nat→Prop} (hd:t.dummies=#[]) (hN:∀ i,(f i == h)=false→N i):∀ (n fuel m:Nat),Trail t h N m→Near t n (adv t m (t.probeStart h))→n<fuel →
 (∃ m1,m1≤m+n∧SetTable.probe.go t f h fuel (adv t m (t.probeStart h))=some (.empty (look t h m1) none)∧t.slot (look t h m1)=.empty∧Trail t h N m1) ∨
 (∃ i m1,SetTable.probe.go t f h fuel (adv t m (t.probeStart h))=some (.candidate (look t h m1) i (adv t (m1+1) (t.probeStart h)))∧t.slot (look t h m1)=.live i∧t.place[i]? = some (look t h m1)∧(N i→Trail t h N (m1+1))∧∃ n',n'<n∧m1+1+n'≤m+n∧Near t n' (adv t (m1+1) (t.probeStart h)))
 | n,0,m,_,_,hf=>by omega
 | n,fuel+1,m,ht,⟨k0,hk0,e⟩,hf=>by
   have hp:(adv t m (t.probeStart h)).dummy=none:=(Zgb t m _).trans rfl
   rcases Zlk (j:=(adv t m (t.probeStart h)).j) hd with hs|⟨i,hs,hi⟩
   · left
     refine ⟨m,by omega,?_,hs,ht⟩;unfold SetTable.probe.go;rw [hs,hp];rfl
   · have hm0:k0≠0:=by
      rintro rfl
      have:t.slot (adv t m (t.probeStart h)).j=.empty:=e
      rw [hs] at this;cases this
     obtain ⟨k,rfl⟩:∃ k,k0=k+1:=⟨k0-1,by omega⟩;have e':t.slot (adv t k (adv t (m+1) (t.probeStart h))).j=.empty:=by rw [Zfh];exact e
     have tr:N i→Trail t h N (m+1):=fun ni m' hm'=>by
      by_cases c:m'=m
      · subst c;exact ⟨i,hi,ni⟩
      · exact ht m' (by omega)
     by_cases hc:(f i == h)=true
     · right
       refine ⟨i,m,?_,hs,hi,tr,n-1,by omega,by omega,k,by omega,e'⟩;unfold SetTable.probe.go;rw [hs];simp only [hc,if_true];rw [Zfh];rfl
     · have:=go_trail (f:=f) (h:=h) hd hN (n-1) fuel (m+1) (tr (hN i (by simpa using hc))) ⟨k,by omega,e'⟩ (by omega)
       have eq:SetTable.probe.go t f h (fuel+1) (adv t m (t.probeStart h))=SetTable.probe.go t f h fuel (adv t (m+1) (t.probeStart h)):=by
        conv=>lhs;unfold SetTable.probe.go
        rw [hs,Zfh];simp only [hc,if_false];rfl
       rw [eq]
       rcases this with ⟨m1,a,b,c,d⟩|⟨i',m1,r1,r2,r3,r4,n',r5,r6,r7⟩
       · exact .inl ⟨m1,by omega,b,c,d⟩
       · exact .inr ⟨i',m1,r1,r2,r3,r4,n',by omega,by omega,r7⟩
theorem trail_end {t:SetTable} {h:Int} {N:Nat→Prop} {m j i:Nat} (hp:t.place.toList.Pairwise (·<·)) (tr:Trail t h N m) (em:t.slot (look t h m)=.empty) (r:Rch t h j) (hi:t.place[i]? = some j):N i:=by
 obtain ⟨k,_,ek,hk⟩:=r;have nm:=Zhl hp em;have mj:j∈t.place.toList:=by simpa using Array.mem_of_getElem? hi
 have lt:k<m:=by
  rcases Nat.lt_trichotomy k m with c|c|c
  · exact c
  · subst c;rw [ek] at nm;exact (nm mj).elim
  · exact (nm (hk m c)).elim
 obtain ⟨i',e',ni⟩:=tr k lt;rw [ek] at e'
 have:i'=i:=by
  rcases Nat.lt_trichotomy i' i with c|c|c
  · have:=Zdz hp (by rw [Array.getElem?_toList];exact e') (by rw [Array.getElem?_toList];exact hi) c;omega
  · exact c
  · have:=Zdz hp (by rw [Array.getElem?_toList];exact hi) (by rw [Array.getElem?_toList];exact e') c;omega
 exact this ▸ ni
theorem trail_rch {t:SetTable} {h:Int} {N:Nat→Prop} {m:Nat} (hm:m<10*SetTable.turns t.mask) (tr:Trail t h N m):Rch t h (look t h m) :=
 ⟨m,hm,rfl,fun m' c=>by obtain ⟨i,e,_⟩:=tr m' c;simpa using Array.mem_of_getElem? e⟩
theorem Rch.more {t u:SetTable} {h:Int} {j:Nat} (r:Rch t h j) (e:u.mask=t.mask) (hs:∀ x∈t.place.toList,x∈u.place.toList):Rch u h j:=by
 obtain ⟨m,a,b,c⟩:=r;exact ⟨m,by rw [e];exact a,by rw [Zhg e];exact b,fun m' hm=>by rw [Zhg e];exact hs _ (c m' hm)⟩
theorem Zgz {α β:Type} {xs:Array α} {ys:Array β} {p i:Nat} {x:α} {y:β} {a:α} {b:β} (hl:xs.size=ys.size) (hp:p≤xs.size) (ha:(SetTable.insertAt xs p x)[i]? = some a) (hb:(SetTable.insertAt ys p y)[i]? = some b) :
 (i=p∧a=x∧b=y)∨∃ i':Nat,xs[i']? = some a∧ys[i']? = some b:=by
 rw [← Array.getElem?_toList,insertAt_list] at ha hb;have l1:(xs.toList.take p).length=p:=by rw [n57_,Array.length_toList];omega
 have l2:(ys.toList.take p).length=p:=by rw [n57_,Array.length_toList];omega
 rcases Nat.lt_trichotomy i p with c|c|c
 · right
   refine ⟨i,?_,?_⟩
   · rw [n47_ (by omega),List.getElem?_take_of_lt c] at ha;simpa using ha
   · rw [n47_ (by omega),List.getElem?_take_of_lt c] at hb;simpa using hb
 · left
   subst c;rw [n41_ (by omega),l1] at ha;rw [n41_ (by omega),l2] at hb;simp at ha hb;exact ⟨rfl,ha.symm,hb.symm⟩
 · right
   obtain ⟨k,rfl⟩:∃ k,i=p+1+k:=⟨i-p-1,by omega⟩;refine ⟨p+k,?_,?_⟩
   · rw [n41_ (by omega),l1,show p+1+k-p=k+1 by omega,n76_,List.getElem?_drop] at ha;simpa using ha
   · rw [n41_ (by omega),l2,show p+1+k-p=k+1 by omega,n76_,List.getElem?_drop] at hb;simpa using hb
theorem Zpf {xs:Array Nat} (j:Nat) (hp:xs.toList.Pairwise (·<·)):SetTable.below xs j≤xs.size:=(Xw j hp).2.2
theorem RE.put {α:Type} {t:SetTable} {es:Array (Int×α)} {h:Int} {x:α} {j:Nat} (r:RE t es) (hp:t.place.toList.Pairwise (·<·)) (sz:t.place.size=es.size) (rj:Rch t h j):RE (t.put j).1 (SetTable.insertAt es (t.put j).2 (h,x)):=by
 have sub:∀ y∈t.place.toList,y∈(t.put j).1.place.toList:=fun y hy=>by
  show y∈(SetTable.insertAt t.place (SetTable.below t.place j) j).toList
  rw [insertAt_list,n28_,n11_];rw [← List.take_append_drop (SetTable.below t.place j) t.place.toList,n28_] at hy
  rcases hy with hy|hy
  · exact .inl hy
  · exact .inr (.inr hy)
 intro i e k he hk
 rcases Zgz (xs:=es) (ys:=t.place) sz.symm (by rw [← sz];exact Zpf j hp) he hk with ⟨_,a,b⟩|⟨i',a,b⟩
 · subst a;subst b;exact rj.more rfl sub
 · exact (r i' e k a b).more rfl sub
theorem Zqm (t:SetTable):∀ (k:Nat) (p:SetTable.Probe),k≤p.more→(adv t k p).j=p.j+k∧(adv t k p).more=p.more-k
 | 0,p,_=>⟨rfl,rfl⟩
 | k+1,p,h=>by
   have e:t.advance p={ p with j:=p.j+1,more:=p.more-1 }:=by
    unfold SetTable.advance;rw [if_pos (by omega)]
   show (adv t k (t.advance p)).j=_∧(adv t k (t.advance p)).more=_
   rw [e];obtain ⟨a,b⟩:=Zqm t k { p with j:=p.j+1,more:=p.more-1 } (by show k≤p.more-1;omega);exact ⟨by rw [a];show p.j+1+k=_;omega,by rw [b];show p.more-1-k=_;omega⟩
theorem Zj4 {M i:Nat} (h:i≤M):SetTable.runEnd M i≤M:=by unfold SetTable.runEnd;split<;>omega
theorem Znn (M i:Nat):i≤SetTable.runEnd M i:=by unfold SetTable.runEnd;split<;>omega
theorem Zqj (t:SetTable):∀ (n:Nat) (p:SetTable.Probe),p.j+p.more≤t.mask→(adv t n p).j+(adv t n p).more≤t.mask
 | 0,p,h=>h
 | n+1,p,h=>by
   refine Zqj t n (t.advance p) ?_;unfold SetTable.advance
   by_cases c:p.more>0
   · rw [if_pos c];show p.j+1+(p.more-1)≤_;omega
   · rw [if_neg c]
     have:(p.i*5+1+p.perturb/32) % (t.mask+1)≤t.mask:=Nat.le_of_lt_succ (Nat.mod_lt _ (Nat.succ_pos _))
     show (p.i*5+1+p.perturb/32) % (t.mask+1)+(SetTable.runEnd t.mask ((p.i*5+1+p.perturb/32) % (t.mask+1))-(p.i*5+1+p.perturb/32) % (t.mask+1))≤t.mask
     have r1:=Zj4 this;have r2:=Znn t.mask ((p.i*5+1+p.perturb/32) % (t.mask+1));omega
theorem Zry (t:SetTable) (h:Int) (n:Nat):look t h n≤t.mask:=by
 have i0:SetTable.bits h % (t.mask+1)≤t.mask:=Nat.le_of_lt_succ (Nat.mod_lt _ (Nat.succ_pos _))
 have:=Zqj t n (t.probeStart h) (by
  show SetTable.bits h % (t.mask+1)+(SetTable.runEnd t.mask (SetTable.bits h % (t.mask+1))-SetTable.bits h % (t.mask+1))≤t.mask
  have r1:=Zj4 i0;have r2:=Znn t.mask (SetTable.bits h % (t.mask+1));omega)
 unfold look;omega
theorem Zd3 {t:SetTable} {owner:Array (Option Nat)}:∀ (fuel:Nat) (q:Nat×Nat) {j:Nat},SetTable.layClean.free t.mask owner fuel q.1 q.2=some j→∃ m,m<10*fuel∧(adv t m (start t q none)).j=j∧∀ m',m'<m→(owner.getD (adv t m' (start t q none)).j (some 0)).isSome=true
 | 0,q,j,h=>by unfold SetTable.layClean.free at h;cases h
 | fuel+1,q,j,h=>by
   unfold SetTable.layClean.free at h;have hr:=Zqv t.mask q.1;have hg:=Znn t.mask q.1;have pos:∀ k,k≤SetTable.runEnd t.mask q.1-q.1→(adv t k (start t q none)).j=q.1+k:=fun k hk=>(Zqm t k (start t q none) hk).1;cases hfi:(List.range (SetTable.runEnd t.mask q.1+1-q.1)).find? fun k=>(owner.getD (q.1+k) (some 0)).isNone with
   | some k =>
     rw [hfi] at h;have hj:q.1+k=j:=by simpa using h
     have hk:=n26_.mp (List.mem_of_find?_eq_some hfi);refine ⟨k,by omega,by rw [pos k (by omega)];exact hj,fun m' hm=>?_⟩;rw [pos m' (by omega)];obtain ⟨_,as,bs,e1,e2⟩:=List.find?_eq_some_iff_append.mp hfi
     have la:as.length=k:=by
      have:(List.range (SetTable.runEnd t.mask q.1+1-q.1))[as.length]? = some k:=by rw [e1];simp
      rw [List.getElem?_range (by
       have:=congrArg List.length e1
       rw [n65_,n21_,n18_] at this;omega)] at this
      exact Option.some.inj this
     have mm:m'∈as:=by
      have:(List.range (SetTable.runEnd t.mask q.1+1-q.1))[m']? = some m':=List.getElem?_range (by omega)
      rw [e1,n47_ (by omega)] at this;exact n6_ this
     have:=e2 m' mm
     cases z:owner.getD (q.1+m') (some 0) with
     | none=>rw [z] at this;simp at this
     | some _=>rfl
   | none =>
     rw [hfi] at h;dsimp only at h;obtain ⟨m,a,b,c⟩:=Zd3 fuel (step t.mask q) h;have ar:=Zij t (SetTable.runEnd t.mask q.1-q.1) (start t q none) rfl;refine ⟨(SetTable.runEnd t.mask q.1-q.1)+1+m,by omega,by rw [Zfk,ar];exact b,fun m' hm=>?_⟩
     by_cases c1:m'≤SetTable.runEnd t.mask q.1-q.1
     · rw [pos m' c1]
       have:=List.find?_eq_none.mp hfi m' (n26_.mpr (by omega))
       cases z:owner.getD (q.1+m') (some 0) with
       | none=>rw [z] at this;simp at this
       | some _=>rfl
     · obtain ⟨d,rfl⟩:∃ d,m'=(SetTable.runEnd t.mask q.1-q.1)+1+d:=⟨m'-(SetTable.runEnd t.mask q.1-q.1)-1,by omega⟩;rw [Zfk,ar];exact c d (by omega)
def OR (t:SetTable) (hs:List Int) (owner:Array (Option Nat)):Prop:=∀ (j k:Nat) (h:Int),owner[j]? = some (some k)→hs[k]? = some h→∃ m,m<10*SetTable.turns t.mask∧look t h m=j∧∀ m',m'<m→(owner.getD (look t h m') (some 0)).isSome=true
theorem Zje {owner:Array (Option Nat)} {j n x:Nat} (h:(owner.getD x (some 0)).isSome=true):((owner.setIfInBounds j (some n)).getD x (some 0)).isSome=true:=by
 rw [Array.getD_eq_getD_getElem?] at h ⊢;rw [Array.getElem?_setIfInBounds]
 by_cases c:j=x
 · rw [if_pos c];split<;>rfl
 · rw [if_neg c];exact h
theorem OR.put {t:SetTable} {hs:List Int} {owner:Array (Option Nat)} (o:OR t hs owner) {j n:Nat} {h:Int} (hn:hs[n]? = some h) (e:SetTable.layClean.free t.mask owner (SetTable.turns t.mask) (SetTable.bits h % (t.mask+1)) (SetTable.bits h)=some j):OR t hs (owner.setIfInBounds j (some n)):=by
 intro j' k h' e1 e2;rw [Array.getElem?_setIfInBounds] at e1
 by_cases c:j=j'
 · rw [if_pos c] at e1;split at e1
   · have:n=k:=by simpa using e1
     subst this;rw [hn] at e2;cases e2
     obtain ⟨m,a,b,c2⟩:=Zd3 (t:=t) _ (SetTable.bits h % (t.mask+1),SetTable.bits h) e;exact ⟨m,a,b.trans c,fun m' hm=>Zje (c2 m' hm)⟩
   · cases e1
 · rw [if_neg c] at e1;obtain ⟨m,a,b,c2⟩:=o j' k h' e1 e2;exact ⟨m,a,b,fun m' hm=>Zje (c2 m' hm)⟩
theorem Zhb {t:SetTable} (hm:masks t.mask):∀ (hs pre:List Int) (owner:Array (Option Nat)),Own t.mask pre.length owner→OR t (pre++hs) owner→pre.length+hs.length<t.mask+1→∀ o',hs.foldl (Ys t.mask) (some (owner,pre.length))=some o'→OR t (pre++hs) o'.1
 | [],pre,owner,o,r,_,o',e=>by cases e;exact r
 | h :: hs,pre,owner,o,r,hl,o',e=>by
   rw [n18_] at hl;obtain ⟨j,r1,r2⟩:=o.free hm (by omega) h
   have e1:Ys t.mask (some (owner,pre.length)) h=some (owner.setIfInBounds j (some pre.length),pre.length+1):=by
    unfold Ys;show (SetTable.layClean.free t.mask owner (SetTable.turns t.mask) (SetTable.bits h % (t.mask+1)) (SetTable.bits h)).bind _=_
    rw [r1];rfl
   rw [n73_,e1] at e;have len:(pre++[h]).length=pre.length+1:=by simp
   have:=Zhb hm hs (pre++[h]) (owner.setIfInBounds j (some pre.length)) (by rw [len];exact o.put r2) (by
    rw [n52_];exact r.put (by simp) r1) (by rw [len];omega) o' (by rw [len];exact e)
   rwa [n52_] at this
theorem or0 (t:SetTable) (hs:List Int):OR t hs (Array.replicate (t.mask+1) none):=fun j k h e _=>by
 rw [Array.getElem?_replicate] at e;split at e<;>cases e
theorem relaid_reach {α:Type} {t t':SetTable} {es:Array (Int×α)} {wanted:Nat} {order:Array Nat} (hm:masks (SetTable.sizeAbove wanted-1)) (hl:es.size<SetTable.sizeAbove wanted-1+1) (e:t.relaid (es.map (·.1)) wanted=some (t',order)) (ok:∀ k∈order.toList,k<es.size):RE t' (order.filterMap (es[·]?)):=by
 unfold SetTable.relaid SetTable.laid at e;cases q:SetTable.layClean (SetTable.sizeAbove wanted-1) (es.map (·.1)) with
 | none=>rw [q] at e;cases e
 | some owner =>
   rw [q] at e;have e:=Option.some.inj e;have e1:=(Prod.mk.inj e).1;have e2:=(Prod.mk.inj e).2;have mk:t'.mask=SetTable.sizeAbove wanted-1:=by rw [← e1]
   have ore:OR t' (es.map (·.1)).toList owner:=by
    unfold SetTable.layClean at q;rw [← Array.foldl_toList] at q;obtain ⟨ow,e3,_⟩:=Zfa hm (es.map (·.1)).toList 0 _ (own0 _) (by simpa using hl);have q':(List.foldl (Ys (SetTable.sizeAbove wanted-1)) (some (Array.replicate (SetTable.sizeAbove wanted-1+1) none,0)) (es.map (·.1)).toList).map (·.1)=some owner:=q;rw [e3] at q';have eo:ow=owner:=by simpa using q'
    subst eo;rw [← mk] at e3 hm hl;exact Zhb (t:=t') hm (es.map (·.1)).toList [] _ (own0 _) (or0 t' _) (by simpa using hl) _ e3
   have pl:t'.place.toList=List.map (·.1) ((List.range (SetTable.sizeAbove wanted-1+1)).filterMap fun j=>(owner.getD j none).map (j,·)):=by rw [← e1]
   have od:order.toList=List.map (·.2) ((List.range (SetTable.sizeAbove wanted-1+1)).filterMap fun j=>(owner.getD j none).map (j,·)):=by rw [← e2]
   intro i en j he hj;rw [← Array.getElem?_toList,pl,n7_] at hj
   have fm:∀ (l:List Nat),(∀ k∈l,k<es.size)→∀ i:Nat,(l.filterMap (es[·]?))[i]? = l[i]?.bind (es[·]?):=by
    intro l
    induction l with
    | nil=>intro _ i;rfl
    | cons k l ih =>
      intro hk i;obtain ⟨x,hx⟩:∃ x,es[k]? = some x:=⟨_,Array.getElem?_eq_getElem (hk k n15_)⟩;rw [List.filterMap_cons_some hx];cases i with
      | zero=>simp [hx]
      | succ i=>rw [n76_,n76_];exact ih (fun y hy=>hk y (n17_ _ hy)) i
   rw [← Array.getElem?_toList,Array.toList_filterMap,fm _ ok i,od,n7_] at he;cases z:((List.range (SetTable.sizeAbove wanted-1+1)).filterMap fun j=>(owner.getD j none).map (j,·))[i]? with
   | none=>rw [z] at hj;cases hj
   | some jk =>
     rw [z] at hj he;obtain ⟨j0,k⟩:=jk;have ej:j0=j:=by simpa using hj
     subst ej;have ek:es[k]? = some en:=by simpa using he
     obtain ⟨x,hx,hx2⟩:=List.mem_filterMap.mp (n6_ z)
     have own:owner[j0]? = some (some k):=by
      rw [Array.getD_eq_getD_getElem?] at hx2;cases y:owner[x]? with
      | none=>rw [y] at hx2;simp at hx2
      | some v =>
        rw [y] at hx2;cases v with
        | none=>simp at hx2
        | some v=>simp at hx2;obtain ⟨rfl,rfl⟩:=hx2;exact y
     obtain ⟨m,a,b,c⟩:=ore j0 k en.1 own (by simp [ek]);refine ⟨m,a,b,fun m' hm'=>?_⟩;have lk:=Zry t' en.1 m';have s:=c m' hm';rw [pl,n29_];rw [Array.getD_eq_getD_getElem?] at s
     have osz:owner.size=SetTable.sizeAbove wanted-1+1:=by
      obtain ⟨ow,e3,o3⟩:=Zhy hm (es.map (·.1)) (by simpa using hl);rw [q] at e3;cases e3;exact o3.size
     have lt:look t' en.1 m'<owner.size:=by rw [osz,← mk];omega
     rw [Array.getElem?_eq_getElem lt] at s;obtain ⟨v,hv⟩:=Option.isSome_iff_exists.mp (show (owner[look t' en.1 m']).isSome=true from s);refine ⟨(look t' en.1 m',v),List.mem_filterMap.mpr ⟨look t' en.1 m',n26_.mpr (by rw [← osz];exact lt),?_⟩,rfl⟩;simp [Array.getD,lt,hv]
end STb
namespace L2
open PySem PySem.Spec PyProof.Rows
def Xl (k:List Int):Int:=reduceHash (Builtin.Tuple.tupleHashOf (k.map hashInt))
def entU (x:Addr×List Int):Int×Value:=(Xl x.2,Value.ref x.1)
structure IsU (bt:Bool) (kl:List (Addr×List Int)) (es:Array (Int×Value)) (t:SetTable):Prop where
 pm:es.toList.Perm (kl.map entU)
 nd:(kl.map (·.2)).Nodup
 tw:STb.TP bt es.size t
 re:STb.RE t es
def SetU (bt:Bool) (h:Heap) (S:Addr) (kl:List (Addr×List Int)):Prop:=∃ o es ep t,h.get? S=some o∧o.ExactSet∧o.data=.set es ep t∧IsU bt kl es t
def setU (bt:Bool) (S:Addr) (kl:List (Addr×List Int)):HO:=.ext fun h=>SetU bt h S kl
theorem SetU.stay {bt:Bool} {a:Addr} {kl:List (Addr×List Int)} (h1 h2:Heap) (s:SetU bt h1 a kl) (e:∀ o,h1.get? a=some o→h2.get? a=some o):SetU bt h2 a kl:=let ⟨o,es,ep,t,g,r⟩:=s;⟨o,es,ep,t,e _ g,r⟩
theorem Ze5 {P:Program} {w:World} {bt:Bool} {H:Hp} {h:Heap} {a:Addr} {kl:List (Addr×List Int)} (s:SetU bt h a kl):ObjOk P w H h a (setU bt a kl):=⟨s,let ⟨o,_,_,_,g,_⟩:=s;⟨o,g⟩,fun h1 h2 x e=>SetU.stay h1 h2 x e⟩
theorem Zh0 {P:Program} {w:World} {bt:Bool} {H:Hp} {h:Heap} {a:Addr} {kl:List (Addr×List Int)} (x:ObjOk P w H h a (setU bt a kl)):SetU bt h a kl:=x.1
theorem IsU.len {bt:Bool} {kl:List (Addr×List Int)} {es:Array (Int×Value)} {t:SetTable} (i:IsU bt kl es t):es.size=kl.length:=by
 rw [← Array.length_toList,i.pm.length_eq,n5_]
theorem IsU.mem {bt:Bool} {kl:List (Addr×List Int)} {es:Array (Int×Value)} {t:SetTable} (i:IsU bt kl es t) {e:Int×Value} (h:e∈es.toList):∃ x∈kl,entU x=e:=n29_.mp (i.pm.mem_iff.mp h)
def addU (kl:List (Addr×List Int)) (x:Addr×List Int):List (Addr×List Int):=if x.2∈kl.map (·.2) then kl else kl++[x]
section
variable {P:Program} {w:World} {bt:Bool} {A:Around} {E:Value→Shared→Prop} {s:Shared}
theorem Zlo {t:SetTable} (h:STb.masks t.mask):t.gaveWay=false:=by
 unfold SetTable.gaveWay
 rcases h with e|e|e<;>rw [e]<;>rfl
theorem Zro {S a:Addr} {kl:List (Addr×List Int)} {es:Array (Int×Value)} {t:SetTable} {ep:Nat} {o:Obj} {k:List Int} {Q:SetFound→Shared→Prop} (hu:A.units<cLine) (get:s.heap.get? S=some o) (dat:o.data=.set es ep t) (U:IsU bt kl es t)
 (hkl:∀ x∈kl,IsTupleKey (PySem.intKind P w) s.heap x.2 x.1) (hk:IsTupleKey (PySem.intKind P w) s.heap k a) (q1:k∈kl.map (·.2)→Q (.there none) s)
 (q2:k∉kl.map (·.2)→∀ j,t.slot j=.empty→STb.Rch t (Xl k) j→Q (.free j false) s):∀ (n fuel m:Nat) (stand:Option SetTable.Probe),n<fuel→n<10*SetTable.turns t.mask→m+n<10*SetTable.turns t.mask→stand.getD (t.probeStart (Xl k))=STb.adv t m (t.probeStart (Xl k)) →
 STb.Trail t (Xl k) (fun i=>∀ b,es[i]? = some (Xl k,.ref b)→¬ IsTupleKey (PySem.intKind P w) s.heap k b) m→STb.Near t n (STb.adv t m (t.probeStart (Xl k))) →
 wpAny (model P w) A (setSearchFrom S (.ref a) (Xl k) true fuel stand) Q E s:=by
 intro n
 induction n using Nat.strongRecOn with
 | ind n ih =>
   intro fuel m stand hf hn2 hmn hst tr hN;obtain ⟨f,rfl⟩:∃ f,fuel=f+1:=⟨fuel-1,by omega⟩;have fit:=U.tw.fits;unfold setSearchFrom;refine n0_ (wpAny_setState_of get dat fit ?_);dsimp only;rw [Zlo U.tw.msk];simp only [n16_,if_false];rw [hst]
   have cases':∀ {F:Nat→Int},(∀ i,F i=(es[i]?.map (·.1)).getD 0)→_:=fun {F} hF=>STb.go_trail (t:=t) (f:=F) (h:=Xl k) (N:=fun i=>∀ b,es[i]? = some (Xl k,.ref b)→¬ IsTupleKey (PySem.intKind P w) s.heap k b) U.tw.tw.dum (fun i hi b hb=>by
    rw [hF i,hb] at hi;simp at hi) n (10*SetTable.turns t.mask) m tr hN hn2
   split
   rotate_left
   · rename_i heq
     exact ((cases' (fun _=>rfl)).elim (fun ⟨m1,_,e,_⟩=>heq _ e) (fun ⟨i,m1,e,_⟩=>heq _ e)).elim
   rename_i met heq
   rcases cases' (fun _=>rfl) with ⟨m1,hm1,e,hj,tr1⟩|⟨i,m1,e,hs,hi,tr1,n',hn',hmn',hN'⟩
   · have e:=heq.symm.trans e;cases e
     dsimp only;refine n3_ ?_
     by_cases c:k∈kl.map (·.2)
     · obtain ⟨x,hx,ex⟩:=n29_.mp c;have hm:entU x∈es.toList:=U.pm.mem_iff.mpr (n29_.mpr ⟨x,hx,rfl⟩);obtain ⟨i,hi,ei⟩:=n44_ hm;have hi':i<es.size:=by simpa using hi
       have ei':es[i]? = some (entU x):=by rw [Array.getElem?_eq_getElem hi'];simpa using ei
       have hp:i<t.place.size:=by rw [U.tw.sz];exact hi'
       have rr:=U.re i _ _ ei' (Array.getElem?_eq_getElem hp);have eh:entU x=(Xl k,.ref x.1):=by unfold entU;rw [ex]
       rw [eh] at rr ei';exact (STb.trail_end U.tw.tw.ris tr1 hj rr (Array.getElem?_eq_getElem hp) x.1 ei' (ex ▸ hkl x hx)).elim
     · exact q2 c _ hj (STb.trail_rch (by omega) tr1)
   · have e:=heq.symm.trans e;cases e
     dsimp only;have hi2:i<es.size:=by rw [← U.tw.sz];exact (Array.getElem?_eq_some_iff.mp hi).1
     obtain ⟨y,hy⟩:∃ y,es[i]? = some y:=⟨_,Array.getElem?_eq_getElem hi2⟩;obtain ⟨x,hx,ex⟩:=U.mem (e:=y) (by simpa using Array.mem_of_getElem? hy);subst ex;have hb:=hkl x hx
     have core:wpAny (model P w) A (do
      let some (_,y):=es[i]? | unsupported "internal:set-entry"
      let equal ← holding [y] (eqBool y (.ref a))
      let (es',_,t') ← setState S
      if true&&equal then return SetFound.there none
      let some same:=t'.sameMemory t.moves t.mask|unsupported "set.changed-during-lookup:is-the-new-block-at-the-old-address"
      let still ← match (if same then t'.slot (STb.look t (Xl k) m1) else .empty) with
       | .live i'=>match es'[i']? with
         | some (_,y')=>do pure (if ← isSame y' y then some i' else none)
         | none=>pure none
       | _=>pure none
      match still with
      | none=>rule "set.search.anew";setSearchFrom S (.ref a) (Xl k) true f none
      | some i'=>if equal then return .there (some i') else setSearchFrom S (.ref a) (Xl k) true f (some (STb.adv t (m1+1) (t.probeStart (Xl k))))) Q E s:=by
      rw [hy];dsimp only [entU];refine n0_ (n36_ (wpAny_eqBool_tuple hu hb hk ?_));refine n0_ (wpAny_setState_of get dat fit ?_);dsimp only
      by_cases c:x.2=k
      · rw [n40_ c];simp only [Bool.and_self,if_true];exact n3_ (q1 (n29_.mpr ⟨x,hx,c⟩))
      rw [n35_ c];simp only [Bool.and_false,n16_,if_false];have sm:t.sameMemory t.moves t.mask=some true:=by unfold SetTable.sameMemory;simp
      rw [sm];dsimp only;simp only [if_true,hs,hy];refine n0_ (wpAny_isSame_ref_self ?_);simp only [if_true];refine n0_ (n3_ ?_);dsimp only;refine ih n' hn' f (m1+1) (some _) (by omega) (by omega) (by omega) rfl (tr1 fun b eb kb=>c ?_) hN';rw [hy] at eb
      have:x.1=b:=by unfold entU at eb;simpa using (Prod.mk.inj (Option.some.inj eb)).2
      subst this;exact hb.inj kb
     by_cases hl:t.led=true
     · rw [hl];simp only [Bool.not_true,n16_,if_false];exact core
     · have hl':t.led=false:=by simpa using hl
       rw [hl'];simp only [Bool.not_false,if_true];refine n0_ (Zs8 hk _ (fun y hy=>?_) ?_)
       · obtain ⟨z,hz,rfl⟩:=n29_.mp hy
         obtain ⟨x',hx',e'⟩:=U.mem (e:=z) (by
          have hz':z∈es∧z.1=Xl k:=by simpa using hz
          simpa using hz'.1)
         subst e';exact ⟨x'.1,x'.2,rfl,hkl x' hx'⟩
       · simp only [n16_,if_false];exact core
theorem Zik {k:List Int} {a:Addr} {n:Nat} {Q:Bool→Shared→Prop} (hk:IsTupleKey (PySem.intKind P w) s.heap k a) (h:Q true s):wpAny (model P w) A (hashByValue (n+1) (.ref a)) Q E s:=by
 have hT:=hk.typeIs;obtain ⟨o,items,m,ho,_,hd,hi⟩:=hk
 have all:∀ v∈items.toList,∃ i u,v=.int i u:=by
  generalize items.toList=l at hi;clear hd ho
  induction hi with
  | nil=>intro v hv;cases hv
  | cons h1 _ ih =>
    intro v hv
    rcases n11_.mp hv with rfl|hv
    · obtain ⟨u,e⟩:=Value.isInt_shape h1;exact ⟨_,u,e⟩
    · exact ih v hv
 unfold hashByValue;refine n0_ (wpAny_specialOf hT F.slot_tuple_hash.lookup ?_);dsimp only;refine n0_ (wpAny_seqItems ho hd ?_);refine n0_ ?_;show wpAny _ _ (forIn items _ _) _ _ s
 rw [← Array.forIn_toList];refine wpAny_forIn_list _ (fun rest r s'=>r.1=none∧s'=s∧∀ v∈rest,∃ i u,v=.int i u) _ ?_ ?_ _ _ ⟨rfl,rfl,all⟩
 · rintro v rest r s' ⟨hr,rfl,hall⟩
   obtain ⟨i,u,rfl⟩:=hall v n15_;rw [hashByValue_scannable n (x:=.int i u) rfl];refine n0_ (n3_ ?_);show wpAny _ _ (if (!true)=true then _ else _) _ _ _
   simp only [Bool.not_true,n16_,if_false];exact n3_ ⟨rfl,rfl,fun u hu'=>hall u (n17_ _ hu')⟩
 · rintro ⟨r1,r2⟩ s' ⟨hr,rfl,_⟩
   simp only at hr;subst hr;exact n3_ h
theorem Zuf {n M:Nat} (hn:n≤76) (hm:STb.masks M) (h:n*5 ≥ M*3) (h2:(n-1)*5<M*3):STb.masks (SetTable.sizeAbove (SetTable.grown n)-1)∧n<SetTable.sizeAbove (SetTable.grown n)-1+1∧n*5<(SetTable.sizeAbove (SetTable.grown n)-1)*3∧¬ SetTable.sizeAbove (SetTable.grown n)>sizeLine:=by
 rcases hm with rfl|rfl|rfl
 · have:n=5:=by omega
   subst this;exact ⟨.inr (.inl (by decide +kernel)),by decide +kernel,by decide +kernel,by decide +kernel⟩
 · have:n=19:=by omega
   subst this;exact ⟨.inr (.inr (by decide +kernel)),by decide +kernel,by decide +kernel,by decide +kernel⟩
 · omega
theorem Zeb {h:Heap} {S:Addr} {o:Obj} {es:Array (Int×Value)} {ep:Nat} {t:SetTable} (es':Array (Int×Value)) (t':SetTable) (get:h.get? S=some o) (dat:o.data=.set es ep t):(h.update S (Obj.putSet es' t')).get? S=some { o with data:=.set es' (ep+1) t' }:=by
 have:=n48_ (Obj.putSet es' t') get (by rw [putSet_of es' t' dat];rfl)
 rw [putSet_of es' t' dat] at this;exact this
theorem Zdq {α:Type} {es:Array α} {order:Array Nat} (h:order.toList.Perm (List.range es.size)):(order.filterMap (es[·]?)).toList.Perm es.toList:=by
 rw [Array.toList_filterMap];refine (h.filterMap _).trans ?_
 have:(List.range es.size).filterMap (es[·]?)=es.toList:=by
  refine List.ext_getElem? fun i=>?_
  have fm:∀ (l:List Nat),(∀ k∈l,k<es.size)→∀ i:Nat,(l.filterMap (es[·]?))[i]? = l[i]?.bind (es[·]?):=by
   intro l
   induction l with
   | nil=>intro _ i;rfl
   | cons k l ih =>
     intro hk i;obtain ⟨x,hx⟩:∃ x,es[k]? = some x:=⟨_,Array.getElem?_eq_getElem (hk k n15_)⟩;rw [List.filterMap_cons_some hx];cases i with
     | zero=>simp [hx]
     | succ i=>rw [n76_,n76_];exact ih (fun y hy=>hk y (n17_ _ hy)) i
  rw [fm _ (fun k hk=>n26_.mp hk) i]
  by_cases c:i<es.size
  · rw [List.getElem?_range c];simp
  · rw [List.getElem?_eq_none (by simpa using c),List.getElem?_eq_none (by simpa using c)];rfl
 rw [this]
theorem Ztu {S:Addr} {kl:List (Addr×List Int)} {es:Array (Int×Value)} {t:SetTable} {ep:Nat} {o:Obj} {Q:Unit→Shared→Prop}
 (get:s.heap.get? S=some o) (ex:o.ExactSet) (dat:o.data=.set es ep t) (pm:es.toList.Perm (kl.map entU)) (nd:(kl.map (·.2)).Nodup) (tw:STb.TW bt t) (pln:t.plain=true) (sz:t.place.size=es.size) (msk:STb.masks t.mask)
 (hn:kl.length≤60) (full:es.size*5 ≥ t.mask*3) (h2:(es.size-1)*5<t.mask*3)
 (q:∀ h',Heap.SameBut S s.heap h'→SetU bt h' S kl→Q () { s with heap:=h' }):wpAny (model P w) A (setRelay S (SetTable.grown es.size)) Q E s:=by
 have len:es.size=kl.length:=by rw [← Array.length_toList,pm.length_eq,n5_]
 have fit:t.fits es.size=true:=STb.fits_of sz tw.dum (by rcases msk with e|e|e<;>rw [e] at h2 ⊢<;>omega);obtain ⟨g1,g2,g3,g4⟩:=Zuf (by omega) msk full h2;have z:(es.map (·.1)).size=es.size:=by simp
 obtain ⟨t',order,e,r1,r2,r3,r4,r5⟩:=STb.relaid_perm (t:=t) (hs:=es.map (·.1)) (wanted:=SetTable.grown es.size) rfl g1 (by rw [z];exact g2);rw [z] at r3 r5;have os:order.size=es.size:=by rw [← Array.length_toList,r5.length_eq,n65_]
 have ok:∀ k∈order.toList,k<es.size:=fun k hk=>n26_.mp (r5.mem_iff.mp hk);have p1:=(STb.pick_size os ok).1;have U:IsU bt kl (order.filterMap (es[·]?)) t':=⟨(Zdq r5).trans pm,nd,⟨STb.TW.laid tw.led e,by rw [r4,pln],by rw [r1];exact g1,by rw [r3,p1],by rw [r1,p1];exact g3⟩,STb.relaid_reach g1 g2 e ok⟩;unfold setRelay;refine n0_ (wpAny_setState_of get dat fit ?_);dsimp only;rw [if_neg g4];rw [e];have hb:((order.filterMap (es[·]?)).size != es.size)=false:=by rw [p1];simp
 refine n0_ ?_
 have red:wpAny (model P w) A (if ((order.filterMap (es[·]?)).size != es.size)=true then (unsupported "internal:set-table-lost-an-element" : Sem (Array (Int×Value)×SetTable)) else pure (order.filterMap (es[·]?),t')) (fun r s'=>wpAny (model P w) A (storeSet S r.1 r.2) Q E s') E s:=by
  rw [hb,if_neg (by decide)];refine n3_ ?_;exact wpAny_storeSet_of get dat (q _ (Heap.SameBut.update ..) ⟨_,_,_,_,Zeb _ _ get dat,ex,rfl,U⟩) (by rw [p1,sizeLine_eq];omega)
 first
  | exact red
  | (refine n0_ ?_;exact red)
  | trace_state
theorem Zdt {S a:Addr} {kl:List (Addr×List Int)} {k:List Int} {Q:Bool→Shared→Prop} (hu:A.units<cLine) (hS:SetU bt s.heap S kl) (hkl:∀ x∈kl,IsTupleKey (PySem.intKind P w) s.heap x.2 x.1) (hk:IsTupleKey (PySem.intKind P w) s.heap k a) (hl:kl.length<60)
 (q:∀ b h',Heap.SameBut S s.heap h'→SetU bt h' S (addU kl (a,k))→Q b { s with heap:=h' }):wpAny (model P w) A (setAddHashed S (.ref a) (Xl k)) Q E s:=by
 obtain ⟨o,es,ep,t,get,ex,dat,U⟩:=hS;unfold setAddHashed setAddHashedIn;refine n36_ (n0_ (wpAny_setState_of get dat U.tw.fits ?_));dsimp only;rw [show byScan (.ref a) es=false from rfl];simp only [n16_,if_false];have few:=U.tw.few;have len:=U.len;have lt:t.place.size<t.mask+1:=by rw [U.tw.sz];omega
 refine n0_ (Zro hu get dat U hkl hk (fun c=>?_) (fun c j hj rj=>?_) (10*(t.mask+13)) 100000 0 none (by rcases U.tw.msk with e|e|e<;>rw [e]<;>decide) (by unfold SetTable.turns;omega) (by unfold SetTable.turns;omega) rfl (fun m' hm=>by omega) (STb.near_start U.tw.msk U.tw.tw.dum lt))
 · dsimp only;refine n3_ ?_
   have:=q false s.heap (Heap.SameBut.refl S s.heap) ⟨o,es,ep,t,get,ex,dat,by rw [addU,if_pos c];exact U⟩
   have e:s={ s with heap:=s.heap }:=by cases s;rfl
   rw [e];exact this
 dsimp only;refine n0_ (wpAny_setState_of get dat U.tw.fits ?_);dsimp only;obtain ⟨u1,u2,u3⟩:=Zn1 t j;have tw1:=U.tw.tw.put hj;have re1:=U.re.put (x:=Value.ref a) U.tw.tw.ris U.tw.sz rj;have pl1:(t.put j).1.plain=true:=U.tw.pl;generalize hput:t.put j=tp at u1 u2 u3 tw1 re1 pl1;obtain ⟨t1,p⟩:=tp;dsimp only at u1 u2 u3 tw1 re1 pl1 ⊢;have sz1:(SetTable.insertAt es p (Xl k,Value.ref a)).size=es.size+1:=STb.insertAt_size _ _ _
 have pm1:(SetTable.insertAt es p (Xl k,Value.ref a)).toList.Perm ((kl++[(a,k)]).map entU):=by
  rw [STb.insertAt_list,n45_];refine (List.perm_middle).trans ?_;rw [List.take_append_drop];exact (List.perm_append_singleton _ _).symm.trans (U.pm.append_right _)
 have nd1:((kl++[(a,k)]).map (·.2)).Nodup:=by
  rw [n45_,n72_];exact ⟨U.nd,by simp,fun x hx y hy=>by rw [show y=k by simpa using hy];exact fun z=>c (z ▸ hx)⟩
 have ea:addU kl (a,k)=kl++[(a,k)]:=by rw [addU,if_neg c]
 rw [ea] at q;rw [pl1];simp only [if_true];refine n0_ (Zik hk ?_);simp only [if_true]
 have full:t1.tooFull=decide ((es.size+1)*5 ≥ t.mask*3):=by
  unfold SetTable.tooFull SetTable.fill;rw [u1,u3,tw1.dum,U.tw.sz];rfl
 refine n0_ (wpAny_storeSet_of get dat ?_ (by rw [sz1,sizeLine_eq,len];omega));have hg:=Zeb (SetTable.insertAt es p (Xl k,Value.ref a)) t1 get dat;have sb:=Heap.SameBut.update s.heap S (Obj.putSet (SetTable.insertAt es p (Xl k,Value.ref a)) t1)
 by_cases hf:(es.size+1)*5 ≥ t.mask*3
 · rw [full,n40_ hf];simp only [Bool.not_false,Bool.true_and,if_true];rw [show es.size+1=(SetTable.insertAt es p (Xl k,Value.ref a)).size from sz1.symm];refine n0_ (Ztu (s:={ s with heap:=s.heap.update S (Obj.putSet (SetTable.insertAt es p (Xl k,Value.ref a)) t1) }) hg ex rfl pm1 nd1 tw1 pl1 (by rw [u1,sz1,U.tw.sz]) (by rw [u3];exact U.tw.msk) (by simp;omega) (by rw [sz1,u3];exact hf) (by rw [sz1,u3];simpa using few) fun h' r1 r2=>?_);exact n3_ (q _ h' (sb.trans r1) r2)
 · rw [full,n35_ hf];simp only [Bool.not_false,Bool.true_and,n16_,if_false];exact n3_ (q _ _ sb ⟨_,_,_,_,hg,ex,rfl,pm1,nd1,⟨tw1,pl1,by rw [u3];exact U.tw.msk,by rw [u1,sz1,U.tw.sz],by rw [sz1,u3];omega⟩,re1⟩)
theorem Zsv {Q:Value→Shared→Prop}
 (h:∀ o0,SetU (Y1 w) (s.heap.push o0) s.heap.objs.size []→Q (.ref s.heap.objs.size) { s with heap:=s.heap.push o0 }):wpAny (model P w) A (newSet (.type "set")) Q E s:=by
 unfold newSet setsByText;refine n0_ (n0_ (wpAny_askSetting (n3_ ?_)));dsimp only;simp only [newObj];exact n0_ (wpAny_alloc (n3_ (h _ ⟨_,#[],0,_,n9_ _ rfl,⟨rfl,rfl,rfl⟩,rfl,.refl _,.nil,STb.TP.fresh _,fun i e j he=>by simp at he⟩)))
end
abbrev set0 (w:World):Obj:={ cls:=.type "set",dict:=none,data:=.set #[] 0 (.fresh 0 0 (!Y1 w)) }
section
variable {P:Program} {w:World} {A:Around} {E:Value→Shared→Prop} {s:Shared}
theorem Zpa (a:Value) {Q₁:Value→Shared→Prop} (h:Q₁ (.ref s.heap.objs.size) { s with heap:=s.heap.push (set0 w) }) :
 codeAny (model P w) A (.call (.builtin "set.__new__") ⟨[.type "set",a],[]⟩) (wants Q₁ E) s:=by
 refine codeAny_of_tree ?_;show wpAny _ A.in1 (do checkBuiltinCall "set.__new__" ⟨[.type "set",a],[]⟩;again (.builtin "set.__new__" ⟨[.type "set",a],[]⟩)) _ _ s
 refine n0_ (wpAny_of_eq (F.newCall_set_1 a) (n3_ ⟨plainId_quiet F.plain_set_new _,codeAny_builtin F.entry_set_new ?_⟩));rw [Around.under_plainId F.plain_set_new _];unfold Builtin.«set.__new__» Builtin.Frozenset.newClass;have hsub:=sub_set_self;obtain ⟨hp,g,d,tk,os⟩:=s;dsimp only
 wp_walk
 refine wpAny_askSetting (n3_ ?_);dsimp only;simp only [newObj];refine n0_ (wpAny_alloc (n3_ ?_));exact n3_ h
set_option maxHeartbeats 3200000 in
end
def metU (al:List (Addr×List Int)):List (Addr×List Int):=al.foldl addU []
theorem Zn8 (al:List (Addr×List Int)) (x:Addr×List Int):metU (al++[x])=addU (metU al) x:=by unfold metU;rw [List.foldl_append];rfl
theorem Zkl {kl:List (Addr×List Int)} {x y:Addr×List Int} (h:y∈addU kl x):y∈kl∨y=x:=by
 unfold addU at h;split at h
 · exact .inl h
 · simpa using h
theorem Zf0 {kl:List (Addr×List Int)} {x:Addr×List Int} {k:List Int}:k∈(addU kl x).map (·.2)↔k∈kl.map (·.2)∨k=x.2:=by
 unfold addU;split
 · rename_i c
   exact ⟨.inl,fun h=>h.elim id fun e=>e ▸ c⟩
 · rw [n45_,n28_];simp
theorem Zji (kl:List (Addr×List Int)) (x:Addr×List Int):(addU kl x).length≤kl.length+1:=by
 unfold addU;split
 · omega
 · simp
theorem Zmn {kl:List (Addr×List Int)} {x:Addr×List Int} (h:(kl.map (·.2)).Nodup):((addU kl x).map (·.2)).Nodup:=by
 unfold addU;split
 · exact h
 · rename_i c
   rw [n45_,n72_];exact ⟨h,by simp,fun a ha b hb=>by rw [show b=x.2 by simpa using hb];exact fun z=>c (z ▸ ha)⟩
theorem Zpr:∀ (al kl:List (Addr×List Int)),(∀ y∈al.foldl addU kl,y∈kl∨y∈al)∧(∀ k,k∈(al.foldl addU kl).map (·.2)↔k∈kl.map (·.2)∨k∈al.map (·.2))∧(al.foldl addU kl).length≤kl.length+al.length∧((kl.map (·.2)).Nodup→((al.foldl addU kl).map (·.2)).Nodup)
 | [],kl=>⟨fun y h=>.inl h,fun k=>by simp,by simp,id⟩
 | x :: al,kl=>by
   obtain ⟨a,b,c,d⟩:=Zpr al (addU kl x);refine ⟨fun y h=>?_,fun k=>?_,?_,fun h=>d (Zmn h)⟩
   · rcases a y h with h|h
     · rcases Zkl h with h|h
       · exact .inl h
       · exact .inr (by simp [h])
     · exact .inr (n17_ _ h)
   · rw [n73_,b k,Zf0,n34_,n11_,or_assoc]
   · have:=Zji kl x
     rw [n73_,n18_];omega
theorem Zcn {al:List (Addr×List Int)} {y:Addr×List Int} (h:y∈metU al):y∈al:=by rcases (Zpr al []).1 y h with h|h<;>first|exact h|cases h
theorem Zl1 {al:List (Addr×List Int)} {k:List Int}:k∈(metU al).map (·.2)↔k∈al.map (·.2):=by rw [metU,(Zpr al []).2.1 k];simp
theorem Zjl (al:List (Addr×List Int)):(metU al).length≤al.length:=by have:=(Zpr al []).2.2.1;simpa [metU] using this
section
variable {P:Program} {w:World} {bt:Bool} {A:Around} {E:Value→Shared→Prop} {s:Shared}
theorem SetU.typeIs {a:Addr} {kl:List (Addr×List Int)} (h:SetU bt s.heap a kl):s.TypeIs (.ref a) "set" := by
 obtain ⟨o,es,ep,t,g,x,_⟩:=h;exact ⟨o,g,x.1⟩
theorem Zc9 {h h':Heap} {k:List Int} {a:Addr} (t:IsTupleKey (PySem.intKind P w) h k a) (e:∀ o,h.get? a=some o→h'.get? a=some o):IsTupleKey (PySem.intKind P w) h' k a:=let ⟨o,items,n,g,r⟩:=t;⟨o,items,n,e _ g,r⟩
theorem Zre {S a:Addr} {kl:List (Addr×List Int)} {h:Heap} {k:List Int} (t:IsTupleKey (PySem.intKind P w) h k a) (hS:SetU bt h S kl):a≠S:=by
 rintro rfl
 obtain ⟨o,es,ep,tb,g,_,d,_⟩:=hS;obtain ⟨o',items,n,g',_,d',_⟩:=t;rw [g] at g';cases g';rw [d] at d';cases d'
theorem Zoq {S a:Addr} {kl:List (Addr×List Int)} {k:List Int} {Q:Value→Shared→Prop} (hu:A.units+8<cLine) (hS:SetU bt s.heap S kl) (hkl:∀ x∈kl,IsTupleKey (PySem.intKind P w) s.heap x.2 x.1) (hk:IsTupleKey (PySem.intKind P w) s.heap k a) (hl:kl.length<60)
 (h:∀ h' tk,Heap.SameBut S s.heap h'→SetU bt h' S (addU kl (a,k))→Q .none { s with heap:=h',toks:=tk }):wpAny (model P w) A (call (.builtin "set.add") [.ref S,.ref a]) Q E s:=by
 refine wpAny_call_entry F.slot_set_add hS.typeIs F.entry_set_add ?_ (F.args_set_add_2 _ _);unfold Builtin.«set.add» Builtin.Frozenset.oneOther;simp only [List.isEmpty_nil,bind_assoc];unfold Builtin.Frozenset.addrOf setAdd;refine n0_ (n3_ ?_)
 try dsimp only
 refine n0_ (n3_ ?_)
 try dsimp only
 refine n0_ ?_;refine n36_ ?_;refine n0_ (wpAny_pyHash_tuple (by simp;omega) hk ?_);refine Zdt (s:={ s with toks:=s.toks+(k.length+1) }) (by simp;omega) hS hkl hk hl fun b h' hsb hS'=>?_;show wpAny _ _ (ret Value.none) _ _ _
 exact n3_ ⟨_,rfl,h h' _ hsb hS'⟩
end
section
variable {P:Program} {w:World} {bt:Bool} {A:Around} {R:Result→Shared→Prop} {I:Addr} {fp wr:List Addr} {G:Array GenState→Array GenState→Prop} {St:Nat→Shared→Prop}
theorem Zhk {al:List (Addr×List Int)} {Pv:Nat→Value→Prop} (hu:A.in1.units+4<cLine) (W:WalksS P w A.in1 I fp wr G al.length Pv St) (S:Addr) (hSf:S∉fp) (hval:∀ i v,i<al.length→Pv i v→∃ x,al[i]? = some x∧v=.ref x.1) (hb:al.length≤60) :
 ∀ (k i:Nat) (s:Shared),al.length-i=k→i≤al.length→St i s→(∀ x∈al,x.1∉wr∧IsTupleKey (PySem.intKind P w) s.heap x.2 x.1)→SetU bt s.heap S (metU (al.take i)) →
   (∀ s',Moved (S :: wr) G s s'→SetU bt s'.heap S (metU al)→R (.ok (.ret .none)) s') →
   codeAny (model P w) A (.builtin "set.update.loop" ⟨[.ref S,.ref I],[]⟩) R s:=by
 have hSw:S∉wr:=fun h=>hSf (W.sub _ h);have hsub:∀ b∈wr,b∈S :: wr:=fun b hb=>n17_ _ hb;intro k
 induction k with
 | zero =>
   intro i s hk hi hst hal hS hR;obtain rfl:i=al.length:=by omega
   rw [n62_] at hS;refine codeAny_builtin F.entry_set_update_loop ?_;rw [Around.under_plainId F.plain_set_update_loop _];show wpAny _ A.in1 (pyNext (.ref I) >>= _) _ _ s
   refine n0_ (W.done s _ _ hst fun s' hm=>?_);show wpAny _ A.in1 (ret Value.none) _ _ s'
   exact n3_ (hR s' (hm.mono hsub) (SetU.stay _ _ hS fun o e=>hm.heap S o hSw e))
 | succ k ih =>
   intro i s hk hi hst hal hS hR;have hlt:i<al.length:=by omega
   refine codeAny_builtin F.entry_set_update_loop ?_;rw [Around.under_plainId F.plain_set_update_loop _];show wpAny _ A.in1 (pyNext (.ref I) >>= _) _ _ s
   refine n0_ (W.item i s _ _ hlt hst fun v s' hP hst' hm=>?_);obtain ⟨x,hx,rfl⟩:=hval i v hlt hP;have hal':∀ x∈al,x.1∉wr∧IsTupleKey (PySem.intKind P w) s'.heap x.2 x.1:=fun y hy=>⟨(hal y hy).1,Zc9 (hal y hy).2 fun o e=>hm.heap _ o (hal y hy).1 e⟩;have hS':=SetU.stay _ s'.heap hS fun o e=>hm.heap S o hSw e;show wpAny _ A.in1 (holding [Value.ref x.1] (setAdd S (.ref x.1)) >>= _) _ _ s'
   refine n0_ (n36_ ?_);unfold setAdd;refine n36_ ?_;have hxm:=n6_ hx;refine n0_ (wpAny_pyHash_tuple (by omega) (hal' x hxm).2 ?_)
   have hroom:(metU (al.take i)).length<60:=by
    have:=Zjl (al.take i)
    rw [n57_] at this;omega
   refine Zdt (s:={ s' with toks:=s'.toks+(x.2.length+1) }) (by omega) hS' (fun y hy=>(hal' y (List.mem_of_mem_take (Zcn hy))).2) (hal' x hxm).2 hroom fun bb h' hsb hS2=>?_
   have et:al.take (i+1)=al.take i++[x]:=by
    rw [List.take_succ_eq_append_getElem hlt];rw [n1_ hlt] at hx;rw [Option.some.inj hx]
   rw [← Zn8,← et] at hS2;refine n3_ ⟨plainId_quiet F.plain_set_update_loop _,ih (i+1) _ (by omega) hlt (W.frame _ s' _ _ hst' (Nat.le_add_right _ _) fun b hb o e=>?_) (fun y hy=>⟨(hal y hy).1,Zc9 (hal' y hy).2 fun o e=>(hsb.2 _ (Zre (hal' y hy).2 hS')).trans e⟩) hS2 fun s'' hm'' hS''=>?_⟩
   · rw [hsb.2 b (fun h:b=S=>hSf (by rw [← h];exact hb))];exact e
   · refine hR s'' (Moved.trans W.gtrans ((hm.mono hsub).then_heap (Nat.le_add_right _ _) fun b o hb e=>?_) hm'') hS'';rw [hsb.2 b (fun h:b=S=>hb (by rw [h];exact n15_))];exact e
end
section
variable {P:Program} {w:World} {A:Around} {E:Value→Shared→Prop} {s:Shared}
theorem Zug {h:Heap} {a:Addr} (e:h.get? a=some (set0 w)):SetU (Y1 w) h a [] :=
 ⟨_,#[],0,_,e,⟨rfl,rfl,rfl⟩,rfl,.refl _,.nil,STb.TP.fresh _,fun i e j he=>by simp at he⟩
set_option maxHeartbeats 3200000
theorem Zjs {T:String} {it0:Obj} {St:Addr→Nat→Heap→Prop} {l:Addr} {items:Array Value} {al:List (Addr×List Int)} {Q:Value→Shared→Prop}
 (hh:A.handled=none) (hu:A.units+12<cLine) (hl:s.TypeIs (.ref l) T) (hsls:isSubtype (.type T) (.type "set")=pure false) (hslf:isSubtype (.type T) (.type "frozenset")=pure false) (hne:(Value.type T == Value.type "dict")=false)
 (iter:∀ (A:Around) (s1:Shared) (Q:Value→Shared→Prop) (E:Value→Shared→Prop),(∀ o,s.heap.get? l=some o→s1.heap.get? l=some o)→Q (.ref s1.heap.objs.size) { s1 with heap:=s1.heap.push it0 }→wpAny (model P w) A (pyIter (.ref l)) Q E s1) (hf:it0.isFreed=false)
 (W:∀ (A:Around) (I:Addr),A.handled=none→l≠I→Walks P w A I [I,l] [I] al.length (fun i v=>items[i]? = some v) (St I))
 (st0:∀ (h:Heap) (I:Addr),h.get? I=some it0→(∀ o,s.heap.get? l=some o→h.get? l=some o)→St I 0 h) (hi:items.toList=al.map fun x=>Value.ref x.1) (hal:∀ x∈al,IsTupleKey (PySem.intKind P w) s.heap x.2 x.1) (hb:al.length≤60)
 (h:∀ (h':Heap) (tk:Nat),SetU (Y1 w) h' s.heap.objs.size (metU al)→(∀ b o,b<s.heap.objs.size→s.heap.get? b=some o→h'.get? b=some o)→Q (.ref s.heap.objs.size) { s with heap:=h',toks:=tk }) :
 wpAny (model P w) A (call (.type "set") [.ref l]) Q E s:=by
 obtain ⟨c,tl,hmro⟩:=F.called_set.mro;have hmade:=F.called_set.made;have hsub:=F.called_set.sub;have hlen:items.size=al.length:=by rw [← Array.length_toList,hi,n5_]
 refine wpAny_call (codeAny_of_tree ?_);show wpAny _ _ (callAny (.type "set") _) _ _ _
 refine n3_ ⟨Code.quiet_builtin _ (by decide +kernel),codeAny_builtin F.entry_type_call ?_⟩;rw [Around.under_plain (weight_type_call_type "set" [.ref l] []) rfl];have h1:=F.called_set.notType;have h2:=F.called_set.canCreate;have hct:=F.typeCall_set_1 (.ref l)
 repeat (any_goals (first|assumption|wp_step))
 refine codeAny_mono (Zpa (.ref l) (E:=E) (Q₁:=fun obj s₁=>obj=.ref s.heap.objs.size∧s₁={ s with heap:=s.heap.push (set0 w) }) ⟨rfl,rfl⟩) fun r s₁ hr=>?_;cases r with
 | error e=>exact hr
 | ok fl =>
   cases fl with
   | ret obj =>
     obtain ⟨rfl,rfl⟩:=hr;have hS:(s.heap.push (set0 w)).get? s.heap.objs.size=some (set0 w):=n9_ _ rfl;have hT:Shared.TypeIs { s with heap:=s.heap.push (set0 w) } (.ref s.heap.objs.size) "set" := ⟨_,hS,rfl⟩;have hli:=F.called_set.init.lookup;have hbi:=F.called_set.init.bind (.ref s.heap.objs.size)
     repeat (any_goals (first|assumption|wp_step))
     refine codeAny_mono (codeAny_call_builtin (R:=wants (fun r s₂=>r=.none∧∃ h' tk,s₂={ s with heap:=h',toks:=tk }∧SetU (Y1 w) h' s.heap.objs.size (metU al)∧(∀ b o,b<s.heap.objs.size→s.heap.get? b=some o→h'.get? b=some o)) E) F.called_set.init.plain F.entry_set_init (check_set_init_1 hT ?_)) fun r₂ s₂ hr₂=>?_
     · obtain ⟨⟨ocls,odict,odata,oslots⟩,hol,hcl⟩:=hl;simp only at hcl;subst hcl;have hol':(s.heap.push (set0 w)).get? l=some { cls:=.type T,dict:=odict,data:=odata,slots:=oslots }:=n2_ _ hol;unfold Builtin.«set.__init__» noKeywords Builtin.Frozenset.updateFrom;generalize hPI:pyIter=PI
       wp_walk
       subst hPI;refine iter _ _ _ _ (fun o e=>n2_ _ e) ?_;refine n0_ (wpAny_runValue ?_);have hlS:l<s.heap.objs.size:=n13_ hol;have hh3:A.in1.in1.in1.handled=none:=by simp [hh]
       have hneI:l≠(s.heap.push (set0 w)).objs.size:=by
        rw [n42_];exact n24_ (n49_ hlS)
       have hSf:s.heap.objs.size∉[(s.heap.push (set0 w)).objs.size,l]:=by
        rw [n42_];simp only [n11_,n23_,n12_,or_false,not_or];exact ⟨n24_ (n80_ _),n61_ hlS⟩
       have hval:∀ (i:Nat) (v:Value),i<al.length→items[i]? = some v→∃ x,al[i]? = some x∧v=.ref x.1:=fun i v _ hv=>by
        rw [← Array.getElem?_toList,hi,n7_] at hv;cases q:al[i]? with
        | none=>rw [q] at hv;cases hv
        | some x=>rw [q] at hv;exact ⟨x,rfl,(Option.some.inj hv).symm⟩
       have hW:=(W _ (s.heap.push (set0 w)).objs.size hh3 hneI).toS;have hal1:∀ x∈al,x.1<s.heap.objs.size:=fun x hx=>let ⟨o,_,_,g,_⟩:=hal x hx;n13_ g;refine Zhk (by simp;omega) hW s.heap.objs.size hSf hval (by omega) (al.length-0) 0 _ rfl (n51_ _) (st0 _ _ (n9_ _ hf) fun o e=>n2_ _ (n2_ _ e)) (fun x hx=>⟨?_,Zc9 (hal x hx) fun o e=>n2_ _ (n2_ _ e)⟩) (Zug (n2_ _ hS)) ?hR
       · rw [n42_]
         have:=hal1 x hx
         simp only [n11_,n12_,or_false];exact n24_ (n49_ this)
       case hR =>
        intro s' hm hS';obtain ⟨h',g',d',tk',os'⟩:=s';have eg:g'=s.gens:=hm.gens;have ed:d'=s.drawn:=hm.drawn;have eo:os'=s.os:=hm.os;subst eg;subst ed;subst eo;show wpAny _ _ _ _ _ _
        refine n3_ ?_;show wpAny _ _ (ret Value.none) _ _ _
        refine n3_ ⟨rfl,h',tk',rfl,hS',fun b o hb e=>?_⟩;have hb1:b≠s.heap.objs.size:=n24_ hb
        have hb2:b≠(s.heap.push (set0 w)).objs.size:=by
         rw [n42_];exact n24_ (n49_ hb)
        exact hm.heap b o (by simp only [n11_,n23_,n12_,or_false,not_or];exact ⟨hb1,hb2⟩) (n2_ _ (n2_ _ e))
     · cases r₂ with
       | error e=>exact hr₂
       | ok fl₂ =>
         cases fl₂ with
         | ret r =>
           obtain ⟨rfl,h',tk,rfl,hS',hk'⟩:=hr₂
           repeat (any_goals (first|assumption|wp_step))
           exact h _ _ hS' hk'
         | _=>exact hr₂.elim
   | _=>exact hr.elim
end
abbrev tpl (H:Hp) (x:Addr×List Int):Prop:=H x.1=some (.tup (x.2.map V.int))
theorem Ze0 {X:Cx} {pins:List (Addr×Obj)} {σ:St} {H:Hp} {s:Shared} {a:Addr} {k:List Int} (I:Inv X pins σ H s) (h:H a=some (.tup (k.map V.int))):IsTupleKey (PySem.intKind X.prog X.w) s.heap k a:=by
 obtain ⟨its2,rv2,⟨o2,g2,c2,n2,d2⟩,_⟩:=I.tuple (SqT.of h);exact ⟨o2,its2.toArray,n2,g2,c2,d2,by simpa using items_int rv2⟩
theorem Zkf {al:List (Addr×List Int)} {its:List Value} (rv:Vals (al.map fun x=>V.ref x.1) its):its=al.map fun x=>Value.ref x.1:=by
 generalize hv:(al.map fun x=>V.ref x.1)=vs at rv
 induction rv generalizing al with
 | nil=>cases al with|nil=>rfl|cons x al=>cases hv
 | cons r1 _ ih =>
   cases al with
   | nil=>cases hv
   | cons x al =>
     rw [n34_] at hv ⊢;have hv1:=(List.cons.inj hv).1;have hv2:=(List.cons.inj hv).2;subst hv1;cases (show _=Value.ref x.1 from r1)
     rw [ih hv2]
theorem Zu8:isSubtype (.type "tuple") (.type "set")=pure false:=by rw [isSubtype_type];kernel_rfl
theorem Zvs:isSubtype (.type "tuple") (.type "frozenset")=pure false:=by rw [isSubtype_type];kernel_rfl
def Ztd (sq:Hp→Addr→List V→Prop) (bt:Bool):List V→Hp→VK→Prop:=fun xs H Q=>∃ (p:Addr) (al:List (Addr×List Int)),xs=[.ref p]∧sq H p (al.map fun x=>V.ref x.1)∧(∀ x∈al,tpl H x)∧al.length≤60∧∀ S,H S=none→Q (.ref S) (upd H S (setU bt S (metU al)))
theorem Zmp {X:Cx} {j:Nat} (hc:X.calm=true) (hr:Room j X.A):Yw X (.type "set") (Ztd (SqL X.K) (Y1 X.w)):=by
 intro pins s σ H xs us Q I r h;obtain ⟨p,al,rfl,hq,ht,hb,q⟩:=h;cases r with
 | cons rx r =>
   cases r
   cases (show _=Value.ref p from rx)
   obtain ⟨its,rv,pl,hz⟩:=I.list hq;have eits:=Zkf rv;subst eits;have hl:=pl.isList;have hn:(al.map fun x=>Value.ref x.1).toArray.size=al.length:=by simp
   refine Zjs (it0:={ cls:=.type "list_iterator",data:=.fields #[.ref p,.int 0 0] }) (St:=fun I i h=>h.IsListIter I p i∧h.IsList p (al.map fun x=>Value.ref x.1).toArray) (I.ok.hd hc) (by have:=hr.un;omega) hl.typeIs F.sub_list_set F.sub_list_frozenset (by decide) (fun A s1 Q E k q=>wpAny_pyIter_list (hl.at k) q) rfl (fun A I' hh hne=>by rw [← hn];exact Walks.list hh I' p hne _) (fun h I' e k=>⟨⟨_,e,rfl,rfl⟩,hl.at k⟩) (by simp) (fun x hx=>Ze0 I (ht x hx)) hb fun h' tk hS hk=>?_;exact ⟨.ref s.heap.objs.size,_,I.laid (o:=setU (Y1 X.w) s.heap.objs.size (metU al)) (t':=tk) (fun b o e=>hk b o (n13_ e) e) (n10_ _) (Ze5 hS),rfl,q _ (I.hok.fresh (n10_ _))⟩
theorem Znq {X:Cx} {j:Nat} (hc:X.calm=true) (hr:Room j X.A):Yw X (.type "set") (Ztd (SqT X.K) (Y1 X.w)):=by
 intro pins s σ H xs us Q I r h;obtain ⟨p,al,rfl,hq,ht,hb,q⟩:=h;cases r with
 | cons rx r =>
   cases r
   cases (show _=Value.ref p from rx)
   obtain ⟨its,rv,hl,hz⟩:=I.tuple hq;have eits:=Zkf rv;subst eits;have hat:∀ {h:Heap},(∀ o,s.heap.get? p=some o→h.get? p=some o)→h.IsTuple p (al.map fun x=>Value.ref x.1).toArray:=fun k=>let ⟨o,e,c,n,d⟩:=hl;⟨o,k _ e,c,n,d⟩;have hn:(al.map fun x=>Value.ref x.1).toArray.size=al.length:=by simp
   refine Zjs (it0:={ cls:=.type "tuple_iterator",data:=.fields #[.ref p,.int 0 0] }) (St:=fun I i h=>h.IsTupleIter I p i∧h.IsTuple p (al.map fun x=>Value.ref x.1).toArray) (I.ok.hd hc) (by have:=hr.un;omega) hl.typeIs Zu8 Zvs (by decide) (fun A s1 Q E k q=>wpAny_pyIter_tuple (hat k) q) rfl (fun A I' hh hne=>by rw [← hn];exact Walks.tuple hh I' p hne _) (fun h I' e k=>⟨⟨_,e,rfl,rfl⟩,hat k⟩) (by simp) (fun x hx=>Ze0 I (ht x hx)) hb fun h' tk hS hk=>?_;exact ⟨.ref s.heap.objs.size,_,I.laid (o:=setU (Y1 X.w) s.heap.objs.size (metU al)) (t':=tk) (fun b o e=>hk b o (n13_ e) e) (n10_ _) (Ze5 hS),rfl,q _ (I.hok.fresh (n10_ _))⟩
theorem Zjq:∀ {al kl:List (Addr×List Int)},((kl++al).map (·.2)).Nodup→al.foldl addU kl=kl++al
 | [],kl,_=>by simp
 | x :: al,kl,h=>by
   have e:addU kl x=kl++[x]:=by
    unfold addU;rw [if_neg];rw [n45_,n72_] at h;exact fun z=>h.2.2 _ z _ (n50_ n15_) rfl
   rw [n73_,e,Zjq (by simpa using h)];simp
theorem Zf4 {al:List (Addr×List Int)} (h:(al.map (·.2)).Nodup):metU al=al:=by unfold metU;rw [Zjq (by simpa using h)];rfl
theorem Zlu {X:Cx}:Yw X (.builtin "len") (fun xs H Q=>∃ bt S kl,xs=[.ref S]∧H S=some (setU bt S kl)∧kl.length≤1000∧Q (.int kl.length) H):=by
 intro pins s σ H xs us Q I r h;obtain ⟨bt,S,kl,rfl,hS,hn,q⟩:=h;cases r with
 | cons rx r =>
   cases r
   cases (show _=Value.ref S from rx)
   obtain ⟨o,es,ep,t,e,ex,d,U⟩:=Zh0 (I.hok _ _ hS);have hl:=Zcw;have hz:sizeLine=16777216:=sizeLine_eq;have hn':=U.len;refine call_len_set e ex d U.tw.fits (by omega) ⟨.int kl.length,H,I.tok _,⟨_,by rw [hn']⟩,q⟩
abbrev sc1 (elt tg iter:Expr) (scope:Scope) (pos:Pos):Expr:=.SetComp elt [⟨tg,iter,[],0⟩] scope pos
theorem Zoj {prog:Program} {w:World} {A:Around} {R:Result→Shared→Prop} {s:Shared} {elt target iter:Expr} {scope:Scope} {pos:Pos} {it acc:Value} {env:Env} (I:Nat→Shared→Prop)
 (turn:∀ n s,I n s→Zlb (model prog w) A target it env R (fun n s₂=>wpAny (model prog w) A (eval elt env) (fun x s₄ =>
   wpAny (model prog w) A (call (.builtin "set.add") [acc,x]) (fun _ s₅=>∃ m,m<n∧I m s₅) NoX s₄) NoX s₂) n s)
 (n:Nat) (h:I n s):codeAny (model prog w) A (.compLoop (sc1 elt target iter scope pos) 0 it acc env) R s:=by
 refine codeAny_loop rfl I (fun n s hI=>?_) n h;show wpAny _ A ((compTurn (sc1 elt target iter scope pos) 0 it acc env).onRaise (fun x=>do noteFrame x env;theTreesLotGoes x)) _ _ s
 refine wpAny_noted ?_
 rw [show compTurn (sc1 elt target iter scope pos) 0 it acc env=(do
  standAt iter.pos
  match ← pyNext it with
  | none=>pure (.done .next)
  | some v =>
    letOwnedTupleGo target it v
    assign target env v
    let mut ok:=true
    for c in ([]:List Expr) do
     if ok then ok ← isTrue c env (eval c env)
    if ok then
     (do let v ← eval elt env;standAt elt.pos;let _ ← call (.builtin "set.add") [acc,v])
    again (.compLoop (sc1 elt target iter scope pos) 0 it acc env)) from rfl]
 refine n0_ (wpAny_standAt (n0_ (n46_ (turn n s hI) (fun r s1 h1=>?_) fun _ _ h'=>h'.elim)));cases r with
 | none=>exact n3_ h1
 | some v =>
   refine n0_ (n46_ h1 (fun _ s2 h2=>n0_ (n46_ h2 (fun _ s3 h3=>n0_ (n3_ ?_)) fun _ _ h'=>h'.elim)) fun _ _ h'=>h'.elim);simp only [if_true];exact n0_ (n0_ (n46_ h3 (fun x s4 h4=>n0_ (wpAny_standAt (n0_ (n46_ h4 (fun _ s5 h5=>n3_ (n3_ ⟨rfl,h5⟩)) fun _ _ h'=>h'.elim)))) fun _ _ h'=>h'.elim))
theorem Zld {prog:Program} {w:World} {A:Around} {elt tg iter:Expr} {scope:Scope} {pos:Pos} {it acc:Value} {env:Env} {R:Result→Shared→Prop} {s4:Shared} (h0:codeAny (model prog w) A (.compLoop (sc1 elt tg iter scope pos) 0 it acc env) R s4)
 (h:∀ E,wpAny (model prog w) A (pyIter it) (fun it' s'=>codeAny (model prog w) A (.compLoop (sc1 elt tg iter scope pos) 0 it' acc env) R s') E s4):codeAny (model prog w) A (.compStart (sc1 elt tg iter scope pos) 0 it acc env) R s4:=by
 refine codeAny_of_tree ?_;show wpAny _ _ ((compStart (sc1 elt tg iter scope pos) 0 it acc env).onRaise (fun x=>do noteFrame x env;standAt theWindowsPlace)) _ _ s4
 refine wpAny_notedAt ?_;unfold compStart;show wpAny _ _ (ask >>= _) _ _ s4
 refine n0_ (wpAny_askSetting (wpAny_ite ?_));split
 · first
    | exact n0_ (n3_ (n3_ (And.intro rfl h0)))
    | exact n3_ (And.intro rfl h0)
 · first
    | exact n0_ (wpAny_rule (n0_ (wpAny_standAt (n0_ (n46_ (h NoX) (fun it' s' h'=>n3_ (And.intro rfl h')) fun _ _ x=>x.elim)))))
    | (refine n0_ (wpAny_rule ?_);show wpAny _ _ (standAt _ >>= _) _ _ s4;exact n0_ (wpAny_standAt (n0_ (n46_ (h NoX) (fun it' s' h'=>n3_ (And.intro rfl h')) fun _ _ x=>x.elim))))
def SuGo (bt:Bool) (J:It) (g:TG) (te:TE) (σ0:St) (H1:Hp) (D:Addr) (Q:VK):Prop:=∃ W:Nat→Nat→St→Hp→Prop,(∃ m,W 0 m σ0 (upd H1 D (setU bt D []))) ∧
 ∀ i m σ2 H2,W i m σ2 H2→(J.stop i H2∧Q (.ref D) H2)∨(J.go i H2∧∀ x H3,J.yld i H2 x H3→g x σ2 H3 fun σ4 H5=>te σ4 H5 fun y H6=>∃ kl a k,H6 D=some (setU bt D kl)∧y=.ref a∧tpl H6 (a,k)∧(∀ x∈kl,tpl H6 x)∧kl.length<60 ∧
   ∃ m',m'<m∧W (i+1) m' σ4 (upd H6 D (setU bt D (addU kl (a,k)))))
def tSU (bt:Bool) (wi:TI) (g:TG) (te:TE) (fr:List (Option Nat)):TE:=fun σ H Q=>wi σ H fun J H1=>∀ D,H1 D=none→SuGo bt J g te (Zar fr σ) H1 D Q
theorem Zs1 {X:Cx} {j:Nat} {tg elt iter:Expr} {scope:Scope} {cl:List (Str×Addr)} {N:List Str} {fr:List (Option Nat)} {pos:Pos} {wi:TI} {g:TG} {te:TE}
 (hr:Room j X.A) (hc:X.calm=true) (L:LcO X scope cl N fr) (hi:PI X tg iter wi) (hg:∀ C s3 H3 fp,PG (blk X scope cl C N s3 H3 fp) tg g) (he:∀ C s3 H3 fp,PE (blk X scope cl C N s3 H3 fp) elt te)
 (hs:∀ x,foldedSetIterable iter X.env x=pure x:=by intro _;rfl):PE X (sc1 elt tg iter scope pos) (tSU (Y1 X.w) wi g te fr):=by
 intro pins s σ H Q I h;rw [arm_eval_SetComp];dsimp only;refine wpAny_comprehension_free (use:=none) rfl hs L.clos L.kind L.names (thn (hi pins s σ H _ I h) fun v s1 h1=>thn h1 fun itv s2 h2=>?_);obtain ⟨it,fp,tn,J,H2,e,I2,T,st2,f2,h⟩:=h2;subst e;obtain ⟨W,⟨m0,w0⟩,turn⟩:=h s2.heap.objs.size (I2.hok.fresh (n10_ _));refine Zsv fun o0 setOf=>?_;refine Zck (ac:=setU (Y1 X.w) s2.heap.objs.size []) rfl hc L hg I2 T st2 f2 (Ze5 setOf) w0 turn (fun _ _ a b=>Zld a b) (fun LI s4 t n h=>Zoj LI t n h) (fun H7 s7 qn _ _ c=>Ziu qn c) fun LI n i σ9 H9 s9 ps I9 q9 again=>?_;refine thn (he _ _ _ _ ps s9 σ9 H9 _ I9 q9) fun yu s10 ⟨y,H10,I10,r10,kl,a,k,hD,ey,hk,hkl,hl,m',hm,w11⟩=>?_;subst ey;cases (show yu=Value.ref a from r10)
 have hset:SetU (Y1 X.w) s10.heap s2.heap.objs.size kl:=Zh0 (I10.hok _ _ hD);refine Zoq (by have:=hr.un;show X.A.units+8<cLine;omega) hset (fun x hx=>by have:=Ze0 I10 (hkl x hx);exact this) (by have:=Ze0 I10 hk;exact this) hl fun h18 tk sb18 hset'=>?_;have I11:=I10.write (t':=tk) (e:=s2.heap.objs.size) (by rw [hD];trivial) (.inl rfl) (fun b o hb e=>(sb18.2 b hb).trans e) (by obtain ⟨o,_,_,_,e,_⟩:=hset';exact ⟨o,e⟩) (Ze5 hset');exact again I11 hm w11
end L2
namespace L2
open PySem PySem.Spec PyProof.Rows PySem.W
theorem Ziw:∀ (a b:List Int),a≠b→HT.lexLt b a = !HT.lexLt a b
 | [],[],h=>absurd rfl h
 | [],_ :: _,_=>rfl
 | _ :: _,[],_=>rfl
 | x :: a,y :: b,hn=>by
   rw [HT.lexLt_cons,HT.lexLt_cons]
   by_cases e:x=y
   · subst e;rw [if_pos rfl,if_pos rfl];exact Ziw a b (fun z=>hn (by rw [z]))
   · rw [if_neg e,if_neg (Ne.symm e)]
     by_cases h:x<y
     · rw [n40_ h,n35_ (by omega)];rfl
     · rw [n35_ h,n40_ (by omega)];rfl
theorem Zis:∀ (a b c:List Int),HT.lexLt a b=true→HT.lexLt b c=true→HT.lexLt a c=true
 | [],_,[],_,h=>by
   rename_i b _
   cases b<;>cases h
 | [],_,_ :: _,_,_=>rfl
 | _ :: _,[],_,h,_=>by cases h
 | _ :: _,_ :: _,[],_,h=>by cases h
 | x :: a,y :: b,z :: c,h3,h4=>by
   rw [HT.lexLt_cons] at h3 h4 ⊢
   by_cases e1:x=y
   · subst e1;rw [if_pos rfl] at h3
     by_cases e2:x=z
     · subst e2;rw [if_pos rfl] at h4 ⊢;exact Zis a b c h3 h4
     · rw [if_neg e2] at h4 ⊢;exact h4
   · rw [if_neg e1] at h3;have l1:x<y:=n30_ h3
     by_cases e2:y=z
     · subst e2;rw [if_neg e1];exact h3
     · rw [if_neg e2] at h4;have l2:y<z:=n30_ h4;rw [if_neg (by omega)];exact n40_ (by omega)
theorem Zcu {α β:Type} {f:α→β} {l m:List β} (p:l.Perm m):∀ (al:List α),m=al.map f→∃ bl:List α,l=bl.map f∧bl.Perm al:=by
 induction p with
 | nil=>intro al e;cases al with|nil=>exact ⟨[],rfl,.nil⟩|cons _ _=>cases e
 | cons x _ ih =>
   intro al e;cases al with
   | nil=>cases e
   | cons y al =>
     obtain ⟨bl,b1,b2⟩:=ih al (List.cons.inj e).2;exact ⟨y :: bl,by rw [n34_,← b1,← (List.cons.inj e).1],b2.cons y⟩
 | swap x y l =>
   intro al e;cases al with
   | nil=>cases e
   | cons u al =>
     cases al with
     | nil=>cases e
     | cons v al =>
       obtain ⟨e1,e2⟩:=List.cons.inj e;obtain ⟨e2,e3⟩:=List.cons.inj e2;exact ⟨v :: u :: al,by rw [e1,e2,e3];rfl,.swap ..⟩
 | trans _ _ ih1 ih2 =>
   intro al e;obtain ⟨bl,b1,b2⟩:=ih2 al e;obtain ⟨cl,c1,c2⟩:=ih1 bl b1;exact ⟨cl,c1,c2.trans b2⟩
abbrev lexA (al:List (Addr×List Int)) (i j:Nat):Bool:=HT.lexLt (al.getD i (0,[])).2 (al.getD j (0,[])).2
theorem Zov {al:List (Addr×List Int)} (nd:(al.map (·.2)).Nodup):Ord al.length (lexA al):=by
 have e:∀ i (h:i<al.length),al.getD i (0,[])=al[i]:=fun i h=>by simp [n4_,h]
 refine ⟨fun i _=>Zc8 _,fun i j hi hj ne=>?_,fun i j k hi hj hk h1 h2=>Zis _ _ _ h1 h2⟩;show HT.lexLt _ _ = !HT.lexLt _ _
 refine Ziw _ _ fun z=>ne ?_;rw [e i hi,e j hj] at z;exact (n63_ (h₀:=by simpa using hi) (h₁:=by simpa using hj) nd).mp (by simpa using z)
section
variable {P:Program} {w:World} {A:Around} {E:Value→Shared→Prop} {s:Shared} {S:Addr}
theorem Zgg {b c:Bool} {Q:Bool→Shared→Prop}:∀ {ns ms:List Int} {us ws:List Value} (i:Nat),IntsAre us ns→IntsAre ws ms→c=decide (ns.length<ms.length)→Q (HT.lexLt ns ms) s→KatLex P w A b c Q (us.zip ws) i s
 | [],[],_,_,i,.nil,.nil,hl,h=>kat_nil (by rw [hl];exact h)
 | [],_ :: _,_,_,i,.nil,.cons _ _ _,hl,h=>kat_nil (by rw [hl];exact h)
 | _ :: _,[],_,_,i,.cons _ _ _,.nil,hl,h=>kat_nil (by rw [hl];exact h)
 | x :: ns,y :: ms,_,_,i,.cons _ t hu,.cons _ u hw,hl,h=>by
   refine kat_cons (wpAny_eqBool_int ?_);rw [HT.lexLt_cons] at h
   by_cases e:x=y
   · subst e;rw [if_pos rfl] at h;rw [beq_self_eq_true];exact kat_yes (Zgg (i+1) hu hw (by rw [hl];simp) h)
   · rw [if_neg e] at h;rw [show (x == y)=false by simpa using e];exact kat_no (Zt3 h)
abbrev refs (al:List (Addr×List Int)):List V:=al.map fun x=>V.ref x.1
abbrev Zh6 (al:List (Addr×List Int)):Prop:=al.Pairwise fun x y=>HT.lexLt x.2 y.2=true
theorem Zf5:∀ (al:List (Addr×List Int)),Vals (refs al) (al.map fun x=>Value.ref x.1)
 | []=>.nil
 | x :: al=>.cons rfl (Zf5 al)
end
theorem Zcz {X:Cx} {pins:List (Addr×Obj)} {σ:St} {H:Hp} {s:Shared} {S:Addr} {al:List (Addr×List Int)} {Q:VK} (I:Inv X pins σ H s)
 (coll:∀ Q:List Value→Shared→Prop,(∀ h' tk,(∀ b o,s.heap.get? b=some o→h'.get? b=some o)→s.heap.objs.size≤h'.objs.size→Q (al.map fun x=>Value.ref x.1) { s with heap:=h',toks:=tk })→wpAny (model X.prog X.w) X.A.in1 (collect (.ref S)) Q (fun _ _=>False) s)
 (ht:∀ x∈al,tpl H x) (nd:(al.map (·.2)).Nodup) (hp:∀ x∈al,0<x.2.length) (h64:al.length<64)
 (q:∀ (l:Addr) (ql:List (Addr×List Int)),H l=none→ql.Perm al→Zh6 ql→Q (.ref l) (upd H l (.lst (refs ql)))) :
 wpAny (model X.prog X.w) X.A (call (.builtin "sorted") [.ref S]) (EP X pins σ Q) X.xe s:=by
 have o:=Zov nd;have en:(al.map fun x=>Value.ref x.1).length=al.length:=by simp
 refine Zhp (vs:=al.map fun x=>Value.ref x.1) (fun q=>q.Perm (List.range al.length)∧(q.map fun i=>al.getD i (0,[])).Pairwise (fun x y=>HT.lexLt x.2 y.2=true)) (fun h2=>?_) (by rw [en];exact h64) coll (fun h2 h1 tk k1=>?_) fun p' L h' tk e gp le keep he=>?_
 · rw [en] at h2 ⊢;refine ⟨.refl _,?_⟩
   have:al.length=0∨al.length=1:=by omega
   rcases this with e|e<;>rw [e]
   · exact .nil
   · exact .cons (by simp) .nil
 · have tup:∀ x∈al,∃ ob jt n,h1.get? x.1=some ob∧ob.cls=.type "tuple" ∧ ob.data=.seq jt n∧IntsAre jt.toList x.2:=fun x hx=>by
    obtain ⟨jt,rj,⟨ob,g,c,n,d⟩,_⟩:=I.tuple (SqT.of (ht x hx));exact ⟨ob,jt.toArray,n,k1 _ _ g,c,d,by simpa using Za3 rj⟩
   have prd:∀ (l:List (Addr×List Int)),(∀ x∈l,x∈al)→Paired (fun v k=>∃ b o its n,v=Value.ref b∧h1.get? b=some o∧o.cls=.type "tuple" ∧ o.data=.seq its n∧IntsAre its.toList k∧0<k.length) (l.map fun x=>Value.ref x.1) (l.map (·.2)):=by
    intro l
    induction l with
    | nil=>intro _;exact .nil
    | cons x l ih =>
      intro hl;obtain ⟨ob,jt,n,a1,a2,a3,a4⟩:=tup x (hl x (by simp));exact .cons ⟨x.1,ob,jt,n,rfl,a1,a2,a3,a4,hp x (hl x (by simp))⟩ (ih fun y hy=>hl y (n17_ _ hy))
   obtain ⟨fs,f1,f2,f3⟩:=Zdd (prd al fun _ h=>h);refine kat_kind (T:=.type "int") f1 (by omega) (fun v hv=>?_) rfl ⟨rfl,?_⟩
   · obtain ⟨x,t,rfl⟩:=f3 v hv;exact Looks.of_pure rfl
   · rw [en] at h2 ⊢;obtain ⟨r1,r2,r3⟩:=Zl7 o (by omega);refine Zmo (n:=al.length) (f:=lexA al) (fun i j C hi hj hC=>?_) _ r1 ⟨rfl,r2,List.pairwise_map.mpr r3⟩;have ev:∀ i (h:i<al.length),(al.map fun x=>Value.ref x.1).getD i Value.none=Value.ref al[i].1:=fun i h=>by simp [n4_,h]
     have ea:∀ i (h:i<al.length),al.getD i (0,[])=al[i]:=fun i h=>by simp [n4_,h]
     obtain ⟨ob,jt,n,a1,a2,a3,a4⟩:=tup al[i] (n43_ hi);obtain ⟨ob',jt',n',b1,b2,b3,b4⟩:=tup al[j] (n43_ hj);unfold kas_ask;rw [ev i hi,ev j hj];refine kat_lt a1 a3 b1 b3 ?_;have l1:=IntsAre.length a4;have l2:=IntsAre.length b4;rw [Array.length_toList] at l1 l2;refine Zgg 0 a4 b4 (by rw [l1,l2]) ?_;simp only [lexA] at hC;rw [ea i hi,ea j hj] at hC;exact hC
 · have fr:H L=none:=I.hok.fresh le;have lt:∀ i∈p',i<al.length:=fun i hi=>n26_.mp (gp.1.mem_iff.mp hi)
   have ep:(p'.map fun i=>al.getD i (0,[])).Perm al:=by
    refine (gp.1.map _).trans (.of_eq ?_);refine n64_ (by simp) fun i a1 a2=>?_;simp [n4_,a2]
   have ev:(p'.map fun i=>(al.map fun x=>Value.ref x.1).getD i Value.none)=(p'.map fun i=>al.getD i (0,[])).map fun x=>Value.ref x.1:=by
    rw [n75_];refine n78_ fun i hi=>?_
    have:=lt i hi
    simp [n4_,this]
   rw [ev] at he;refine ⟨.ref L,_,I.laid (o:=.lst (refs (p'.map fun i=>al.getD i (0,[])))) (t':=tk) keep le ⟨?_,_,e,Zf5 _,he⟩,rfl,q L _ fr ep gp.2⟩;rw [n5_,ep.length_eq,sizeLine_eq];omega
section
variable {X:Cx}
theorem Zaj:Yw X (.builtin "sorted") (fun xs H Q=>∃ (p:Addr) (al:List (Addr×List Int)),xs=[.ref p]∧SqL X.K H p (refs al)∧(∀ x∈al,tpl H x)∧(al.map (·.2)).Nodup∧(∀ x∈al,0<x.2.length)∧al.length<64 ∧
 ∀ (l:Addr) (ql:List (Addr×List Int)),H l=none→ql.Perm al→Zh6 ql→Q (.ref l) (upd H l (.lst (refs ql)))):=by
 intro pins s σ H xs us Q I r h;obtain ⟨p,al,rfl,hq,ht,nd,hp,h64,q⟩:=h;cases r with
 | cons rx r =>
   cases r
   cases (show _=Value.ref p from rx)
   obtain ⟨its,rv,pl,hz⟩:=I.list hq
   have eits:its=al.map fun x=>Value.ref x.1:=by
    clear pl hz ht hq q nd hp h64;generalize hv:refs al=vs at rv
    induction rv generalizing al with
    | nil=>cases al with|nil=>rfl|cons x al=>cases hv
    | cons r1 _ ih =>
      cases al with
      | nil=>cases hv
      | cons x al =>
        have hv1:=(List.cons.inj hv).1;have hv2:=(List.cons.inj hv).2;subst hv1;cases (show _=Value.ref x.1 from r1)
        rw [ih al hv2];rfl
   subst eits;refine Zcz I (fun Q' hQ=>collect_list pl.isList (hQ _ _ (fun b o e=>?_) ?_) (by rw [n5_,sizeLine_eq];omega)) ht nd hp h64 q
   · rw [Heap.get?_update_ne _ _ _ _ (n24_ (n13_ e))];exact n2_ _ e
   · rw [Heap.size_update,n42_];exact Nat.le_succ _
theorem Zb8 (hc:X.calm=true):Yw X (.builtin "sorted") (fun xs H Q=>∃ (p:Addr) (al:List (Addr×List Int)),xs=[.ref p]∧H p=some (setU (Y1 X.w) p al)∧(∀ x∈al,tpl H x)∧(∀ x∈al,0<x.2.length)∧al.length<64 ∧
 ∀ (l:Addr) (ql:List (Addr×List Int)),H l=none→ql.Perm al→Zh6 ql→Q (.ref l) (upd H l (.lst (refs ql)))):=by
 intro pins s σ H xs us Q I r h;obtain ⟨p,al,rfl,hq,ht,hp,h64,q⟩:=h;cases r with
 | cons rx r =>
   cases r
   cases (show _=Value.ref p from rx)
   obtain ⟨o,es,ep,t,g,ex,d,U⟩:=Zh0 (I.hok p _ hq);have sa:SetAt X.w s.heap p es ep t:=⟨⟨o,g,ex,d⟩,U.tw⟩;have pw:=(Zgt X.w p ep es).trans (U.pm.map (·.2));rw [n75_] at pw;obtain ⟨bl,eb,pb⟩:∃ bl:List (Addr×List Int),Zam X.w p ep es=bl.map (fun x=>Value.ref x.1)∧bl.Perm al:=Zcu pw al rfl;refine Zcz (al:=bl) I (fun Q' hQ=>?_) (fun x hx=>ht x (pb.mem_iff.mp hx)) ((pb.map (·.2)).nodup_iff.mpr U.nd) (fun x hx=>hp x (pb.mem_iff.mp hx)) (by rw [pb.length_eq];exact h64) fun l ql e1 e2 e3=>q l ql e1 (e2.trans pb) e3;have wl:(Zam X.w p ep es).length=es.size:=Zjd;refine Zba (vs:=bl.map fun x=>Value.ref x.1) (it0:={ cls:=.type "set_iterator",data:=.fields #[.int (0:Nat) 0,.int (0:Nat) 0,.ref p,.int es.size 0,.int ep 0] }) (St:=fun I i h=>IsSetIter h I p es.size ep (Xn X.w t i) i∧SetAt X.w h p es ep t) (by simp [I.ok.hd hc]) (.inl rfl) sa.typeIs (by rw [n5_,pb.length_eq,sizeLine_eq];omega) (fun A s1 Q E k1 hQ=>Zop (sa.stay k1) hQ) rfl (fun A I' hh hne=>?_) (fun h I' e k=>⟨⟨_,e,rfl,rfl⟩,sa.stay k⟩) hQ;have W:=Zml (P:=X.prog) (w:=X.w) (ep:=ep) (es:=es) (t:=t) hh I' hne;rw [← wl,eb] at W;have e2:es.size=(bl.map fun x=>Value.ref x.1).length:=by rw [← wl,eb]
   rw [e2];exact W
theorem Zv4 {H:Hp}:∀ {kvs:List (List Key×V)} {xs:List (List Key×Addr×Value)},Paired (fun (p:List Key×V) (q:List Key×Addr×Value)=>p.1=q.1∧H q.2.1=some (.tup (p.1.map kV))∧RelV p.2 q.2.2) kvs xs→∀ (kl:List (List Int)),kvs.map (·.1)=kl.map (·.map Sum.inl) →
 ∃ al:List (Addr×List Int),al.map (·.2)=kl∧xs.map (fun q=>Value.ref q.2.1)=al.map (fun x=>Value.ref x.1)∧∀ x∈al,tpl H x:=by
 intro kvs xs r
 induction r with
 | nil=>intro kl e;cases kl with|nil=>exact ⟨[],rfl,rfl,fun x hx=>by cases hx⟩|cons k kl=>cases e
 | cons r1 _ ih =>
   intro kl e;cases kl with
   | nil=>cases e
   | cons k kl =>
     rename_i p q l1 l2 _
     have e1:p.1=k.map Sum.inl:=(List.cons.inj e).1;obtain ⟨al,a1,a2,a3⟩:=ih kl (List.cons.inj e).2;refine ⟨(q.2.1,k) :: al,by rw [n34_,a1],by rw [n34_,n34_,a2],fun x hx=>?_⟩
     rcases n11_.mp hx with rfl|hx
     · show H q.2.1=_
       rw [r1.2.1,e1,n75_];rfl
     · exact a3 x hx
theorem Zb7 (hc:X.calm=true):Yw X (.builtin "sorted") (fun xs H Q=>∃ (p:Addr) (kvs:List (List Key×V)) (kl:List (List Int)),xs=[.ref p]∧H p=some (.dT kvs)∧kvs.map (·.1)=kl.map (·.map Sum.inl)∧kl.Nodup∧(∀ k∈kl,0<k.length)∧kl.length<64 ∧
 ∀ (l:Addr) (ql:List (Addr×List Int)),H l=none→(∀ x∈ql,tpl H x)→(ql.map (·.2)).Perm kl→Zh6 ql→Q (.ref l) (upd H l (.lst (refs ql)))):=by
 intro pins s σ H xs us Q I r h;obtain ⟨p,kvs,kl,rfl,hq,hk,nd,hp,h64,q⟩:=h;cases r with
 | cons rx r =>
   cases r
   cases (show _=Value.ref p from rx)
   obtain ⟨t1,_,nm⟩:=Zl4 I (.inr ⟨kvs,.inl hq⟩);obtain ⟨z,_,xs,rel,o,es,ep,g,_,d,ees,_⟩:=(show ObjOk X.prog X.w H s.heap p (.dT kvs) from I.hok p _ hq);obtain ⟨al,a1,a2,a3⟩:=Zv4 rel kl hk;have ent:EntAt s.heap p es ep:=⟨o,g,d⟩;have ek:es.toList.map (·.key)=al.map (fun x=>Value.ref x.1):=by rw [ees,n75_,← a2];rfl
   subst a1;have la:al.length<64:=by simpa using h64
   refine Zcz (al:=al) I (fun Q' hQ=>?_) a3 nd (fun x hx=>hp _ (n50_ hx)) la fun l ql e1 e2 e3=>q l ql e1 (fun x hx=>a3 x (e2.mem_iff.mp hx)) (e2.map _) e3;refine Zba (vs:=al.map fun x=>Value.ref x.1) (it0:={ cls:=.type "dict_keyiterator",data:=.fields #[.ref p,.int 0 0,.int es.size 0,.int ep 0] }) (St:=fun I i h=>h.IsKeyIter I p i es.size ep∧EntAt h p es ep) (by simp [I.ok.hd hc]) (.inr rfl) t1 (by rw [n5_,sizeLine_eq];omega) (fun A s1 Q E k1 hQ=>Zjh (let ⟨o,a,b⟩:=t1;⟨o,k1 _ a,b⟩) nm (ent.at k1) hQ) rfl (fun A I' hh hne=>?_) (fun h I' e k=>⟨⟨_,e,rfl,rfl⟩,ent.at k⟩) hQ;have W:=Zd8 (P:=X.prog) (w:=X.w) (es:=es) (ep:=ep) A I' hh hne;rw [ek] at W;exact W
end
end L2
namespace L2
open PySem
theorem Zq4 {α:Type} {R:α→α→Prop} (irr:∀ a,¬ R a a) (tr:∀ a b c,R a b→R b c→R a c):∀ {xs ys:List α},xs.Pairwise R→ys.Pairwise R→(∀ k,k∈xs↔k∈ys)→xs=ys
 | [],[],_,_,_=>rfl
 | [],y :: ys,_,_,h=>absurd ((h y).mpr n15_) (by simp)
 | x :: xs,[],_,_,h=>absurd ((h x).mp n15_) (by simp)
 | x :: xs,y :: ys,a,b,h=>by
   obtain ⟨a1,a2⟩:=List.pairwise_cons.mp a;obtain ⟨b1,b2⟩:=List.pairwise_cons.mp b
   have e:x=y:=by
    rcases n11_.mp ((h x).mp n15_) with e|h1
    · exact e
    rcases n11_.mp ((h y).mpr n15_) with e|h2
    · exact e.symm
    exact absurd (tr _ _ _ (b1 x h1) (a1 y h2)) (irr _)
   subst e;refine congrArg (x :: ·) (Zq4 irr tr a2 b2 fun k=>⟨fun hk=>?_,fun hk=>?_⟩)
   · rcases n11_.mp ((h k).mp (n17_ _ hk)) with e|h1
     · subst e;exact absurd (a1 _ hk) (irr _)
     · exact h1
   · rcases n11_.mp ((h k).mpr (n17_ _ hk)) with e|h1
     · subst e;exact absurd (b1 _ hk) (irr _)
     · exact h1
theorem Zc7 {α:Type} [DecidableEq α]:∀ {xs ys:List α},xs.Nodup→(∀ x∈xs,x∈ys)→xs.length≤ys.length
 | [],_,_,_=>n51_ _
 | x :: xs,ys,nd,h=>by
   obtain ⟨n1,n2⟩:=List.nodup_cons.mp nd;have h1:=h x n15_
   have:=Zc7 (ys:=ys.erase x) n2 fun y hy=>(List.mem_erase_of_ne (fun e=>n1 (by rw [← e];exact hy))).mpr (h y (n17_ _ hy))
   rw [List.length_erase_of_mem h1] at this
   have:0<ys.length:=List.length_pos_of_mem h1
   rw [n18_];omega
abbrev Zb3 (ks:List (List Int)):Prop:=ks.Pairwise fun x y=>HT.lexLt x y=true
theorem Y0 {al:List (Addr×List Int)} (h:Zh6 al):Zb3 (al.map (·.2)):=List.pairwise_map.mpr h
theorem Zcy {xs ys:List (List Int)} (a:Zb3 xs) (b:Zb3 ys) (h:∀ k,k∈xs↔k∈ys):xs=ys :=
 Zq4 (fun a h=>by rw [Zc8] at h;cases h) (fun a b c=>Zis a b c) a b h
theorem Zmu {xs ys:List Int} (a:xs.Pairwise (·<·)) (b:ys.Pairwise (·<·)) (h:∀ k,k∈xs↔k∈ys):xs=ys :=
 Zq4 (fun a h=>by omega) (fun a b c h1 h2=>by omega) a b h
theorem Zcq {xs:List Int} (a:xs.Pairwise (·≤·)) (n:xs.Nodup):xs.Pairwise (·<·):=by
 refine (a.and n).imp fun {x y} h=>?_
 have:x≠y:=h.2
 omega
def Zu (p:List Int):List (List Int):=[[p.getD 0 0,p.getD 1 0],[p.getD 0 0,p.getD 2 0],[p.getD 1 0,p.getD 2 0]]
def Zo (ps:List (List Int)):List (List Int):=ps.flatMap Zu
theorem Zen (ps:List (List Int)) (p:List Int):Zo (ps++[p])=Zo ps++Zu p:=by simp [Zo]
theorem Xo (ps:List (List Int)):(Zo ps).length=3*ps.length:=by
 induction ps with
 | nil=>rfl
 | cons p ps ih=>rw [Zo,List.flatMap_cons,n21_,← Zo,ih,n18_];simp [Zu];omega
theorem Zk8 {p s:List Int} (h:s∈Zu p):s.length=2:=by
 simp only [Zu,n11_,n12_,or_false] at h
 rcases h with rfl|rfl|rfl<;>rfl
theorem Y9 {ps:List (List Int)} {s:List Int} (h:s∈Zo ps):s.length=2:=by
 obtain ⟨p,_,h⟩:=List.mem_flatMap.mp h;exact Zk8 h
def Zai (ps:List (List Int)) (n:Nat):List (List Int×Int):=(List.range n).flatMap fun i=>(Zu (ps.getD i [])).map fun s=>(s,(i:Int))
theorem Zd1 (ps:List (List Int)) (n:Nat):Zai ps (n+1)=Zai ps n++(Zu (ps.getD n [])).map fun s=>(s,(n:Int)):=by
 unfold Zai;rw [List.range_succ,List.flatMap_append];simp
theorem Zcr (ps:List (List Int)):(Zai ps ps.length).map (·.1)=Zo ps:=by
 unfold Zai Zo;rw [List.map_flatMap]
 have e:ps=(List.range ps.length).map fun i=>ps.getD i []:=by
  refine n64_ (by simp) fun i h1 h2=>?_;simp [n4_,h1]
 conv=>rhs;rw [e,List.flatMap_map]
 congr 1
theorem Zf7 {ps:List (List Int)} {n:Nat} {s:List Int} {x:Int}:(s,x)∈Zai ps n↔∃ m:Nat,x=m∧m<n∧s∈Zu (ps.getD m []):=by
 unfold Zai;rw [List.mem_flatMap];constructor
 · rintro ⟨i,hi,h⟩
   obtain ⟨t,ht,e⟩:=n29_.mp h;cases e
   exact ⟨i,rfl,n26_.mp hi,ht⟩
 · rintro ⟨m,rfl,hm,h⟩
   exact ⟨m,n26_.mpr hm,n29_.mpr ⟨s,h,rfl⟩⟩
def ins (g:List (List Int×List Int)) (s:List Int) (n:Int):List (List Int×List Int) :=
 if s∈g.map (·.1) then g.map (fun e=>if e.1=s then (e.1,e.2++[n]) else e) else g++[(s,[n])]
structure GI (g:List (List Int×List Int)) (qs:List (List Int×Int)):Prop where
 nd:(g.map (·.1)).Nodup
 ks:∀ s,s∈g.map (·.1)↔s∈qs.map (·.1)
 vs:∀ e∈g,e.2=(qs.filter fun q=>decide (q.1=e.1)).map (·.2)
theorem GI.nil:GI [] []:=⟨by simp,by simp,by simp⟩
theorem GI.len {g:List (List Int×List Int)} {qs:List (List Int×Int)} (h:GI g qs):g.length≤qs.length:=by
 have:=Zc7 h.nd fun s hs=>(h.ks s).mp hs
 simpa using this
theorem Zkn {g:List (List Int×List Int)} {s:List Int} {n:Int}:(ins g s n).map (·.1)=if s∈g.map (·.1) then g.map (·.1) else g.map (·.1)++[s]:=by
 unfold ins;split
 · rw [n75_];refine n78_ fun e he=>?_;simp only [Function.comp];split<;>rfl
 · rw [n45_];rfl
theorem GI.ins {g:List (List Int×List Int)} {qs:List (List Int×Int)} (h:GI g qs) (s:List Int) (n:Int):GI (ins g s n) (qs++[(s,n)]):=by
 refine ⟨?_,fun t=>?_,fun e he=>?_⟩
 · rw [Zkn];split
   · exact h.nd
   · rename_i c
     rw [n72_];exact ⟨h.nd,by simp,fun a ha b hb=>by rw [n23_.mp hb];exact fun z=>c (z ▸ ha)⟩
 · rw [Zkn,n45_,n28_,← h.ks t];split
   · rename_i c
     constructor
     · exact .inl
     · rintro (z|z)
       · exact z
       · rw [show t=s by simpa using z];exact c
   · rw [n28_];rfl
 · rw [List.filter_append,n45_];unfold L2.ins at he;split at he
   · obtain ⟨e0,h0,rfl⟩:=n29_.mp he
     have:=h.vs e0 h0
     split
     · rename_i c
       simp [this,c]
     · rename_i c
       have c':¬ s=e0.1:=fun z=>c z.symm;simp [← this,c']
   · rename_i c
     rcases n28_.mp he with h0|h0
     · have:=h.vs e h0
       have ne:s≠e.1:=fun z=>c (z ▸ n50_ h0);simp [← this,ne]
     · rw [n23_.mp h0]
       have:(qs.filter fun q=>decide (q.1=s))=[]:=by
        rw [List.filter_eq_nil_iff];intro q hq z;exact c ((h.ks s).mpr (n29_.mpr ⟨q,hq,n30_ z⟩))
       simp [this]
theorem GI.count {g:List (List Int×List Int)} {qs:List (List Int×Int)} (h:GI g qs) {e:List Int×List Int} (he:e∈g):e.2.length=(qs.map (·.1)).count e.1:=by
 rw [h.vs e he,n5_,List.count,List.countP_map,List.countP_eq_length_filter]
 congr 1
 refine List.filter_congr fun x _=>?_
 by_cases c:x.1=e.1<;>simp [c]
theorem GI.mem {g:List (List Int×List Int)} {ps:List (List Int)} {n:Nat} (h:GI g (Zai ps n)) {e:List Int×List Int} (he:e∈g) {x:Int}:x∈e.2↔∃ m:Nat,x=m∧m<n∧e.1∈Zu (ps.getD m []):=by
 rw [h.vs e he,n29_,← Zf7];constructor
 · rintro ⟨q,hq,rfl⟩
   obtain ⟨h1,h2⟩:=n37_.mp hq;rw [← show q.1=e.1 by simpa using h2];exact h1
 · intro hq;exact ⟨_,n37_.mpr ⟨hq,by simp⟩,rfl⟩
theorem Zbh (ps:List (List Int)) (n:Nat):(Zai ps n).length=3*n:=by
 induction n with
 | zero=>rfl
 | succ n ih=>rw [Zd1,n21_,ih,n5_];simp [Zu];omega
theorem GI.le {g:List (List Int×List Int)} {qs:List (List Int×Int)} (h:GI g qs) {e:List Int×List Int} (he:e∈g):e.2.length≤qs.length:=by
 rw [h.vs e he,n5_];exact List.length_filter_le ..
def Adj (ps:List (List Int)) (i j:Nat):Prop:=∃ s,s∈Zu (ps.getD i [])∧s∈Zu (ps.getD j [])
theorem Adj.symm {ps:List (List Int)} {i j:Nat} (h:Adj ps i j):Adj ps j i:=let ⟨s,a,b⟩:=h;⟨s,b,a⟩
def Conn (A:Nat→Nat→Prop) (k i j:Nat):Prop:=∀ p:Nat→Prop,(∀ a b,a<k→b<k→A a b→p a→p b)→p i→p j
theorem Conn.refl {A:Nat→Nat→Prop} {k i:Nat}:Conn A k i i:=fun _ _ h=>h
theorem Conn.trans {A:Nat→Nat→Prop} {k i j l:Nat} (a:Conn A k i j) (b:Conn A k j l):Conn A k i l:=fun p h q=>b p h (a p h q)
theorem Conn.one {A:Nat→Nat→Prop} {k i j:Nat} (hi:i<k) (hj:j<k) (a:A i j):Conn A k i j:=fun p h q=>h i j hi hj a q
theorem Conn.mono {A:Nat→Nat→Prop} {k k' i j:Nat} (h:k≤k') (a:Conn A k i j):Conn A k' i j:=fun p q=>a p fun x y hx hy=>q x y (by omega) (by omega)
structure PartOk (A:Nat→Nat→Prop) (n i:Nat) (l:List Int):Prop where
 rise:l.Pairwise (·<·)
 mem:∀ x:Int,x∈l↔∃ m:Nat,x=m∧m<n∧Conn A n i m
theorem PartOk.eq {A:Nat→Nat→Prop} {n i:Nat} {l l':List Int} (a:PartOk A n i l) (b:PartOk A n i l'):l=l':=Zmu a.rise b.rise fun x=>(a.mem x).trans (b.mem x).symm
theorem PartOk.len {A:Nat→Nat→Prop} {n i:Nat} {l:List Int} (a:PartOk A n i l):l.length≤n:=by
 have nd:l.Nodup:=a.rise.imp fun {x y} h=>by omega
 have:=Zc7 (ys:=(List.range n).map fun (i:Nat)=>(i:Int)) nd fun x hx=>by
  obtain ⟨m,rfl,hm,_⟩:=(a.mem x).mp hx;exact n29_.mpr ⟨m,n26_.mpr hm,rfl⟩
 simpa using this
structure PartsOk (A:Nat→Nat→Prop) (n:Nat) (ks:List (List Int)):Prop where
 rise:Zb3 ks
 mem:∀ l,l∈ks↔∃ i,i<n∧PartOk A n i l
theorem PartsOk.eq {A:Nat→Nat→Prop} {n:Nat} {ks ks':List (List Int)} (a:PartsOk A n ks) (b:PartsOk A n ks'):ks=ks':=Zcy a.rise b.rise fun l=>(a.mem l).trans (b.mem l).symm
theorem Zob {A:Nat→Nat→Prop} {n i:Nat} {ks l:List Int} (hi:i<n) (nd:ks.Nodup) (st:(i:Int)∈ks) (co:∀ x∈ks,∃ m:Nat,x=m∧m<n∧Conn A n i m) (cl:∀ a b:Nat,(a:Int)∈ks→b<n→A a b→(b:Int)∈ks)
 (pm:l.Perm ks) (so:l.Pairwise (·≤·)):PartOk A n i l:=by
 refine ⟨Zcq so (pm.nodup_iff.mpr nd),fun x=>?_⟩;rw [pm.mem_iff];refine ⟨co x,?_⟩;rintro ⟨m,rfl,hm,c⟩
 exact c (fun j=>(j:Int)∈ks) (fun a b _ hb ab ha=>cl a b ha hb ab) st
structure LotsOk (A:Nat→Nat→Prop) (k:Nat) (ls:List (List Int)):Prop where
 cover:∀ j:Nat,j<k→∃ l∈ls,(j:Int)∈l
 rise:∀ l∈ls,l.Pairwise (·<·)
 ne:∀ l∈ls,l≠[]
 el:∀ l∈ls,∀ x∈l,∃ m:Nat,x=m∧m<k
 dj:ls.Pairwise fun l l'=>∀ x∈l,x∉l'
 conn:∀ l∈ls,∀ i j:Nat,(i:Int)∈l→(j:Int)∈l→Conn A k i j
 closed:∀ l∈ls,∀ i j:Nat,(i:Int)∈l→j<k→A i j→(j:Int)∈l
theorem LotsOk.nil {A:Nat→Nat→Prop}:LotsOk A 0 []:=⟨fun j h=>by omega,by simp,by simp,by simp,.nil,by simp,by simp⟩
theorem LotsOk.nd {A:Nat→Nat→Prop} {k:Nat} {ls:List (List Int)} (h:LotsOk A k ls):ls.Nodup:=by
 refine (List.Pairwise.imp_of_mem (fun {l l'} hl hl' d e=>?_) h.dj);subst e
 have:=h.ne l hl
 cases l with
 | nil=>exact this rfl
 | cons x l=>exact d x n15_ n15_
theorem Zer {α:Type}:∀ {ls:List (List α)},(∀ l∈ls,l.Nodup)→(ls.Pairwise fun l l'=>∀ x∈l,x∉l')→ls.flatten.Nodup
 | [],_,_=>List.nodup_nil
 | l :: ls,a,b=>by
   obtain ⟨b1,b2⟩:=List.pairwise_cons.mp b;rw [n58_,n72_];refine ⟨a l n15_,Zer (fun l' h=>a l' (n17_ _ h)) b2,fun x hx y hy e=>?_⟩;subst e;obtain ⟨l',hl',hx'⟩:=n74_.mp hy;exact b1 l' hl' x hx hx'
theorem LotsOk.flat {A:Nat→Nat→Prop} {k:Nat} {ls:List (List Int)} (h:LotsOk A k ls):ls.flatten.Nodup∧∀ x∈ls.flatten,∃ m:Nat,x=m∧m<k:=by
 refine ⟨Zer (fun l hl=>(h.rise l hl).imp fun {x y} z=>by omega) h.dj,fun x hx=>?_⟩;obtain ⟨l,hl,hx⟩:=n74_.mp hx;exact h.el l hl x hx
theorem LotsOk.sum {A:Nat→Nat→Prop} {k:Nat} {ls:List (List Int)} (h:LotsOk A k ls):ls.flatten.length≤k:=by
 have:=Zc7 (ys:=(List.range k).map fun (i:Nat)=>(i:Int)) h.flat.1 fun x hx=>by
  obtain ⟨m,rfl,hm⟩:=h.flat.2 x hx;exact n29_.mpr ⟨m,n26_.mpr hm,rfl⟩
 simpa using this
theorem LotsOk.len {A:Nat→Nat→Prop} {k:Nat} {ls:List (List Int)} (h:LotsOk A k ls):ls.length≤k:=by
 have l1:∀ ls:List (List Int),(∀ l∈ls,l≠[])→ls.length≤ls.flatten.length:=by
  intro ls
  induction ls with
  | nil=>intro _;simp
  | cons l ls ih =>
    intro hh;have h1:=ih fun x hx=>hh x (n17_ _ hx);have h2:0<l.length:=List.length_pos_iff.mpr (hh l n15_);rw [n18_,n58_,n21_];omega
 exact n53_ (l1 ls h.ne) h.sum
theorem Zpx {A:Nat→Nat→Prop} (sym:∀ a b,A a b→A b a) {k:Nat} {ls:List (List Int)} (h:LotsOk A k ls) (f:List Int→Bool) (hf:∀ l∈ls,f l=true↔∃ m:Nat,(m:Int)∈l∧A m k)
 {t:List Int} (pm:t.Perm ((k:Int) :: (ls.filter f).flatten)) (so:t.Pairwise (·≤·)):LotsOk A (k+1) (ls.filter (fun l=>!f l)++[t]):=by
 have hn:=h.flat;have sub:(ls.filter f).Sublist ls:=List.filter_sublist
 have tm:∀ x,x∈t↔x=k∨∃ l∈ls,f l=true∧x∈l:=fun x=>by
  rw [pm.mem_iff,n11_,n74_];constructor
  · rintro (e|⟨l,hl,hx⟩)
    · exact .inl e
    · obtain ⟨a,b⟩:=n37_.mp hl;exact .inr ⟨l,a,b,hx⟩
  · rintro (e|⟨l,a,b,hx⟩)
    · exact .inl e
    · exact .inr ⟨l,n37_.mpr ⟨a,b⟩,hx⟩
 have old:∀ l∈ls.filter (fun l=>!f l),l∈ls∧f l=false:=fun l hl=>by
  obtain ⟨a,b⟩:=n37_.mp hl;exact ⟨a,by simpa using b⟩
 have nk:∀ l∈ls,(k:Int)∉l:=fun l hl hx=>by
  obtain ⟨m,e,hm⟩:=h.el l hl _ hx;omega
 have two:∀ {l l':List Int} {x:Int},l∈ls→l'∈ls→x∈l→x∈l'→l=l':=fun {l l' x} hl hl' h1 h2=>by
  obtain ⟨i,hi,e1⟩:=n44_ hl;obtain ⟨j,hj,e2⟩:=n44_ hl';have dj:=n54_.mp h.dj
  rcases Nat.lt_trichotomy i j with c|c|c
  · exact absurd (e2 ▸ h2) (dj i j hi hj c x (e1 ▸ h1))
  · subst c;rw [← e1,← e2]
  · exact absurd (e1 ▸ h1) (dj j i hj hi c x (e2 ▸ h2))
 have tnd:t.Nodup:=pm.nodup_iff.mpr (List.nodup_cons.mpr ⟨fun hx=>by
  obtain ⟨l,hl,hx⟩:=n74_.mp hx;exact nk l (n37_.mp hl).1 hx,Zer (fun l hl=>(h.rise l (n37_.mp hl).1).imp fun {x y} z=>by omega) (h.dj.sublist sub)⟩)
 have toK:∀ i:Nat,(i:Int)∈t→Conn A (k+1) i k∧Conn A (k+1) k i:=fun i hi=>by
  rcases (tm i).mp hi with e|⟨l,hl,fl,hx⟩
  · have:i=k:=by omega
    subst this;exact ⟨.refl,.refl⟩
  · obtain ⟨m,hm,am⟩:=(hf l hl).mp fl;obtain ⟨m',e',hm'⟩:=h.el l hl _ hm;have hmk:m<k:=by omega
    exact ⟨((h.conn l hl i m hx hm).mono (by omega)).trans (.one (by omega) (by omega) am),(Conn.one (by omega) (by omega) (sym _ _ am)).trans ((h.conn l hl m i hm hx).mono (by omega))⟩
 refine ⟨fun j hj=>?_,fun l hl=>?_,fun l hl=>?_,fun l hl x hx=>?_,?_,fun l hl i j hi hj=>?_,fun l hl i j hi hj a=>?_⟩
 · by_cases c:j=k
   · subst c;exact ⟨t,by simp,(tm _).mpr (.inl rfl)⟩
   · obtain ⟨l,hl,hx⟩:=h.cover j (by omega)
     by_cases fl:f l=true
     · exact ⟨t,by simp,(tm _).mpr (.inr ⟨l,hl,fl,hx⟩)⟩
     · exact ⟨l,n67_ _ (n37_.mpr ⟨hl,by simpa using fl⟩),hx⟩
 · rcases n28_.mp hl with hl|hl
   · exact h.rise l (old l hl).1
   · rw [n23_.mp hl];exact Zcq so tnd
 · rcases n28_.mp hl with hl|hl
   · exact h.ne l (old l hl).1
   · rw [n23_.mp hl];exact List.ne_nil_of_mem ((tm _).mpr (.inl rfl))
 · rcases n28_.mp hl with hl|hl
   · obtain ⟨m,e,hm⟩:=h.el l (old l hl).1 x hx;exact ⟨m,e,by omega⟩
   · rw [n23_.mp hl] at hx
     rcases (tm x).mp hx with e|⟨l',hl',_,hx'⟩
     · exact ⟨k,e,by omega⟩
     · obtain ⟨m,e,hm⟩:=h.el l' hl' x hx';exact ⟨m,e,by omega⟩
 · rw [List.pairwise_append];refine ⟨h.dj.sublist List.filter_sublist,by simp,fun l hl t' ht x hx hx'=>?_⟩;rw [n23_.mp ht] at hx';obtain ⟨o1,o2⟩:=old l hl
   rcases (tm x).mp hx' with e|⟨l',hl',fl',hx2⟩
   · exact nk l o1 (e ▸ hx)
   · rw [two o1 hl' hx hx2,fl'] at o2;cases o2
 · rcases n28_.mp hl with hl|hl
   · exact (h.conn l (old l hl).1 i j hi hj).mono (by omega)
   · rw [n23_.mp hl] at hi hj;exact (toK i hi).1.trans (toK j hj).2
 · rcases n28_.mp hl with hl|hl
   · obtain ⟨o1,o2⟩:=old l hl
     by_cases c:j=k
     · subst c
       have:f l=true:=(hf l o1).mpr ⟨i,hi,a⟩
       rw [o2] at this;cases this
     · exact h.closed l o1 i j hi (by omega) a
   · rw [n23_.mp hl] at hi ⊢
     by_cases c:j=k
     · exact (tm _).mpr (.inl (by omega))
     have hjk:j<k:=by omega
     rcases (tm _).mp hi with e|⟨l',hl',fl',hx⟩
     · have:i=k:=by omega
       subst this;obtain ⟨l',hl',hx⟩:=h.cover j hjk;exact (tm _).mpr (.inr ⟨l',hl',(hf l' hl').mpr ⟨j,hx,sym _ _ a⟩,hx⟩)
     · exact (tm _).mpr (.inr ⟨l',hl',fl',h.closed l' hl' i j hx hjk a⟩)
theorem LotsOk.part {A:Nat→Nat→Prop} {n:Nat} {ls:List (List Int)} (h:LotsOk A n ls) {l:List Int} (hl:l∈ls) {i:Nat} (hi:(i:Int)∈l):PartOk A n i l:=by
 refine ⟨h.rise l hl,fun x=>⟨fun hx=>?_,?_⟩⟩
 · obtain ⟨m,e,hm⟩:=h.el l hl x hx;exact ⟨m,e,hm,h.conn l hl i m hi (e ▸ hx)⟩
 · rintro ⟨m,rfl,hm,c⟩
   exact c (fun j=>(j:Int)∈l) (fun a b _ hb ab ha=>h.closed l hl a b ha hb ab) hi
theorem LotsOk.parts {A:Nat→Nat→Prop} {n:Nat} {ls ks:List (List Int)} (h:LotsOk A n ls) (r:Zb3 ks) (m:∀ l,l∈ks↔l∈ls):PartsOk A n ks:=by
 refine ⟨r,fun l=>(m l).trans ⟨fun hl=>?_,?_⟩⟩
 · have ne:=h.ne l hl;cases l with
   | nil=>exact absurd rfl ne
   | cons x l =>
     obtain ⟨i,e,hi⟩:=h.el _ hl x n15_;exact ⟨i,hi,h.part hl (by rw [← e];exact n15_)⟩
 · rintro ⟨i,hi,p⟩
   obtain ⟨l',hl',hx⟩:=h.cover i hi;rw [p.eq (h.part hl' hx)];exact hl'
theorem Zht {d e f x y:Int} (h1:d<e) (h2:e<f) (h:x<y):[x,y]∈Zu [d,e,f]↔x∈[d,e,f]∧y∈[d,e,f]:=by
 simp [Zu];omega
theorem Zk6 {a b c d e f:Int} (h1:a<b) (h2:b<c) (h3:d<e) (h4:e<f) (ne:([a,b,c]:List Int)≠[d,e,f]) :
 (([a,b,c]:List Int).filter fun x=>decide (x∈[d,e,f])).length=2↔∃ s,s∈Zu [a,b,c]∧s∈Zu [d,e,f]:=by
 have e1:(∃ s,s∈Zu [a,b,c]∧s∈Zu [d,e,f])↔([a,b]∈Zu [d,e,f]∨[a,c]∈Zu [d,e,f]∨[b,c]∈Zu [d,e,f]):=by
  conv=>lhs;simp only [Zu,n11_,n12_,or_false]
  constructor
  · rintro ⟨s,h,h'⟩
    rcases h with rfl|rfl|rfl
    · exact .inl (by simpa [Zu] using h')
    · exact .inr (.inl (by simpa [Zu] using h'))
    · exact .inr (.inr (by simpa [Zu] using h'))
  · rintro (h|h|h)
    · exact ⟨_,.inl rfl,by simpa [Zu] using h⟩
    · exact ⟨_,.inr (.inl rfl),by simpa [Zu] using h⟩
    · exact ⟨_,.inr (.inr rfl),by simpa [Zu] using h⟩
 rw [e1,Zht h3 h4 h1,Zht h3 h4 (by omega),Zht h3 h4 h2]
 have n3:¬ (a∈[d,e,f]∧b∈[d,e,f]∧c∈[d,e,f]):=by
  rintro ⟨x,y,z⟩
  refine ne ?_;simp only [n11_,n12_,or_false] at x y z
  have:a=d∧b=e∧c=f:=by omega
  rw [this.1,this.2.1,this.2.2]
 by_cases x:a∈[d,e,f]<;>by_cases y:b∈[d,e,f]<;>by_cases z:c∈[d,e,f]
 · exact absurd ⟨x,y,z⟩ n3
 all_goals rw [List.filter_cons,List.filter_cons,List.filter_cons];simp only [x,y,z,decide_true,decide_false,if_true,if_false,List.filter_nil,n18_,n69_,n16_];simp
end L2
namespace L2
open PySem PySem.Spec PyProof.Rows PySem.W
abbrev lobj (its:List Value) (n:Nat):Obj:={ cls:=.type "list",data:=.seq its.toArray n }
section
variable {P:Program} {w:World} {A:Around} {R:Result→Shared→Prop} {I:Addr} {fp wr:List Addr} {n:Nat} {Pv:Nat→Value→Prop} {St:Nat→Heap→Prop}
def Xg (cs:Nat→List Value) (n i:Nat):List Value:=((List.range' i (n-i)).map cs).flatten
theorem Zgk (cs:Nat→List Value) (n:Nat):Xg cs n n=[]:=by unfold Xg;rw [Nat.sub_self];rfl
theorem Ze3 (cs:Nat→List Value) {n i:Nat} (h:i<n):Xg cs n i=cs i++Xg cs n (i+1):=by
 unfold Xg;rw [show n-i=(n-(i+1))+1 by omega,List.range'_succ,n34_,n58_]
theorem Zl0 (W:Walks P w A.in1 I fp wr n Pv St) (ad:Nat→Addr) (cs:Nat→List Value) (hval:∀ i v,i<n→Pv i v→v=.ref (ad i)) (S z0:Addr) (hSf:S∉fp) (hz0:z0≤S) (hwz:∀ b∈wr,b<S) :
 ∀ (k i:Nat) (s:Shared) (T:Addr) (acc:List Value) (c m:Nat),n-i=k→i≤n→St i s.heap→s.heap.get? S=some (lobj [.ref T] c)→s.heap.get? T=some (lobj acc m)→T∉wr→T≠S →
   (∀ j,j<n→(∃ n',s.heap.get? (ad j)=some (lobj (cs j) n'))∧ad j∉wr∧ad j≠S)→(acc++Xg cs n i).length≤1000 →
   (∀ h' tk T' m',(∀ b o,b∉wr→b≠S→s.heap.get? b=some o→h'.get? b=some o)→h'.get? T'=some (lobj (acc++Xg cs n i) m')→(z0≤T'∨(n=i∧T'=T))→R (.ok (.ret (.ref T'))) { s with heap:=h',toks:=tk }) →
   codeAny (model P w) A (.builtin "sum.loop" ⟨[.ref I,.ref S,rawInt 2,rawInt 0],[]⟩) R s:=by
 have hSw:S∉wr:=fun h=>hSf (W.sub _ h);intro k
 induction k with
 | zero =>
   intro i s T acc c m hk hi hst hS hT hTw hTS hcs hsz hR;have hin:i=n:=by omega
   subst hin;refine codeAny_builtin F.entry_sum_loop ?_;rw [Around.under_plainId F.plain_sum_loop _];show wpAny _ A.in1 (seqItems? (.ref S) >>= _) _ _ s
   refine n0_ (wpAny_seqItems hS rfl ?_);show wpAny _ A.in1 (tryCatch (pyNext (.ref I)) _ >>= _) _ _ s
   refine n0_ (wpAny_tryCatch (W.done s _ _ hst fun h' tk hk'=>?_));rw [Zgk,List.append_nil] at hR;exact n3_ (hR h' tk T m (fun b o hbw _ e=>hk' b o hbw e) (hk' T _ hTw hT) (.inr ⟨rfl,rfl⟩))
 | succ k ih =>
   intro i s T acc c m hk hi hst hS hT hTw hTS hcs hsz hR;have hlt:i<n:=by omega
   rw [Ze3 cs hlt,← n52_] at hR hsz;refine codeAny_builtin F.entry_sum_loop ?_;rw [Around.under_plainId F.plain_sum_loop _];show wpAny _ A.in1 (seqItems? (.ref S) >>= _) _ _ s
   refine n0_ (wpAny_seqItems hS rfl ?_);show wpAny _ A.in1 (tryCatch (pyNext (.ref I)) _ >>= _) _ _ s
   refine n0_ (wpAny_tryCatch (W.item i s _ _ hlt hst fun v h1 tk hP hst' hk'=>?_));cases hval i v hlt hP
   have hS1:=hk' S _ hSw hS;have hT1:=hk' T _ hTw hT;obtain ⟨⟨n',hc⟩,hcw,hcS⟩:=hcs i hlt;have hc1:=hk' _ _ hcw hc;show wpAny _ A.in1 ((holding [Value.ref (ad i)] (binaryOp .Add (.ref T) (.ref (ad i)))).attempt >>= _) _ _ _
   refine n0_ (wpAny_attempt (n36_ (concat_meets (s:={ s with heap:=h1,toks:=tk }) ⟨_,hT1,rfl⟩ ⟨_,hc1,rfl⟩ noFill_list_add seq_list_add PySem.F.slot_list_add PySem.F.entry_list_add (PySem.F.args_list_add_2 _ _) (list_addW T (ad i) acc.toArray (cs i).toArray m n' none none #[] #[] (by
    rw [n8_,n8_,sizeLine_eq];rw [n21_,n21_] at hsz;omega)) ⟨hT1,hc1,?_⟩)))
   have e:acc.toArray++(cs i).toArray=(acc++cs i).toArray:=by simp
   rw [e];have hS2:(h1.push (lobj (acc++cs i) 0)).get? S=some (lobj [.ref T] c):=n2_ _ hS1;show wpAny _ A.in1 (updateSeq S (fun _=>#[.ref h1.objs.size]) >>= _) _ _ { s with heap:=h1.push (lobj (acc++cs i) 0),toks:=tk }
   refine n0_ ?_;refine wpAny_updateSeq hS2 rfl ?_;have hS3:=n48_ (Obj.mapSeq fun _=>#[Value.ref h1.objs.size]) hS2 rfl;refine n0_ (wpAny_letGo ?_);refine n0_ ?_;refine wpAny_updateSeq hS3 rfl ?_;have hS4:=n48_ (Obj.mapSeq fun _=>#[Value.ref h1.objs.size]) hS3 rfl
   have oth:∀ b o,b≠S→h1.get? b=some o→(((h1.push (lobj (acc++cs i) 0)).update S (Obj.mapSeq fun _=>#[Value.ref h1.objs.size])).update S (Obj.mapSeq fun _=>#[Value.ref h1.objs.size])).get? b=some o:=fun b o hb e =>
    (n60_ _ _ (Ne.symm hb)).trans ((n60_ _ _ (Ne.symm hb)).trans (n2_ _ e))
   have lS:S<h1.objs.size:=n13_ hS1;have nS:h1.objs.size≠S:=n61_ lS;have nw:h1.objs.size∉wr:=fun hm=>n77_ _ (Nat.lt_trans (hwz _ hm) lS);refine n3_ ⟨plainId_quiet F.plain_sum_loop _,ih (i+1) _ h1.objs.size (acc++cs i) _ 0 (by omega) hlt (W.frame _ _ _ hst' fun b hb o e=>oth b o (fun z=>hSf (z ▸ hb)) e) hS4 ((n60_ _ _ nS.symm).trans ((n60_ _ _ nS.symm).trans (n9_ _ rfl))) nw nS (fun j hj=>?_) hsz fun h' tk' T' m' hk2 hT' z=>?_⟩
   · obtain ⟨⟨n2,e2⟩,a2,a3⟩:=hcs j hj;exact ⟨⟨n2,oth _ _ a3 (hk' _ _ a2 e2)⟩,a2,a3⟩
   · refine hR h' tk' T' m' (fun b o hbw hbS e=>hk2 b o hbw hbS (oth b o hbS (hk' b o hbw e))) hT' (.inl ?_)
     rcases z with z|⟨_,rfl⟩
     · exact z
     · exact Nat.le_of_lt (Nat.lt_of_le_of_lt hz0 lS)
end
section
variable {P:Program} {w:World} {A:Around} {E:Value→Shared→Prop} {s:Shared}
theorem Zg0:isSubtype (.type "list") (.type "str")=pure false:=by rw [isSubtype_type];kernel_rfl
theorem Zdm:isSubtype (.type "list") (.type "bytes")=pure false:=by rw [isSubtype_type];kernel_rfl
theorem Zbi:isSubtype (.type "list") (.type "bytearray")=pure false:=by rw [isSubtype_type];kernel_rfl
theorem Zn0 (a b:Value):argsOk "sum" ⟨[a,b],[]⟩:=by unfold argsOk;kernel_rfl
theorem Zm3 {l T:Addr} {ads:List Addr} {cs:List (List Value)} {acc:List Value} {nl m:Nat} {Q:Value→Shared→Prop} (hh:A.handled=none) (hl:s.heap.get? l=some (lobj (ads.map Value.ref) nl)) (hT:s.heap.get? T=some (lobj acc m)) (len:ads.length=cs.length)
 (hcs:∀ (j:Nat) (a:Addr) (c:List Value),ads[j]? = some a→cs[j]? = some c→∃ n',s.heap.get? a=some (lobj c n')) (hsz:(acc++cs.flatten).length≤1000)
 (h:∀ h' tk T' m',(∀ b o,s.heap.get? b=some o→h'.get? b=some o)→h'.get? T'=some (lobj (acc++cs.flatten) m')→(s.heap.objs.size≤T'∨(cs=[]∧T'=T))→Q (.ref T') { s with heap:=h',toks:=tk }) :
 wpAny (model P w) A (call (.builtin "sum") [.ref l,.ref T]) Q E s:=by
 refine call_function_tree F.kind_sum F.plain_sum F.entry_sum (Zn0 _ _) ?_;unfold Builtin.«sum»;simp only [n18_,n69_];rw [if_neg (by decide)];refine n0_ (wpAny_of_eq (show Builtin.Builtins.bindParams "sum" ["start"] 0 ⟨[.ref T],[]⟩=pure [some (.ref T)] from rfl) ?_);have hl':s.heap.IsList l (ads.map Value.ref).toArray:=⟨_,hl,rfl,_,rfl⟩;refine n0_ (wpAny_pyIter_list hl' ?_);refine n0_ (n3_ ?_);have tT:Shared.TypeIs { s with heap:=s.heap.push { cls:=.type "list_iterator",data:=.fields #[.ref l,.int 0 0] } } (.ref T) "list" := ⟨_,n2_ _ hT,rfl⟩;simp only [List.forIn_cons,List.forIn_nil];refine n0_ (n0_ (n0_ (wpAny_isInstance (T := "list") (b:=false) tT Zg0 ?_)));simp only [n16_,if_false];refine n3_ (n0_ (n0_ (wpAny_isInstance (T := "list") (b:=false) tT Zdm ?_)));simp only [n16_,if_false];refine n3_ (n0_ (n0_ (wpAny_isInstance (T := "list") (b:=false) tT Zbi ?_)));simp only [n16_,if_false];refine n3_ (n3_ ?_);refine n0_ (wpAny_newObj_type ?_);have ll:l<s.heap.objs.size:=n13_ hl;have lT:T<s.heap.objs.size:=n13_ hT;have z1:(s.heap.push { cls:=.type "list_iterator",data:=.fields #[.ref l,.int 0 0] }).objs.size=s.heap.objs.size+1:=n42_ ..;have W:=Walks.list (prog:=P) (w:=w) (A:=A.in1) (by simp [hh]) s.heap.objs.size l (n24_ ll) (ads.map Value.ref).toArray;have zs:(ads.map Value.ref).toArray.size=cs.length:=by simp [len]
 rw [zs] at W
 have fl:Xg (fun j=>cs.getD j []) cs.length 0=cs.flatten:=by
  unfold Xg;rw [Nat.sub_zero]
  congr 1
  refine n64_ (by simp) fun i a1 a2=>?_;simp [n4_,a2]
 have la:∀ j,j<cs.length→∃ a,ads[j]? = some a∧ads.getD j 0=a∧a<s.heap.objs.size∧∃ n',s.heap.get? a=some (lobj (cs.getD j []) n'):=fun j hj=>by
  have hj':j<ads.length:=by omega
  obtain ⟨n',e⟩:=hcs j ads[j] cs[j] (n1_ hj') (n1_ hj);exact ⟨ads[j],n1_ hj',by simp [n4_,hj'],n13_ e,n',by simpa [n4_,hj] using e⟩
 refine n3_ ⟨plainId_quiet F.plain_sum_loop _,?_⟩;show codeAny _ A (.builtin "sum.loop" ⟨[.ref s.heap.objs.size,.ref (s.heap.push { cls:=.type "list_iterator",data:=.fields #[.ref l,.int 0 0] }).objs.size,rawInt 2,rawInt 0],[]⟩) _ { s with heap:=(s.heap.push { cls:=.type "list_iterator",data:=.fields #[.ref l,.int 0 0] }).push (lobj [.ref T] 0) }
 rw [z1]
 refine Zl0 W (fun j=>ads.getD j 0) (fun j=>cs.getD j []) (fun i v hi hv=>?_) (s.heap.objs.size+1) s.heap.objs.size ?_ (Nat.le_succ _) ?_ cs.length 0 _ T acc 0 m rfl (n51_ _)
  ⟨⟨_,n2_ _ (n9_ _ rfl),rfl,rfl⟩,(hl'.push _).push _⟩ ?_ (n2_ _ (n2_ _ hT)) ?_ ?_ (fun j hj=>?_) (by rw [fl];exact hsz) fun h' tk T' m' hk hT' z=>?_
 · obtain ⟨a,e1,e2,_⟩:=la i hi;have hv':(ads.map Value.ref)[i]? = some v:=by simpa using hv
   rw [n7_,e1] at hv';rw [e2];exact (Option.some.inj hv').symm
 · simp only [n11_,n12_,or_false,not_or];exact ⟨n61_ (n80_ _),n61_ (n49_ ll)⟩
 · intro b hb;rw [n23_.mp hb];exact n80_ _
 · rw [← z1];exact n9_ _ rfl
 · simp only [n11_,n12_,or_false];exact n24_ lT
 · exact n24_ (n49_ lT)
 · obtain ⟨a,_,e2,e3,n',e4⟩:=la j hj;dsimp only;rw [e2];refine ⟨⟨n',n2_ _ (n2_ _ e4)⟩,?_,n24_ (n49_ e3)⟩;simp only [n11_,n12_,or_false];exact n24_ e3
 · rw [fl] at hT';refine h h' tk T' m' (fun b o e=>hk b o ?_ ?_ (n2_ _ (n2_ _ e))) hT' (z.imp id fun ⟨a,b⟩=>⟨List.eq_nil_of_length_eq_zero a,b⟩)
   · simp only [n11_,n12_,or_false];exact n24_ (n13_ e)
   · exact n24_ (n49_ (n13_ e))
end
section
variable {X:Cx}
theorem Zgc:∀ {xss:List (List V)} {css:List (List Value)},Paired Vals xss css→Vals xss.flatten css.flatten
 | _,_,.nil=>.nil
 | _,_,.cons r t=>by rw [n58_,n58_];exact r.append (Zgc t)
theorem Zmb (hc:X.calm=true):Yw X (.builtin "sum") (fun xs H Q=>∃ (p b:Addr) (ads:List Addr) (xss:List (List V)) (zs:List V),xs=[.ref p,.ref b]∧H p=some (.lst (ads.map V.ref))∧H b=some (.lst zs)∧Paired (fun a xs=>H a=some (.lst xs)) ads xss∧(zs++xss.flatten).length≤1000 ∧
 ∀ l,(H l=none∨l=b)→Q (.ref l) (upd H l (.lst (zs++xss.flatten)))):=by
 intro pins s σ H xs us Q I r h;obtain ⟨p,b,ads,xss,zs,rfl,hp,hb,pr,hz,q⟩:=h;cases r with
 | cons rx r =>
   cases r with
   | cons rb r =>
     cases r
     cases (show _=Value.ref p from rx)
     cases (show _=Value.ref b from rb)
     obtain ⟨w1,its,n,rv,w2,e1⟩:=I.lstM hp;obtain ⟨w3,itb,nb,rvb,w4,e2⟩:=I.lstM hb
     have ei:its=ads.map Value.ref:=by
      clear e1 e2 pr q hz hp w1 w2;generalize hv:ads.map V.ref=vs at rv
      induction rv generalizing ads with
      | nil=>cases ads with|nil=>rfl|cons x al=>cases hv
      | cons r1 _ ih =>
        cases ads with
        | nil=>cases hv
        | cons x al =>
          have hv1:=(List.cons.inj hv).1;have hv2:=(List.cons.inj hv).2;subst hv1;cases (show _=Value.ref x from r1)
          rw [ih al hv2];rfl
     subst ei
     obtain ⟨css,c1,c2⟩:∃ css:List (List Value),Paired Vals xss css∧∀ (j:Nat) (a:Addr) (c:List Value),ads[j]? = some a→css[j]? = some c→∃ n',s.heap.get? a=some (lobj c n'):=by
      clear e1 rv q hz hp w1 w2
      induction pr with
      | nil=>exact ⟨[],.nil,fun j a c h=>by simp at h⟩
      | cons r1 _ ih =>
        obtain ⟨css,c1,c2⟩:=ih;obtain ⟨_,ia,na,ra,_,ea⟩:=I.lstM r1;refine ⟨ia :: css,.cons ra c1,fun j a c h1 h2=>?_⟩;cases j with
        | zero=>cases h1;cases h2;exact ⟨na,ea⟩
        | succ j=>exact c2 j a c (by simpa using h1) (by simpa using h2)
     have ln:ads.length=css.length:=(Paired.length pr).trans (Paired.length c1);have va:Vals (zs++xss.flatten) (itb++css.flatten):=rvb.append (Zgc c1);refine Zm3 (I.ok.hd hc) e1 e2 ln c2 (by rw [← va.length];exact hz) fun h' tk T' m' keep hT' z=>?_
     rcases z with z|⟨z1,z2⟩
     · exact ⟨.ref T',_,I.laid (o:=.lst (zs++xss.flatten)) (t':=tk) keep z ⟨by rw [sizeLine_eq];omega,_,m',va,hT'⟩,rfl,q _ (.inl (I.hok.fresh z))⟩
     · subst z1;subst z2
       have:xss=[]:=by cases c1;rfl
       subst this;have q':=q T' (.inr rfl);rw [show zs++([]:List (List V)).flatten=zs by simp] at q'
       have eH:upd H T' (.lst zs)=H:=by
        funext a
        by_cases c:a=T'
        · subst c;rw [Zc,hb]
        · rw [Zh c]
       rw [eH] at q';exact ⟨.ref T',H,I.kept (t':=tk) keep,rfl,q'⟩
theorem Zmw {α:Type} [DecidableEq α] {d:Nat} {R:Hp→V→α→Prop} (E:EqT X d R) (inj:∀ H v x y,R H v x→R H v y→x=y) (hu:X.A.units+d+1<cLine):MtR X "list.count" (fun x xs H Q=>∃ (p:Addr) (vs:List V) (ys:List α) (v:V) (a:α),x=.ref p∧xs=[v]∧H p=some (.lst vs)∧Al (R H) vs ys∧R H v a∧Q (.int (ys.count a:Nat)) H):=by
 intro pins s σ H x vs v us Q I rx rv h;obtain ⟨p,ws,ys,y,a,rfl,rfl,hH,al,ra,q⟩:=h;cases rx
 obtain ⟨u,rfl,ru⟩:=rv.one;obtain ⟨its,n,r,e,hz⟩:=I.lst hH;refine call_meets F.slot_list_count ⟨_,e,rfl⟩ F.entry_list_count (F.args_list_count_2 _ _) (SeqAt.list_countAt p its.toArray n none #[] u (eqOf R H a)) ⟨e,fun y hy=>Zql E (inj H) (by rw [Around.in1_units];omega) I r al ru ra y hy,?_⟩;refine ⟨.int _,H,I.tok _,⟨_,rfl⟩,?_⟩
 have z:∀ {ws:List V} {its:List Value} {ys:List α},Vals ws its→Al (R H) ws ys→its.countP (eqOf R H a)=ys.count a:=by
  intro ws its ys r
  induction r generalizing ys with
  | nil=>intro al;have:ys=[]:=List.length_eq_zero_iff.mp al.1.symm;subst this;rfl
  | cons r1 _ ih =>
    intro al
    match ys,al with
    | [],al=>exact absurd al.1 (by simp)
    | y :: ys,al =>
      have h0:=al.2 0 _ y rfl rfl;rw [List.countP_cons,List.count_cons,ih ⟨by simpa using al.1,fun i v' x' e1 e2=>al.2 (i+1) v' x' e1 e2⟩,Zib (inj H) r1 h0]
      simp
 rw [show its.toArray.toList.countP (eqOf R H a)=ys.count a from z r al];exact q
theorem Zk2 {es:List DictEntry} {vs:List (Key×Value)} (h:PySem.Pairs (Yb X.prog X.w) es vs):∀ (ns:List Int),vs.map (·.1)=ns.map Sum.inl→IntsAre (es.map (·.key)) ns:=by
 induction h with
 | nil=>intro ns e;cases ns with|nil=>exact .nil|cons _ _=>cases e
 | cons h1 _ _ ih =>
   intro ns e;cases ns with
   | nil=>cases e
   | cons k ns =>
     have e1:=(List.cons.inj e).1;dsimp only at e1;rw [e1] at h1
     rcases Z6 (show Zh7 (Sum.inl k) _=true from h1) with ⟨i,t,ek,ev⟩|⟨x,t,ek,_⟩
     · cases ek
       rw [n34_,ev];exact .cons _ t (ih ns (List.cons.inj e).2)
     · cases ek
theorem Zf6 (hc:X.calm=true):Yw X (.builtin "sorted") (fun xs H Q=>∃ (p:Addr) (kvs:List (Key×V)) (ns:List Int),xs=[.ref p]∧H p=some (.dK kvs)∧kvs.map (·.1)=ns.map Sum.inl∧ns.length<64 ∧
 ∀ (l:Addr) (ms:List Int),H l=none→ms.Perm ns→ms.Pairwise (·≤·)→Q (.ref l) (upd H l (.lst (ms.map V.int)))):=by
 intro pins s σ H xs us Q I r h;obtain ⟨p,kvs,ns,rfl,hq,hk,h64,q⟩:=h;cases r with
 | cons rx r =>
   cases r
   cases (show _=Value.ref p from rx)
   obtain ⟨t1,_,nm⟩:=Zl4 I (.inl ⟨kvs,.inl hq⟩);obtain ⟨z,_,vs,rel,o,es,ep,g,_,d,_,prs,nd⟩:=(show ObjOk X.prog X.w H s.heap p (.dK kvs) from I.hok p _ hq);have ent:EntAt s.heap p es ep:=⟨o,g,d⟩
   have kk:kvs.map (·.1)=vs.map (·.1):=by
    clear prs z hk hq q nd
    induction rel with
    | nil=>rfl
    | cons r1 _ ih=>rw [n34_,n34_,ih,r1.1]
   have ia:=Zk2 (X:=X) prs ns (kk.symm.trans hk);have il:(es.toList.map (·.key)).length=ns.length:=Zkk ia;refine Calls.call_function_entry kind_sorted plain_sorted entry_sorted (args_sorted1 _) ?_;unfold Builtin.«sorted»;refine n0_ (m:=checkCount "sorted" 1 1 _) (n3_ ?_);refine n0_ (Zba (vs:=es.toList.map (·.key)) (it0:={ cls:=.type "dict_keyiterator",data:=.fields #[.ref p,.int 0 0,.int es.size 0,.int ep 0] }) (St:=fun I i h=>h.IsKeyIter I p i es.size ep∧EntAt h p es ep) (by simp [I.ok.hd hc]) (.inr rfl) t1 (by rw [il,sizeLine_eq];omega) (fun A s1 Q E k1 hQ=>Zjh (let ⟨o,a,b⟩:=t1;⟨o,k1 _ a,b⟩) nm (ent.at k1) hQ) rfl (fun A I' hh hne=>Zd8 A I' hh hne) (fun h I' e k=>⟨⟨_,e,rfl,rfl⟩,ent.at k⟩) fun h' tk keep le=>?_);generalize es.toList.map (·.key)=ws at ia il;refine n0_ (wpAny_newList ?_ (by rw [sizeLine_eq];omega));have hoL:(h'.push (seqObj "list" ws.toArray 0)).get? h'.objs.size=some (seqObj "list" ws.toArray 0):=n9_ _ rfl;refine n0_ (n36_ (wpAny_call_entry (s:={ s with heap:=h'.push (seqObj "list" ws.toArray 0),toks:=tk }) slot_list_sort ⟨_,hoL,rfl⟩ entry_list_sort (list_sort_tree hoL ia (by omega) fun out ns' a1 a2 a3=>⟨_,rfl,?_⟩) (args_list_sort _)));obtain ⟨e,he⟩:=sortedHeap_at (out:=out) hoL;refine n3_ ⟨_,rfl,.ref h'.objs.size,_,I.laid (o:=.lst (ns'.map V.int)) (t':=tk) (fun b o eb=>?_) le ⟨by rw [n5_,a2.length_eq,sizeLine_eq];omega,out.toList,e,Zao a1,by simpa using he⟩,rfl,q _ ns' (I.hok.fresh le) a2 a3⟩;have hk:=keep b o eb;have hlt:=n13_ hk;rw [sortedHeap_old (n24_ hlt) (by rw [n42_];exact n49_ hlt)];exact n2_ _ hk
end
end L2
namespace L2
open PySem PySem.Spec PyProof.Rows PySem.W
def IsLI (H:Hp) (v:V) (l:List Int):Prop:=∃ a,v=.ref a∧H a=some (.lst (l.map V.int))
theorem Zsz:∀ (H:Hp) (v:V) (x y:List Int),IsLI H v x→IsLI H v y→x=y:=fun H v x y ⟨a,e1,h1⟩ ⟨b,e2,h2⟩=>by
 rw [e1] at e2;cases e2;rw [h1] at h2;have e:x.map V.int=y.map V.int:=by injection h2 with h;injection h
 exact (List.map_inj_right fun a b h=>by cases h;rfl).mp e
theorem Zko (l:List Int) {H:Hp}:Al ((fun (_:Hp) v (i:Int)=>v=V.int i) H) (l.map V.int) l:=⟨by simp,fun i v x e1 e2=>by rw [n7_,e2] at e1;exact (Option.some.inj e1).symm⟩
theorem Zt2 {X:Cx}:EqT X 1 IsLI:=by
 intro A pins σ H s v u a b xs ys hu I h1 h2 r1 r2;obtain ⟨p,rfl,e1⟩:=id h1;obtain ⟨q,rfl,e2⟩:=id h2;cases r1
 cases r2
 by_cases hpq:p=q
 · subst hpq;rw [n40_ (Zsz H _ _ _ h1 h2)];exact SeqAt.EqAt.same _
 · obtain ⟨as,q1,p1,_⟩:=I.list (SqL.of e1);obtain ⟨bs,q2,p2,_⟩:=I.list (SqL.of e2);have l1:=q1.length;have l2:=q2.length;have m1:(xs.map V.int).length=xs.length:=n5_ ..;have m2:(ys.map V.int).length=ys.length:=n5_ ..
   by_cases hl:xs.length=ys.length
   · have h:=SeqAt.RcAt.lists (A:=A) (e:=fun j=>decide (xs.getD j default=ys.getD j default)) p1.isList p2.isList (by rw [n8_,n8_];omega) (by omega) fun j z1 z2=>Zes (Zic (X:=X)) (A:=A.in1) (by rw [Around.in1_units];omega) I (Zko xs (H:=H)) (Zko ys (H:=H)) q1 q2 j z1 z2;rw [n8_,show as.length=xs.length by omega,Zjj xs ys hl] at h;exact SeqAt.EqAt.of_refs hpq h
   · have e3:(as.toArray.size != bs.toArray.size)=true:=by
      rw [n8_,n8_,bne_iff_ne];omega
     have h:=SeqAt.RcAt.lists_lengths (A:=A) p1.isList p2.isList e3 (by omega);rw [n35_ fun z=>hl (by rw [z])];exact SeqAt.EqAt.of_refs hpq h
mutual
inductive Rn (H:Hp):V→PyData→Prop
 | int (i:Int):Rn H (.int i) (.int i)
 | tup {a:Addr} {xs:List V} {ds:List PyData}:H a=some (.tup xs)→Rns H xs ds→Rn H (.ref a) (.tuple ds)
 | lst {a:Addr} {xs:List V} {ds:List PyData}:H a=some (.lst xs)→Rns H xs ds→Rn H (.ref a) (.list ds)
inductive Rns (H:Hp):List V→List PyData→Prop
 | nil:Rns H [] []
 | cons {x:V} {xs:List V} {d:PyData} {ds:List PyData}:Rn H x d→Rns H xs ds→Rns H (x :: xs) (d :: ds)
end
mutual
theorem Rn.reads {X:Cx} {pins:List (Addr×Obj)} {σ:St} {H:Hp} {s:Shared} (I:Inv X pins σ H s):∀ {v:V} {d:PyData} {u:Value},Rn H v d→RelV v u→∃ as,Reads s.heap u d as
 | _,_,_,.int i,r=>by obtain ⟨t,rfl⟩:=r;exact ⟨_,.int i t⟩
 | _,_,_,.tup (a:=a) (xs:=xs) h rs,r=>by
   cases r
   obtain ⟨_,its,rv,o,e,hc,n,hd⟩:=(show ObjOk X.prog X.w H s.heap a (.tup xs) from I.hok a _ h);obtain ⟨as,ra⟩:=Rns.reads I rs rv;exact ⟨_,.tuple e hc hd (by simpa using ra)⟩
 | _,_,_,.lst (a:=a) (xs:=xs) h rs,r=>by
   cases r
   obtain ⟨_,its,n,rv,e⟩:=(show ObjOk X.prog X.w H s.heap a (.lst xs) from I.hok a _ h);obtain ⟨as,ra⟩:=Rns.reads I rs rv;exact ⟨_,.list e rfl rfl (by simpa using ra)⟩
theorem Rns.reads {X:Cx} {pins:List (Addr×Obj)} {σ:St} {H:Hp} {s:Shared} (I:Inv X pins σ H s):∀ {vs:List V} {ds:List PyData} {us:List Value},Rns H vs ds→Vals vs us→∃ as,ReadsAll s.heap us ds as
 | _,_,_,.nil,.nil=>⟨_,.nil⟩
 | _,_,_,.cons r rs,.cons q qs=>by
   obtain ⟨as,ra⟩:=Rn.reads I r q;obtain ⟨bs,rb⟩:=Rns.reads I rs qs;exact ⟨_,.cons ra rb⟩
end
mutual
theorem DB.noDict {k:Nat}:∀ {d:PyData},DB k d→d.hasDict=false
 | _,.int _=>rfl
 | _,.tup r=>DBs.noDict r
 | _,.lst r=>DBs.noDict r
theorem DBs.noDict {k:Nat}:∀ {ds:List PyData},DBs k ds→PyData.hasDictAll ds=false
 | _,.nil=>rfl
 | _,.cons r rs=>by
   show (_||_)=false
   rw [DB.noDict r,DBs.noDict rs];rfl
end
def RpS (d:PyData):Prop:=DB 1900 d∧d.depth≤20∧nz d≤8000
theorem Zdw {X:Cx} {j:Nat} (hr:Room j X.A):Yw X (.builtin "repr") (fun xs H Q=>∃ (a:Addr) (d:PyData),xs=[.ref a]∧Rn H (.ref a) d∧RpS d∧Q (.str d.shown) H):=by
 intro pins s σ H xs us' Q I r h;obtain ⟨v,d,rfl,rd,⟨db,h3,h4⟩,q⟩:=h;obtain ⟨u,rfl,ru⟩:=Zo1 r;cases ru
 obtain ⟨as,ra⟩:=rd.reads I (u:=.ref v) rfl
 have hz:d.shown.length≤sizeLine:=by
  have:=db.shownLen (by decide)
  have e:sizeLine=16777216:=sizeLine_eq;omega
 have hu:=hr.un;exact repr_of_reads' ra (db.showable (by decide)) (fun z=>by rw [db.noDict] at z;cases z) hr.gd (by omega) (fun _ _ e=>e) (fun h' u tk hk=>⟨.str _,H,I.kept hk,⟨_,rfl⟩,q⟩) hz
theorem Zvh {k:SK} {K:PySem.W.Frag} {a D:Addr} {vs:List V} {te:TE} {u0 u1 u2:Option V} {rest:St} {H:Hp} {Q:VK} {α:Type} (R:Hp→V→α→Prop) (hR:∀ H1 H2 v x,Tk H1 H2→R H1 v x→R H2 v x) (ys:List α) (hn:ys.length=vs.length) (hz:vs.length≤1000) (hD:H D=none) (ha:k.At H a vs)
 (hp:∀ (i:Nat) (w:V),vs[i]? = some w→∃ p x y z,w=.ref p∧H p=some (.tup [x,y,z]))
 (hs:∀ (i:Nat) (p:Addr) (x y z:V) (H2:Hp) (C:V→Hp→Prop),vs[i]? = some (.ref p)→H p=some (.tup [x,y,z])→Same H H2→(∀ y H5 z,Same H2 H5→ys[i]? = some z→R H5 y z→C y H5)→te (some x :: some y :: some z :: rest) H2 C)
 (hd:∀ H2 us,Same H H2→H2 D=some (.lst us)→Al (R H2) us ys→Q (.ref D) H2):LcGo (k.Itk K a) (gTup K 3 (Xu (Yr 0) (Xu (Yr 1) (Xu (Yr 2) gNil)))) tYes te (u0 :: u1 :: u2 :: rest) H D Q:=by
 refine Zhc R hR ys hn hz (fun σ=>∃ u u' u'',σ=u :: u' :: u'' :: rest) ⟨_,_,_,rfl⟩ hD (fun i H2 s hi=>Zgw (ha.same s) hi) (fun H2 s=>Zbq (ha.same s) (n10_ _)) (fun i x σ2 H2 H3 C hi s y o c=>?_) hd;obtain ⟨u,u',u'',rfl⟩:=o;obtain ⟨rfl,e⟩:=Zcx (ha.same s) y;obtain ⟨p,x1,y1,z1,rfl,e2⟩:=hp i x e;exact ⟨p,[x1,y1,z1],rfl,SqT.of (s _ _ e2),rfl,x1,[y1,z1],rfl,y1,[z1],rfl,z1,[],rfl,rfl,hs i p x1 y1 z1 H3 (C (some x1 :: some y1 :: some z1 :: rest)) e e2 s fun y H5 z s5 ez rz=>c _ y H5 z ⟨_,_,_,rfl⟩ s5 ez rz⟩
theorem Zi4 {H:Hp}:∀ {us:List V} {ks:List (List Int)},Al (IsI H) us ks→∃ al,us=refs al∧(∀ x∈al,tpl H x)∧al.map (·.2)=ks
 | [],[],_=>⟨[],rfl,by simp,rfl⟩
 | [],_ :: _,a=>absurd a.1 (by simp)
 | _ :: _,[],a=>absurd a.1 (by simp)
 | v :: us,k :: ks,a=>by
   obtain ⟨al,h1,h2,h3⟩:=Zi4 (us:=us) (ks:=ks) ⟨by simpa using a.1,fun i v x e1 e2=>a.2 (i+1) v x e1 e2⟩;obtain ⟨b,e,hb⟩:=a.2 0 v k rfl rfl;exact ⟨(b,k) :: al,by rw [h1,e];rfl,fun y hy=>(n11_.mp hy).elim (fun z=>by rw [z];exact hb) (h2 y),by rw [n34_,h3]⟩
theorem Zcb {X:Cx}:Yw X (.builtin "sorted") (fun xs H Q=>∃ (p:Addr) (vs:List V) (kl:List (List Int)) (m:Nat),xs=[.ref p]∧SqL X.K H p vs∧vs.length=kl.length∧(∀ (i:Nat) (v:V),vs[i]? = some v→∃ (b:Addr) (k:List Int),v=.ref b∧kl[i]? = some k∧H b=some (.tup (k.map V.int)))∧kl.Nodup∧kl.length<64∧(∀ k∈kl,k.length=m)∧0<m ∧
 ∀ (l:Addr) (q:List Nat),H l=none→q.Perm (List.range kl.length)→(q.map fun i=>kl.getD i []).Pairwise (fun a b=>HT.lexLt a b=true)→Q (.ref l) (upd H l (.lst (q.map fun i=>vs.getD i .non)))):=by
 intro pins s σ H xs us Q I r h;obtain ⟨p,vs,kl,m,rfl,hq,hl,hk,nd,h4,hm,m0,q⟩:=h
 obtain ⟨al,rfl,tp,rfl⟩:=Zi4 (H:=H) (us:=vs) (ks:=kl) ⟨hl,fun i v x e1 e2=>by
  obtain ⟨b,k,e,ek,hb⟩:=hk i v e1;rw [e2] at ek;cases ek
  exact ⟨b,e,hb⟩⟩
 refine Zaj pins s σ H _ us Q I r ⟨p,al,rfl,hq,tp,nd,fun x hx=>by rw [hm x.2 (n50_ hx)];exact m0,by simpa using h4,fun l ql nl pm rs=>?_⟩
 have er:al=(List.range al.length).map fun i=>al.getD i (0,[]):=by
  refine n64_ (by simp) fun i h1 h2=>?_;simp [n4_,h1]
 obtain ⟨ix,e1,e2⟩:=Zcu pm (List.range al.length) er;have hi:∀ i∈ix,i<al.length:=fun i hi=>n26_.mp (e2.mem_iff.mp hi)
 have ev:refs ql=ix.map fun i=>(refs al).getD i .non:=by
  rw [e1,refs,n75_];refine n78_ fun i h=>?_;simp [n4_,hi i h]
 rw [ev];refine q l ix nl (by rw [n5_];exact e2) ?_
 have ek:(ix.map fun i=>(al.map (·.2)).getD i [])=ql.map (·.2):=by
  rw [e1,n75_];refine n78_ fun i h=>?_;simp [n4_,hi i h]
 rw [ek];exact Y0 rs
abbrev kvO (g:List (List Int×List Int)) (ads:List Addr):List (List Key×V):=(g.zip ads).map fun x=>(x.1.1.map Sum.inl,V.ref x.2)
structure OwnA (H0 H:Hp) (D:Addr) (g:List (List Int×List Int)) (ads:List Addr):Prop where
 dt:H D=some (.dT (kvO g ads))
 len:ads.length=g.length
 nd:ads.Nodup
 nD:D∉ads
 at_:∀ (i:Nat) (a:Addr) (e:List Int×List Int),ads[i]? = some a→g[i]? = some e→H a=some (.lst (e.2.map V.int))
 fr:∀ a∈ads,H0 a=none
 frD:H0 D=none
theorem Zoa {g:List (List Int×List Int)} {ads:List Addr} (h:ads.length=g.length):(kvO g ads).length=g.length:=by simp [h]
theorem Zkj {g:List (List Int×List Int)} {ads:List Addr} (h:ads.length=g.length):(kvO g ads).map (·.1)=(g.map (·.1)).map (·.map Sum.inl):=by
 refine n64_ (by simp [h]) fun i h1 h2=>?_
 simp
theorem Zsk:∀ {s t:List Int},s.map (Sum.inl:Int→Key)=t.map Sum.inl→s=t:=fun {s t} h=>(List.map_inj_right fun a b e=>by cases e;rfl).mp h
theorem valO:∀ {g:List (List Int×List Int)} {ads:List Addr},ads.length=g.length→∀ (s:List Int),(∀ v,valV (kvO g ads) (s.map Sum.inl)=some v→∃ (i:Nat) (a:Addr) (e:List Int×List Int),ads[i]? = some a∧g[i]? = some e∧e.1=s∧v=.ref a)∧(valV (kvO g ads) (s.map Sum.inl)=none→s∉g.map (·.1))
 | [],[],_,s=>⟨fun v h=>(by cases h),fun _=>by simp⟩
 | e :: g,a :: ads,h,s=>by
   have ih:=valO (g:=g) (ads:=ads) (by simpa using h) s
   have st:valV (kvO (e :: g) (a :: ads)) (s.map Sum.inl)=if e.1=s then some (.ref a) else valV (kvO g ads) (s.map Sum.inl):=by
    unfold valV;rw [show kvO (e :: g) (a :: ads)=(e.1.map Sum.inl,V.ref a) :: kvO g ads from rfl,List.find?_cons]
    by_cases c:e.1=s
    · subst c;simp
    · have:¬ e.1.map (Sum.inl:Int→Key)=s.map Sum.inl:=fun z=>c (Zsk z)
      rw [if_neg c,n35_ this]
   rw [st]
   by_cases c:e.1=s
   · rw [if_pos c];exact ⟨fun v hv=>⟨0,a,e,rfl,rfl,c,(Option.some.inj hv).symm⟩,fun z=>by cases z⟩
   · rw [if_neg c];refine ⟨fun v hv=>?_,fun hn=>?_⟩
     · obtain ⟨i,a',e',h1,h2,h3⟩:=ih.1 v hv;exact ⟨i+1,a',e',h1,h2,h3⟩
     · simp only [n34_,n11_,not_or];exact ⟨fun z=>c z.symm,ih.2 hn⟩
theorem putO {g:List (List Int×List Int)} {ads:List Addr} (h:ads.length=g.length) {s:List Int} (n:valV (kvO g ads) (s.map Sum.inl)=none) (L:Addr) (ns:List Int):putK (kvO g ads) (s.map Sum.inl) (.ref L)=kvO (g++[(s,ns)]) (ads++[L]):=by
 unfold putK
 have hn:((kvO g ads).any fun kv=>decide (kv.1=s.map Sum.inl))=false:=by
  rw [List.any_eq_false];intro kv hkv z;have z:=n30_ z
  have hf:(kvO g ads).find? (fun kv=>decide (kv.1=s.map Sum.inl))=none:=by
   unfold valV at n;cases q:(kvO g ads).find? (fun kv=>decide (kv.1=s.map Sum.inl)) with
   | none=>rfl
   | some x=>rw [q] at n;cases n
  have:=List.find?_eq_none.mp hf kv hkv
  simp [z] at this
 rw [hn,if_neg n22_];show _=(((g++[(s,ns)]).zip (ads++[L])).map fun x=>(x.1.1.map (Sum.inl:Int→Key),V.ref x.2))
 rw [List.zip_append (by rw [h]),n45_];rfl
theorem OwnA.more {H0 H H':Hp} {D:Addr} {g:List (List Int×List Int)} {ads:List Addr} (o:OwnA H0 H D g ads) (s:Same H H'):OwnA H0 H' D g ads :=
 ⟨s _ _ o.dt,o.len,o.nd,o.nD,fun i a e h1 h2=>s _ _ (o.at_ i a e h1 h2),o.fr,o.frD⟩
theorem OwnA.has {H0 H:Hp} {D:Addr} {g:List (List Int×List Int)} {ads:List Addr} (o:OwnA H0 H D g ads) {a:Addr} (h:a∈ads):∃ x,H a=some x:=by
 obtain ⟨i,hi,e⟩:=n44_ h;have hg:i<g.length:=by rw [← o.len];exact hi
 exact ⟨_,o.at_ i a _ (by rw [n1_ hi,e]) (n1_ hg)⟩
theorem OwnA.old {H0 H:Hp} {D:Addr} {g:List (List Int×List Int)} {ads:List Addr} (o:OwnA H0 H D g ads) (nd:(g.map (·.1)).Nodup) {s:List Int} (n:Int) {i:Nat} {a:Addr} {e:List Int×List Int} (h1:ads[i]? = some a) (h2:g[i]? = some e) (h3:e.1=s) :
 OwnA H0 (upd H a (.lst (e.2.map V.int++[.int n]))) D (ins g s n) ads:=by
 have ha:=n6_ h1;have hs:s∈g.map (·.1):=h3 ▸ n50_ (n6_ h2);have ei:ins g s n=g.map (fun e=>if e.1=s then (e.1,e.2++[n]) else e):=by unfold ins;rw [if_pos hs]
 have ek:kvO (ins g s n) ads=kvO g ads:=by
  rw [ei];refine n64_ (by simp) fun i h1 h2=>?_;simp only [List.getElem_map,List.getElem_zip];split<;>rfl
 refine ⟨?_,by rw [o.len,ei,n5_],o.nd,o.nD,fun j b e' k1 k2=>?_,o.fr,o.frD⟩
 · rw [Zh (fun z=>o.nD (by rw [z];exact ha)),ek];exact o.dt
 · rw [ei,n7_] at k2;obtain ⟨e0,k3,rfl⟩:=n19_.mp k2
   by_cases c:j=i
   · subst c;rw [h1] at k1;cases k1;rw [h2] at k3;cases k3;rw [Zc,if_pos h3]
     simp
   · have nb:b≠a:=fun z=>c (by
      subst z;obtain ⟨l1,x1⟩:=n14_.mp h1;obtain ⟨l2,x2⟩:=n14_.mp k1;exact (n63_ (h₀:=l2) (h₁:=l1) o.nd).mp (by rw [x1,x2]))
     have ne:¬ e0.1=s:=fun z=>c (by
      obtain ⟨l1,x1⟩:=n14_.mp h2;obtain ⟨l2,x2⟩:=n14_.mp k3;exact (n63_ (h₀:=by simpa using l2) (h₁:=by simpa using l1) nd).mp (by simp [x1,x2,z,h3]))
     rw [Zh nb,if_neg ne];exact o.at_ j b e0 k1 k3
theorem OwnA.new {H0 H:Hp} {D L:Addr} {g:List (List Int×List Int)} {ads:List Addr} (o:OwnA H0 H D g ads) {s:List Int} (n:Int) (hn:valV (kvO g ads) (s.map Sum.inl)=none) (nL:L∉ads) (nD:L≠D) (fL:H0 L=none) :
 OwnA H0 (upd (upd H D (.dT (putK (kvO g ads) (s.map Sum.inl) (.ref L)))) L (.lst [.int n])) D (ins g s n) (ads++[L]):=by
 have hs:=(valO o.len s).2 hn;have ei:ins g s n=g++[(s,[n])]:=by unfold ins;rw [if_neg hs]
 rw [ei];refine ⟨?_,by simp [o.len],?_,?_,fun j b e k1 k2=>?_,fun a ha=>?_,o.frD⟩
 · rw [Zh nD.symm,Zc,putO o.len hn L [n]]
 · rw [n72_];exact ⟨o.nd,by simp,fun a ha b hb=>by rw [n23_.mp hb];exact fun z=>nL (by rw [← z];exact ha)⟩
 · rw [n28_];rintro (z|z)
   · exact o.nD z
   · exact nD (n23_.mp z).symm
 · by_cases c:j<ads.length
   · rw [n47_ c] at k1;rw [n47_ (by rw [← o.len];exact c)] at k2;have hb:=n6_ k1;rw [Zh (fun z=>nL (by rw [← z];exact hb)),Zh (fun z=>o.nD (by rw [← z];exact hb))];exact o.at_ j b e k1 k2
   · rw [n41_ (by omega)] at k1;rw [n41_ (by rw [← o.len];omega),← o.len] at k2
     have:j-ads.length=0:=by have:=(n14_.mp k1).1;simp at this;omega
     rw [this] at k1 k2;cases k1;cases k2
     rw [Zc];rfl
 · rcases n28_.mp ha with ha|ha
   · exact o.fr a ha
   · rw [n23_.mp ha];exact fL
end L2
namespace PySem
section
variable {prog:Program} {w:World} {A:Around} {E:Value→Shared→Prop} {s:Shared} {it d:Addr} {i ep:Nat} {es:Array DictEntry}
theorem Zor {x:DictEntry} {Q:Option Value→Shared→Prop} (hit:s.heap.IsValIter it d i es.size ep) (hm:EntAt s.heap d es ep) (hx:es[i]? = some x)
 (hQ:∀ h',h'.IsValIter it d (i+1) es.size ep→Heap.SameBut it s.heap h'→Q (some x.val) { s with heap:=h' }):wpAny (model prog w) A (pyNext (.ref it)) Q E s:=by
 obtain ⟨o,ho,hc,hd⟩:=id hit;obtain ⟨od,e0,q0⟩:=hm;obtain ⟨li,rfl⟩:=Array.getElem?_eq_some_iff.mp hx;unfold pyNext;refine n0_ <| wpAny_attempt <| wpAny_callSpecial?_slot (name:=Str.ofString "__next__") hit.typeIs F.slot_dict_valueiterator_next <| wpAny_call_entry F.slot_dict_valueiterator_next hit.typeIs F.entry_dict_valueiterator_next ?_ (F.args_dict_valueiterator_next_1 _);refine n0_ <| n3_ <| n0_ <| n0_ <| n0_ <| wpAny_typeNameOfWhole_valiter hit.typeIs <| n3_ <| n0_ <| wpAny_fieldsOf ho hd ?_;have own:Builtin.Dict_items.ownsTuple "dict_valueiterator" = false:=by decide
 simp only [own,n16_,if_false];show wpAny _ _ (if (Value.ref d == Value.none)=true then _ else _) _ _ _
 rw [if_neg (by intro z;cases z)];refine n0_ <| n3_ <| n0_ <| wpAny_dictEntries e0 q0 ?_;rw [if_neg (by simp)];refine n0_ <| n3_ <| n0_ <| wpAny_dictEpoch e0 q0 ?_;rw [if_neg (by simp)];refine n3_ ?_;have nn:¬ ((i:Int)<0):=by omega
 simp only [nn,if_false,n59_,hx];refine n0_ <| n0_ <| wpAny_typeNameOfWhole_valiter hit.typeIs <| n3_ <| n0_ <| wpAny_isOneOf_valiter hit.typeIs ?_;show wpAny _ _ (setField (.ref it) 1 (rawInt ((i:Int)+1)) >>= _) _ _ s
 refine n0_ (wpAny_setField ho hd (by simp) ?_)
 have hit':(s.heap.update it (Obj.mapFields (·.setIfInBounds 1 (rawInt ((i:Int)+1))))).IsValIter it d (i+1) es.size ep :=
  ⟨_,n48_ _ ho (Obj.isFreed_of_fields (Obj.data_mapFields hd _)),(Obj.cls_mapFields ..).trans hc,by rw [Obj.data_mapFields hd];simp [rawInt]⟩
 refine n0_ (n36_ ?_);refine n0_ (wpAny_isOneOf_valiter (s:={ s with heap:=s.heap.update it (Obj.mapFields (·.setIfInBounds 1 (rawInt ((i:Int)+1)))) }) hit'.typeIs ?_);refine n0_ (wpAny_isOneOf_valiter (s:={ s with heap:=s.heap.update it (Obj.mapFields (·.setIfInBounds 1 (rawInt ((i:Int)+1)))) }) hit'.typeIs ?_);show wpAny _ _ (pure es[i].val) _ _ _
 exact n3_ (n3_ ⟨_,rfl,n3_ (hQ _ hit' (Heap.SameBut.update ..))⟩)
theorem Zrj {Q:Option Value→Shared→Prop} (hh:A.handled=none) (hit:s.heap.IsValIter it d i es.size ep) (hm:EntAt s.heap d es ep) (hx:es[i]? = none)
 (hQ:∀ h',Heap.ExtBut it s.heap h'→Q none { s with heap:=h' }):wpAny (model prog w) A (pyNext (.ref it)) Q E s:=by
 obtain ⟨o,ho,hc,hd⟩:=id hit;obtain ⟨od,e0,q0⟩:=hm;unfold pyNext;refine n0_ <| wpAny_attempt <| wpAny_callSpecial?_slot (name:=Str.ofString "__next__") hit.typeIs F.slot_dict_valueiterator_next <| wpAny_call_entry F.slot_dict_valueiterator_next hit.typeIs F.entry_dict_valueiterator_next ?_ (F.args_dict_valueiterator_next_1 _);refine n0_ <| n3_ <| n0_ <| n0_ <| n0_ <| wpAny_typeNameOfWhole_valiter hit.typeIs <| n3_ <| n0_ <| wpAny_fieldsOf ho hd ?_;have own:Builtin.Dict_items.ownsTuple "dict_valueiterator" = false:=by decide
 simp only [own,n16_,if_false];show wpAny _ _ (if (Value.ref d == Value.none)=true then _ else _) _ _ _
 rw [if_neg (by intro z;cases z)];refine n0_ <| n3_ <| n0_ <| wpAny_dictEntries e0 q0 ?_;rw [if_neg (by simp)];refine n0_ <| n3_ <| n0_ <| wpAny_dictEpoch e0 q0 ?_;rw [if_neg (by simp)];refine n3_ ?_;have nn:¬ ((i:Int)<0):=by omega
 simp only [nn,if_false,n59_,hx];refine n0_ <| n0_ <| wpAny_typeNameOfWhole_valiter hit.typeIs <| n3_ ?_;show wpAny _ _ (setField (.ref it) 0 .none >>= _) _ _ s
 refine n0_ (wpAny_setField ho hd (by simp) ?_);show wpAny _ _ (newExc (.type "StopIteration") [] >>= _) _ _ _
 refine n0_ ?_;simp only [newExc,newTuple];refine n0_ (wpAny_newObj_type ?_ (by size_fits));refine n0_ (m:=firstArgMember _ _) (wpAny_of_eq (a:=Value.none) (by first|rfl|(simp only [firstArgMember];rfl)) ?_);refine wpAny_newObj_type ?_ (by size_fits);simp only [raiseNew];refine n0_ (wpAny_handled ?_);rw [show A.in1.handled=none from hh];refine n0_ (n3_ (wpAny_throw ?_));refine n0_ (wpAny_isInstance (T := "StopIteration") (b:=true) ⟨_,n9_ _ rfl,rfl⟩ isSubtype_stop ?_);exact n3_ (hQ _ (((Heap.SameBut.update ..).extBut.push _).push _))
theorem Zlh (d:Addr) (hd:(d == sysModules)=false):MeetsIn prog w (Builtin.«dict.values» ⟨[.ref d],[]⟩) (fun _ R s=>s.TypeIs (.ref d) "dict" ∧
 R (.ok (.ret (.ref s.heap.objs.size))) { s with heap:=s.heap.push { cls:=.type "dict_values",data:=.fields #[.ref d] } }) :=
 .of_wp fun A R s ⟨ty,h⟩=>by
  unfold Builtin.«dict.values»;refine n0_ ?_;unfold Builtin.Dict.noArgs;refine n0_ <| wpAny_notOrdered_dict ty ?_;show wpAny _ _ (pure d) _ _ s
  refine n3_ ?_;show wpAny _ _ (Builtin.Dict.showsAll d >>= _) _ _ s
  unfold Builtin.Dict.showsAll;rw [if_neg (by rw [hd];intro z;cases z)];exact n0_ <| n3_ <| n0_ <| wpAny_newObj_type <| n3_ ⟨_,rfl,h⟩
theorem Zos {v:Addr} {Q:Value→Shared→Prop} (hv:s.heap.IsValuesView v d) (hm:EntAt s.heap d es ep)
 (hQ:∀ h',h'.IsValIter s.heap.objs.size d 0 es.size ep→(∀ b o,s.heap.get? b=some o→h'.get? b=some o)→Q (.ref s.heap.objs.size) { s with heap:=h' }):wpAny (model prog w) A (pyIter (.ref v)) Q E s:=by
 obtain ⟨o1,e1,c1,q1⟩:=id hv;obtain ⟨od,e0,q0⟩:=hm;refine wpAny_pyIter_slot hv.typeIs F.slot_dict_values_iter <| wpAny_call_entry F.slot_dict_values_iter hv.typeIs F.entry_dict_values_iter ?_ (F.args_dict_values_iter_1 _);unfold Builtin.«dict_values.__iter__»;refine n0_ <| n3_ <| n0_ ?_;unfold Builtin.Dict_items.dictOf;refine n0_ <| wpAny_field e1 q1 (x:=.ref d) rfl <| n3_ <| n0_ ?_;unfold Builtin.Dict_items.newIterator;refine n0_ <| wpAny_dictEntries e0 q0 <| n0_ <| wpAny_dictEpoch e0 q0 ?_;have own:Builtin.Dict_items.ownsTuple "dict_valueiterator" = false:=by decide
 simp only [own,n16_,if_false];refine wpAny_newObj_type <| n3_ ⟨_,rfl,"dict_valueiterator",_,⟨_,n9_ _ rfl,rfl⟩,F.slot_dict_valueiterator_next.lookup,?_⟩;exact hQ _ ⟨_,n9_ _ rfl,rfl,rfl⟩ fun b o e=>n2_ _ e
end
end PySem
namespace L2
open PySem PySem.Spec PyProof.Rows
def Itv (o:Obj) (d:Addr):It where
 go:=fun i H=>∃ kvs,H d=some (.frz o (.dT kvs))∧i<kvs.length
 yld:=fun i H v H'=>∃ (k:List Key),H'=H∧∀ kvs,H d=some (.frz o (.dT kvs))→kvs[i]? = some (k,v)
 stop:=fun i H=>∃ kvs,H d=some (.frz o (.dT kvs))∧kvs.length≤i
theorem Zoe {P:Program} {w:World} {K:PySem.W.Frag} {tg:Expr} {it d:Addr} {o:Obj} {es:Array DictEntry} {ep:Nat} (od:o.data=.dict es ep) (nd:d≠it) :
 Turn P w K tg (Itv o d) [it] it (fun n h=>h.IsValIter it d n es.size ep) where
 mem:=by simp
 obj:=fun n h st b hb=>by
  rw [n23_.mp hb];obtain ⟨u,e,_,q⟩:=st;exact ⟨u,e,fun v r=>by rw [q] at r;cases r⟩
 keep:=fun n h h' st f=>st.at fun u e=>f it (by simp) u e
 item:=by
  intro X hP hw hK hc n pins s σ H E I hf st hg;subst hP hw hK;obtain ⟨kvs,hd,hn⟩:=hg;obtain ⟨ent,sz,at_⟩:=Zm1 I.hok hd od;obtain ⟨⟨k,y⟩,ek⟩:∃ p,kvs[n]? = some p:=⟨kvs[n],n1_ hn⟩;obtain ⟨b,u,t,ex,hb,ru⟩:=at_ n k y ek
  refine Zor st ent ex fun h' r1 r2=>?_;refine ⟨_,rfl,letGo_valiter (s':={ s with heap:=h' }) r1 ?_⟩;refine ⟨y,H,I.turnOnly (t':=s.toks) (ch:=[it]) (fun c o' ne q=>r2.extBut _ _ (fun z=>ne (by simp [z])) q) hf,ru,⟨k,rfl,fun kvs' e'=>?_⟩,r1,fun c hc=>(hf c hc).1⟩;rw [hd] at e';cases e';exact ek
 done:=by
  intro X hP hw hK hc n pins s σ H E I hf st hg;subst hP hw hK;obtain ⟨kvs,hd,hn⟩:=hg;obtain ⟨ent,sz,_⟩:=Zm1 I.hok hd od;refine Zrj (show X.A.handled=none from I.ok.hd hc) st ent (Array.getElem?_eq_none (by omega)) fun h' x=>⟨rfl,?_⟩;exact I.turnOnly (t':=s.toks) (ch:=[it]) (fun c o' ne q=>x c o' (fun z=>ne (by rw [z];simp)) q) hf
 self:=fun A i s Q E st q=>wpAny_pyIter_valiter st q
section
variable {X:Cx} {tg:Expr}
def Zvz (td:TE):TI:=fun σ H R=>td σ H fun x H1=>∃ d kvs,x=.ref d∧H1 d=some (.dT kvs)∧∀ o,R (Itv o d) (upd H1 d (.frz o (.dT kvs)))
theorem Zq7 {o:Expr} {td:TE} {apos cpos:Pos} (ho:PE X o td)
 (hbase:attributeBase o "values" X.env (eval o X.env)=eval o X.env:=by rfl) (hline:(apos.endLine == cpos.line)=true:=by rfl):PI X tg (.Call (.Attribute o "values" apos) [] [] cpos) (Zvz td):=by
 intro pins s σ H R I h;refine wpAny_Call_method0_late hbase hline (thn (ho pins s σ H _ I h) fun v s1 ⟨x,H1,I1,r1,d,kvs,ex,hd,q⟩=>?_);subst ex;cases (show v=Value.ref d from r1)
 obtain ⟨t1,t2,_⟩:=Zl4 I1 (.inr ⟨kvs,.inl hd⟩);obtain ⟨ob,es,ep,od,nm,ent,I2⟩:=I1.freeze hd;refine ⟨"dict","dict.values",PySem.F.plainAttrs_dict,PySem.F.slot_dict_values,PySem.F.type_dict_values,t1,t2,Calls.callWith_builtin rfl (PySem.evalArgs_none ?_)⟩;refine call_meetsIn PySem.F.slot_dict_values t1 PySem.F.entry_dict_values (PySem.F.args_dict_values_1 _) (Zlh d nm) ⟨t1,?_⟩;have n1:(s1.heap.push { cls:=.type "dict_values",data:=.fields #[.ref d] }).objs.size=s1.heap.objs.size+1:=n42_ ..;refine Zos (d:=d) (es:=es) (ep:=ep) ⟨_,n9_ _ rfl,rfl,rfl⟩ (ent.at fun o e=>n2_ _ e) fun h' e1 k1=>?_;have k2:∀ b o,s1.heap.get? b=some o→h'.get? b=some o:=fun b o e=>k1 b o (n2_ _ e);have ld:d<s1.heap.objs.size:=let ⟨_,e,_⟩:=ent;n13_ e;have nd:d≠(s1.heap.push { cls:=.type "dict_values",data:=.fields #[.ref d] }).objs.size:=n24_ (by rw [n1];exact n49_ ld);have le:s1.heap.objs.size≤(s1.heap.push { cls:=.type "dict_values",data:=.fields #[.ref d] }).objs.size:=by rw [n1];exact Nat.le_succ _
 refine ⟨_,_,_,_,_,rfl,I2.kept (t':=s1.toks) k2,Zoe od nd,e1,fun b hb=>?_,q ob⟩;rw [n23_.mp hb];exact I2.fpOk le (by rw [Zh nd.symm];exact I1.hok.fresh le)
end
section
variable {prog:Program} {w:World} {K:Type} [DecidableEq K] {knd:HeapKind prog w K} {A:Around} {E:Value→Shared→Prop} {s:Shared}
theorem Zhv {d a:Addr} {xs:List (K×Addr×Value)} {k:K} {v:Value} {Q:Value→Shared→Prop} (hu:knd.room A) (hkey:knd.is s.heap k a) (hm:s.heap.DictOfH knd d xs)
 (h1:∀ p,atKey xs k=some p→Q p.2 { s with toks:=s.toks+knd.draws k })
 (h2:atKey xs k=none→∀ h',h'.DictOfH knd d (storedH xs k a v)→Heap.SameBut d s.heap h'→Q v { s with heap:=h',toks:=s.toks+knd.draws k })
 (hsz:xs.length≤sizeLine):wpAny (model prog w) A (dictSetDefault d (.ref a) v) Q E s:=by
 obtain ⟨o,es,ep,ho,hc,hd,he,his,hn⟩:=hm;unfold dictSetDefault;refine n36_ ?_;refine n0_ (knd.pyHash hu hkey ?_);refine n0_ (wpAny_dictFind_heap (s:={ s with toks:=s.toks+knd.draws k }) hu hkey ho hd he his hn ?_ ?_)
 · intro hno;have hnot:k∉xs.map (·.1):=not_mem_keys_of_get hno;have hz:es.size≤sizeLine:=by have e:=size_of_entries he;omega
   refine n0_ (wpAny_rule (n0_ (wpAny_updateDictKeys (hz:=hz) (s:={ s with toks:=s.toks+knd.draws k }) ho hd (n3_ (h2 (atKey_none_of_get hno) _ ⟨_,_,ep+1,n48_ _ ho (Obj.isFreed_of_dict (Obj.data_mapDictKeys hd _)),hc.mapDictKeys _,Obj.data_mapDictKeys hd _,?_,?_,?_⟩ (Heap.SameBut.update ..))))))
   · rw [storedH_new (atKey_none_of_get hno)];simp [he,entryOfKey]
   · rw [storedH_new (atKey_none_of_get hno)];intro x hx
     rcases n28_.mp hx with hx|hx
     · exact knd.keeps (his x hx) ho hd (Heap.SameBut.update ..)
     · obtain rfl:=n23_.mp hx;exact knd.keeps hkey ho hd (Heap.SameBut.update ..)
   · rw [storedH_new (atKey_none_of_get hno),n45_,n72_];refine ⟨hn,by simp,fun x hx y hy=>?_⟩;obtain rfl:y=k:=by simpa using hy
     exact fun e=>hnot (e ▸ hx)
 · intro j p hj;have hp:=h1 p (atKey_of_get hn hj);refine n0_ (wpAny_dictEntries (s:={ s with toks:=s.toks+knd.draws k }) ho hd ?_);rw [entry_at he j,hj];exact n0_ (wpAny_rule (n3_ hp))
end
def Zvr:V→List V→Hp→VK→Prop:=fun x vs H Q=>∃ a b kvs k y,x=.ref a∧vs=[.ref b,y]∧H a=some (.dT kvs)∧H b=some (.tup (k.map kV))∧kvs.length<sizeLine ∧
 (∀ v,valV kvs k=some v→Q v H)∧(valV kvs k=none→Q y (upd H a (.dT (putK kvs k y))))
theorem Zk9 {X:Cx} (hu:X.A.units+1<cLine):MtR X "dict.setdefault" Zvr:=by
 intro pins s σ H x vs v us Q I rx rv h;obtain ⟨a,b,kvs,k,y,rfl,rfl,e,eb,l,q1,q2⟩:=h;cases rx
 cases rv with
 | cons rb rv =>
   cases rv with
   | cons ry rv =>
     cases rv
     rename_i ub uy
     cases (show ub=Value.ref b from rb)
     obtain ⟨z,hd,xs,rel,dd⟩:=Zty I.hok e;have hz:xs.length≤sizeLine:=by rw [← Paired.length rel];exact z
     have hl:(putK kvs k y).length≤sizeLine:=by have:=Zaa kvs k y;omega
     refine wpAny_call_entry F.slot_dict_setdefault dd.typeIs F.entry_dict_setdefault ?_ (F.args_dict_setdefault_3 _ _ _);unfold Builtin.«dict.setdefault»;refine n0_ ?_;unfold Builtin.Dict.keyAndDefault;refine n0_ (wpAny_notOrdered_dict dd.typeIs ?_);show wpAny _ _ (pure (a,Value.ref b,some uy)) _ _ s
     refine n3_ ?_;show wpAny _ _ (if (a == sysModules)=true then _ else (dictSetDefault a (.ref b) uy >>= _)) _ _ s
     rw [if_neg (by rw [hd];exact n22_)];have rv:=KT.val rel k;refine n0_ (Zhv (tupleKind_room_in1 hu) (Zga I.hok eb) dd (fun p hp=>n3_ ⟨_,rfl,?_⟩) (fun hn h' dd' hs=>n3_ ⟨_,rfl,?_⟩) hz)
     · rw [hp] at rv;cases ev:valV kvs k with
       | none=>rw [ev] at rv;cases rv
       | some v =>
         rw [ev] at rv;exact ⟨v,H,I.kept fun b o e=>e,rv,q1 v ev⟩
     · rw [hn] at rv
       have ev:valV kvs k=none:=by
        cases ev:valV kvs k with
        | none=>rfl
        | some v=>rw [ev] at rv;cases rv
       obtain ⟨q,es,ep,hq,h2,h3,h4,_,h5⟩:=dd';refine ⟨y,_,Zdc (ob:=.dT (putK kvs k y)) I (by rw [e];exact True.intro) hs ⟨q,hq⟩ ⟨hl,hd,_,(rel.put k eb ry).keeps fun c ys ec=>?_,q,es,ep,hq,h2,h3,h4,h5⟩,ry,q2 ev⟩;rw [Zh (Zns ec e (fun z=>nomatch z))];exact ec
end L2
set_option maxHeartbeats 4000000
theorem L2.gen_upd {H H1:L2.Hp} {p:PySem.Addr} {o:L2.HO} (g:L2.upd H p o=H1) (n:H p=none):L2.Same H H1∧H1 p=some o:=g▸⟨L2.Same.new n,L2.Zc⟩
namespace My
open PySem PySem.Spec PyProof.Rows L2
def top (i:Nat):Stmt:=PySem.Challenge.pw_platerest_k16_sides_rims_and_rooms.main.body.getD i (.Pass ⟨0,0,0,0⟩)
theorem Zp3:bootBuiltins "abs" = some (.builtin "abs"):=by decide +kernel
theorem Zav:bootBuiltins "all" = some (.builtin "all"):=by decide +kernel
theorem Ztq:bootBuiltins "any" = some (.builtin "any"):=by decide +kernel
theorem Zso:bootBuiltins "bool" = some (.type "bool"):=by decide +kernel
theorem Ztk:bootBuiltins "int" = some (.type "int"):=by decide +kernel
theorem X7:bootBuiltins "isinstance" = some (.builtin "isinstance"):=by decide +kernel
theorem Xc:bootBuiltins "len" = some (.builtin "len"):=by decide +kernel
theorem Zsi:bootBuiltins "list" = some (.type "list"):=by decide +kernel
theorem Zqz:bootBuiltins "max" = some (.builtin "max"):=by decide +kernel
theorem Zs9:bootBuiltins "min" = some (.builtin "min"):=by decide +kernel
theorem Zfj:bootBuiltins "repr" = some (.builtin "repr"):=by decide +kernel
theorem Zp7:bootBuiltins "set" = some (.type "set"):=by decide +kernel
theorem Yi:bootBuiltins "sorted" = some (.builtin "sorted"):=by decide +kernel
theorem Zma:bootBuiltins "sum" = some (.builtin "sum"):=by decide +kernel
theorem Y6:bootBuiltins "tuple" = some (.type "tuple"):=by decide +kernel
structure Bt (mg:Str→Option Value):Prop where
 b_abs:mg "abs" = none
 b_all:mg "all" = none
 b_any:mg "any" = none
 b_bool:mg "bool" = none
 b_enumerate:mg "enumerate" = none
 b_int:mg "int" = none
 b_isinstance:mg "isinstance" = none
 b_len:mg "len" = none
 b_list:mg "list" = none
 b_max:mg "max" = none
 b_min:mg "min" = none
 b_range:mg "range" = none
 b_repr:mg "repr" = none
 b_set:mg "set" = none
 b_sorted:mg "sorted" = none
 b_sum:mg "sum" = none
 b_tuple:mg "tuple" = none
 b_zip:mg "zip" = none
 n_FARTHEST:∃ t,mg "FARTHEST" = some (.int 100 t)
 n_FEWEST_CORNERS:∃ t,mg "FEWEST_CORNERS" = some (.int 3 t)
 n_MOST_CORNERS:∃ t,mg "MOST_CORNERS" = some (.int 30 t)
 n_MOST_PIECES:∃ t,mg "MOST_PIECES" = some (.int 40 t)
 n_MOST_STUFF:∃ t,mg "MOST_STUFF" = some (.int 9 t)
 n_THICKEST:∃ t,mg "THICKEST" = some (.int 9 t)
theorem Yt {a n:Nat} (h:a<2^64) (hn:64≤n:=by decide):a<2^n:=n20_ h (n66_ (by decide) hn)
def Zc1:Sp:=fun vs H Q _=>∃ a:Int,vs=[.int a]∧Q (.bl true) H
def StAt (H:Hp) (l:Addr):Prop:=∃ s0 s1 s2:Int,H l=some (.lst [.int s0,.int s1,.int s2])∧0≤s1∧s1<4294967296
theorem StAt.same {H H':Hp} {l:Addr} (s:StAt H l) (k:Same H H'):StAt H' l:=by
 obtain ⟨a,b,c,h,r⟩:=s;exact ⟨a,b,c,k _ _ h,r⟩
theorem StAt.new {H:Hp} {l p:Addr} {o:HO} (s:StAt H l) (h:H p=none):StAt (upd H p o) l:=by
 obtain ⟨a,b,c,e,r⟩:=s;exact ⟨a,b,c,by rw [Zh (Zi e h)];exact e,r⟩
theorem StAt.ne {H:Hp} {l p:Addr} (s:StAt H l) (h:H p=none):l≠p:=by
 obtain ⟨a,b,c,e,r⟩:=s;exact Zi e h
def Znl (K:PySem.W.Frag):Sp:=fun vs H Q _=>∃ (a:Addr) (ns:List Int) (k:Nat),vs=[.ref a,.int k]∧SqL K H a (ns.map V.int)∧∀ c:Int,Q (.int c) H
def Zj2 (K:PySem.W.Frag):Sp:=fun vs H Q _=>∃ (a:Addr) (ns:List Int) (k:Nat),vs=[.ref a,.int k]∧SqL K H a (ns.map V.int) ∧
 ∀ (p:Addr) (H':Hp),H p=none→Same H H'→StAt H' p→Q (.ref p) H'
def Zct:Sp:=fun vs H Q _=>∃ (l:Addr) (m:Int),vs=[.ref l,.int m]∧StAt H l∧0<m∧m.natAbs<2^8999∧∀ (r:Int) (H':Hp),0≤r→r<m→Keep l H H'→StAt H' l→Q (.int r) H'
theorem mulS {a b:Int} (ha:a.natAbs<2^64) (hb:b.natAbs<2^64):CMulB a b:=⟨n20_ ha (n66_ (by decide) (by decide)),n20_ hb (n66_ (by decide) (by decide))⟩
theorem p64:(2:Nat)^64=18446744073709551616:=by decide
theorem blT {p:Prop} [Decidable p] (h:p):V.bl (decide p)=V.bl true:=by rw [n40_ h]
theorem qT {p:Prop} [Decidable p] (h:p) {Q:VK} {H:Hp} (q:Q (.bl true) H):Q (.bl (decide p)) H:=by rw [blT h];exact q
theorem mul3 {a b:Int} (ha:a.natAbs≤1000) (hb:b.natAbs≤1000):CMulB a b:=⟨Nat.lt_of_le_of_lt ha (n20_ (by decide:(1000:Nat)<2^10) (n66_ (by decide) (by decide))),Nat.lt_of_le_of_lt hb (n20_ (by decide:(1000:Nat)<2^10) (n66_ (by decide) (by decide)))⟩
def Zdr:Sp:=fun vs H Q _=>∃ i lo hi:Int,vs=[.int i,.int lo,.int hi]∧lo≤i∧i≤hi∧Q (.bl true) H
def Zqu:Sp:=fun vs H Q _=>∃ (a:Addr) (us:List V) (lo hi:Int),vs=[.ref a,.int lo,.int hi]∧H a=some (.tup us)∧lo≤us.length∧(us.length:Int)≤hi∧Q (.bl true) H
def Zd5:Sp:=fun vs H Q _=>∃ (a:Addr) (ns:List Int),vs=[.ref a]∧H a=some (.tup (ns.map V.int))∧ns.length≤1000∧(∀ (i:Nat) (x y:Int),ns[i]? = some x→ns[i+1]? = some y→x<y)∧∀ H',Same H H'→Q (.bl true) H'
def Zeg:Sp:=fun vs H Q _=>∃ (a:Addr) (us:List V) (ks:List (List Int)),vs=[.ref a]∧H a=some (.tup us)∧Al (IsI H) us ks∧us.length≤1000∧(∀ (i:Nat) (x y:List Int),ks[i]? = some x→ks[i+1]? = some y→HT.lexLt x y=true)∧∀ H',Same H H'→Q (.bl true) H'
def Zhh:Sp:=fun vs H Q _=>∃ (v:V) (p:Pnt),vs=[v]∧IsP H v p∧near p∧∀ H',Same H H'→Q (.bl true) H'
def Zds:Sp:=fun vs H Q _=>∃ (v:V) (cs:List Pnt),vs=[v]∧IsCs H v cs∧3≤cs.length∧cs.length≤30∧(∀ p∈cs,near p)∧cs.Nodup∧∀ H',Same H H'→Q (.bl true) H'
def Znj:Sp:=fun vs H Q _=>∃ (u v w:V) (a b c:Pnt),vs=[u,v,w]∧IsP H u a∧IsP H v b∧IsP H w c∧near a∧near b∧near c∧Q (.int (tn a b c)) H
theorem cut1 (xs:List V):cutV xs (some 1) none=xs.drop 1:=by
 unfold cutV;have e1:HT.sIx xs.length xs.length none=xs.length:=rfl
 have e2:HT.sIx xs.length 0 (some 1)=min 1 xs.length:=by
  unfold HT.sIx
  simp
  try omega
 rw [e1,e2];cases xs with
 | nil=>rfl
 | cons x xs=>simp
theorem Zjc {α:Type} (x:α):∀ n:Nat,(List.replicate n [x]).flatten=List.replicate n x
 | 0=>rfl
 | n+1=>by rw [n71_,n58_,Zjc x n];rfl
theorem allT (n:Nat):(List.replicate n true).all id=true:=by rw [List.all_replicate];split<;>rfl
theorem repT {n i:Nat} (h:i<n):(List.replicate n true)[i]? = some true:=by rw [List.getElem?_replicate,if_pos h]
theorem Ym {α:Type} {l:List α} {i:Nat} {x:α} (h:l[i]? = some x):i<l.length:=(n14_.mp h).1
abbrev RB:Hp→V→Bool→Prop:=fun _ v b=>v=V.bl b
theorem hRB:∀ H1 H2 v x,Tk H1 H2→RB H1 v x→RB H2 v x:=fun _ _ _ _ _ e=>e
abbrev RI:Hp→V→Int→Prop:=fun _ v b=>v=V.int b
theorem hRI:∀ H1 H2 v x,Tk H1 H2→RI H1 v x→RI H2 v x:=fun _ _ _ _ _ e=>e
theorem hRP:∀ H1 H2 v x,Tk H1 H2→IsP H1 v x→IsP H2 v x:=fun _ _ _ _ t h=>h.tk t
theorem hRII:∀ H1 H2 v x,Tk H1 H2→IsI H1 v x→IsI H2 v x:=fun _ _ _ _ t h=>h.tk t
theorem hRT:∀ H1 H2 v x,Tk H1 H2→IsT H1 v x→IsT H2 v x:=fun _ _ _ _ t h=>h.tk t
def Zg1:Sp:=fun vs H Q _=>∃ (u v:V) (cs:List Pnt) (p:List Int),vs=[u,v]∧IsCs H u cs∧IsI H v p∧p.length=3∧(∀ i∈p,0≤i∧i≤(cs.length:Int)-1)∧(∀ p∈cs,near p)∧Q (.int (dOf cs p)) H
def Zd6:Sp:=fun vs H Q _=>∃ (u v:V) (cs:List Pnt) (p:List Int),vs=[u,v]∧IsCs H u cs∧IsI H v p∧PieceOk cs p∧(∀ p∈cs,near p)∧∀ H',Same H H'→Q (.bl true) H'
def Zho:Sp:=fun vs H Q _=>∃ (u v:V) (cs:List Pnt) (ps:List (List Int)),vs=[u,v]∧IsCs H u cs∧IsPs H v ps∧1≤ps.length∧ps.length≤40∧(∀ p∈ps,PieceOk cs p)∧(∀ i:Nat,i+1<ps.length→HT.lexLt (ps.getD i []) (ps.getD (i+1) [])=true)∧(∀ p∈cs,near p)∧∀ H',Same H H'→Q (.bl true) H'
def Zgy:Sp:=fun vs H Q _=>∃ (u v:V) (ps:List (List Int)) (ts:List Int),vs=[u,v]∧IsPs H u ps∧IsI H v ts∧ts.length=ps.length∧ps.length≤40∧(∀ t∈ts,1≤t∧t≤9)∧∀ H',Same H H'→Q (.bl true) H'
def Zjk:Sp:=fun vs H Q _=>∃ (v:V) (l m:Int),vs=[v]∧IsI H v [l,m]∧(0≤l∧l≤9)∧(1≤m∧m≤9)∧Q (.bl true) H
theorem Zh5 {H:Hp} {cs:List Pnt} {us:List V} (A:Al (IsP H) us cs) {i:Int} (h0:0≤i) (h1:i≤(cs.length:Int)-1):∃ v,atI us i=some v∧IsP H v (cAt cs i):=by
 obtain ⟨n,rfl⟩:∃ n:Nat,i=n:=⟨i.toNat,by omega⟩;have hn:n<cs.length:=by omega
 obtain ⟨v,ev,r⟩:=A.got (n1_ hn);refine ⟨v,Zbb ev,?_⟩
 have:cAt cs (n:Int)=cs[n]:=by unfold cAt;simp [n4_,hn]
 rw [this];exact r
theorem Y5 {cs:List Pnt} {i:Int} (h0:0≤i) (h1:i≤(cs.length:Int)-1):cAt cs i∈cs:=by
 have hn:i.toNat<cs.length:=by omega
 unfold cAt;rw [n4_,n1_ hn];exact n43_ hn
theorem Zgu {p:List Int} (h:p.length=3):p=[p.getD 0 0,p.getD 1 0,p.getD 2 0]:=by
 match p,h with
 | [a,b,c],_=>rfl
def IsE (H:Hp) (v:V) (e:Pnt×Pnt):Prop:=∃ a x y,v=.ref a∧H a=some (.tup [x,y])∧IsP H x e.1∧IsP H y e.2
def Zqd:Sp:=fun vs H Q _=>∃ (u v:V) (cs:List Pnt) (p:List Int),vs=[u,v]∧IsCs H u cs∧IsI H v p∧p.length=3∧(∀ i∈p,0≤i∧i≤(cs.length:Int)-1)∧(∀ p∈cs,near p)∧∀ H' w,Same H H'→IsT H' w (trOf cs p)→Q w H'
def Zja:Sp:=fun vs H Q _=>∃ (v:V) (t:Tri),vs=[v]∧IsT H v t∧∀ H' w,Same H H'→IsTup' IsE H' w t.edges→Q w H'
def Zgh:Sp:=fun vs H Q _=>∃ (u v:V) (p:Pnt) (t:Tri),vs=[u,v]∧IsP H u p∧IsT H v t∧near p∧t.near∧∀ H',Same H H'→Q (.bl (Zay p t)) H'
def Zb9:Sp:=fun vs H Q _=>∃ (u v:V) (t r:Tri),vs=[u,v]∧IsT H u t∧IsT H v r∧t.near∧r.near∧∀ H',Same H H'→Q (.bl (Yu t r)) H'
def Ziy:Sp:=fun vs H Q _=>∃ (u v:V) (t r:Tri),vs=[u,v]∧IsT H u t∧IsT H v r∧t.near∧r.near∧∀ H',Same H H'→Q (.bl (L2.apart t r)) H'
def Zn7:Sp:=fun vs H Q _=>∃ (u v:V) (cs:List Pnt) (ps:List (List Int)),vs=[u,v]∧IsCs H u cs∧IsPs H v ps∧(∀ p∈ps,p.length=3)∧ps.length≤40∧cntS ps.flatten=cs.length∧cs.length≤30∧∀ H',Same H H'→Q (.bl true) H'
def Zd7:Sp:=fun vs H Q _=>∃ (u v w:V) (cs:List Pnt) (p:List Int) (t:Tri),vs=[u,v,w]∧IsCs H u cs∧IsI H v p∧IsT H w t∧cs.length≤30∧(∀ p∈cs,near p)∧t.near∧(∀ j:Nat,j<cs.length→(j:Int)∉p→Zay (cs.getD j (0,0)) t=false)∧∀ H',Same H H'→Q (.bl true) H'
structure FitOk (cs:List Pnt) (ps:List (List Int)):Prop where
 c30:cs.length≤30
 nr:∀ p∈cs,near p
 p40:ps.length≤40
 pc:∀ p∈ps,PieceOk cs p
 strange:∀ p∈ps,∀ j:Nat,j<cs.length→(j:Int)∉p→Zay (cs.getD j (0,0)) (trOf cs p)=false
 apart:∀ i j:Nat,i<j→j<ps.length→L2.apart (trOf cs (ps.getD j [])) (trOf cs (ps.getD i []))=true
def Zqa:Sp:=fun vs H Q _=>∃ (u v:V) (cs:List Pnt) (ps:List (List Int)),vs=[u,v]∧IsCs H u cs∧IsPs H v ps∧FitOk cs ps∧∀ H',Same H H'→Q (.bl true) H'
def Zdy:Sp:=fun vs H Q _=>∃ (v:V) (P:Pl),vs=[v]∧IsPl H v P∧PlOk P∧∀ H',Same H H'→Q (.bl true) H'
def Zcd:Sp:=fun vs H Q _=>∃ (v:V) (P:Pl),vs=[v]∧IsPl H v P∧PlOk P∧∀ H',Same H H'→Q .non H'
theorem Zg5 {cs:List Pnt} {p:List Int} (hb:∀ i∈p,0≤i∧i≤(cs.length:Int)-1) (hl:p.length=3) (nr:∀ p∈cs,near p):(trOf cs p).near:=by
 match p,hl with
 | [a,b,c],_ =>
   have ha:=nr _ (Y5 (hb a (by simp)).1 (hb a (by simp)).2);have hb':=nr _ (Y5 (hb b (by simp)).1 (hb b (by simp)).2);have hc:=nr _ (Y5 (hb c (by simp)).1 (hb c (by simp)).2);show (tri (cAt cs a) (cAt cs b) (cAt cs c)).near
   unfold tri;split
   · exact ⟨ha,hc,hb'⟩
   · exact ⟨ha,hb',hc⟩
theorem Zfx {t:Tri} (n:t.near) {e:Pnt×Pnt} (h:e∈t.edges):near e.1∧near e.2:=by
 obtain ⟨a,b,c⟩:=n;simp only [Tri.edges,n11_,n12_,or_false] at h
 rcases h with rfl|rfl|rfl
 · exact ⟨a,b⟩
 · exact ⟨b,c⟩
 · exact ⟨c,a⟩
theorem Zrl {t:Tri} (n:t.near) {e:Pnt} (h:e∈t.pts):near e:=by
 obtain ⟨a,b,c⟩:=n;simp only [Tri.pts,n11_,n12_,or_false] at h
 rcases h with rfl|rfl|rfl
 · exact a
 · exact b
 · exact c
theorem Zup {H:Hp} {v:V} {t:Tri} (h:IsT H v t):∃ a vs,v=.ref a∧H a=some (.tup vs)∧vs.length=3∧Al (IsP H) vs t.pts:=by
 obtain ⟨a,x,y,z,rfl,ha,hx,hy,hz⟩:=h;exact ⟨a,_,rfl,ha,rfl,.cons hx (.cons hy (.cons hz .nil))⟩
theorem cs3 {H:Hp} {us:List V} {cs:List Pnt} (al:Al (IsP H) us cs) {p:List Int} (hl:p.length=3) (bd:∀ i∈p,0≤i∧i≤(cs.length:Int)-1) {vs:List V} (a2:Al (IsP H) vs (p.map (cAt cs))):∃ x y z,vs=[x,y,z]∧IsP H x (cAt cs (p.getD 0 0))∧IsP H y (cAt cs (p.getD 1 0))∧IsP H z (cAt cs (p.getD 2 0)):=by
 match p,hl with
 | [i,j,k],_ =>
   have:=a2.1
   match vs,this with
   | [x,y,z],_=>exact ⟨x,y,z,rfl,a2.2 0 x _ rfl rfl,a2.2 1 y _ rfl rfl,a2.2 2 z _ rfl rfl⟩
theorem Zva (xs:List V) (i:Nat) (h:i≤xs.length):cutV xs none (some (i:Int))=xs.take i:=by
 unfold cutV;rw [HT.sIx_none,HT.sIx_nat];simp [Nat.min_eq_left h]
theorem anyM {α:Type} {l:List α} {f:α→Bool} (h:∀ x∈l,f x=false):(l.map f).any id=false:=by
 rw [List.any_map];exact List.any_eq_false.mpr fun x hx=>by simp [h x hx]
theorem prs {H:Hp} {vs:List V} {es:List (Pnt×Pnt)} (al:Al (IsE H) vs es):∀ (i:Nat) (w:V),vs[i]? = some w→∃ p x y,w=.ref p∧H p=some (.tup [x,y]):=fun i w e=>by
 obtain ⟨_,_,p,x,y,rfl,h,_⟩:=al.get e;exact ⟨p,x,y,rfl,h⟩
theorem pr1 {H:Hp} {vs:List V} {es:List (Pnt×Pnt)} (al:Al (IsE H) vs es) {i:Nat} {p:Addr} {x y:V} (e:vs[i]? = some (.ref p)) (hp:H p=some (.tup [x,y])):∃ q,es[i]? = some q∧IsP H x q.1∧IsP H y q.2:=by
 obtain ⟨q,eq,p',x',y',e1,h,h1,h2⟩:=al.get e;cases e1
 rw [hp] at h;cases h
 exact ⟨q,eq,h1,h2⟩
theorem Zkb (n:Int) (p:List Int):inV (V.int n) (p.map V.int)=decide (n∈p):=by
 unfold inV;rw [List.any_map]
 induction p with
 | nil=>rfl
 | cons x p ih =>
   rw [List.any_cons,ih]
   by_cases h:n=x
   · subst h
     have:eqV (V.int n) (V.int n)=true:=by simp [eqV]
     simp [Function.comp,this]
   · have:eqV (V.int x) (V.int n)=false:=by simp [eqV];exact fun z=>h z.symm
     simp [Function.comp,this,h]
theorem Zfv {α β:Type} (f:α→β):∀ (l:List α) (i:Nat),(l.map f).eraseIdx i=(l.eraseIdx i).map f
 | [],i=>by cases i<;>rfl
 | x :: l,0=>rfl
 | x :: l,i+1=>by simp only [n34_,List.eraseIdx_cons_succ,Zfv f l i]
theorem Xy {α:Type}:∀ (l:List α) (i:Nat) (h:i<l.length),(l[i] :: l.eraseIdx i).Perm l
 | [],i,h=>by simp at h
 | x :: l,0,h=>.refl _
 | x :: l,i+1,h=>by
   simp only [List.eraseIdx_cons_succ,List.getElem_cons_succ];exact (List.Perm.swap x _ _).trans ((Xy l i (by simpa using h)).cons x)
theorem Zvg {α:Type} {R:V→α→Prop} {vs:List V} {xs:List α} {v:V} {x:α} (h:Al R vs xs) (j:Nat) (r:R v x):Al R (vs.set j v) (xs.set j x):=by
 refine ⟨by simp [h.1],fun i w y e1 e2=>?_⟩;rw [List.getElem?_set] at e1 e2
 by_cases hi:j=i
 · subst hi;rw [if_pos rfl] at e1 e2;split at e1
   · split at e2
     · cases e1;cases e2;exact r
     · cases e2
   · cases e1
 · rw [if_neg hi] at e1 e2;exact h.2 i w y e1 e2
theorem Zl3 {S:V→List Int→Prop} {T:List Int→List Int→Prop}:∀ {vs:List V} {ps:List (List Int)},Al (fun v p=>∃ r,S v r∧T r p) vs ps→∃ kl:List (List Int),kl.length=ps.length∧Al S vs kl∧∀ i:Nat,i<ps.length→T (kl.getD i []) (ps.getD i [])
 | [],[],_=>⟨[],rfl,.nil,fun i hi=>by simp at hi⟩
 | [],p :: ps,h=>by have:=h.1;simp at this
 | v :: vs,[],h=>by have:=h.1;simp at this
 | v :: vs,p :: ps,h=>by
   obtain ⟨r,s,t⟩:=h.2 0 v p rfl rfl;obtain ⟨kl,l,a,k⟩:=Zl3 (vs:=vs) (ps:=ps) ⟨by have:=h.1;simpa using this,fun i w x e1 e2=>h.2 (i+1) w x (by simpa using e1) (by simpa using e2)⟩;refine ⟨r :: kl,by simp [l],.cons s a,fun i hi=>?_⟩;cases i with
   | zero=>exact t
   | succ i=>simpa using k i (by simpa using hi)
theorem Zp6 {n:Nat} {k:Int} (h0:0≤k) (h1:k<n):ixN n k=some k.toNat:=by
 unfold ixN;rw [if_pos h0,if_pos (by omega)]
theorem seqI {n:Nat} {k:Int} (h0:0≤k) (h1:k<n):seqIndex? k n=some k.toNat:=(Zh2 (Zp6 h0 h1)).1
theorem tkS {H H':Hp} {l:Addr} (k:Keep l H H') (s:StAt H l):Tk H H':=by
 obtain ⟨a,b,c,e,_⟩:=s;exact Tk.of_keep k e
theorem StAt.neN {H:Hp} {l p:Addr} (s:StAt H l) (h:H p=none):p≠l:=fun z=>s.ne h z.symm
theorem Zm2 {J:It} {n:Nat} {l D:Addr} {g:TG} {te:TE} {σ0:L2.St} {H:Hp} {Q:VK} {α:Type} (R:Hp→V→α→Prop) (hR:∀ H1 H2 v x,Tk H1 H2→R H1 v x→R H2 v x) (hz:n≤1000) (ok:L2.St→Prop) (h0:ok σ0) (hD:H D=none) (hl:StAt H l)
 (hgo:∀ i H2,Keep l H H2→i<n→J.go i H2) (hstop:∀ H2,Keep l H H2→J.stop n H2)
 (hs:∀ i x σ2 H2 H3 (C:L2.St→V→Hp→Prop),i<n→Keep l H H2→StAt H2 l→J.yld i H2 x H3→ok σ2→(∀ σ4 y H5 z,ok σ4→Keep l H2 H5→StAt H5 l→R H5 y z→C σ4 y H5)→g x σ2 H3 fun σ4 H4=>te σ4 H4 (C σ4))
 (hd:∀ H2 vs ys,Keep l H H2→StAt H2 l→H2 D=some (.lst vs)→ys.length=n→Al (R H2) vs ys→Q (.ref D) H2):LcGo J g tYes te σ0 H D Q:=by
 have neD:D≠l:=hl.neN hD;refine Zgm (n:=n) (fun i σ H2=>Keep l H H2∧StAt H2 l∧ok σ∧∃ vs ys,ys.length=i∧H2 D=some (.lst vs)∧Al (R H2) vs ys) ⟨Keep.new hD,hl.new hD,h0,[],[],rfl,Zc,.nil⟩ (fun i σ H2 hi p=>hgo i H2 p.1 hi) (fun σ H2 p=>hstop H2 p.1) (fun i x σ2 H2 H3 hi y p=>?_) (fun σ2 H2 p=>?_)
 · obtain ⟨s2,l2,o2,vs,ys,hy,e2,a2⟩:=p;refine hs i x σ2 H2 H3 (fun σ4 y H6=>∃ ys,H6 D=some (.lst ys)∧ys.length<sizeLine∧∃ m',m'<n-i∧LcN n (fun i σ H2=>Keep l H H2∧StAt H2 l∧ok σ∧∃ vs ys,ys.length=i∧H2 D=some (.lst vs)∧Al (R H2) vs ys) (i+1) m' σ4 (upd H6 D (.lst (ys++[y])))) hi s2 l2 y o2 ?_;intro σ4 v H5 z o4 s5 l5 rz;have e5:H5 D=some (.lst vs):=s5 _ _ neD e2;have tk:Tk H5 (upd H5 D (.lst (vs++[v]))):=Tk.upd_lst e5;refine ⟨vs,e5,?_,n-(i+1),by omega,by omega,rfl,fun b o nb e=>?_,?_,o4,vs++[v],ys++[z],by simp [hy],Zc,?_⟩
   · rw [a2.1,sizeLine_eq];omega
   · rw [Zh (Zi e hD)];exact s5 _ _ nb (s2 _ _ nb e)
   · obtain ⟨a,b,c,e,r⟩:=l5;exact ⟨a,b,c,by rw [Zh neD.symm];exact e,r⟩
   · exact (a2.imp fun v x r=>hR _ _ v x tk (hR _ _ v x (tkS s5 l2) r)).snoc (hR _ _ _ _ tk rz)
 · obtain ⟨s2,l2,_,vs,ys,hy,e2,a2⟩:=p;exact hd H2 vs ys s2 l2 e2 hy a2
def Zjw:Sp:=fun vs H Q _=>∃ (l:Addr) (n:Nat),vs=[.ref l,.int n]∧StAt H l∧n≤60∧∀ (H':Hp) (r:Addr) (o:List Int),Keep l H H'→StAt H' l→H r=none→H' r=some (.lst (o.map V.int))→o.Perm ((List.range n).map fun i:Nat=>(i:Int))→Q (.ref r) H'
def Zgp:Sp:=fun vs H Q _=>vs=[]∧∀ (H':Hp) (r:Addr) (us:List V),Same H H'→H r=none→H' r=some (.lst us)→Al (IsSh H') us Zc2→Q (.ref r) H'
def Zka:Sp:=fun vs H Q _=>∃ l:Addr,vs=[.ref l,.int 8]∧StAt H l∧∀ (H':Hp) (v:V) (P:Pl),Keep l H H'→StAt H' l→IsPl H' v P→PlOk P→P.ps.length≤4→Q v H'
theorem Zpd {H:Hp} {us:List V} (al:Al (IsSh H) us Zc2) {r:Int} (h0:0≤r) (h1:r<8):∃ (v:V) (s:List Pnt×List (List Int)),atI us r=some v∧IsSh H v s∧s∈Zc2:=by
 obtain ⟨k,rfl⟩:∃ k:Nat,r=k:=⟨r.toNat,by omega⟩;have hk:k<Zc2.length:=by show k<8;omega
 obtain ⟨v,ev,rv⟩:=al.got (n1_ hk);exact ⟨v,_,Zbb ev,rv,n43_ hk⟩
theorem Zqh {α:Type} {R:V→α→Prop} {v:V} {x:α} (r:R v x):∀ n:Nat,Al R (List.replicate n v) (List.replicate n x)
 | 0=>.nil
 | n+1=>by rw [n71_,n71_];exact .cons r (Zqh r n)
theorem mul4 {a b:Int} (ha:a.natAbs≤1000) (hb:b.natAbs≤1000):CMulB a b:=mul3 ha hb
theorem o_at {o:List Int} {n:Nat} (O:CoOrd n o) {i:Int} (h0:0≤i) (h1:i<n):atI (o.map V.int) i=some (.int (oAt o i)):=by
 obtain ⟨k,rfl⟩:∃ k:Nat,i=k:=⟨i.toNat,by omega⟩;have hk:k<o.length:=by rw [O.len];omega
 refine Zbb ?_;rw [n7_,n1_ hk];unfold oAt;simp [n4_,hk]
theorem Zpn {p:Pnt} (h:p.1.natAbs≤6∧p.2.natAbs≤6):p.1.natAbs≤1000∧p.2.natAbs≤1000:=⟨by omega,by omega⟩
theorem Zv1 {H:Hp} {vs:List V} {kl:List (List Int)} (al:Al (IsI H) vs kl) {q:List Nat} (hq:∀ i∈q,i<kl.length):Al (IsI H) (q.map fun i=>vs.getD i .non) (q.map fun i=>kl.getD i []):=by
 refine ⟨by simp,fun n v r e1 e2=>?_⟩;rw [n7_] at e1 e2;obtain ⟨i,ei,rfl⟩:=n19_.mp e1;rw [ei] at e2;cases e2
 have hi:=hq i (n6_ ei);have hv:i<vs.length:=by rw [al.1];exact hi
 have:=al.2 i vs[i] kl[i] (n1_ hv) (n1_ hi)
 show IsI H (vs.getD i .non) (kl.getD i [])
 rw [n4_,n4_,n1_ hv,n1_ hi];exact this
def dI (ns:List Int):PyData:=.tuple (ns.map .int)
def dP (p:Pnt):PyData:=dI [p.1,p.2]
def dPl (P:Pl):PyData:=.tuple [.tuple (P.cs.map dP),.tuple (P.ps.map dI),dI P.ts,dI [P.l,P.m]]
theorem Zjx {α:Type} {N:Addr→Prop} {H:Hp} {k:Nat} {R:V→α→Prop} {f:α→PyData}:∀ {vs:List V} {xs:List α},Al R vs xs→(∀ v x,x∈xs→R v x→Dt N H k v (f x))→Dts N H k vs (xs.map f)
 | [],[],_,_=>.nil
 | [],x :: xs,h,_=>by have:=h.1;simp at this
 | v :: vs,[],h,_=>by have:=h.1;simp at this
 | v :: vs,x :: xs,h,g=>.cons (g v x n15_ (h.2 0 v x rfl rfl)) (Zjx ⟨by have:=h.1;simpa using this,fun i w y e1 e2=>h.2 (i+1) w y (by simpa using e1) (by simpa using e2)⟩ fun v x hx=>g v x (n17_ _ hx))
theorem Zan {α:Type} {f:α→PyData} {c:Nat}:∀ {xs:List α},(∀ x∈xs,(f x).depth≤c)→PyData.depthAll (xs.map f)≤c
 | [],_=>n51_ _
 | x :: xs,h=>by
   have h1:=h x n15_;have h2:=Zan (xs:=xs) fun y hy=>h y (n17_ _ hy);simp only [n34_,PyData.depthAll];omega
theorem Zhf {α:Type} {f:α→PyData} {c:Nat}:∀ {xs:List α},(∀ x∈xs,nz (f x)≤c)→Zah (xs.map f)≤xs.length*(c+1)
 | [],_=>n51_ _
 | x :: xs,h=>by
   have h1:=h x n15_;have h2:=Zhf (xs:=xs) fun y hy=>h y (n17_ _ hy);simp only [n34_,Zah,n18_,Nat.add_mul,Nat.one_mul];omega
theorem Zjg {N:Addr→Prop} {H:Hp} {k:Nat} {v:V} {ns:List Int} (h:IsI H v ns) (hb:∀ i∈ns,i.natAbs<2^k):Dt N H k v (dI ns):=by
 obtain ⟨a,rfl,q⟩:=h;exact .tup q (Zjx (Al.of_ints ns) fun v x hx e=>by cases e;exact .int (hb x hx))
theorem Zfu (ns:List Int):(dI ns).depth≤1:=by
 have:=Zan (f:=PyData.int) (c:=0) (xs:=ns) fun x _=>n10_ _
 simp only [dI,PyData.depth];omega
theorem nzI (ns:List Int):nz (dI ns)≤1+ns.length*2:=by
 have:=Zhf (f:=PyData.int) (c:=1) (xs:=ns) fun x _=>n10_ _
 simp only [dI,nz];omega
theorem dtPl {N:Addr→Prop} {H:Hp} {k:Nat} {v:V} {P:Pl} (h:IsPl H v P) (ok:PlOk P) (hk:10≤k):Dt N H k v (dPl P):=by
 have up':∀ {i:Int},i.natAbs≤1000→i.natAbs<2^k:=fun {i} hi=>Nat.lt_of_le_of_lt hi (n20_ (show 1000<2^10 by decide) (n66_ (by decide) hk));obtain ⟨a,c,p,t,s,rfl,ha,⟨c',cv,rfl,hc,cal⟩,⟨p',pv,rfl,hp,pal⟩,ht,hs⟩:=h;have c30:=ok.c30;refine .tup ha (.cons (.tup hc (Zjx cal fun v x hx r=>Zjg r fun i hi=>?_)) (.cons (.tup hp (Zjx pal fun v x hx r=>Zjg r fun i hi=>?_)) (.cons (Zjg ht fun i hi=>?_) (.cons (Zjg hs fun i hi=>?_) .nil))))
 · obtain ⟨⟨n1,n2⟩,n3,n4⟩:=ok.nr x hx;simp only [n11_,n12_,or_false] at hi
   rcases hi with rfl|rfl<;>exact up' (by omega)
 · have:=(ok.pc x hx).bd i hi
   exact up' (by omega)
 · have:=ok.t9 i hi
   exact up' (by omega)
 · have:=ok.l9
   have:=ok.m9
   simp only [n11_,n12_,or_false] at hi
   rcases hi with rfl|rfl<;>exact up' (by omega)
theorem Zlp (P:Pl):(dPl P).depth≤3:=by
 have h1:=Zan (f:=dP) (c:=1) (xs:=P.cs) fun x _=>Zfu _;have h2:=Zan (f:=dI) (c:=1) (xs:=P.ps) fun x _=>Zfu _;have h3:=Zfu P.ts;have h4:=Zfu [P.l,P.m];simp only [dPl,PyData.depth,PyData.depthAll];omega
theorem nzPl {P:Pl} (ok:PlOk P):nz (dPl P)≤1000:=by
 have h1:=Zhf (f:=dP) (c:=5) (xs:=P.cs) fun x _=>nzI _;have h2:=Zhf (f:=dI) (c:=7) (xs:=P.ps) fun x hx=>by have:=nzI x;have:=(ok.pc x hx).len;omega
 have h3:=nzI P.ts;have h4:=nzI [P.l,P.m]
 have:=ok.c30
 have:=ok.p40
 have:=ok.t1
 simp only [dPl,nz,Zah];simp only [n18_,n69_] at h4;omega
theorem Z1 {H H':Hp} {a:Addr} (s:Same H H') (h:H' a=none):H a=none:=by
 cases e:H a with
 | none=>rfl
 | some o=>rw [s _ _ e] at h;cases h
abbrev IsR:Hp→V→Addr×List Int→Prop:=fun H v x=>v=.ref x.1∧tpl H x
theorem hIsR:∀ H1 H2 v x,Tk H1 H2→IsR H1 v x→IsR H2 v x:=fun _ _ _ _ t h=>⟨h.1,t _ _ h.2⟩
theorem Zid {H:Hp}:∀ {us:List V} {al:List (Addr×List Int)},Al (IsR H) us al→us=refs al∧∀ x∈al,tpl H x
 | [],[],_=>⟨rfl,fun x hx=>by cases hx⟩
 | [],_ :: _,a=>absurd a.1 (by simp)
 | _ :: _,[],a=>absurd a.1 (by simp)
 | v :: us,x :: al,a=>by
   obtain ⟨e,t⟩:=Zid (us:=us) (al:=al) ⟨by simpa using a.1,fun i v x e1 e2=>a.2 (i+1) v x e1 e2⟩;obtain ⟨e0,t0⟩:=a.2 0 v x rfl rfl;exact ⟨by rw [e,e0];rfl,fun y hy=>(n11_.mp hy).elim (fun z=>z ▸ t0) (t y)⟩
theorem Yh {α:Type} (l:List α) (p:α→Bool):∀ n,n≤l.length→(List.range n).filterMap (fun i=>(l[i]?).filter p)=(l.take n).filter p
 | 0,_=>by simp
 | n+1,hn=>by
   rw [List.range_succ,List.filterMap_append,Yh l p n (by omega),List.take_succ,List.filter_append,n1_ (by omega)]
   congr 1
   have g:l[n]? = some l[n]:=n1_ (by omega)
   by_cases c:p l[n]=true<;>simp [g,c,Option.filter]
def Zd2:Sp:=fun vs H Q _=>∃ (v:V) (p:List Int),vs=[v]∧IsI H v p∧p.length=3∧∀ (H':Hp) (L:Addr) (al:List (Addr×List Int)),Same H H'→H L=none→H' L=some (.lst (refs al))→(∀ x∈al,tpl H' x)→al.map (·.2)=Zu p→Q (.ref L) H'
def Zgn:Sp:=fun vs H Q _=>∃ (v:V) (P:Pl),vs=[v]∧IsPl H v P∧(∀ p∈P.ps,p.length=3)∧P.ps.length≤20∧∀ (H':Hp) (D:Addr) (g:List (List Int×List Int)) (ads:List Addr),Same H H'→OwnA H H' D g ads→GI g (Zai P.ps P.ps.length)→Q (.ref D) H'
def Zi6:Sp:=fun vs H Q _=>∃ (v:V) (P:Pl),vs=[v]∧IsPl H v P∧PlOk P∧P.ps.length≤20∧∀ (H':Hp) (r:Addr) (al:List (Addr×List Int)),Same H H'→H r=none→H' r=some (.lst (refs al))→(∀ x∈al,tpl H' x)→Zh6 al→(∀ k,k∈al.map (·.2)↔k∈Zo P.ps)→Q (.ref r) H'
def Zlv:Sp:=fun vs H Q _=>∃ (v:V) (P:Pl),vs=[v]∧IsPl H v P∧PlOk P∧P.ps.length≤20∧∀ (H':Hp) (r:Addr) (al:List (Addr×List Int)),Same H H'→H r=none→H' r=some (.lst (refs al))→(∀ x∈al,tpl H' x)→Zh6 al→(∀ k,k∈al.map (·.2)↔k∈Zo P.ps∧(Zo P.ps).count k=1)→Q (.ref r) H'
structure NearOk (H:Hp) (F:Addr) (as:List Addr) (n:Nat) (A:Nat→Nat→Prop) (nf:Nat→List Int):Prop where
 eF:H F=some (.lst (as.map V.ref))
 len:as.length=n
 at_:∀ (i:Nat) (a:Addr),as[i]? = some a→H a=some (.lst ((nf i).map V.int))
 mem:∀ i,i<n→∀ x:Int,x∈nf i↔∃ m:Nat,x=m∧m<n∧A i m
 le:∀ i,i<n→(nf i).length≤300000
def Zm7:Sp:=fun vs H Q _=>∃ (v:V) (P:Pl),vs=[v]∧IsPl H v P∧(∀ p∈P.ps,p.length=3)∧P.ps.length≤20∧∀ (H':Hp) (F:Addr) (as:List Addr) (nf:Nat→List Int),Same H H'→H F=none→NearOk H' F as P.ps.length (Adj P.ps) nf→Q (.ref F) H'
def Zgv:Sp:=fun vs H Q _=>∃ (i n:Nat) (F:Addr) (as:List Addr) (A:Nat→Nat→Prop) (nf:Nat→List Int),vs=[.int (i:Int),.ref F]∧NearOk H F as n A nf∧n≤60∧i<n∧∀ (H':Hp) (t:Addr) (l:List Int),Same H H'→H t=none→tpl H' (t,l)→PartOk A n i l→Q (.ref t) H'
def Zj7:Sp:=fun vs H Q _=>∃ (v:V) (P:Pl),vs=[v]∧IsPl H v P∧PlOk P∧P.ps.length≤20∧∀ (H':Hp) (r:Addr) (al:List (Addr×List Int)),Same H H'→H r=none→H' r=some (.lst (refs al))→(∀ x∈al,tpl H' x)→PartsOk (Adj P.ps) P.ps.length (al.map (·.2))→Q (.ref r) H'
def absI (i:Int):Int:=if i<0 then -i else i
def Xm (P:Pl):Int:=(P.ps.map fun p=>absI (dOf P.cs p)).sum
def Zme:Sp:=fun vs H Q _=>∃ (v:V) (P:Pl),vs=[v]∧IsPl H v P∧PlOk P∧P.ps.length≤20∧∀ H':Hp,Same H H'→Q (.int (Xm P)) H'
theorem Zs3 {g:List (List Int×List Int)} {qs:List (List Int×Int)} (G:GI g qs) (h:qs.length≤1000) {ads:List Addr} (l:ads.length=g.length):(kvO g ads).length<sizeLine:=by
 rw [Zoa l,sizeLine_eq];have:=G.len;omega
theorem kVs (s:List Int):(s.map (Sum.inl:Int→Key)).map kV=s.map V.int:=by rw [n75_];rfl
theorem Zu1 (ps:List (List Int)) (i:Nat) (m:Nat) (hi:i<20):(Zai ps i++((Zu (ps.getD i [])).take m).map fun s=>(s,(i:Int))).length≤1000:=by
 rw [n21_,Zbh,n5_,n57_]
 have:(Zu (ps.getD i [])).length=3:=rfl
 omega
theorem pc3 {P:Pl} (ok:PlOk P):∀ p∈P.ps,p.length=3:=fun p hp=>(ok.pc p hp).len
theorem Zp9 {g:List (List Int×List Int)} {ps:List (List Int)} (G:GI g (Zai ps ps.length)):∀ k∈g.map (·.1),0<k.length:=fun k hk=>by
 have:=(G.ks k).mp hk
 rw [Zcr] at this;rw [Y9 this];decide
theorem Zig {g:List (List Int×List Int)} {ps:List (List Int)} (G:GI g (Zai ps ps.length)) (h:ps.length≤20):(g.map (·.1)).length<64:=by
 have:=G.len
 rw [Zbh] at this;rw [n5_];omega
theorem Zn5 {g:List (List Int×List Int)} {ps:List (List Int)} (G:GI g (Zai ps ps.length)) (k:List Int):k∈g.map (·.1)↔k∈Zo ps:=by rw [G.ks k,Zcr]
theorem Zoz {g:List (List Int×List Int)} {ads:List Addr} (h:ads.length=g.length) (nd:(g.map (·.1)).Nodup) {s:List Int} (hs:s∈g.map (·.1)):∃ (i:Nat) (a:Addr) (e:List Int×List Int),ads[i]? = some a∧g[i]? = some e∧e.1=s∧valV (kvO g ads) (s.map Sum.inl)=some (.ref a):=by
 obtain ⟨h1,h2⟩:=valO h s;cases q:valV (kvO g ads) (s.map Sum.inl) with
 | none=>exact absurd hs (h2 q)
 | some v =>
   obtain ⟨i,a,e,x1,x2,x3,rfl⟩:=h1 v q;exact ⟨i,a,e,x1,x2,x3,rfl⟩
theorem Zu0 {k:SK} {K:PySem.W.Frag} {a D:Addr} {vs:List V} {u0:Option V} {rest:L2.St} {H:Hp} {Q:VK} (hz:vs.length≤1000) (hD:H D=none) (hA:k.At H a vs)
 (hd:∀ (H2:Hp) (as:List Addr),Same H H2→as.length=vs.length→as.Nodup→(∀ a∈as,H2 a=some (.lst [])∧H a=none∧a≠D)→H2 D=some (.lst (as.map V.ref))→Q (.ref D) H2):LcGo (k.Itk K a) (Yr 0) tYes (tLst tNil) (u0 :: rest) H D Q:=by
 refine Zgm (n:=vs.length) (fun i σ H2=>(∃ u,σ=u :: rest)∧∃ as:List Addr,Same H H2∧as.length=i∧as.Nodup∧(∀ a∈as,H2 a=some (.lst [])∧H a=none∧a≠D)∧H2 D=some (.lst (as.map V.ref))) ⟨⟨_,rfl⟩,[],Same.new hD,rfl,List.nodup_nil,fun a h=>absurd h (by simp),Zc⟩ (fun i σ H2 hi p=>Zgw (hA.same p.2.choose_spec.1) hi) (fun σ H2 p=>Zbq (hA.same p.2.choose_spec.1) (n10_ _)) (fun i x σ2 H2 H3 hi y p=>?_) (fun σ2 H2 p=>?_)
 · obtain ⟨⟨u,rfl⟩,as,s2,l2,nd,ha,eD⟩:=p;obtain ⟨rfl,_⟩:=Zcx (hA.same s2) y;refine ⟨n51_ _,fun e ne=>?_⟩;have eD':upd H3 e (.lst []) D=some (.lst (as.map V.ref)):=by rw [Zh (Zi eD ne)];exact eD
   have neD:e≠D:=fun z=>by rw [z,eD] at ne;cases ne
   refine ⟨as.map V.ref,eD',by rw [n5_,sizeLine_eq];omega,vs.length-(i+1),by omega,by omega,rfl,⟨_,rfl⟩,as++[e],fun b o eb=>?_,by simp [l2],?_,fun a hm=>?_,?_⟩
   · rw [Zh (Zi eb hD),Zh (Zi (s2 _ _ eb) ne)];exact s2 _ _ eb
   · rw [n72_];refine ⟨nd,by simp,fun a h1 b h2=>?_⟩;rw [n23_] at h2;subst h2;exact fun z=>by rw [z] at h1;rw [(ha _ h1).1] at ne;cases ne
   · rcases n28_.mp hm with h|h
     · obtain ⟨h1,h2,h3⟩:=ha a h;refine ⟨?_,h2,h3⟩;rw [Zh h3,Zh (Zi h1 ne)];exact h1
     · rw [n23_] at h;subst h;exact ⟨by rw [Zh neD,Zc],Z1 s2 ne,neD⟩
   · rw [Zc,n45_];rfl
 · obtain ⟨_,as,s2,l2,nd,ha,eD⟩:=p;exact hd H2 as s2 l2 nd ha eD
theorem Zot {as:List Addr} (nd:as.Nodup) {i j:Nat} {a:Addr} (h1:as[i]? = some a) (h2:as[j]? = some a):i=j:=by
 obtain ⟨l1,x1⟩:=n14_.mp h1;obtain ⟨l2,x2⟩:=n14_.mp h2;exact (n63_ (h₀:=l1) (h₁:=l2) nd).mp (by rw [x1,x2])
structure NearG (H0 H:Hp) (F D:Addr) (ob:Obj) (as ads:List Addr) (g:List (List Int×List Int)) (nf:Nat→List Int) (mem:Nat→Int→Prop) (b:Nat):Prop where
 sm:Same H0 H
 eF:H F=some (.lst (as.map V.ref))
 eD:H D=some (.frz ob (.dT (kvO g ads)))
 av:∀ (i:Nat) (a:Addr) (e:List Int×List Int),ads[i]? = some a→g[i]? = some e→H a=some (.lst (e.2.map V.int))
 at_:∀ (i:Nat) (a:Addr),as[i]? = some a→H a=some (.lst ((nf i).map V.int))
 mem:∀ i,i<as.length→∀ x:Int,x∈nf i↔mem i x
 le:∀ i,i<as.length→(nf i).length≤b
abbrev kvT (ks:List Int):List (Key×V):=ks.map fun k=>(Sum.inl k,V.bl true)
theorem valT (x:Int):∀ ks:List Int,valV (kvT ks) (Sum.inl x)=if x∈ks then some (.bl true) else none
 | []=>rfl
 | k :: ks=>by
   have st:valV (kvT (k :: ks)) (Sum.inl x)=if k=x then some (.bl true) else valV (kvT ks) (Sum.inl x):=by
    unfold valV;rw [show kvT (k :: ks)=((Sum.inl k:Key),V.bl true) :: kvT ks from rfl,List.find?_cons]
    by_cases c:k=x
    · subst c;simp
    · have:¬ (Sum.inl k:Key)=Sum.inl x:=fun z=>c (by injection z)
      rw [if_neg c,n35_ this]
   rw [st,valT x ks]
   by_cases c:k=x
   · subst c;simp
   · have:¬ x=k:=fun z=>c z.symm
     simp [c,this]
theorem putT {x:Int} {ks:List Int} (h:x∉ks):putK (kvT ks) (Sum.inl x) (.bl true)=kvT (ks++[x]):=by
 unfold putK
 have:((kvT ks).any fun kv=>decide (kv.1=Sum.inl x))=false:=by
  rw [List.any_eq_false];intro kv hkv z;obtain ⟨k,hk,rfl⟩:=n29_.mp hkv;have z:=n30_ z;injection z with z
  exact h (z ▸ hk)
 rw [this,if_neg n22_,kvT,kvT,n45_];rfl
theorem Zsd (ks:List Int):(kvT ks).length=ks.length:=n5_ ..
structure SeenOk (A:Nat→Nat→Prop) (n i:Nat) (ks ls:List Int):Prop where
 nd:ks.Nodup
 st:(i:Int)∈ks
 co:∀ x∈ks,∃ m:Nat,x=m∧m<n∧Conn A n i m
 sub:∀ x∈ls,x∈ks
 cl:∀ a b:Nat,(a:Int)∈ks→(a:Int)∉ls→b<n→A a b→(b:Int)∈ks
 le:ls.length≤ks.length
theorem Zg3 {n:Nat} {ks:List Int} (nd:ks.Nodup) (h:∀ x∈ks,∃ m:Nat,x=m∧m<n):ks.length≤n:=by
 have:=Zc7 (ys:=(List.range n).map fun (i:Nat)=>(i:Int)) nd fun x hx=>by
  obtain ⟨m,rfl,hm⟩:=h x hx;exact n29_.mpr ⟨m,n26_.mpr hm,rfl⟩
 simpa using this
theorem Zi8 {A:Nat→Nat→Prop} {n i:Nat} {ks ls:List Int} (h:SeenOk A n i ks ls):ks.length≤n:=Zg3 h.nd fun x hx=>let ⟨m,a,b,_⟩:=h.co x hx;⟨m,a,b⟩
theorem Zqn {α:Type} {R:V→α→Prop} {vs ws:List V} {xs ys:List α} (a:Al R vs xs) (b:Al R ws ys):Al R (vs++ws) (xs++ys):=⟨by rw [n21_,n21_,a.1,b.1],fun i v x e1 e2=>by
 by_cases h:i<vs.length
 · rw [n47_ h] at e1;rw [n47_ (by rw [← a.1];exact h)] at e2;exact a.2 i v x e1 e2
 · rw [n41_ (by omega)] at e1;rw [n41_ (by rw [← a.1];omega),← a.1] at e2;exact b.2 _ v x e1 e2⟩
def Zmf:Sp:=fun vs H Q _=>∃ (l:Addr) (w h:Nat),vs=[.ref l,.int (w:Int),.int (h:Int)]∧StAt H l∧1≤w∧w≤3∧1≤h∧h≤3∧∀ H' v P',Keep l H H'→StAt H' l→IsPl H' v P'→PlOk P'→P'.ps.length≤18→Q v H'
def gPs (w n:Nat):List Pnt:=(List.range (n*(w+1))).map (gPt w)
theorem Zo5 (w n:Nat):gPs w (n+1)=gPs w n++(List.range (w+1)).map fun (x:Nat)=>((7*(x:Int),9*(n:Int)):Pnt):=by
 unfold gPs;rw [Nat.add_mul,Nat.one_mul,List.range_add,n45_,n75_]
 congr 1
 refine n78_ fun x hx=>?_;have hx':=n26_.mp hx;show gPt w (n*(w+1)+x)=_
 unfold gPt;rw [Nat.mul_comm n (w+1),Nat.mul_add_mod,Nat.mod_eq_of_lt hx',Nat.mul_add_div (by omega),Nat.div_eq_of_lt hx',Nat.add_zero]
def gU (w:Nat) (f:Nat→Nat) (k:Nat):List (List Int):=(List.range (2*k)).map (gG w f)
theorem Zsl {w:Nat} {f f':Nat→Nat} {k:Nat} (e:∀ i,i<k→f' i=f i):gU w f' (k+1)=gU w f k++[gPc w k (f' k) 0,gPc w k (f' k) 1]:=by
 unfold gU;rw [show 2*(k+1)=2*k+2 by omega,List.range_add,n45_,n75_]
 congr 1
 · refine n78_ fun i hi=>?_
   have:=n26_.mp hi
   unfold gG;rw [e _ (by omega)]
 · show [gG w f' (2*k+0),gG w f' (2*k+1)]=_
   unfold gG;rw [show (2*k+0)/2=k by omega,show (2*k+1)/2=k by omega,show (2*k+0) % 2=0 by omega,show (2*k+1) % 2=1 by omega]
theorem Zjy {w n m:Nat} (hm:m<w) (way half:Nat):gPc w (n*w+m) way half=(let a:Nat:=n*(w+1)+m
 if way=0 then (if half=0 then [(a:Int),(a:Int)+1,(a:Int)+w+1] else [(a:Int)+1,(a:Int)+w+1,(a:Int)+w+2]) else (if half=0 then [(a:Int),(a:Int)+1,(a:Int)+w+2] else [(a:Int),(a:Int)+w+1,(a:Int)+w+2])):=by
 unfold gPc;have h1:(n*w+m)/w=n:=by rw [Nat.mul_comm n w,Nat.mul_add_div (by omega),Nat.div_eq_of_lt hm,Nat.add_zero]
 have h2:(n*w+m) % w=m:=by rw [Nat.mul_comm n w,Nat.mul_add_mod,Nat.mod_eq_of_lt hm]
 rw [h1,h2];dsimp only;split<;>split<;>simp
theorem Zof (K:PySem.W.Frag) {X:Cx} {a:Expr} {ta:TE} (hK:X.K=K) (ha:PE X a ta) (he:∀ whole,isTrue a X.env whole=(do let v ← whole;standAt a.pos;holding [v] (truthy v))):PT X a (fun σ H Q=>ta σ H fun x H'=>∃ k,TruV K x H' k∧Q k H'):=hK ▸ Zv ha he
theorem hq1 {A:Around} {k:Nat} (hr:Room k A):A.units+0+1<cLine:=by have:=hr.un;omega
theorem hq2 {A:Around} {k:Nat} (hr:Room k A):A.units+1+1<cLine:=by have:=hr.un;omega
def Zke:Sp:=fun vs H Q _=>∃ (v:V) (cs:List Pnt) (a b c:Int),vs=[v,.int a,.int b,.int c]∧IsCs H v cs∧(0≤a∧a≤(cs.length:Int)-1)∧(0≤b∧b≤(cs.length:Int)-1)∧(0≤c∧c≤(cs.length:Int)-1)∧(∀ p∈cs,near p)∧∀ H',Same H H'→Q (.int (tn (cAt cs a) (cAt cs b) (cAt cs c))) H'
def Zjp:Sp:=fun vs H Q _=>∃ (v:V) (ps:List (List Int)),vs=[v]∧IsPs H v ps∧(∀ p∈ps,p.length=3)∧ps.length≤20∧∀ (H':Hp) (L:Addr) (al:List (Addr×List Int)),Same H H'→H L=none→H' L=some (.lst (refs al))→(∀ x∈al,tpl H' x)→al.map (·.2)=Zo ps→Q (.ref L) H'
def shN (p q:List Int):Nat:=(p.filter fun x=>decide (x∈q)).length
def Zfz:Sp:=fun vs H Q _=>∃ (v u:V) (p q:List Int),vs=[v,u]∧IsI H v p∧IsI H u q∧p.length=3∧∀ H',Same H H'→Q (.bl (decide (shN p q=2))) H'
structure PcsOk (ps:List (List Int)):Prop where
 len:∀ p∈ps,p.length=3
 up:∀ p∈ps,p.getD 0 0<p.getD 1 0∧p.getD 1 0<p.getD 2 0
 nd:ps.Nodup
 n20:ps.length≤20
def Zlx:Sp:=fun vs H Q _=>∃ (v:V) (ps:List (List Int)),vs=[v]∧IsPs H v ps∧PcsOk ps∧∀ (H':Hp) (r:Addr) (al:List (Addr×List Int)),Same H H'→H r=none→H' r=some (.lst (refs al))→(∀ x∈al,tpl H' x)→PartsOk (Adj ps) ps.length (al.map (·.2))→Q (.ref r) H'
def Zjf:Sp:=fun vs H Q _=>∃ (a b:Addr) (d:PyData),vs=[.ref a,.ref b]∧Rn H (.ref a) d∧Rn H (.ref b) d∧RpS d∧Q (.bl true) H
abbrev lpl (H:Hp) (x:Addr×List Int):Prop:=H x.1=some (.lst (x.2.map V.int))
abbrev R0:Hp→V→Addr×List Int→Prop:=fun _ v x=>v=.ref x.1
theorem hR0:∀ H1 H2 v x,Tk H1 H2→R0 H1 v x→R0 H2 v x:=fun _ _ _ _ _ h=>h
theorem Zr0 {H:Hp}:∀ {us:List V} {al:List (Addr×List Int)},Al (R0 H) us al→us=refs al
 | [],[],_=>rfl
 | [],_ :: _,a=>absurd a.1 (by simp)
 | _ :: _,[],a=>absurd a.1 (by simp)
 | v :: us,x :: al,a=>by
   rw [Zr0 (us:=us) (al:=al) ⟨by simpa using a.1,fun i v x e1 e2=>a.2 (i+1) v x e1 e2⟩,show v=.ref x.1 from a.2 0 v x rfl rfl];rfl
def shB (ps:List (List Int)) (p:List Int) (x:Int):Bool:=decide (shN (ps.getD x.toNat []) p=2)
def fL (ps:List (List Int)) (p:List Int) (l:List Int):Bool:=!decide (l.filter (shB ps p)=[])
theorem Zqe {ps:List (List Int)} (ok:PcsOk ps) {i m:Nat} (hi:i<ps.length) (hm:m<i):shN (ps.getD m []) (ps.getD i [])=2↔Adj ps m i:=by
 have gm:ps.getD m []=ps[m]:=by simp [n4_,show m<ps.length by omega]
 have gi:ps.getD i []=ps[i]:=by simp [n4_,hi]
 have ne:ps[m]≠ps[i]:=fun e=>by
  have:=(n63_ (h₀:=show m<ps.length by omega) (h₁:=hi) ok.nd).mp e
  omega
 have m1:=n43_ (l:=ps) (show m<ps.length by omega);have m2:=n43_ (l:=ps) hi;unfold Adj;rw [gm,gi];have u1:=ok.up _ m1;have u2:=ok.up _ m2;have t1:=Zgu (ok.len _ m1);have t2:=Zgu (ok.len _ m2);generalize ps[m]=p at *;generalize ps[i]=q at *;rw [t1,t2] at ne ⊢;exact Zk6 u1.1 u1.2 u2.1 u2.2 ne
theorem Zt7 {ps:List (List Int)} (ok:PcsOk ps) {i:Nat} (hi:i<ps.length) {ls:List (List Int)} (lo:LotsOk (Adj ps) i ls):∀ l∈ls,fL ps (ps.getD i []) l=true↔∃ m:Nat,(m:Int)∈l∧Adj ps m i:=fun l hl=>by
 unfold fL;rw [Bool.not_eq_true',decide_eq_false_iff_not,List.filter_eq_nil_iff];constructor
 · intro h;obtain ⟨x,hx⟩:=Classical.not_forall.mp h;obtain ⟨hm,hb⟩:=Classical.not_imp.mp hx;obtain ⟨m,rfl,hm'⟩:=lo.el l hl x hm;have hb:=n30_ (Classical.not_not.mp hb);exact ⟨m,hm,(Zqe ok hi hm').mp hb⟩
 · rintro ⟨m,hm,a⟩ h
   obtain ⟨m',e,hm'⟩:=lo.el l hl _ hm;exact h _ hm (n40_ ((Zqe ok hi (show m<i by omega)).mpr a))
theorem Zlz {H:Hp}:∀ (nl:List (Addr×List Int)),(∀ x∈nl,lpl H x)→Paired (fun a xs=>H a=some (.lst xs)) (nl.map (·.1)) (nl.map fun x=>x.2.map V.int)
 | [],_=>.nil
 | x :: nl,h=>.cons (h x n15_) (Zlz nl fun y hy=>h y (n17_ _ hy))
theorem Zfl:∀ (nl:List (Addr×List Int)),(nl.map fun x=>x.2.map V.int).flatten=((nl.map (·.2)).flatten).map V.int
 | []=>rfl
 | x :: nl=>by simp [Zfl nl]
theorem Zvq {H:Hp} {nl:List (Addr×List Int)} (h:∀ x∈nl,lpl H x):Al (IsLI H) (refs nl) (nl.map (·.2)):=⟨by simp,fun i v x e1 e2=>by
 rw [n7_] at e1 e2;obtain ⟨y,ey,rfl⟩:=n19_.mp e1;rw [ey] at e2;cases e2
 exact ⟨y.1,rfl,h y (n6_ ey)⟩⟩
theorem Zep (ll:List (Addr×List Int)) (f:List Int→Bool):(ll.filter fun x=>f x.2).map (·.2)=(ll.map (·.2)).filter f:=by rw [List.filter_map];rfl
abbrev NF:Addr→Prop:=fun _=>False
def Zi2:Sp:=fun vs H Q _=>∃ (v:V) (P:Pl),vs=[v]∧IsPl H v P∧PlOk P∧P.ps.length≤18∧∀ H',Same H H'→Q (.bl true) H'
def Zkg (K:PySem.W.Frag):Sp:=fun vs H Q _=>∃ (a:Addr) (ns:List Int),vs=[.ref a]∧SqL K H a (ns.map V.int)∧ns.length≤63∧∀ H',Q (.bl true) H'
theorem Zul {P:Pl} (ok:PlOk P) (h:P.ps.length≤20):PcsOk P.ps:=⟨pc3 ok,fun p hp=>(ok.pc p hp).rise,ok.pnd,h⟩
theorem cntE {ks:List (List Int)} {k:List Int} {b1 b2:BEq (List Int)} [@LawfulBEq _ b1] [@LawfulBEq _ b2]:@List.count _ b1 k ks = @List.count _ b2 k ks:=by
 induction ks with
 | nil=>rfl
 | cons x ks ih =>
   rw [@List.count_cons _ b1,@List.count_cons _ b2,ih]
   congr 1
   by_cases c:x=k
   · subst c;rw [@beq_self_eq_true _ b1,@beq_self_eq_true _ b2]
   · rw [if_neg (fun z=>c ((@beq_iff_eq _ b1 _ _ _).mp z)),if_neg (fun z=>c ((@beq_iff_eq _ b2 _ _ _).mp z))]
theorem Zj8:∀ {l:List (List Int)},(∀ a∈l,l.count a≤1)→l.Nodup
 | [],_=>List.nodup_nil
 | x :: l,h=>by
   refine List.nodup_cons.mpr ⟨fun hx=>?_,Zj8 fun a ha=>?_⟩
   · have:=h x n15_
     rw [List.count_cons_self] at this
     have:=List.count_pos_iff.mpr hx
     omega
   · have:=h a (n17_ _ ha)
     have h2:l.count a≤(x :: l).count a:=List.count_le_count_cons;omega
theorem Ztw (ks:List (List Int)):(ks.filter fun k=>decide (ks.count k=1)).Nodup:=by
 refine Zj8 fun a ha=>?_;have h1:=n30_ (n37_.mp ha).2;have h2:(ks.filter fun k=>decide (ks.count k=1)).count a≤ks.count a:=List.filter_sublist.count_le a;omega
def dLs (ks:List (List Int)):PyData:=.list (ks.map dI)
theorem Zj5 {H:Hp}:∀ (ns:List Int),Rns H (ns.map V.int) (ns.map PyData.int)
 | []=>.nil
 | n :: ns=>.cons (.int n) (Zj5 ns)
theorem Zju {H:Hp}:∀ (al:List (Addr×List Int)),(∀ x∈al,tpl H x)→Rns H (refs al) ((al.map (·.2)).map dI)
 | [],_=>.nil
 | x :: al,h=>.cons (.tup (h x n15_) (Zj5 x.2)) (Zju al fun y hy=>h y (n17_ _ hy))
theorem rn_l {H:Hp} {l:Addr} {al:List (Addr×List Int)} (e:H l=some (.lst (refs al))) (t:∀ x∈al,tpl H x):Rn H (.ref l) (dLs (al.map (·.2))):=.lst e (Zju al t)
theorem Zjb:∀ (ns:List Int),(∀ i∈ns,i.natAbs<2^1900)→DBs 1900 (ns.map PyData.int)
 | [],_=>.nil
 | n :: ns,h=>.cons (.int (h n n15_)) (Zjb ns fun y hy=>h y (n17_ _ hy))
theorem Zkr:∀ (ks:List (List Int)),(∀ k∈ks,∀ i∈k,i.natAbs<2^1900)→DBs 1900 (ks.map dI)
 | [],_=>.nil
 | k :: ks,h=>.cons (.tup (Zjb k (h k n15_))) (Zkr ks fun y hy=>h y (n17_ _ hy))
theorem nzLs {ks:List (List Int)} {n m:Nat} (h1:ks.length≤n) (h2:∀ k∈ks,k.length≤m):nz (dLs ks)≤1+n*(2*m+2):=by
 have:=Zhf (f:=dI) (c:=2*m+1) (xs:=ks) fun x hx=>by have:=nzI x;have:=h2 x hx;omega
 rw [show 2*m+1+1=2*m+2 from rfl] at this;have h3:ks.length*(2*m+2)≤n*(2*m+2):=Nat.mul_le_mul_right _ h1;show 1+Zah (ks.map dI)≤_
 omega
theorem Zh3 (ks:List (List Int)):(dLs ks).depth≤2:=by
 have:=Zan (f:=dI) (c:=1) (xs:=ks) fun x _=>Zfu _
 show PyData.depthAll (ks.map dI)+1≤2
 omega
theorem Zvx {a b c:Pnt} (ha:near a) (hb:near b) (hc:near c):(tn a b c).natAbs≤80000:=by
 obtain ⟨⟨a1,a2⟩,a3,a4⟩:=ha;obtain ⟨⟨b1,b2⟩,b3,b4⟩:=hb;obtain ⟨⟨c1,c2⟩,c3,c4⟩:=hc;have m1:((b.1-a.1)*(c.2-a.2)).natAbs≤200*200:=by rw [Int.natAbs_mul];exact Nat.mul_le_mul (by omega) (by omega)
 have m2:((c.1-a.1)*(b.2-a.2)).natAbs≤200*200:=by rw [Int.natAbs_mul];exact Nat.mul_le_mul (by omega) (by omega)
 unfold tn;omega
theorem Zp2:∀ (ns:List Int),(∀ i∈ns,i.natAbs≤80000)→ns.sum.natAbs≤ns.length*80000
 | [],_=>by simp
 | n :: ns,h=>by
   have h1:=h n n15_;have h2:=Zp2 ns fun y hy=>h y (n17_ _ hy);rw [List.sum_cons,n18_];omega
theorem Zq3 {P:Pl} (ok:PlOk P):(Xm P).natAbs<2^1900:=by
 have h1:∀ i∈P.ps.map (fun p=>absI (dOf P.cs p)),i.natAbs≤80000:=fun i hi=>by
  obtain ⟨p,hp,rfl⟩:=n29_.mp hi;have pk:=ok.pc p hp;have t:=Zgu pk.len
  have nr:∀ j,j<3→near (cAt P.cs (p.getD j 0)):=fun j hj=>by
   have:p.getD j 0∈p:=by
    have hl:=pk.len;rw [n4_,n1_ (by omega)];exact n43_ _
   obtain ⟨b1,b2⟩:=pk.bd _ this;exact ok.nr _ (Y5 b1 b2)
  have:=Zvx (nr 0 (by decide)) (nr 1 (by decide)) (nr 2 (by decide))
  unfold absI dOf;split<;>omega
 have h2:=Zp2 _ h1;rw [n5_] at h2;have h3:=ok.p40
 have h4:(Xm P).natAbs<2^30:=by
  show (P.ps.map fun p=>absI (dOf P.cs p)).sum.natAbs<2^30
  have:(2:Nat)^30=1073741824:=by decide
  omega
 exact n20_ h4 (n66_ (by decide) (by decide))
theorem Zj9 {i:Int} (h:i.natAbs<100):i.natAbs<2^1900:=n20_ h (n53_ (by decide:100≤2^7) (n66_ (by decide) (by decide)))
structure Told (P:Pl) (sk rk pk:List (List Int)):Prop where
 s1:Zb3 sk
 s2:∀ k,k∈sk↔k∈Zo P.ps
 r1:Zb3 rk
 r2:∀ k,k∈rk↔k∈Zo P.ps∧(Zo P.ps).count k=1
 p:PartsOk (Adj P.ps) P.ps.length pk
theorem Told.eq {P:Pl} {sk rk pk sk' rk' pk':List (List Int)} (a:Told P sk rk pk) (b:Told P sk' rk' pk'):sk=sk'∧rk=rk'∧pk=pk' :=
 ⟨Zcy a.s1 b.s1 fun k=>(a.s2 k).trans (b.s2 k).symm,Zcy a.r1 b.r1 fun k=>(a.r2 k).trans (b.r2 k).symm,a.p.eq b.p⟩
def Zo9 (P:Pl) (sk rk pk:List (List Int)):PyData:=.list [dLs sk,dLs rk,dLs pk,.int (Xm P)]
theorem Zcv {P:Pl} (ok:PlOk P) {k:List Int} (hk:k∈Zo P.ps):∀ i∈k,i.natAbs<2^1900:=fun i hi=>by
 obtain ⟨p,hp,hk⟩:=List.mem_flatMap.mp hk;have pk:=ok.pc p hp;have c30:=ok.c30;have t:=Zgu pk.len
 have b:∀ j,j<3→(p.getD j 0).natAbs<100:=fun j hj=>by
  have:p.getD j 0∈p:=by
   have hl:=pk.len;rw [n4_,n1_ (by omega)];exact n43_ _
  obtain ⟨b1,b2⟩:=pk.bd _ this;omega
 refine Zj9 ?_;simp only [Zu,n11_,n12_,or_false] at hk
 rcases hk with rfl|rfl|rfl<;>(simp only [n11_,n12_,or_false] at hi;rcases hi with rfl|rfl<;>exact b _ (by decide))
theorem Zeq {ks:List (List Int)} (h:Zb3 ks):ks.Nodup:=h.imp fun {a b} z e=>by rw [e,Zc8] at z;cases z
theorem Told.rp {P:Pl} (ok:PlOk P) (h18:P.ps.length≤18) {sk rk pk:List (List Int)} (t:Told P sk rk pk):RpS (Zo9 P sk rk pk)∧sk.length≤60∧rk.length≤60∧pk.length≤60:=by
 have lr:=Xo P.ps;have l1:sk.length≤54:=by have:=Zc7 (Zeq t.s1) fun k hk=>(t.s2 k).mp hk;omega
 have l2:rk.length≤54:=by have:=Zc7 (Zeq t.r1) fun k hk=>((t.r2 k).mp hk).1;omega
 have pe:∀ l∈pk,l.length≤18∧(∀ i∈l,i.natAbs<2^1900)∧∃ m:Nat,(m:Int)∈l∧m<P.ps.length:=fun l hl=>by
  obtain ⟨i,hi,p⟩:=(t.p.mem l).mp hl;refine ⟨n53_ p.len h18,fun x hx=>?_,i,(p.mem i).mpr ⟨i,rfl,hi,.refl⟩,hi⟩;obtain ⟨m,rfl,hm,_⟩:=(p.mem x).mp hx;exact Zj9 (by omega)
 have l3:pk.length≤18:=by
  have eqp:∀ l∈pk,∀ l'∈pk,l.head? = l'.head?→l=l':=fun l hl l' hl' e=>by
   obtain ⟨i,hi,p⟩:=(t.p.mem l).mp hl;obtain ⟨i',hi',p'⟩:=(t.p.mem l').mp hl';have hm:=(p.mem i).mpr ⟨i,rfl,hi,.refl⟩;have hm':=(p'.mem i').mpr ⟨i',rfl,hi',.refl⟩;cases l with
   | nil=>cases hm
   | cons x l =>
     cases l' with
     | nil=>cases hm'
     | cons x' l' =>
       have:x=x':=by simpa using e
       subst this;obtain ⟨m,e1,hm1,c1⟩:=(p.mem x).mp n15_;obtain ⟨m',e2,_,c2⟩:=(p'.mem x).mp n15_
       have:m=m':=by omega
       subst this;refine Zmu p.rise p'.rise fun y=>(p.mem y).trans (Iff.trans ?_ (p'.mem y).symm);have sy:∀ {a b:Nat},a<P.ps.length→Conn (Adj P.ps) P.ps.length a b→Conn (Adj P.ps) P.ps.length b a:=fun {a b} ha c=>c (fun z=>z<P.ps.length∧Conn (Adj P.ps) P.ps.length z a) (fun u v hu hv uv hz=>⟨hv,(Conn.one hv hu uv.symm).trans hz.2⟩) ⟨ha,.refl⟩ |>.2;constructor
       · rintro ⟨n,hn,hnn,c⟩;exact ⟨n,hn,hnn,(c2.trans (sy hi c1)).trans c⟩
       · rintro ⟨n,hn,hnn,c⟩;exact ⟨n,hn,hnn,(c1.trans (sy hi' c2)).trans c⟩
  have nd:(pk.map fun l=>l.headD 0).Nodup:=by
   rw [n56_,List.pairwise_map];refine List.Pairwise.imp_of_mem (fun {l l'} hl hl' ne e=>ne (eqp l hl l' hl' ?_)) (n56_.mp (Zeq t.p.rise));obtain ⟨_,_,m,hm,_⟩:=pe l hl;obtain ⟨_,_,m',hm',_⟩:=pe l' hl';cases l with
   | nil=>cases hm
   | cons x l =>
     cases l' with
     | nil=>cases hm'
     | cons x' l'=>rw [show x=x' from e];rfl
  have:=Zg3 (n:=P.ps.length) nd fun x hx=>by
   obtain ⟨l,hl,rfl⟩:=n29_.mp hx;obtain ⟨i,hi,p⟩:=(t.p.mem l).mp hl;have hm:=(p.mem i).mpr ⟨i,rfl,hi,.refl⟩;cases l with
   | nil=>cases hm
   | cons x l =>
     obtain ⟨m,e1,hm1,_⟩:=(p.mem x).mp n15_;exact ⟨m,e1,hm1⟩
  rw [n5_] at this;omega
 have n1:=nzLs l1 fun k hk=>Nat.le_of_eq (Y9 ((t.s2 k).mp hk));have n2:=nzLs l2 fun k hk=>Nat.le_of_eq (Y9 ((t.r2 k).mp hk).1);have n3:=nzLs l3 fun k hk=>(pe k hk).1;have d1:=Zh3 sk;have d2:=Zh3 rk;have d3:=Zh3 pk;refine ⟨⟨.lst (.cons (.lst (Zkr sk fun k hk=>Zcv ok ((t.s2 k).mp hk))) (.cons (.lst (Zkr rk fun k hk=>Zcv ok ((t.r2 k).mp hk).1)) (.cons (.lst (Zkr pk fun k hk=>(pe k hk).2.1)) (.cons (.int (Zq3 ok)) .nil)))),?_,?_⟩,by omega,by omega,by omega⟩
 · simp only [Zo9,PyData.depth,PyData.depthAll];omega
 · simp only [Zo9,nz,Zah];omega
theorem Zhz {H:Hp} {P:Pl} {l r1 r2 r3:Addr} {a b c:List (Addr×List Int)} (e:H l=some (.lst [.ref r1,.ref r2,.ref r3,.int (Xm P)])) (e1:H r1=some (.lst (refs a))) (e2:H r2=some (.lst (refs b))) (e3:H r3=some (.lst (refs c))) (t1:∀ x∈a,tpl H x) (t2:∀ x∈b,tpl H x) (t3:∀ x∈c,tpl H x) :
 Rn H (.ref l) (Zo9 P (a.map (·.2)) (b.map (·.2)) (c.map (·.2))):=.lst e (.cons (rn_l e1 t1) (.cons (rn_l e2 t2) (.cons (rn_l e3 t3) (.cons (.int _) .nil))))
section
variable (P:Program) (w:World) (K:PySem.W.Frag) (mg:Str→Option Value) (base:Heap)
abbrev a0_:=Cal P w K mg base "is_whole" 1 ["thing"] Zc1
abbrev a1_:=Cal P w K mg base "is_between" 2 ["thing","least","most"] Zdr
abbrev a2_:=Cal P w K mg base "is_row" 1 ["thing","fewest","most"] Zqu
abbrev a3_:=Cal P w K mg base "is_corner" 3 ["thing"] Zhh
abbrev a4_:=Cal P w K mg base "turn" 1 ["first","second","third"] Znj
abbrev a5_:=Cal P w K mg base "are_rising" 1 ["things"] Zd5
abbrev a6_:=Cal P w K mg base "turn_of" 2 ["corners","piece"] Zg1
abbrev a7_:=Cal P w K mg base "are_rising" 1 ["things"] Zeg
abbrev a8_:=Cal P w K mg base "is_piece" 3 ["corners","thing"] Zd6
abbrev a9_:=Cal P w K mg base "edges" 1 ["points"] Zja
abbrev a10_:=Cal P w K mg base "parts_from" 2 ["points","others"] Zb9
abbrev a11_:=Cal P w K mg base "lies_in" 2 ["point","points"] Zgh
abbrev a12_:=Cal P w K mg base "are_apart" 3 ["points","others"] Ziy
abbrev a13_:=Cal P w K mg base "no_strange_corner" 3 ["corners","piece","points"] Zd7
abbrev a14_:=Cal P w K mg base "triangle" 2 ["corners","piece"] Zqd
abbrev a15_:=Cal P w K mg base "are_corners" 4 ["thing"] Zds
abbrev a16_:=Cal P w K mg base "are_pieces" 4 ["corners","thing"] Zho
abbrev a17_:=Cal P w K mg base "are_thicks" 3 ["pieces","thing"] Zgy
abbrev a18_:=Cal P w K mg base "every_corner_is_used" 2 ["corners","pieces"] Zn7
abbrev a19_:=Cal P w K mg base "fit_together" 4 ["corners","pieces"] Zqa
abbrev a20_:=Cal P w K mg base "is_stuff" 3 ["thing"] Zjk
abbrev a21_:=Cal P w K mg base "is_plate" 5 ["thing"] Zdy
abbrev a22_:=Cal P w K mg base "sides_of" 1 ["piece"] Zd2
abbrev a23_:=Cal P w K mg base "look_at_plate" 6 ["plate"] Zcd
abbrev a24_:=Cal P w K mg base "owners" 2 ["plate"] Zgn
abbrev a25_:=Cal P w K mg base "neighbours" 3 ["plate"] Zm7
abbrev a26_:=Cal P w K mg base "part_of" 2 ["start","near"] Zgv
abbrev a27_:=Cal P w K mg base "_law_cell_at" 1 ["_law_script","_law_k"] (Znl K)
abbrev a28_:=Cal P w K mg base "_law_choice" 1 ["_law_state_here","_law_many"] Zct
abbrev a29_:=Cal P w K mg base "_law_order" 2 ["_law_state_here","_law_many"] Zjw
abbrev a30_:=Cal P w K mg base "_law_shapes" 1 [] Zgp
abbrev a31_:=Cal P w K mg base "_law_shares" 1 ["_law_one","_law_other"] Zfz
abbrev a32_:=Cal P w K mg base "_law_lots" 2 ["_law_pieces"] Zlx
abbrev a33_:=Cal P w K mg base "_law_same" 1 ["_law_found","_law_due"] Zjf
abbrev a34_:=Cal P w K mg base "_law_side_rows" 1 ["_law_pieces"] Zjp
abbrev a35_:=Cal P w K mg base "_law_turn" 1 ["_law_points","_law_a","_law_b","_law_c"] Zke
abbrev a36_:=Cal P w K mg base "parts" 7 ["plate"] Zj7
abbrev a37_:=Cal P w K mg base "room" 7 ["plate"] Zme
abbrev a38_:=Cal P w K mg base "sides" 7 ["plate"] Zi6
abbrev a39_:=Cal P w K mg base "_law_grid" 2 ["_law_state_here","_law_wide","_law_high"] Zmf
abbrev a40_:=Cal P w K mg base "_law_plate" 3 ["_law_state_here","_law_most"] Zka
abbrev a41_:=Cal P w K mg base "_law_right" 8 ["_law_plate_own"] Zi2
abbrev a42_:=Cal P w K mg base "_law_state" 2 ["_law_script","_law_k"] (Zj2 K)
end
section
variable {P:Program} {w:World} {K:PySem.W.Frag} {mg:Str→Option Value} {base:Heap} {f:Addr} {fd:FuncData} (T:Bt mg)
include T
abbrev Zbt:Stmt:=top 4
theorem Zii (F:Fun K "is_whole" "is_whole" Zbt f fd):FnOk P w K mg base CX0 1 f fd ["thing"] Zc1:=by
 have sc:FnScope ["thing"] ["thing"] (Ze Zbt):=fsc (by decide +kernel);refine F.ok sc (fun vs H Q E h=>by obtain ⟨a,rfl,_⟩:=h;rfl) fun cdv A outer s H vs Q E hr h=>?_;obtain ⟨a,rfl,q⟩:=h;refine' ⟨_,?term,?read⟩
 case term=>refine' @Zg _ _ _ ?g1;case g1=>refine' @Zn _ _ _ _ ?g2;case g2=>refine' @Zdf _ _ _ _ _ _ _ (Zk Zem rfl T.b_isinstance X7 (Za (pv 0) (Za (Ziq (v:=.ty "int") rfl T.b_int Ztk rfl) Zb rfl) rfl)) ?g3;case g3=>refine' @Zcf _ _ _ _ _ ?g4;case g4=>refine' @Zqt _ _ _ _ (Zk Zem rfl T.b_isinstance X7 (Za (pv 0) (Za (Ziq (v:=.ty "bool") rfl T.b_bool Zso rfl) Zb rfl) rfl))
 refine ⟨_,rfl,_,_,_,_,rfl,TyOf.int a,rfl,true,rfl,iteT ?_⟩;refine ⟨_,rfl,_,_,_,_,rfl,TyOf.int a,rfl,false,rfl,q⟩
abbrev Zap:Stmt:=top 12
theorem Zek (F:Fun K "is_between" "is_between" Zap f fd) (Cag_:a0_ P w K mg base):FnOk P w K mg base CX0 2 f fd ["thing","least","most"] Zdr:=by
 have sc:FnScope ["thing","least","most"] ["thing","least","most"] (Ze Zap):=fsc (by decide +kernel);refine F.ok sc (fun vs H Q E h=>by obtain ⟨i,lo,hi,rfl,_⟩:=h;rfl) fun cdv A outer s H vs Q E hr h=>?_;obtain ⟨i,lo,hi,rfl,h1,h2,q⟩:=h;refine' ⟨_,?term,?read⟩
 case term=>refine' @Zg _ _ _ ?g1;case g1=>refine' @Zn _ _ _ _ ?g2;case g2=>refine' @Zdf _ _ _ _ _ _ _ (Zl Cag_ hr (by decide) rfl (Za (pv 0) Zb rfl)) ?g3;case g3=>refine' @Zcf _ _ _ _ _ ?g4;case g4=>refine' @Zi9 _ _ _ _ _ _ _ _ _ _ _ _ Znz Znz (pv 1) (pv 0) (pv 2) (by with_unfolding_all rfl)
 refine ⟨_,rfl,i,rfl,true,rfl,iteT ?_⟩;refine ⟨_,rfl,_,rfl,_,_,rfl,rfl,true,blT h1,iteT ?_⟩;exact ⟨_,rfl,_,_,rfl,rfl,qT h2 q⟩
abbrev Zfc:Stmt:=top 13
theorem Zm6 (F:Fun K "is_row" "is_row" Zfc f fd):FnOk P w K mg base CX0 1 f fd ["thing","fewest","most"] Zqu:=by
 have sc:FnScope ["thing","fewest","most"] ["thing","fewest","most"] (Ze Zfc):=fsc (by decide +kernel);refine F.ok sc (fun vs H Q E h=>by obtain ⟨a,us,lo,hi,rfl,_⟩:=h;rfl) fun cdv A outer s H vs Q E hr h=>?_;obtain ⟨a,us,lo,hi,rfl,ha,h1,h2,q⟩:=h;refine' ⟨_,?term,?read⟩
 case term=>refine' @Zg _ _ _ ?g1;case g1=>refine' @Zn _ _ _ _ ?g2;case g2=>refine' @Zdf _ _ _ _ _ _ _ (Zk Zem rfl T.b_isinstance X7 (Za (pv 0) (Za (Ziq (v:=.ty "tuple") rfl T.b_tuple Y6 rfl) Zb rfl) rfl)) ?g3;case g3=>refine' @Zcf _ _ _ _ _ ?g4;case g4=>refine' @Zi9 _ _ _ _ _ _ _ _ _ _ _ _ Znz Znz (pv 1) (Zk Zr rfl T.b_len Xc (Za (pv 0) Zb rfl)) (pv 2) (by with_unfolding_all rfl)
 refine ⟨_,rfl,_,_,_,_,rfl,TyOf.tup ha,rfl,true,rfl,iteT ?_⟩;refine ⟨_,rfl,_,rfl,a,_,rfl,.inr (SqT.of ha),_,_,rfl,rfl,true,blT h1,iteT ?_⟩;exact ⟨_,rfl,_,_,rfl,rfl,qT h2 q⟩
abbrev X2:Stmt:=top 14
theorem Zdp (F:Fun K "are_rising" "are_rising" X2 f fd):FnOk P w K mg base CX0 1 f fd ["things"] Zd5:=by
 have sc:FnScope ["things"] ["things"] (Ze X2):=fsc (by decide +kernel);refine F.ok sc (fun vs H Q E h=>by obtain ⟨a,ns,rfl,_⟩:=h;rfl) fun cdv A outer s H vs Q E hr h=>?_;obtain ⟨a,ns,rfl,ha,hz,hr',q⟩:=h;refine' ⟨_,?term,?read⟩
 case term=>refine' @Zg _ _ _ ?g1;case g1=>refine' @Zn _ _ _ _ ?g2;case g2=>refine' @Zk _ _ _ _ _ _ _ _ _ (Yg rfl) rfl T.b_all Zav ?g3 (by decide) (by decide) (by rfl) (by rfl);case g3=>refine' @Za _ _ _ _ _ ?g4 Zb rfl;case g4=>refine' @Y4 _ _ _ _ _ _ _ (["one","other"]) ([none,none]) _ _ ((gTup K 2 (Xu (Yr 0) (Xu (Yr 1) gNil)))) _ _ rfl (Yv (by decide) rfl (by decide) rfl rfl) ?g5 (fun _ _ _ _=>Yj (n:=2) rfl (Zj (pgB 0) (Zj (pgB 1) Zy))) (fun _ _ _ _=>Zt) (fun _ _ _ _=>Zab Zrt (pv 0) (pv 1) (Yx _)) (by intro _ ;rfl);case g5=>refine' @Zqq _ _ _ _ .t .t _ _ _ _ _ rfl T.b_zip ?g6 (by rfl) (by rfl);case g6=>refine' @Za _ _ _ _ _ (pv 0) ?g7 rfl;case g7=>refine' @Za _ _ _ _ _ ?g8 Zb rfl;case g8=>refine' @Zcm _ _ _ _ _ _ _ _ _ _ Zmc (pv 0) (Zfn Zf) Zfp
 refine ⟨_,rfl,_,rfl,_,rfl,a,_,rfl,ha,fun p H1 s1 h1=>?_⟩;rw [cut1] at h1;refine ⟨a,p,rfl,⟨_,SqT.of (s1 _ _ ha)⟩,⟨_,SqT.of h1⟩,fun D nD=>?_⟩;refine lc_Z (k:=.t) (l:=.t) (vs:=ns.map V.int) (ws:=(ns.map V.int).drop 1) (fun _ v b=>v=V.bl b) (fun _ _ _ _ _ e=>e) (List.replicate (ns.length-1) true) (by simp) (by simp;omega) nD (s1 _ _ ha) h1 (fun i v w H2 C hv hw s2 c=>?_) (fun H2 us s2 e2 a2=>?_)
 · rw [List.getElem?_drop,n7_,Nat.add_comm] at hw;rw [n7_] at hv;obtain ⟨x,ex,rfl⟩:=n19_.mp hv;obtain ⟨y,ey,rfl⟩:=n19_.mp hw;refine ⟨_,rfl,_,rfl,_,_,rfl,rfl,qT (hr' i x y ex ey) (c _ _ true (Same.refl _) ?_ rfl)⟩
   have:i+1<ns.length:=(n14_.mp ey).1
   rw [List.getElem?_replicate,if_pos (by omega)]
 · rw [a2.bls] at e2;refine ⟨D,List.replicate (ns.length-1) true,rfl,SqL.of e2,?_⟩;rw [List.all_replicate];split<;>exact q _ (s1.trans s2)
abbrev Zbn:Stmt:=top 14
theorem Zdk (F:Fun K "are_rising" "are_rising" Zbn f fd):FnOk P w K mg base CX0 1 f fd ["things"] Zeg:=by
 have sc:FnScope ["things"] ["things"] (Ze Zbn):=fsc (by decide +kernel);refine F.ok sc (fun vs H Q E h=>by obtain ⟨a,us,ks,rfl,_⟩:=h;rfl) fun cdv A outer s H vs Q E hr h=>?_;obtain ⟨a,us,ks,rfl,ha,al,hz,hr',q⟩:=h;have hu:=Zmm hr;have hu1:=Nat.lt_of_succ_lt hu;refine' ⟨_,?term,?read⟩
 case term=>refine' @Zg _ _ _ ?g1;case g1=>refine' @Zn _ _ _ _ ?g2;case g2=>refine' @Zk _ _ _ _ _ _ _ _ _ (Yg rfl) rfl T.b_all Zav ?g3 (by decide) (by decide) (by rfl) (by rfl);case g3=>refine' @Za _ _ _ _ _ ?g4 Zb rfl;case g4=>refine' @Y4 _ _ _ _ _ _ _ (["one","other"]) ([none,none]) _ _ ((gTup K 2 (Xu (Yr 0) (Xu (Yr 1) gNil)))) _ _ rfl (Yv (by decide) rfl (by decide) rfl rfl) ?g5 (fun _ _ _ _=>Yj (n:=2) rfl (Zj (pgB 0) (Zj (pgB 1) Zy))) (fun _ _ _ _=>Zt) (fun _ _ _ _=>Zab (show OpR _ (compareOp .Lt) (rLtT K) from Ztc hu1) (pv 0) (pv 1) (Yx _)) (by intro _ ;rfl);case g5=>refine' @Zqq _ _ _ _ .t .t _ _ _ _ _ rfl T.b_zip ?g6 (by rfl) (by rfl);case g6=>refine' @Za _ _ _ _ _ (pv 0) ?g7 rfl;case g7=>refine' @Za _ _ _ _ _ ?g8 Zb rfl;case g8=>refine' @Zcm _ _ _ _ _ _ _ _ _ _ Zmc (pv 0) (Zfn Zf) Zfp
 refine ⟨_,rfl,_,rfl,_,rfl,a,_,rfl,ha,fun p H1 s1 h1=>?_⟩;rw [cut1] at h1;refine ⟨a,p,rfl,⟨_,SqT.of (s1 _ _ ha)⟩,⟨_,SqT.of h1⟩,fun D nD=>?_⟩;refine lc_Z (k:=.t) (l:=.t) (vs:=us) (ws:=us.drop 1) RB hRB (List.replicate (us.length-1) true) (by simp) (by simp;omega) nD (s1 _ _ ha) h1 (fun i v w H2 C hv hw s2 c=>?_) (fun H2 us' s2 e2 a2=>?_)
 · rw [List.getElem?_drop,Nat.add_comm] at hw;obtain ⟨x,ex,a,rfl,qa⟩:=al.get hv;obtain ⟨y,ey,b,rfl,qb⟩:=al.get hw;refine ⟨_,rfl,_,rfl,a,b,x,y,rfl,rfl,SqT.of ((s1.trans s2) _ _ qa),SqT.of ((s1.trans s2) _ _ qb),?_⟩;rw [hr' i x y ex ey];refine c _ _ true (Same.refl _) (repT ?_) rfl
   have:=Ym hw
   omega
 · rw [a2.bls] at e2;refine ⟨D,List.replicate (us.length-1) true,rfl,SqL.of e2,?_⟩;rw [allT];exact q _ (s1.trans s2)
abbrev Za9:Stmt:=top 15
theorem Zhj (F:Fun K "is_corner" "is_corner" Za9 f fd) (Cd_:a1_ P w K mg base) (Cc_:a2_ P w K mg base):FnOk P w K mg base CX0 3 f fd ["thing"] Zhh:=by
 have sc:FnScope ["thing"] ["thing"] (Ze Za9):=fsc (by decide +kernel);refine F.ok sc (fun vs H Q E h=>by obtain ⟨v,p,rfl,_⟩:=h;rfl) fun cdv A outer s H vs Q E hr h=>?_;obtain ⟨v,p,rfl,⟨a,rfl,ha⟩,⟨⟨n1,n2⟩,n3,n4⟩,q⟩:=h;refine' ⟨_,?term,?read⟩
 case term=>refine' @Zg _ _ _ ?g1;case g1=>refine' @Zn _ _ _ _ ?g2;case g2=>refine' @Zdf _ _ _ _ _ _ _ (Zl Cc_ hr (by decide) rfl (Za (pv 0) (Za Zf (Za Zf Zb rfl) rfl) rfl)) ?g3;case g3=>refine' @Zcf _ _ _ _ _ ?g4;case g4=>refine' @Zk _ _ _ _ _ _ _ _ _ (Yg rfl) rfl T.b_all Zav ?g5 (by decide) (by decide) (by rfl) (by rfl);case g5=>refine' @Za _ _ _ _ _ ?g6 Zb rfl;case g6=>refine' @Y4 _ _ _ _ _ _ _ (["part"]) ([none]) _ _ _ _ _ rfl (Yv (by decide) rfl (by decide) rfl rfl) (Yy (pv 0)) (fun _ _ _ _=>pgB 0) (fun _ _ _ _=>Zt) (fun _ _ _ _=>Zl Cd_ hr (by decide) rfl (Za (pv 0) (Za (Ztv Zqf (Zas T.n_FARTHEST rfl)) (Za (Zas T.n_FARTHEST rfl) Zb rfl) rfl) rfl)) (by intro _ ;rfl)
 refine ⟨_,rfl,a,_,2,2,rfl,ha,by simp,by simp,true,rfl,iteT ?_⟩;refine ⟨_,rfl,a,rfl,⟨_,SqT.of ha⟩,fun D nD=>?_⟩;refine lc_T (k:=.t) (vs:=[V.int p.1,V.int p.2]) RB hRB [true,true] rfl (by simp) nD ha (fun i w H2 C hw s2 c=>?_) (fun H2 us' s2 e2 a2=>?_)
 · have hi:i=0∨i=1:=by have:i<2:=Ym hw;omega
   rcases hi with rfl|rfl
   · cases (show V.int p.1=w by simpa using hw)
     exact ⟨_,rfl,_,rfl,p.1,-100,100,rfl,n1,n2,c _ _ true (Same.refl _) rfl rfl⟩
   · cases (show V.int p.2=w by simpa using hw)
     exact ⟨_,rfl,_,rfl,p.2,-100,100,rfl,n3,n4,c _ _ true (Same.refl _) rfl rfl⟩
 · rw [a2.bls] at e2;exact ⟨D,[true,true],rfl,SqL.of e2,q _ s2⟩
abbrev X6:Stmt:=top 16
theorem Zdh (F:Fun K "are_corners" "are_corners" X6 f fd) (Caa_:a3_ P w K mg base) (Cc_:a2_ P w K mg base):FnOk P w K mg base CX0 4 f fd ["thing"] Zds:=by
 have sc:FnScope ["thing"] ["thing"] (Ze X6):=fsc (by decide +kernel);refine F.ok sc (fun vs H Q E h=>by obtain ⟨v,cs,rfl,_⟩:=h;rfl) fun cdv A outer s H vs Q E hr h=>?_;obtain ⟨v,cs,rfl,⟨a,us,rfl,ha,al⟩,h3,h30,nr,nd',q⟩:=h;refine' ⟨_,?term,?read⟩
 case term=>refine' @Zd _ _ _ _ _ ?g1 (Zg (Zn (Zab Zia (Zk Zlu rfl T.b_len Xc (Za (Z9 (Znq rfl hr) rfl T.b_set Zp7 (Za (pv 0) Zb rfl)) Zb rfl)) (Zk Zr rfl T.b_len Xc (Za (pv 0) Zb rfl)) (Yx _))));case g1=>refine' @Xz _ _ _ _ _ _ _ _ ?g2 (Zg (Zn X3)) Z8;case g2=>refine' @PW.pt _ _ _ ?g3;case g3=>refine' @Zlc _ _ _ _ _ _ _ ?g4 ?g5;(case g4=>refine' @Yz _ _ _ _ ?g6;case g6=>refine' @Zv _ _ _ (Zl Cc_ hr (by decide) rfl (Za (pv 0) (Za (Zas T.n_FEWEST_CORNERS rfl) (Za (Zas T.n_MOST_CORNERS rfl) Zb rfl) rfl) rfl)) (fun _=>rfl));case g5=>refine' @Zef _ _ _ _ ?g7;case g7=>refine' @Yz _ _ _ _ ?g8;case g8=>refine' @Zv _ _ _ ?g9 (fun _=>rfl);case g9=>refine' @Zk _ _ _ _ _ _ _ _ _ (Yg rfl) rfl T.b_all Zav ?ga (by decide) (by decide) (by rfl) (by rfl);case ga=>refine' @Za _ _ _ _ _ ?gb Zb rfl;case gb=>refine' @Y4 _ _ _ _ _ _ _ (["part"]) ([none]) _ _ _ _ _ rfl (Yv (by decide) rfl (by decide) rfl rfl) (Yy (pv 0)) (fun _ _ _ _=>pgB 0) (fun _ _ _ _=>Zt) (fun _ _ _ _=>Zl Caa_ hr (by decide) rfl (Za (pv 0) Zb rfl)) (by intro _ ;rfl)
 have hl:=al.1;refine ⟨_,rfl,a,_,3,30,rfl,ha,by omega,by omega,true,rfl,iteF ?_⟩;refine ⟨_,rfl,a,rfl,⟨_,SqT.of ha⟩,fun D nD=>?_⟩;refine lc_T (k:=.t) (vs:=us) RB hRB (List.replicate us.length true) (by simp) (by omega) nD ha (fun i w H2 C hw s2 c=>?_) (fun H2 us' s2 e2 a2=>?_)
 · obtain ⟨p,ep,rp⟩:=al.get hw;exact ⟨_,rfl,w,p,rfl,rp.tk s2.tk,nr p (n6_ ep),fun H5 s5=>c _ _ true s5 (repT (Ym hw)) rfl⟩
 · rw [a2.bls] at e2;refine ⟨D,List.replicate us.length true,rfl,SqL.of e2,true,by rw [allT];rfl,iteF ?_⟩
   have ali:Al (IsI H2) us (cs.map fun p=>[p.1,p.2]):=⟨by simp [hl],fun i v x e1 e2=>by
    obtain ⟨p,ep,rp⟩:=al.get e1;rw [n7_,ep] at e2;cases e2
    exact rp.tk s2.tk⟩
   obtain ⟨bl,rfl,tp,eb⟩:=Zi4 ali
   have nb:(bl.map (·.2)).Nodup:=by
    rw [eb,n56_,List.pairwise_map];refine (n56_.mp nd').imp fun {x y} ne e=>ne ?_;simp at e;exact Prod.ext e.1 e.2
   have lb:bl.length=cs.length:=by have:=hl;rwa [n5_] at this
   refine ⟨_,rfl,a,bl,rfl,SqT.of (s2 _ _ ha),tp,by omega,fun S nS=>?_⟩;generalize hG:upd H2 S _=H3;have s3:Same H2 H3:=by rw [← hG];exact Same.new nS
   have e3:=(congrFun hG S).symm;rw [Zc] at e3;clear hG;refine ⟨_,S,_,rfl,e3,by rw [Zf4 nb];omega,_,rfl,a,_,rfl,.inr (SqT.of (s3 _ _ (s2 _ _ ha))),rfl,?_⟩;have e:V.int ((metU bl).length:Nat)=V.int (refs bl).length:=by rw [Zf4 nb,n5_]
   exact qT e (q _ (s2.trans s3))
abbrev Znh:Stmt:=top 17
theorem Zq5 (F:Fun K "turn" "turn" Znh f fd):FnOk P w K mg base CX0 1 f fd ["first","second","third"] Znj:=by
 have sc:FnScope ["first","second","third","ahead"] ["first","second","third"] (Ze Znh):=fsc (by decide +kernel);refine F.ok sc (fun vs H Q E h=>by obtain ⟨u,v,w,a,b,c,rfl,_⟩:=h;rfl) fun cdv A outer s H vs Q E hr h=>?_;obtain ⟨u,v,w,a,b,c,rfl,⟨pa,rfl,ha⟩,⟨pb,rfl,hb⟩,⟨pc,rfl,hc⟩,na,nb,nc,q⟩:=h;have nd:=sc.nd;refine' ⟨_,?term,?read⟩
 case term=>refine' @Zd _ _ _ _ _ ?g1 ?g2;(case g1=>refine' @Zs _ _ (3) _ _ _ _ nd rfl (Or.inl rfl) ?g3 (by rfl) (by first|exact Or.inl rfl|exact Or.inr rfl|assumption);case g3=>refine' @Zp _ _ _ _ _ _ _ _ Yd ?g4 ?g5;(case g4=>refine' @Zp _ _ _ _ _ _ _ _ Y8 ?g6 ?g7;(case g6=>refine' @Zw _ _ _ _ _ _ _ Zz (pv 1) Zf (fun _ _=>rfl));case g7=>refine' @Zw _ _ _ _ _ _ _ Zz (pv 0) Zf (fun _ _=>rfl));case g5=>refine' @Zp _ _ _ _ _ _ _ _ Y8 ?g8 ?g9;(case g8=>refine' @Zw _ _ _ _ _ _ _ Zz (pv 2) Zf (fun _ _=>rfl));case g9=>refine' @Zw _ _ _ _ _ _ _ Zz (pv 0) Zf (fun _ _=>rfl));case g2=>refine' @Zg _ _ _ ?ga;case ga=>refine' @Zn _ _ _ _ ?gb;case gb=>refine' @Zp _ _ _ _ _ _ _ _ Y8 (pv 3) ?gc;case gc=>refine' @Zp _ _ _ _ _ _ _ _ Yd ?gd ?ge;(case gd=>refine' @Zp _ _ _ _ _ _ _ _ Y8 ?gf ?gg;(case gf=>refine' @Zw _ _ _ _ _ _ _ Zz (pv 2) Zf (fun _ _=>rfl));case gg=>refine' @Zw _ _ _ _ _ _ _ Zz (pv 0) Zf (fun _ _=>rfl));case ge=>refine' @Zp _ _ _ _ _ _ _ _ Y8 ?gh ?gi;(case gh=>refine' @Zw _ _ _ _ _ _ _ Zz (pv 1) Zf (fun _ _=>rfl));case gi=>refine' @Zw _ _ _ _ _ _ _ Zz (pv 0) Zf (fun _ _=>rfl)
 obtain ⟨⟨a1,a2⟩,a3,a4⟩:=na;obtain ⟨⟨b1,b2⟩,b3,b4⟩:=nb;obtain ⟨⟨c1,c2⟩,c3,c4⟩:=nc;refine ⟨_,rfl,pb,_,0,_,rfl,rfl,SqT.of hb,rfl,_,rfl,pa,_,0,_,rfl,rfl,SqT.of ha,rfl,_,_,rfl,rfl,_,rfl,pc,_,1,_,rfl,rfl,SqT.of hc,rfl,_,rfl,pa,_,1,_,rfl,rfl,SqT.of ha,rfl,_,_,rfl,rfl,_,_,rfl,rfl,mul3 (by omega) (by omega),?_⟩;refine ⟨_,rfl,_,rfl,pc,_,0,_,rfl,rfl,SqT.of hc,rfl,_,rfl,pa,_,0,_,rfl,rfl,SqT.of ha,rfl,_,_,rfl,rfl,_,rfl,pb,_,1,_,rfl,rfl,SqT.of hb,rfl,_,rfl,pa,_,1,_,rfl,rfl,SqT.of ha,rfl,_,_,rfl,rfl,_,_,rfl,rfl,mul3 (by omega) (by omega),_,_,rfl,rfl,?_⟩;exact q
abbrev Zdb:Stmt:=top 18
theorem Zk0 (F:Fun K "turn_of" "turn_of" Zdb f fd) (Ce_:a4_ P w K mg base):FnOk P w K mg base CX0 2 f fd ["corners","piece"] Zg1:=by
 have sc:FnScope ["corners","piece"] ["corners","piece"] (Ze Zdb):=fsc (by decide +kernel);refine F.ok sc (fun vs H Q E h=>by obtain ⟨u,v,cs,p,rfl,_⟩:=h;rfl) fun cdv A outer s H vs Q E hr h=>?_;obtain ⟨u,v,cs,p,rfl,⟨a,us,rfl,ha,al⟩,⟨b,rfl,hb⟩,hl,bd,nr,q⟩:=h;refine' ⟨_,?term,?read⟩
 case term=>refine' @Zg _ _ _ ?g1;case g1=>refine' @Zn _ _ _ _ ?g2;case g2=>refine' @Zl _ _ _ _ _ _ _ _ _ _ _ Ce_ hr (by decide) rfl ?g3 (by decide) (by rfl) (by rfl);case g3=>refine' @Za _ _ _ _ _ ?g4 ?g5 rfl;(case g4=>refine' @Zw _ _ _ _ _ _ _ Zz (pv 0) ?g6 (fun _ _=>rfl);case g6=>refine' @Zw _ _ _ _ _ _ _ Zz (pv 1) Zf (fun _ _=>rfl));case g5=>refine' @Za _ _ _ _ _ ?g7 ?g8 rfl;(case g7=>refine' @Zw _ _ _ _ _ _ _ Zz (pv 0) ?g9 (fun _ _=>rfl);case g9=>refine' @Zw _ _ _ _ _ _ _ Zz (pv 1) Zf (fun _ _=>rfl));case g8=>refine' @Za _ _ _ _ _ ?ga Zb rfl;case ga=>refine' @Zw _ _ _ _ _ _ _ Zz (pv 0) ?gb (fun _ _=>rfl);case gb=>refine' @Zw _ _ _ _ _ _ _ Zz (pv 1) Zf (fun _ _=>rfl)
 match p,hl with
 | [i,j,k],_ =>
   have bi:=bd i (by simp);have bj:=bd j (by simp);have bk:=bd k (by simp);obtain ⟨x,ex,rx⟩:=Zh5 al bi.1 bi.2;obtain ⟨y,ey,ry⟩:=Zh5 al bj.1 bj.2;obtain ⟨z,ez,rz⟩:=Zh5 al bk.1 bk.2;refine ⟨_,rfl,_,rfl,b,_,0,_,rfl,rfl,SqT.of hb,rfl,a,us,i,x,rfl,rfl,SqT.of ha,ex,?_⟩;refine ⟨_,rfl,_,rfl,b,_,1,_,rfl,rfl,SqT.of hb,rfl,a,us,j,y,rfl,rfl,SqT.of ha,ey,?_⟩;refine ⟨_,rfl,_,rfl,b,_,2,_,rfl,rfl,SqT.of hb,rfl,a,us,k,z,rfl,rfl,SqT.of ha,ez,?_⟩;exact ⟨x,y,z,_,_,_,rfl,rx,ry,rz,nr _ (Y5 bi.1 bi.2),nr _ (Y5 bj.1 bj.2),nr _ (Y5 bk.1 bk.2),q⟩
abbrev Za2:Stmt:=top 19
theorem Zh4 (F:Fun K "is_piece" "is_piece" Za2 f fd) (Cp_:a5_ P w K mg base) (Cd_:a1_ P w K mg base) (Cc_:a2_ P w K mg base) (Ci_:a6_ P w K mg base):FnOk P w K mg base CX0 3 f fd ["corners","thing"] Zd6:=by
 have sc:FnScope ["corners","thing"] ["corners","thing"] (Ze Za2):=fsc (by decide +kernel);refine F.ok sc (fun vs H Q E h=>by obtain ⟨u,v,cs,p,rfl,_⟩:=h;rfl) fun cdv A outer s H vs Q E hr h=>?_;obtain ⟨u,v,cs,p,rfl,⟨a,us,rfl,ha,al⟩,⟨b,rfl,hb⟩,ok,nr,q⟩:=h;refine' ⟨_,?term,?read⟩
 case term=>refine' @Zd _ _ _ _ _ ?g1 ?g2;(case g1=>refine' @Xz _ _ _ _ _ _ _ _ ?g3 (Zg (Zn X3)) Z8;case g3=>refine' @PW.pt _ _ _ ?g4;case g4=>refine' @Zlc _ _ _ _ _ _ _ ?g5 ?g6;(case g5=>refine' @Yz _ _ _ _ ?g7;case g7=>refine' @Zv _ _ _ (Zl Cc_ hr (by decide) rfl (Za (pv 1) (Za Zf (Za Zf Zb rfl) rfl) rfl)) (fun _=>rfl));case g6=>refine' @Zef _ _ _ _ ?g8;case g8=>refine' @Yz _ _ _ _ ?g9;case g9=>refine' @Zv _ _ _ ?ga (fun _=>rfl);case ga=>refine' @Zk _ _ _ _ _ _ _ _ _ (Yg rfl) rfl T.b_all Zav ?gb (by decide) (by decide) (by rfl) (by rfl);case gb=>refine' @Za _ _ _ _ _ ?gc Zb rfl;case gc=>refine' @Y4 _ _ _ _ _ _ _ (["part","corners"]) ([none,some 0]) _ _ _ _ _ rfl (Z0 (XN:=["corners","thing"]) (Scope.names (Ze Za2)) rfl rfl rfl (fun _ h=>Zq h) (by decide +kernel) rfl) (Yy (pv 1)) (fun _ _ _ _=>pgB 0) (fun _ _ _ _=>Zt) (fun _ _ _ _=>Zl Cd_ hr (by decide) rfl (Za (pv 0) (Za Zf (Za (Zp Y8 (Zk (Zbl K rfl) rfl T.b_len Xc (Za (pv 1) Zb rfl)) Zf) Zb rfl) rfl) rfl)) (by intro _ ;rfl));case g2=>refine' @Zg _ _ _ ?gd;case gd=>refine' @Zn _ _ _ _ ?ge;case ge=>refine' @Zdf _ _ _ _ _ _ _ (Zl Cp_ hr (by decide) rfl (Za (pv 1) Zb rfl)) (Zcf (Zab Zs6 (Zl Ci_ hr (by decide) rfl (Za (pv 0) (Za (pv 1) Zb rfl) rfl)) Zf (Yx _)))
 have hl:=ok.len;have hl2:=al.1;refine ⟨_,rfl,b,_,3,3,rfl,hb,by simp [hl],by simp [hl],true,rfl,iteF ?_⟩;refine ⟨_,rfl,b,rfl,⟨_,SqT.of hb⟩,fun D nD=>?_⟩;refine lc_T (k:=.t) (vs:=p.map V.int) RB hRB (List.replicate 3 true) (by simp [hl]) (by simp [hl]) nD hb (fun i w H2 C hw s2 c=>?_) (fun H2 us' s2 e2 a2=>?_)
 · rw [n7_] at hw;obtain ⟨x,ex,rfl⟩:=n19_.mp hw;obtain ⟨b1,b2⟩:=ok.bd x (n6_ ex);refine ⟨_,rfl,_,rfl,a,us,rfl,.inr (SqT.of (s2 _ _ ha)),_,_,rfl,rfl,x,0,_,rfl,b1,by rw [hl2];exact b2,c _ _ true (Same.refl _) (repT ?_) rfl⟩
   have:=Ym ex
   omega
 · rw [a2.bls] at e2;refine ⟨D,List.replicate 3 true,rfl,SqL.of e2,true,by rw [allT];rfl,iteF ?_⟩;refine ⟨_,rfl,b,p,rfl,s2 _ _ hb,by omega,fun i x y ex ey=>?_,fun H3 s3=>⟨true,rfl,iteT ?_⟩⟩
   · have r:=ok.rise
     match p,hl with
     | [i0,i1,i2],_ =>
       match i,ex,ey with
       | 0,ex,ey=>simp at ex ey;subst ex;subst ey;exact r.1
       | 1,ex,ey=>simp at ex ey;subst ex;subst ey;exact r.2
       | 2,ex,ey=>simp at ey
       | (n+3),ex,ey=>simp at ex
   · have s4:=s2.trans s3;refine ⟨_,rfl,_,rfl,_,_,cs,p,rfl,⟨a,us,rfl,s4 _ _ ha,al.imp fun v x r=>r.tk s4.tk⟩,⟨b,rfl,s4 _ _ hb⟩,hl,ok.bd,nr,rfl,?_⟩;have e:decide (V.int (dOf cs p)=V.int 0)=false:=n35_ fun z=>ok.d (V.int.inj z);rw [e];exact q _ s4
abbrev Xp:Stmt:=top 20
theorem Zew (F:Fun K "are_pieces" "are_pieces" Xp f fd) (Cq_:a7_ P w K mg base) (Cah_:a8_ P w K mg base) (Cc_:a2_ P w K mg base):FnOk P w K mg base CX0 4 f fd ["corners","thing"] Zho:=by
 have sc:FnScope ["corners","thing"] ["corners","thing"] (Ze Xp):=fsc (by decide +kernel);refine F.ok sc (fun vs H Q E h=>by obtain ⟨u,v,cs,ps,rfl,_⟩:=h;rfl) fun cdv A outer s H vs Q E hr h=>?_;obtain ⟨u,v,cs,ps,rfl,hc,⟨b,ws,rfl,hb,bl⟩,p1,p40,pc,rise,nr,q⟩:=h;refine' ⟨_,?term,?read⟩
 case term=>refine' @Zd _ _ _ _ _ ?g1 (Zg (Zn (Zl Cq_ hr (by decide) rfl (Za (pv 1) Zb rfl))));case g1=>refine' @Xz _ _ _ _ _ _ _ _ ?g2 (Zg (Zn X3)) Z8;case g2=>refine' @PW.pt _ _ _ ?g3;case g3=>refine' @Zlc _ _ _ _ _ _ _ ?g4 ?g5;(case g4=>refine' @Yz _ _ _ _ ?g6;case g6=>refine' @Zv _ _ _ (Zl Cc_ hr (by decide) rfl (Za (pv 1) (Za Zf (Za (Zas T.n_MOST_PIECES rfl) Zb rfl) rfl) rfl)) (fun _=>rfl));case g5=>refine' @Zef _ _ _ _ ?g7;case g7=>refine' @Yz _ _ _ _ ?g8;case g8=>refine' @Zv _ _ _ ?g9 (fun _=>rfl);case g9=>refine' @Zk _ _ _ _ _ _ _ _ _ (Yg rfl) rfl T.b_all Zav ?ga (by decide) (by decide) (by rfl) (by rfl);case ga=>refine' @Za _ _ _ _ _ ?gb Zb rfl;case gb=>refine' @Y4 _ _ _ _ _ _ _ (["part","corners"]) ([none,some 0]) _ _ _ _ _ rfl (Z0 (XN:=["corners","thing"]) (Scope.names (Ze Xp)) rfl rfl rfl (fun _ h=>Zq h) (by decide +kernel) rfl) (Yy (pv 1)) (fun _ _ _ _=>pgB 0) (fun _ _ _ _=>Zt) (fun _ _ _ _=>Zl Cah_ hr (by decide) rfl (Za (pv 1) (Za (pv 0) Zb rfl) rfl)) (by intro _ ;rfl)
 have hl:=bl.1;refine ⟨_,rfl,b,_,1,40,rfl,hb,by omega,by omega,true,rfl,iteF ?_⟩;refine ⟨_,rfl,b,rfl,⟨_,SqT.of hb⟩,fun D nD=>?_⟩;refine lc_T (k:=.t) (vs:=ws) RB hRB (List.replicate ws.length true) (by simp) (by omega) nD hb (fun i w H2 C hw s2 c=>?_) (fun H2 us' s2 e2 a2=>?_)
 · obtain ⟨p,ep,rp⟩:=bl.get hw;exact ⟨_,rfl,_,rfl,_,_,cs,p,rfl,hc.tk s2.tk,rp.tk s2.tk,pc p (n6_ ep),nr,fun H5 s5=>c _ _ true s5 (repT (Ym hw)) rfl⟩
 · rw [a2.bls] at e2;refine ⟨D,List.replicate ws.length true,rfl,SqL.of e2,true,by rw [allT];rfl,iteF ?_⟩;refine ⟨_,rfl,b,ws,ps,rfl,s2 _ _ hb,bl.imp fun v x r=>r.tk s2.tk,by omega,fun i x y ex ey=>?_,fun H3 s3=>q _ (s2.trans s3)⟩
   have:=rise i (Ym ey)
   rw [n4_,n4_,ex,ey] at this;exact this
abbrev Zat:Stmt:=top 21
theorem Zfr (F:Fun K "are_thicks" "are_thicks" Zat f fd) (Cd_:a1_ P w K mg base) (Cc_:a2_ P w K mg base):FnOk P w K mg base CX0 3 f fd ["pieces","thing"] Zgy:=by
 have sc:FnScope ["pieces","thing"] ["pieces","thing"] (Ze Zat):=fsc (by decide +kernel);refine F.ok sc (fun vs H Q E h=>by obtain ⟨u,v,ps,ts,rfl,_⟩:=h;rfl) fun cdv A outer s H vs Q E hr h=>?_;obtain ⟨u,v,ps,ts,rfl,⟨a,us,rfl,ha,al⟩,⟨b,rfl,hb⟩,hl,p40,t9,q⟩:=h;refine' ⟨_,?term,?read⟩
 case term=>refine' @Zd _ _ _ _ _ ?g1 ?g2;(case g1=>refine' @Xz _ _ _ _ _ _ _ _ ?g3 (Zg (Zn X3)) Z8;case g3=>refine' @Yz _ _ _ _ ?g4;case g4=>refine' @Zv _ _ _ (Zl Cc_ hr (by decide) rfl (Za (pv 1) (Za (Zk Zr rfl T.b_len Xc (Za (pv 0) Zb rfl)) (Za (Zk Zr rfl T.b_len Xc (Za (pv 0) Zb rfl)) Zb rfl) rfl) rfl)) (fun _=>rfl));case g2=>refine' @Zg _ _ _ ?g5;case g5=>refine' @Zn _ _ _ _ ?g6;case g6=>refine' @Zk _ _ _ _ _ _ _ _ _ (Yg rfl) rfl T.b_all Zav ?g7 (by decide) (by decide) (by rfl) (by rfl);case g7=>refine' @Za _ _ _ _ _ ?g8 Zb rfl;case g8=>refine' @Y4 _ _ _ _ _ _ _ (["part"]) ([none]) _ _ _ _ _ rfl (Yv (by decide) rfl (by decide) rfl rfl) (Yy (pv 1)) (fun _ _ _ _=>pgB 0) (fun _ _ _ _=>Zt) (fun _ _ _ _=>Zl Cd_ hr (by decide) rfl (Za (pv 0) (Za Zf (Za (Zas T.n_THICKEST rfl) Zb rfl) rfl) rfl)) (by intro _ ;rfl)
 have hl2:=al.1;have hl3:((ts.map V.int).length:Int)=us.length:=by simp;omega
 refine ⟨_,rfl,_,rfl,a,us,rfl,.inr (SqT.of ha),_,rfl,a,us,rfl,.inr (SqT.of ha),b,_,_,_,rfl,hb,by rw [hl3];exact Int.le_refl _,by rw [hl3];exact Int.le_refl _,true,rfl,iteF ?_⟩;refine ⟨_,rfl,b,rfl,⟨_,SqT.of hb⟩,fun D nD=>?_⟩;refine lc_T (k:=.t) (vs:=ts.map V.int) RB hRB (List.replicate ts.length true) (by simp) (by simp;omega) nD hb (fun i w H2 C hw s2 c=>?_) (fun H2 us' s2 e2 a2=>?_)
 · rw [n7_] at hw;obtain ⟨x,ex,rfl⟩:=n19_.mp hw;obtain ⟨b1,b2⟩:=t9 x (n6_ ex);exact ⟨_,rfl,x,1,9,rfl,b1,b2,c _ _ true (Same.refl _) (repT (Ym ex)) rfl⟩
 · rw [a2.bls] at e2;refine ⟨D,List.replicate ts.length true,rfl,SqL.of e2,?_⟩;rw [allT];exact q _ s2
abbrev Zbv:Stmt:=top 22
theorem Ziv (F:Fun K "is_stuff" "is_stuff" Zbv f fd) (Cd_:a1_ P w K mg base) (Cc_:a2_ P w K mg base):FnOk P w K mg base CX0 3 f fd ["thing"] Zjk:=by
 have sc:FnScope ["thing"] ["thing"] (Ze Zbv):=fsc (by decide +kernel);refine F.ok sc (fun vs H Q E h=>by obtain ⟨v,l,m,rfl,_⟩:=h;rfl) fun cdv A outer s H vs Q E hr h=>?_;obtain ⟨v,l,m,rfl,⟨b,rfl,hb⟩,l9,m9,q⟩:=h;refine' ⟨_,?term,?read⟩
 case term=>refine' @Zd _ _ _ _ _ ?g1 ?g2;(case g1=>refine' @Xz _ _ _ _ _ _ _ _ ?g3 (Zg (Zn X3)) Z8;case g3=>refine' @Yz _ _ _ _ ?g4;case g4=>refine' @Zv _ _ _ (Zl Cc_ hr (by decide) rfl (Za (pv 0) (Za Zf (Za Zf Zb rfl) rfl) rfl)) (fun _=>rfl));case g2=>refine' @Zg _ _ _ ?g5;case g5=>refine' @Zn _ _ _ _ ?g6;case g6=>refine' @Zdf _ _ _ _ _ _ _ ?g7 ?g8;(case g7=>refine' @Zl _ _ _ _ _ _ _ _ _ _ _ Cd_ hr (by decide) rfl ?g9 (by decide) (by rfl) (by rfl);case g9=>refine' @Za _ _ _ _ _ ?ga (Za Zf (Za (Zas T.n_MOST_STUFF rfl) Zb rfl) rfl) rfl;case ga=>refine' @Zw _ _ _ _ _ _ _ Zz (pv 0) Zf (fun _ _=>rfl));case g8=>refine' @Zcf _ _ _ _ _ ?gb;case gb=>refine' @Zl _ _ _ _ _ _ _ _ _ _ _ Cd_ hr (by decide) rfl ?gc (by decide) (by rfl) (by rfl);case gc=>refine' @Za _ _ _ _ _ ?gd (Za Zf (Za (Zas T.n_MOST_STUFF rfl) Zb rfl) rfl) rfl;case gd=>refine' @Zw _ _ _ _ _ _ _ Zz (pv 0) Zf (fun _ _=>rfl)
 refine ⟨_,rfl,b,_,2,2,rfl,hb,by simp,by simp,true,rfl,iteF ?_⟩;refine ⟨_,rfl,b,_,0,_,rfl,rfl,SqT.of hb,rfl,l,0,9,rfl,l9.1,l9.2,true,rfl,iteT ?_⟩;exact ⟨_,rfl,b,_,1,_,rfl,rfl,SqT.of hb,rfl,m,1,9,rfl,m9.1,m9.2,q⟩
abbrev Za0:Stmt:=top 23
theorem Zim (F:Fun K "triangle" "triangle" Za0 f fd) (Ce_:a4_ P w K mg base):FnOk P w K mg base CX0 2 f fd ["corners","piece"] Zqd:=by
 have sc:FnScope ["corners","piece","first","second","third"] ["corners","piece"] (Ze Za0):=fsc (by decide +kernel);refine F.ok sc (fun vs H Q E h=>by obtain ⟨u,v,cs,p,rfl,_⟩:=h;rfl) fun cdv A outer s H vs Q E hr h=>?_;obtain ⟨u,v,cs,p,rfl,⟨a,us,rfl,ha,al⟩,⟨b,rfl,hb⟩,hl,bd,nr,q⟩:=h;have nd:=sc.nd;refine' ⟨_,?term,?read⟩
 case term=>refine' @Zd _ _ _ _ _ ?g1 ?g2;(case g1=>refine' @Zaz _ _ _ _ _ _ ?g3 ?g4 (by rfl) (by rfl) (by rfl);(case g3=>refine' @Y4 _ _ _ _ _ _ _ (["number","corners"]) ([none,some 0]) _ _ _ _ _ rfl (Z0 (XN:=["corners","piece","first","second","third"]) (Scope.names (Ze Za0)) rfl rfl rfl (fun _ h=>Zq h) (by decide +kernel) rfl) (Yy (pv 1)) (fun _ _ _ _=>pgB 0) (fun _ _ _ _=>Zt) (fun _ _ _ _=>Zw (Zh1 K rfl) (pv 1) (pv 0) (fun _ _=>rfl)) (by intro _ ;rfl));case g4=>refine' @Zuk _ _ _ _ _ (3) rfl (Zj (Zm (i:=2) nd rfl (Or.inl rfl)) (Zj (Zm (i:=3) nd rfl (Or.inl rfl)) (Zj (Zm (i:=4) nd rfl (Or.inl rfl)) Zy))) (by rfl) (by rfl));case g2=>refine' @Zd _ _ _ _ _ ?g5 (Zg (Zn (Z4 (Za (pv 2) (Za (pv 3) (Za (pv 4) Zb rfl) rfl) rfl))));case g5=>refine' @Xz _ _ _ _ _ _ _ _ (Xa Zrt (Zl Ce_ hr (by decide) rfl (Za (pv 2) (Za (pv 3) (Za (pv 4) Zb rfl) rfl) rfl)) Zf (Yx _)) (Zg (Zn (Z4 (Za (pv 2) (Za (pv 4) (Za (pv 3) Zb rfl) rfl) rfl)))) Z8
 refine ⟨_,rfl,b,rfl,⟨_,SqT.of hb⟩,fun D nD=>?_⟩;refine lc_T (k:=.t) (vs:=p.map V.int) IsP hRP (p.map (cAt cs)) (by simp) (by simp [hl]) nD hb (fun i w H2 C hw s2 c=>?_) (fun H2 us' s2 e2 a2=>?_)
 · rw [n7_] at hw;obtain ⟨x,ex,rfl⟩:=n19_.mp hw;obtain ⟨b1,b2⟩:=bd x (n6_ ex);obtain ⟨v,ev,rv⟩:=Zh5 al b1 b2;exact ⟨_,rfl,_,rfl,a,us,x,v,rfl,rfl,SqT.of (s2 _ _ ha),ev,c _ _ _ (Same.refl _) (by rw [n7_,ex];rfl) (rv.tk s2.tk)⟩
 · obtain ⟨x,y,z,rfl,rx,ry,rz⟩:=cs3 (al.imp fun v x r=>r.tk s2.tk) hl bd a2;have nx:=nr (cAt cs (p.getD 0 0)) (by match p,hl with|[i,j,k],_=>exact Y5 (bd i (by simp)).1 (bd i (by simp)).2);have ny:=nr (cAt cs (p.getD 1 0)) (by match p,hl with|[i,j,k],_=>exact Y5 (bd j (by simp)).1 (bd j (by simp)).2);have nz:=nr (cAt cs (p.getD 2 0)) (by match p,hl with|[i,j,k],_=>exact Y5 (bd k (by simp)).1 (bd k (by simp)).2);refine ⟨D,_,rfl,SqL.of e2,rfl,x,_,rfl,y,_,rfl,z,_,rfl,rfl,?_⟩;refine ⟨_,rfl,_,rfl,_,rfl,x,y,z,_,_,_,rfl,rx,ry,rz,nx,ny,nz,_,_,rfl,rfl,_,rfl,?_⟩;refine ite2 (fun h=>?_) (fun h=>?_)
   · refine ⟨_,rfl,_,rfl,_,rfl,z3_,fun r nr'=>?_⟩;have s3:Same H2 (upd H2 r (.tup [x,z,y])):=Same.new nr';refine q _ _ (s2.trans s3) ⟨r,x,z,y,rfl,Zc,?_⟩;unfold trOf tri;rw [if_pos (n30_ h)];exact ⟨rx.tk s3.tk,rz.tk s3.tk,ry.tk s3.tk⟩
   · refine ⟨_,rfl,_,rfl,_,rfl,z3_,fun r nr'=>?_⟩;have s3:Same H2 (upd H2 r (.tup [x,y,z])):=Same.new nr';refine q _ _ (s2.trans s3) ⟨r,x,y,z,rfl,Zc,?_⟩;unfold trOf tri;rw [if_neg fun z=>h (n40_ z)];exact ⟨rx.tk s3.tk,ry.tk s3.tk,rz.tk s3.tk⟩
abbrev Zio:Stmt:=top 24
theorem Zoy (F:Fun K "edges" "edges" Zio f fd):FnOk P w K mg base CX0 1 f fd ["points"] Zja:=by
 have sc:FnScope ["points"] ["points"] (Ze Zio):=fsc (by decide +kernel);refine F.ok sc (fun vs H Q E h=>by obtain ⟨v,t,rfl,_⟩:=h;rfl) fun cdv A outer s H vs Q E hr h=>?_;obtain ⟨v,t,rfl,⟨a,x,y,z,rfl,ha,rx,ry,rz⟩,q⟩:=h;refine' ⟨_,?term,?read⟩
 case term=>refine' @Zg _ _ _ ?g1;case g1=>refine' @Zn _ _ _ _ ?g2;case g2=>refine' @Z4 _ _ _ _ _ ?g3;case g3=>refine' @Za _ _ _ _ _ ?g4 ?g5 rfl;(case g4=>refine' @Z4 _ _ _ _ _ ?g6;case g6=>refine' @Za _ _ _ _ _ ?g7 ?g8 rfl;(case g7=>refine' @Zw _ _ _ _ _ _ _ Zz (pv 0) Zf (fun _ _=>rfl));case g8=>refine' @Za _ _ _ _ _ ?g9 Zb rfl;case g9=>refine' @Zw _ _ _ _ _ _ _ Zz (pv 0) Zf (fun _ _=>rfl));case g5=>refine' @Za _ _ _ _ _ ?ga ?gb rfl;(case ga=>refine' @Z4 _ _ _ _ _ ?gc;case gc=>refine' @Za _ _ _ _ _ ?gd ?ge rfl;(case gd=>refine' @Zw _ _ _ _ _ _ _ Zz (pv 0) Zf (fun _ _=>rfl));case ge=>refine' @Za _ _ _ _ _ ?gf Zb rfl;case gf=>refine' @Zw _ _ _ _ _ _ _ Zz (pv 0) Zf (fun _ _=>rfl));case gb=>refine' @Za _ _ _ _ _ ?gg Zb rfl;case gg=>refine' @Z4 _ _ _ _ _ ?gh;case gh=>refine' @Za _ _ _ _ _ ?gi ?gj rfl;(case gi=>refine' @Zw _ _ _ _ _ _ _ Zz (pv 0) Zf (fun _ _=>rfl));case gj=>refine' @Za _ _ _ _ _ ?gk Zb rfl;case gk=>refine' @Zw _ _ _ _ _ _ _ Zz (pv 0) Zf (fun _ _=>rfl)
 refine ⟨_,rfl,a,_,0,x,rfl,rfl,SqT.of ha,rfl,_,rfl,a,_,1,y,rfl,rfl,SqT.of ha,rfl,z2_,fun p np=>?_⟩;have s1:Same H (upd H p (.tup [x,y])):=Same.new np;generalize hH1:upd H p (.tup [x,y])=H1 at s1 ⊢;have e1:H1 p=some (.tup [x,y]):=by rw [← hH1];exact Zc
 refine ⟨_,rfl,a,_,1,y,rfl,rfl,SqT.of (s1 _ _ ha),rfl,_,rfl,a,_,2,z,rfl,rfl,SqT.of (s1 _ _ ha),rfl,z2_,fun p2 np2=>?_⟩;have s2:Same H1 (upd H1 p2 (.tup [y,z])):=Same.new np2;generalize hH2:upd H1 p2 (.tup [y,z])=H2 at s2 ⊢;have e2:H2 p2=some (.tup [y,z]):=by rw [← hH2];exact Zc
 have s12:=s1.trans s2;refine ⟨_,rfl,a,_,2,z,rfl,rfl,SqT.of (s12 _ _ ha),rfl,_,rfl,a,_,0,x,rfl,rfl,SqT.of (s12 _ _ ha),rfl,z2_,fun p3 np3=>?_⟩;have s3:Same H2 (upd H2 p3 (.tup [z,x])):=Same.new np3;generalize hH3:upd H2 p3 (.tup [z,x])=H3 at s3 ⊢;have e3:H3 p3=some (.tup [z,x]):=by rw [← hH3];exact Zc
 refine ⟨z3_,fun p4 np4=>?_⟩;have s4:Same H3 (upd H3 p4 (.tup [.ref p,.ref p2,.ref p3])):=Same.new np4;have t4:=(s12.trans (s3.trans s4)).tk;refine q _ _ (s12.trans (s3.trans s4)) ⟨p4,_,rfl,Zc,.cons ⟨p,x,y,rfl,s4 _ _ (s3 _ _ (s2 _ _ e1)),rx.tk t4,ry.tk t4⟩ (.cons ⟨p2,y,z,rfl,s4 _ _ (s3 _ _ e2),ry.tk t4,rz.tk t4⟩ (.cons ⟨p3,z,x,rfl,s4 _ _ e3,rz.tk t4,rx.tk t4⟩ .nil))⟩
abbrev Zbg:Stmt:=top 25
theorem Zle (F:Fun K "lies_in" "lies_in" Zbg f fd) (Cm_:a9_ P w K mg base) (Ce_:a4_ P w K mg base):FnOk P w K mg base CX0 2 f fd ["point","points"] Zgh:=by
 have sc:FnScope ["point","points"] ["point","points"] (Ze Zbg):=fsc (by decide +kernel);refine F.ok sc (fun vs H Q E h=>by obtain ⟨u,v,p,t,rfl,_⟩:=h;rfl) fun cdv A outer s H vs Q E hr h=>?_;obtain ⟨u,v,p,t,rfl,hp,ht,np,nt,q⟩:=h;refine' ⟨_,?term,?read⟩
 case term=>refine' @Zg _ _ _ ?g1;case g1=>refine' @Zn _ _ _ _ ?g2;case g2=>refine' @Zk _ _ _ _ _ _ _ _ _ (Yg rfl) rfl T.b_all Zav ?g3 (by decide) (by decide) (by rfl) (by rfl);case g3=>refine' @Za _ _ _ _ _ ?g4 Zb rfl;case g4=>refine' @Y4 _ _ _ _ _ _ _ (["one","other","point"]) ([none,none,some 0]) _ _ ((gTup K 2 (Xu (Yr 0) (Xu (Yr 1) gNil)))) _ _ rfl (Z0 (XN:=["point","points"]) (Scope.names (Ze Zbg)) rfl rfl rfl (fun _ h=>Zq h) (by decide +kernel) rfl) (Yy (Zl Cm_ hr (by decide) rfl (Za (pv 1) Zb rfl))) (fun _ _ _ _=>Yj (n:=2) rfl (Zj (pgB 0) (Zj (pgB 1) Zy))) (fun _ _ _ _=>Zt) (fun _ _ _ _=>Zab Zvb (Zl Ce_ hr (by decide) rfl (Za (pv 0) (Za (pv 1) (Za (pv 2) Zb rfl) rfl) rfl)) Zf (Yx _)) (by intro _ ;rfl)
 refine ⟨_,rfl,v,t,rfl,ht,fun H1 w s1 hw=>?_⟩;obtain ⟨a,vs,rfl,ha,al⟩:=hw;have hl:vs.length=3:=al.1;refine ⟨a,rfl,⟨_,SqT.of ha⟩,fun D nD=>?_⟩;refine Zvd (k:=.t) (vs:=vs) RB hRB (t.edges.map fun e=>decide (0≤tn e.1 e.2 p)) (by simp [hl,Tri.edges]) (by omega) nD ha (prs al) (fun i p' x y H2 C hw hp' s2 c=>?_) (fun H2 us' s2 e2 a2=>?_)
 · obtain ⟨e,ee,rx,ry⟩:=pr1 al hw hp';obtain ⟨n1,n2⟩:=Zfx nt (n6_ ee);exact ⟨_,rfl,_,rfl,_,rfl,x,y,u,e.1,e.2,p,rfl,rx.tk s2.tk,ry.tk s2.tk,hp.tk (s1.trans s2).tk,n1,n2,np,_,_,rfl,rfl,c _ _ _ (Same.refl _) (by rw [n7_,ee];rfl) rfl⟩
 · rw [a2.bls] at e2;exact ⟨D,_,rfl,SqL.of e2,q _ (s1.trans s2)⟩
abbrev Xr:Stmt:=top 26
theorem Zfb (F:Fun K "parts_from" "parts_from" Xr f fd) (Cm_:a9_ P w K mg base) (Ce_:a4_ P w K mg base):FnOk P w K mg base CX0 2 f fd ["points","others"] Zb9:=by
 have sc:FnScope ["points","others","one","other"] ["points","others"] (Ze Xr):=fsc (by decide +kernel);refine F.ok sc (fun vs H Q E h=>by obtain ⟨u,v,t,r,rfl,_⟩:=h;rfl) fun cdv A outer s H vs Q E hr h=>?_;obtain ⟨u,v,t,r,rfl,ht,hr',nt,nr,q⟩:=h;have nd:=sc.nd;refine' ⟨_,?term,?read⟩
 case term=>refine' @Zd _ _ _ _ _ ?g1 (Zg (Zn X3));case g1=>refine' @Xd _ _ _ _ _ _ _ _ PassesOwn.never rfl (Yy (Zl Cm_ hr (by decide) rfl (Za (pv 0) Zb rfl))) ?g2 ?g3 (by intro _ ;rfl);(case g2=>refine' @Yj _ _ _ _ _ (2) rfl (Zj (Zm (i:=2) nd rfl (Or.inr rfl)) (Zj (Zm (i:=3) nd rfl (Or.inr rfl)) Zy)) (by rfl) (by rfl));case g3=>refine' @Zg _ _ _ ?g4;case g4=>refine' @Xz _ _ _ _ _ _ _ _ ?g5 (Zg (Zn X3)) Z8;case g5=>refine' @Zv _ _ _ ?g6 (fun _=>rfl);case g6=>refine' @Zk _ _ _ _ _ _ _ _ _ (Yg rfl) rfl T.b_all Zav ?g7 (by decide) (by decide) (by rfl) (by rfl);case g7=>refine' @Za _ _ _ _ _ ?g8 Zb rfl;case g8=>refine' @Y4 _ _ _ _ _ _ _ (["point","one","other"]) ([none,some 2,some 3]) _ _ _ _ _ rfl (Z0 (XN:=["points","others","one","other"]) (Scope.names (Ze Xr)) rfl rfl rfl (fun _ h=>Zq h) (by decide +kernel) rfl) (Yy (pv 1)) (fun _ _ _ _=>pgB 0) (fun _ _ _ _=>Zt) (fun _ _ _ _=>Zab Znz (Zl Ce_ hr (by decide) rfl (Za (pv 1) (Za (pv 2) (Za (pv 0) Zb rfl) rfl) rfl)) Zf (Yx _)) (by intro _ ;rfl)
 refine ⟨_,rfl,u,t,rfl,ht,fun H1 w s1 hw=>?_⟩;obtain ⟨a,vs,rfl,ha,al⟩:=hw;have hl:vs.length=3:=al.1;have hel:t.edges.length=3:=rfl;refine ⟨a,rfl,⟨_,SqT.of ha⟩,?_⟩;refine Zb0 (n:=3) (fun i σ H2=>Same H1 H2∧(∃ x y,σ=[some u,some v,x,y])∧((t.edges.take i).any fun e=>Zcp e r)=false) ⟨Same.refl _,⟨_,_,rfl⟩,rfl⟩ (fun i σ H2 hi p=>⟨vs,vs[i]'(by omega),SqT.of (p.1 _ _ ha),n1_ (by omega)⟩) (fun σ H2 p=>⟨vs,SqT.of (p.1 _ _ ha),by omega⟩) (fun i x σ H2 H3 hi y p=>?_) (fun σ H2 p=>?_)
 · obtain ⟨s2,⟨u1,u2,rfl⟩,no⟩:=p;obtain ⟨rfl,y2⟩:=y;have ex:=y2 vs (SqT.of (s2 _ _ ha));obtain ⟨p',x1,y1,rfl,hp'⟩:=prs al i x ex;obtain ⟨e,ee,rx,ry⟩:=pr1 al ex hp';obtain ⟨n1,n2⟩:=Zfx nt (n6_ ee);refine ⟨p',_,rfl,SqT.of (s2 _ _ hp'),rfl,x1,_,rfl,y1,_,rfl,rfl,?_⟩;obtain ⟨b,ws,rfl,hb,hl2,bl⟩:=Zup hr';have s02:=s1.trans s2;refine ⟨_,rfl,b,rfl,⟨_,SqT.of (s02 _ _ hb)⟩,fun D nD=>?_⟩;refine lc_T (k:=.t) (vs:=ws) RB hRB (r.pts.map fun q=>decide (tn e.1 e.2 q≤0)) (by simp [hl2,Tri.pts]) (by omega) nD (s02 _ _ hb) (fun j w H4 C hw s4 c=>?_) (fun H4 us' s4 e4 a4=>?_)
   · obtain ⟨g,eg,rg⟩:=bl.get hw;have tk4:=(s2.trans s4).tk;exact ⟨_,rfl,_,rfl,_,rfl,x1,y1,w,e.1,e.2,g,rfl,rx.tk tk4,ry.tk tk4,rg.tk (s02.trans s4).tk,n1,n2,Zrl nr (n6_ eg),_,_,rfl,rfl,c _ _ _ (Same.refl _) (by rw [n7_,eg];rfl) rfl⟩
   · rw [a4.bls] at e4;refine ⟨D,_,rfl,SqL.of e4,_,rfl,ite2 (fun h=>?_) (fun h=>?_)⟩
     · have:Yu t r=true:=List.any_eq_true.mpr ⟨e,n6_ ee,h⟩
       rw [this] at q;exact q _ (s02.trans s4)
     · refine ⟨s2.trans s4,⟨_,_,rfl⟩,?_⟩;have hi':i<t.edges.length:=by omega
       rw [List.take_succ,ee,List.any_append,no]
       have:Zcp e r=false:=Bool.eq_false_iff.mpr h
       simp [this]
 · obtain ⟨s2,⟨u1,u2,rfl⟩,no⟩:=p
   have:Yu t r=false:=no
   rw [this] at q;exact q _ (s1.trans s2)
abbrev Zbc:Stmt:=top 27
theorem Zgi (F:Fun K "are_apart" "are_apart" Zbc f fd) (Cj_:a10_ P w K mg base):FnOk P w K mg base CX0 3 f fd ["points","others"] Ziy:=by
 have sc:FnScope ["points","others"] ["points","others"] (Ze Zbc):=fsc (by decide +kernel);refine F.ok sc (fun vs H Q E h=>by obtain ⟨u,v,t,r,rfl,_⟩:=h;rfl) fun cdv A outer s H vs Q E hr h=>?_;obtain ⟨u,v,t,r,rfl,ht,hr',nt,nr,q⟩:=h;refine' ⟨_,?term,?read⟩
 case term=>refine' @Zg _ _ _ ?g1;case g1=>refine' @Zn _ _ _ _ ?g2;case g2=>refine' @Zu7 _ _ _ _ _ _ _ (Zl Cj_ hr (by decide) rfl (Za (pv 0) (Za (pv 1) Zb rfl) rfl)) (Zcf (Zl Cj_ hr (by decide) rfl (Za (pv 1) (Za (pv 0) Zb rfl) rfl)))
 refine ⟨_,rfl,_,rfl,u,v,t,r,rfl,ht,hr',nt,nr,fun H1 s1=>⟨_,rfl,ite2 (fun h=>?_) (fun h=>?_)⟩⟩
 · rw [show L2.apart t r=true by unfold L2.apart;rw [h];rfl] at q;exact q _ s1
 · rw [show L2.apart t r=Yu r t by unfold L2.apart;rw [show Yu t r=false by simpa using h];rfl] at q;exact ⟨_,rfl,_,rfl,v,u,r,t,rfl,hr'.tk s1.tk,ht.tk s1.tk,nr,nt,fun H2 s2=>q _ (s1.trans s2)⟩
abbrev Yc:Stmt:=top 28
theorem X1 (F:Fun K "every_corner_is_used" "every_corner_is_used" Yc f fd):FnOk P w K mg base CX0 2 f fd ["corners","pieces"] Zn7:=by
 have sc:FnScope ["corners","pieces"] ["corners","pieces"] (Ze Yc):=fsc (by decide +kernel);refine F.ok sc (fun vs H Q E h=>by obtain ⟨u,v,cs,ps,rfl,_⟩:=h;rfl) fun cdv A outer s H vs Q E hr h=>?_;obtain ⟨u,v,cs,ps,rfl,⟨a,us,rfl,ha,al⟩,⟨b,ws,rfl,hb,bl⟩,h3,p40,cnt,c30,q⟩:=h;refine' ⟨_,?term,?read⟩
 case term=>refine' @Zg _ _ _ ?g1;case g1=>refine' @Zn _ _ _ _ ?g2;case g2=>refine' @Zab _ _ _ _ _ _ _ _ Zia ?g3 (Zk Zr rfl T.b_len Xc (Za (pv 0) Zb rfl)) (Yx _);case g3=>refine' @Zk _ _ _ _ _ _ _ _ _ Znv rfl T.b_len Xc ?g4 (by decide) (by decide) (by rfl) (by rfl);case g4=>refine' @Za _ _ _ _ _ ?g5 Zb rfl;case g5=>refine' @Ztg _ _ _ _ _ _ _ _ (["piece","number"]) ([none,none]) _ _ _ _ _ _ rfl (Yv (by decide) rfl (by decide) rfl rfl) (Yy (pv 1)) (fun _ _ _ _=>pgB 0) (fun _ _ _ _=>Zms K rfl (pv 0)) (fun _ _ _ _=>pgB 1) (fun _ _ _ _=>pv 1) (by intro _ ;rfl) (by intro _ _ ;rfl)
 have hl:=al.1
 have fl:∀ l:List (List Int),(∀ p∈l,p.length=3)→l.flatten.length=3*l.length:=by
  intro l
  induction l with
  | nil=>intro _;rfl
  | cons x l ih =>
    intro h;rw [n58_,n21_,ih fun p hp=>h p (n17_ _ hp),h x n15_,n18_];omega
 refine ⟨_,rfl,b,rfl,⟨_,SqT.of hb⟩,fun D nD=>?_⟩;refine Zrr hb bl (by rw [fl ps h3];omega) nD (fun S=>?_);have s1:Same H (upd H D (.set S (cntS ps.flatten))):=Same.new nD;refine ⟨D,S,_,rfl,Zc,_,rfl,a,us,rfl,.inr (SqT.of (s1 _ _ ha)),rfl,?_⟩;have e:V.int (cntS ps.flatten:Nat)=V.int us.length:=by rw [cnt,hl]
 exact qT e (q _ s1)
abbrev Zx:Stmt:=top 29
theorem Za4 (F:Fun K "no_strange_corner" "no_strange_corner" Zx f fd) (Cam_:a11_ P w K mg base):FnOk P w K mg base CX0 3 f fd ["corners","piece","points"] Zd7:=by
 have sc:FnScope ["corners","piece","points","strange"] ["corners","piece","points"] (Ze Zx):=fsc (by decide +kernel);refine F.ok sc (fun vs H Q E h=>by obtain ⟨u,v,w,cs,p,t,rfl,_⟩:=h;rfl) fun cdv A outer s H vs Q E hr h=>?_;obtain ⟨u,v,w,cs,p,t,rfl,⟨a,us,rfl,ha,al⟩,⟨b,rfl,hb⟩,ht,c30,nr,nt,no,q⟩:=h;have nd:=sc.nd;refine' ⟨_,?term,?read⟩
 case term=>refine' @Zd _ _ _ _ _ ?g1 ?g2;(case g1=>refine' @Znt _ _ _ _ _ _ _ _ _ _ (["number","corner","piece"]) ([none,none,some 1]) _ _ ((gTup K 2 (Xu (Yr 0) (Xu (Yr 1) gNil)))) _ _ _ rfl rfl (Zm (i:=3) nd rfl (Or.inl rfl)) (Z0 (XN:=["corners","piece","points","strange"]) (Scope.names (Ze Zx)) rfl rfl rfl (fun _ h=>Zq h) (by decide +kernel) rfl) ?g3 (fun _ _ _ _=>Yj (n:=2) rfl (Zj (pgB 0) (Zj (pgB 1) Zy))) (fun _ _ _ _=>X9 (Xa (Ze8 K rfl) (pv 0) (pv 2) rfl)) (fun _ _ _ _=>pv 1) (by intro _ ;rfl);case g3=>refine' @Zeh _ _ _ _ .t _ _ _ _ rfl T.b_enumerate (Za (pv 0) Zb rfl) (by rfl));case g2=>refine' @Zg _ _ _ ?g4;case g4=>refine' @Zn _ _ _ _ ?g5;case g5=>refine' @Zqt _ _ _ _ ?g6;case g6=>refine' @Zk _ _ _ _ _ _ _ _ _ (Zod rfl) rfl T.b_any Ztq ?g7 (by decide) (by decide) (by rfl) (by rfl);case g7=>refine' @Za _ _ _ _ _ ?g8 Zb rfl;case g8=>refine' @Y4 _ _ _ _ _ _ _ (["corner","points"]) ([none,some 2]) _ _ _ _ _ rfl (Z0 (XN:=["corners","piece","points","strange"]) (Scope.names (Ze Zx)) rfl rfl rfl (fun _ h=>Zq h) (by decide +kernel) rfl) (Yn (pv 3)) (fun _ _ _ _=>pgB 0) (fun _ _ _ _=>Zt) (fun _ _ _ _=>Zl Cam_ hr (by decide) rfl (Za (pv 0) (Za (pv 1) Zb rfl) rfl)) (by intro _ ;rfl)
 have hl:=al.1;refine ⟨_,rfl,a,rfl,⟨_,SqT.of ha⟩,fun D nD=>?_⟩;refine lc_E (k:=.t) (vs:=us) IsP hRP (fun i=>if (i:Int)∈p then none else cs[i]?) (by omega) nD ha (fun i x H2 C N hx s2 c n=>?_) (fun H2 us' s2 e2 a2=>?_)
 · obtain ⟨g,eg,rg⟩:=al.get hx;refine ⟨_,rfl,_,rfl,b,_,rfl,.inr (SqT.of (s2 _ _ hb)),rfl,by rw [List.all_map];exact n27_.mpr fun _ _=>rfl,_,rfl,?_⟩;rw [Zkb]
   by_cases hm:(i:Int)∈p
   · rw [n40_ hm];exact iteF (n _ (Same.refl _) (by rw [if_pos hm]))
   · rw [n35_ hm];exact iteT ⟨_,rfl,c _ _ g (Same.refl _) (by rw [if_neg hm];exact eg) (rg.tk s2.tk)⟩
 · generalize hst:(List.range us.length).filterMap (fun i:Nat=>if (i:Int)∈p then none else cs[i]?)=st at a2
   have hst2:∀ g∈st,near g∧Zay g t=false:=by
    intro g hg;rw [← hst] at hg;obtain ⟨i,hi,e⟩:=List.mem_filterMap.mp hg;have hi:=n26_.mp hi;split at e
    · cases e
    · rename_i hm
      have:=no i (by omega) hm
      rw [n4_,e] at this;exact ⟨nr g (n6_ e),this⟩
   have hl3:st.length≤us.length:=by
    rw [← hst]
    have:=List.length_filterMap_le (fun i:Nat=>if (i:Int)∈p then none else cs[i]?) (List.range us.length)
    rwa [n65_] at this
   have l2:=a2.1;refine ⟨_,rfl,D,rfl,⟨_,SqL.of e2⟩,fun E nE=>?_⟩;refine lc_T (k:=.l) (vs:=us') RB hRB (st.map fun g=>Zay g t) (by simp [l2]) (by omega) nE e2 (fun j x H4 C hx s4 c=>?_) (fun H4 us'' s4 e4 a4=>?_)
   · obtain ⟨g,eg,rg⟩:=a2.get hx;exact ⟨_,rfl,_,rfl,x,w,g,t,rfl,rg.tk s4.tk,ht.tk (s2.trans s4).tk,(hst2 g (n6_ eg)).1,nt,fun H5 s5=>c _ _ _ s5 (by rw [n7_,eg];rfl) rfl⟩
   · rw [a4.bls] at e4;refine ⟨E,_,rfl,SqL.of e4,false,by rw [anyM fun g hg=>(hst2 g hg).2],?_⟩;exact q _ (s2.trans s4)
abbrev Yl:Stmt:=top 30
theorem Zc0 (F:Fun K "fit_together" "fit_together" Yl f fd) (Cab_:a12_ P w K mg base) (Ch_:a13_ P w K mg base) (Cai_:a14_ P w K mg base):FnOk P w K mg base CX0 4 f fd ["corners","pieces"] Zqa:=by
 have sc:FnScope ["corners","pieces","triangles","at","piece","points"] ["corners","pieces"] (Ze Yl):=fsc (by decide +kernel);refine F.ok sc (fun vs H Q E h=>by obtain ⟨u,v,cs,ps,rfl,_⟩:=h;rfl) fun cdv A outer s H vs Q E hr h=>?_;obtain ⟨u,v,cs,ps,rfl,hc,⟨b,ws,rfl,hb,bl⟩,ok,q⟩:=h;have nd:=sc.nd;refine' ⟨_,?term,?read⟩
 case term=>refine' @Zd _ _ _ _ _ ?g1 ?g2;(case g1=>refine' @Znt _ _ _ _ _ _ _ _ _ _ (["piece","corners"]) ([none,some 0]) _ _ _ _ _ _ rfl rfl (Zm (i:=2) nd rfl (Or.inl rfl)) (Z0 (XN:=["corners","pieces","triangles","at","piece","points"]) (Scope.names (Ze Yl)) rfl rfl rfl (fun _ h=>Zq h) (by decide +kernel) rfl) (Yy (pv 1)) (fun _ _ _ _=>pgB 0) (fun _ _ _ _=>Zt) (fun _ _ _ _=>Zl Cai_ hr (by decide) rfl (Za (pv 1) (Za (pv 0) Zb rfl) rfl)) (by intro _ ;rfl));case g2=>refine' @Zd _ _ _ _ _ ?g3 (Zg (Zn X3));case g3=>refine' @Xd _ _ _ _ _ _ _ _ PassesOwn.never rfl ?g4 ?g5 ?g6 (by intro _ ;rfl);(case g4=>refine' @Zlg _ _ _ _ .t .l _ _ _ _ _ _ _ rfl T.b_enumerate rfl T.b_zip (Za (pv 1) (Za (pv 2) Zb rfl) rfl) (by rfl) (by rfl) (by rfl));(case g5=>refine' @Yj _ _ _ _ _ (2) rfl ?g7 (by rfl) (by rfl);case g7=>refine' @Zj _ _ _ _ _ (Zm (i:=3) nd rfl (Or.inl rfl)) ?g8 (by rfl);case g8=>refine' @Zj _ _ _ _ _ ?g9 Zy (by rfl);case g9=>refine' @Yj _ _ _ _ _ (2) rfl (Zj (Zm (i:=4) nd rfl (Or.inl rfl)) (Zj (Zm (i:=5) nd rfl (Or.inr rfl)) Zy)) (by rfl) (by rfl));case g6=>refine' @Zd _ _ _ _ _ ?ga ?gb;(case ga=>refine' @Xz _ _ _ _ _ _ _ _ ?gc (Zg (Zn X3)) Z8;case gc=>refine' @Yz _ _ _ _ ?gd;case gd=>refine' @Zv _ _ _ (Zl Ch_ hr (by decide) rfl (Za (pv 0) (Za (pv 4) (Za (pv 5) Zb rfl) rfl) rfl)) (fun _=>rfl));case gb=>refine' @Zg _ _ _ ?ge;case ge=>refine' @Xz _ _ _ _ _ _ _ _ ?gf (Zg (Zn X3)) Z8;case gf=>refine' @Yz _ _ _ _ ?gg;case gg=>refine' @Zv _ _ _ ?gh (fun _=>rfl);case gh=>refine' @Zk _ _ _ _ _ _ _ _ _ (Yg rfl) rfl T.b_all Zav ?gi (by decide) (by decide) (by rfl) (by rfl);case gi=>refine' @Za _ _ _ _ _ ?gj Zb rfl;case gj=>refine' @Y4 _ _ _ _ _ _ _ (["others","points"]) ([none,some 5]) _ _ _ _ _ rfl (Z0 (XN:=["corners","pieces","triangles","at","piece","points"]) (Scope.names (Ze Yl)) rfl rfl rfl (fun _ h=>Zq h) (by decide +kernel) rfl) ?gk (fun _ _ _ _=>pgB 0) (fun _ _ _ _=>Zt) (fun _ _ _ _=>Zl Cab_ hr (by decide) rfl (Za (pv 1) (Za (pv 0) Zb rfl) rfl)) (by intro _ ;rfl);case gk=>refine' @Yn _ _ _ _ ?gl;case gl=>refine' @Zcm _ _ _ _ _ _ _ _ _ _ Zn3 (pv 2) Zfp (Zfn (pv 3))
 have hl:=bl.1;have p40:=ok.p40;refine ⟨_,rfl,b,rfl,⟨_,SqT.of hb⟩,fun D nD=>?_⟩;refine lc_T (k:=.t) (vs:=ws) IsT hRT (ps.map (trOf cs)) (by simp [hl]) (by omega) nD hb (fun i w H2 C hw s2 c=>?_) (fun H2 us' s2 e2 a2=>?_)
 · obtain ⟨p,ep,rp⟩:=bl.get hw;have pk:=ok.pc p (n6_ ep);exact ⟨_,rfl,_,rfl,u,w,cs,p,rfl,hc.tk s2.tk,rp.tk s2.tk,pk.len,pk.bd,ok.nr,fun H5 w5 s5 h5=>c _ _ _ s5 (by rw [n7_,ep];rfl) h5⟩
 · have l2:=a2.1;rw [n5_] at l2;have hb2:=s2 _ _ hb;refine ⟨_,rfl,_,rfl,b,D,rfl,⟨_,SqT.of hb2⟩,⟨_,SqL.of e2⟩,?_⟩;refine Zb0 (n:=ps.length) (fun i σ H3=>Same H2 H3∧∃ x y z,σ=[some u,some (.ref b),some (.ref D),x,y,z]) ⟨Same.refl _,_,_,_,rfl⟩ (fun i σ H3 hi p=>⟨ws,us',ws[i]'(by omega),us'[i]'(by omega),SqT.of (p.1 _ _ hb2),SqL.of (p.1 _ _ e2),n1_ (by omega),n1_ (by omega)⟩) (fun σ H3 p=>⟨ws,us',SqT.of (p.1 _ _ hb2),SqL.of (p.1 _ _ e2),by omega⟩) (fun i x σ H3 H4 hi y p=>?_) (fun σ H3 p=>?_)
   · obtain ⟨s3,x1,x2,x3,rfl⟩:=p;obtain ⟨p1,p2,x,y,rfl,n1,n2,ne,rfl,y1,y2⟩:=y;have ex:=y1 ws (SqT.of (s3 _ _ hb2));have ey:=y2 us' (SqL.of (s3 _ _ e2));have sa:Same H3 (upd H3 p1 (.tup [x,y])):=Same.new n1;have sb:Same (upd H3 p1 (.tup [x,y])) (upd (upd H3 p1 (.tup [x,y])) p2 (.tup [.int i,.ref p1])):=Same.new (by rw [Zh ne.symm];exact n2);have e5:upd (upd H3 p1 (.tup [x,y])) p2 (.tup [.int i,.ref p1]) p1=some (.tup [x,y]):=sb _ _ Zc;have e6:upd (upd H3 p1 (.tup [x,y])) p2 (.tup [.int i,.ref p1]) p2=some (.tup [.int i,.ref p1]):=Zc;have s4:=s3.trans (sa.trans sb);generalize upd (upd H3 p1 (.tup [x,y])) p2 (.tup [.int i,.ref p1])=H4 at s4 e5 e6;obtain ⟨p,ep,rp⟩:=bl.get ex;obtain ⟨t,et,rt'⟩:=a2.get ey;rw [n7_,ep] at et;cases et
     have pk:=ok.pc p (n6_ ep);have tn':=Zg5 pk.bd pk.len ok.nr;have gp:ps.getD i []=p:=by rw [n4_,ep];rfl
     refine ⟨p2,_,rfl,SqT.of e6,rfl,_,_,rfl,_,_,rfl,⟨p1,_,rfl,SqT.of e5,rfl,x,_,rfl,y,_,rfl,rfl,rfl,?_⟩⟩;have s04:=s2.trans s4;refine ⟨_,rfl,_,rfl,_,rfl,u,x,y,cs,p,_,rfl,hc.tk s04.tk,rp.tk s04.tk,rt'.tk s4.tk,ok.c30,ok.nr,tn',ok.strange p (n6_ ep),fun H5 s5=>⟨true,rfl,iteF ?_⟩⟩;have s45:=s4.trans s5;refine ⟨_,rfl,_,rfl,_,rfl,D,us',rfl,SqL.of (s45 _ _ e2),fun r nr'=>?_⟩;have s6:Same H5 (upd H5 r (.lst (us'.take i))):=Same.new nr';rw [Zva _ _ (by omega)];have e7:upd H5 r (.lst (us'.take i)) r=some (.lst (us'.take i)):=Zc;generalize upd H5 r (.lst (us'.take i))=H6 at s6 e7 ⊢;refine ⟨r,rfl,⟨_,SqL.of e7⟩,fun E nE=>?_⟩;have s46:=s45.trans s6;refine lc_T (k:=.l) (vs:=us'.take i) RB hRB (List.replicate i true) (by simp;omega) (by simp;omega) nE e7 (fun j w H8 C hw s8 c=>?_) (fun H8 us'' s8 e8 a8=>?_)
     · have hj:j<i:=by
        have:=Ym hw
        rw [n57_] at this;omega
       rw [List.getElem?_take_of_lt hj] at hw;obtain ⟨t2,et2,rt2⟩:=a2.get hw;rw [n7_] at et2;obtain ⟨p',ep',rfl⟩:=n19_.mp et2;have pk':=ok.pc p' (n6_ ep');have gp':ps.getD j []=p':=by rw [n4_,ep'];rfl
       have ap:=ok.apart j i hj hi;rw [gp,gp'] at ap;have s48:=s46.trans s8;refine ⟨_,rfl,_,rfl,y,w,_,_,rfl,rt'.tk s48.tk,rt2.tk s48.tk,tn',Zg5 pk'.bd pk'.len ok.nr,fun H9 s9=>c _ _ true s9 (repT hj) (congrArg V.bl ap)⟩
     · rw [a8.bls] at e8;refine ⟨E,_,rfl,SqL.of e8,true,by rw [allT];rfl,iteF ?_⟩;exact ⟨s46.trans s8,_,_,_,rfl⟩
   · obtain ⟨s3,x1,x2,x3,rfl⟩:=p;exact q _ (s2.trans s3)
abbrev Zbu:Stmt:=top 31
theorem Zhq (F:Fun K "is_plate" "is_plate" Zbu f fd) (Cr_:a15_ P w K mg base) (Cu_:a16_ P w K mg base) (Cv_:a17_ P w K mg base) (Cg_:a18_ P w K mg base) (Cn_:a19_ P w K mg base) (Cc_:a2_ P w K mg base) (Caj_:a20_ P w K mg base):FnOk P w K mg base CX0 5 f fd ["thing"] Zdy:=by
 have sc:FnScope ["thing","corners","pieces","thicks","stuff"] ["thing"] (Ze Zbu):=fsc (by decide +kernel);refine F.ok sc (fun vs H Q E h=>by obtain ⟨v,P',rfl,_⟩:=h;rfl) fun cdv A outer s H vs Q E hr h=>?_;obtain ⟨v,P',rfl,⟨a,c,p,t,st,rfl,ha,hc,hp,ht,hs⟩,ok,q⟩:=h;have nd:=sc.nd;refine' ⟨_,?term,?read⟩
 case term=>refine' @Zd _ _ _ _ _ ?g1 ?g2;(case g1=>refine' @Xz _ _ _ _ _ _ _ _ ?g3 (Zg (Zn X3)) Z8;case g3=>refine' @Yz _ _ _ _ ?g4;case g4=>refine' @Zv _ _ _ (Zl Cc_ hr (by decide) rfl (Za (pv 0) (Za Zf (Za Zf Zb rfl) rfl) rfl)) (fun _=>rfl));case g2=>refine' @Zd _ _ _ _ _ ?g5 ?g6;(case g5=>refine' @Zaz _ _ _ _ _ _ (pv 0) ?g7 (by rfl) (by rfl) (by rfl);case g7=>refine' @Yj _ _ _ _ _ (4) rfl (Zj (Zm (i:=1) nd rfl (Or.inl rfl)) (Zj (Zm (i:=2) nd rfl (Or.inl rfl)) (Zj (Zm (i:=3) nd rfl (Or.inl rfl)) (Zj (Zm (i:=4) nd rfl (Or.inl rfl)) Zy)))) (by rfl) (by rfl));case g6=>refine' @Zd _ _ _ _ _ ?g8 ?g9;(case g8=>refine' @Xz _ _ _ _ _ _ _ _ ?ga (Zg (Zn X3)) Z8;case ga=>refine' @PW.pt _ _ _ ?gb;case gb=>refine' @Zlc _ _ _ _ _ _ _ ?gc ?gd;(case gc=>refine' @Yz _ _ _ _ ?ge;case ge=>refine' @Zv _ _ _ (Zl Cr_ hr (by decide) rfl (Za (pv 1) Zb rfl)) (fun _=>rfl));case gd=>refine' @Zef _ _ _ _ ?gf;case gf=>refine' @Yz _ _ _ _ ?gg;case gg=>refine' @Zv _ _ _ (Zl Cu_ hr (by decide) rfl (Za (pv 1) (Za (pv 2) Zb rfl) rfl)) (fun _=>rfl));case g9=>refine' @Zd _ _ _ _ _ ?gh ?gi;(case gh=>refine' @Xz _ _ _ _ _ _ _ _ ?gj (Zg (Zn X3)) Z8;case gj=>refine' @PW.pt _ _ _ ?gk;case gk=>refine' @Zlc _ _ _ _ _ _ _ ?gl ?gm;(case gl=>refine' @Yz _ _ _ _ ?gn;case gn=>refine' @Zv _ _ _ (Zl Cv_ hr (by decide) rfl (Za (pv 2) (Za (pv 3) Zb rfl) rfl)) (fun _=>rfl));case gm=>refine' @Zef _ _ _ _ ?go;case go=>refine' @Yz _ _ _ _ ?gp;case gp=>refine' @Zv _ _ _ (Zl Caj_ hr (by decide) rfl (Za (pv 4) Zb rfl)) (fun _=>rfl));case gi=>refine' @Zg _ _ _ ?gq;case gq=>refine' @Zn _ _ _ _ ?gr;case gr=>refine' @Zdf _ _ _ _ _ _ _ (Zl Cg_ hr (by decide) rfl (Za (pv 1) (Za (pv 2) Zb rfl) rfl)) (Zcf (Zl Cn_ hr (by decide) rfl (Za (pv 1) (Za (pv 2) Zb rfl) rfl)))
 refine ⟨_,rfl,a,_,4,4,rfl,ha,by simp,by simp,true,rfl,iteF ?_⟩;refine ⟨_,rfl,a,_,rfl,SqT.of ha,rfl,c,_,rfl,p,_,rfl,t,_,rfl,st,_,rfl,rfl,?_⟩;refine ⟨_,rfl,c,P'.cs,rfl,hc,ok.c3,ok.c30,ok.nr,ok.nd,fun H1 s1=>⟨true,rfl,iteF ?_⟩⟩;refine ⟨_,rfl,_,rfl,c,p,P'.cs,P'.ps,rfl,hc.tk s1.tk,hp.tk s1.tk,ok.p1,ok.p40,ok.pc,ok.rise,ok.nr,fun H2 s2=>⟨true,rfl,iteF ?_⟩⟩;have s12:=s1.trans s2;refine ⟨_,rfl,_,rfl,p,t,P'.ps,P'.ts,rfl,hp.tk s12.tk,ht.tk s12.tk,ok.t1,ok.p40,ok.t9,fun H3 s3=>⟨true,rfl,iteF ?_⟩⟩;have s13:=s12.trans s3;refine ⟨_,rfl,st,P'.l,P'.m,rfl,hs.tk s13.tk,ok.l9,ok.m9,true,rfl,iteF ?_⟩;refine ⟨_,rfl,_,rfl,c,p,P'.cs,P'.ps,rfl,hc.tk s13.tk,hp.tk s13.tk,fun x hx=>(ok.pc x hx).len,ok.p40,ok.used,ok.c30,fun H4 s4=>⟨true,rfl,iteT ?_⟩⟩;have s14:=s13.trans s4;exact ⟨_,rfl,_,rfl,c,p,P'.cs,P'.ps,rfl,hc.tk s14.tk,hp.tk s14.tk,⟨ok.c30,ok.nr,ok.p40,ok.pc,ok.strange,ok.apart⟩,fun H5 s5=>q _ (s14.trans s5)⟩
abbrev Xh:Stmt:=top 32
theorem Zcg (F:Fun K "look_at_plate" "look_at_plate" Xh f fd) (Cak_:a21_ P w K mg base):FnOk P w K mg base CX0 6 f fd ["plate"] Zcd:=by
 have sc:FnScope ["plate"] ["plate"] (Ze Xh):=fsc (by decide +kernel);refine F.ok sc (fun vs H Q E h=>by obtain ⟨v,P',rfl,_⟩:=h;rfl) fun cdv A outer s H vs Q E hr h=>?_;obtain ⟨v,P',rfl,hv,ok,q⟩:=h;refine' ⟨_,?term,?read⟩
 case term=>refine' @Zg _ _ _ ?g1;case g1=>refine' @Xz _ _ _ _ _ _ _ _ ?g2 Zoi Z8;case g2=>refine' @Yz _ _ _ _ ?g3;case g3=>refine' @Zv _ _ _ (Zl Cak_ hr (by decide) rfl (Za (pv 0) Zb rfl)) (fun _=>rfl)
 exact ⟨_,rfl,v,P',rfl,hv,ok,fun H1 s1=>⟨true,rfl,iteF (q _ s1)⟩⟩
abbrev Zbw:Stmt:=top 33
theorem Zit (F:Fun K "sides_of" "sides_of" Zbw f fd):FnOk P w K mg base CX0 1 f fd ["piece"] Zd2:=by
 have sc:FnScope ["piece","first","second","third"] ["piece"] (Ze Zbw):=fsc (by decide +kernel);refine F.ok sc (fun vs H Q E h=>by obtain ⟨v,p,rfl,_⟩:=h;rfl) fun cdv A outer s H vs Q E hr h=>?_;obtain ⟨v,p,rfl,⟨a,rfl,ha⟩,h3,q⟩:=h;have nd:=sc.nd;refine' ⟨_,?term,?read⟩
 case term=>refine' @Zd _ _ _ _ _ ?g1 ?g2;(case g1=>refine' @Zaz _ _ _ _ _ _ (pv 0) ?g3 (by rfl) (by rfl) (by rfl);case g3=>refine' @Yj _ _ _ _ _ (3) rfl (Zj (Zm (i:=1) nd rfl (Or.inl rfl)) (Zj (Zm (i:=2) nd rfl (Or.inl rfl)) (Zj (Zm (i:=3) nd rfl (Or.inl rfl)) Zy))) (by rfl) (by rfl));case g2=>refine' @Zg _ _ _ ?g4;case g4=>refine' @Zn _ _ _ _ ?g5;case g5=>refine' @Ye _ _ _ _ (Za (Z4 (Za (pv 1) (Za (pv 2) Zb rfl) rfl)) (Za (Z4 (Za (pv 1) (Za (pv 3) Zb rfl) rfl)) (Za (Z4 (Za (pv 2) (Za (pv 3) Zb rfl) rfl)) Zb rfl) rfl) rfl)
 obtain ⟨i,j,k,rfl⟩:∃ i j k,p=[i,j,k]:=⟨_,_,_,Zgu h3⟩;refine ⟨_,rfl,a,_,rfl,SqT.of ha,rfl,_,_,rfl,_,_,rfl,_,_,rfl,rfl,?_⟩;refine ⟨_,rfl,_,rfl,z2_,?_⟩;intro p1 n1;generalize hH1:upd H p1 _=H1;have S1:Same H H1:=by (rw [← hH1];exact Same.new n1)
 have A1:=(congrFun hH1 p1).symm;rw [Zc] at A1;clear hH1;refine ⟨_,rfl,_,rfl,z2_,?_⟩;intro p2 n2;generalize hH2:upd H1 p2 _=H2;have S2:Same H1 H2:=by (rw [← hH2];exact Same.new n2)
 have A2:=(congrFun hH2 p2).symm;rw [Zc] at A2;clear hH2;refine ⟨_,rfl,_,rfl,z2_,?_⟩;intro p3 n3;generalize hH3:upd H2 p3 _=H3;have S3:Same H2 H3:=by (rw [← hH3];exact Same.new n3)
 have A3:=(congrFun hH3 p3).symm;rw [Zc] at A3;clear hH3;refine ⟨z3_,?_⟩;intro p4 n4;generalize hH4:upd H3 p4 _=H4;have S4:Same H3 H4:=by (rw [← hH4];exact Same.new n4)
 have A4:=(congrFun hH4 p4).symm;rw [Zc] at A4;clear hH4;refine q _ p4 [(p1,[i,j]),(p2,[i,k]),(p3,[j,k])] (S1.trans (S2.trans (S3.trans S4))) (Z1 (S1.trans (S2.trans S3)) n4) A4 (fun x hx=>?_) rfl;simp only [n11_,n12_,or_false] at hx
 rcases hx with rfl|rfl|rfl
 · exact (S4 _ _ (S3 _ _ (S2 _ _ A1)))
 · exact (S4 _ _ (S3 _ _ A2))
 · exact (S4 _ _ A3)
abbrev Ze2:Stmt:=top 34
theorem Zne (F:Fun K "owners" "owners" Ze2 f fd) (Cal_:a22_ P w K mg base):FnOk P w K mg base CX0 2 f fd ["plate"] Zgn:=by
 have sc:FnScope ["plate","found","number","piece","side"] ["plate"] (Ze Ze2):=fsc (by decide +kernel);refine F.ok sc (fun vs H Q E h=>by obtain ⟨v,P',rfl,_⟩:=h;rfl) fun cdv A outer s H vs Q E hr h=>?_;obtain ⟨v,P',rfl,⟨a,c,p,t,st,rfl,ha,hc,⟨b,ws,rfl,hb,bl⟩,ht,hs⟩,p3,p20,q⟩:=h;have nd:=sc.nd;have hu:=Zmm hr;refine' ⟨_,?term,?read⟩
 case term=>refine' @Zd _ _ _ _ _ ?g1 ?g2;(case g1=>refine' @Zs _ _ (1) _ _ _ _ nd rfl (Or.inl rfl) Zpi (by rfl) (by first|exact Or.inl rfl|exact Or.inr rfl|assumption));case g2=>refine' @Zd _ _ _ _ _ ?g3 (Zg (Zn (pv 1)));case g3=>refine' @Xd _ _ _ _ _ _ _ _ PassesOwn.never rfl ?g4 ?g5 ?g6 (by intro _ ;rfl);(case g4=>refine' @Zeh _ _ _ _ .t _ _ _ _ rfl T.b_enumerate ?g7 (by rfl);case g7=>refine' @Za _ _ _ _ _ ?g8 Zb rfl;case g8=>refine' @Zw _ _ _ _ _ _ _ Zz (pv 0) Zf (fun _ _=>rfl));(case g5=>refine' @Yj _ _ _ _ _ (2) rfl (Zj (Zm (i:=2) nd rfl (Or.inl rfl)) (Zj (Zm (i:=3) nd rfl (Or.inl rfl)) Zy)) (by rfl) (by rfl));case g6=>refine' @Zg _ _ _ ?g9;case g9=>refine' @Xd _ _ _ _ _ _ _ _ PassesOwn.never rfl (Yn (Zl Cal_ hr (by decide) rfl (Za (pv 3) Zb rfl))) (Zm (i:=4) nd rfl (Or.inl rfl)) ?ga (by intro _ ;rfl);case ga=>refine' @Zg _ _ _ ?gb;case gb=>refine' @X8 _ _ _ _ ?gc (by rfl);case gc=>refine' @Zgo _ _ _ _ _ _ _ _ _ _ _ _ PySem.F.plainAttrs_list PySem.F.slot_list_append PySem.F.type_list_append Zaw ?gd (Za (pv 2) Zb rfl) (by rfl) (by rfl) (by rfl) (by rfl) (by rfl);case gd=>refine' @Zgo _ _ _ _ _ _ _ _ _ _ _ _ PySem.F.plainAttrs_dict PySem.F.slot_dict_setdefault PySem.F.type_dict_setdefault (Zk9 hu) (pv 1) ?ge (by rfl) (by rfl) (by rfl) (by rfl) (by rfl);case ge=>refine' @Za _ _ _ _ _ (pv 4) ?gf rfl;case gf=>refine' @Za _ _ _ _ _ ?gg Zb rfl;case gg=>refine' @Ye _ _ _ _ Zb
 have hl:=bl.1;intro D nD;generalize gG:upd H D (.dT [])=H1;obtain ⟨s1,e1⟩:=gen_upd gG nD;refine ⟨_,rfl,a,_,1,_,rfl,rfl,SqT.of (s1 _ _ ha),rfl,b,rfl,⟨_,SqT.of (s1 _ _ hb)⟩,?_⟩;refine Zb0 (n:=P'.ps.length) (fun i σ H2=>∃ w2 w3 w4 g ads,σ=[some (.ref a),some (.ref D),w2,w3,w4]∧Same H H2∧OwnA H H2 D g ads∧GI g (Zai P'.ps i)) ⟨_,_,_,[],[],rfl,s1,⟨e1,rfl,List.nodup_nil,by simp,fun i a e h=>by simp at h,by simp,nD⟩,.nil⟩ (fun i σ H2 hi pp=>?_) (fun σ H2 pp=>?_) (fun i x σ H2 H3 hi y pp=>?_) (fun σ H2 pp=>?_)
 · obtain ⟨_,_,_,_,_,_,s2,_⟩:=pp;exact ⟨ws,ws[i]'(by omega),SqT.of (s2 _ _ hb),n1_ (by omega)⟩
 · obtain ⟨_,_,_,_,_,_,s2,_⟩:=pp;exact ⟨ws,SqT.of (s2 _ _ hb),by omega⟩
 · obtain ⟨w2,w3,w4,g,ads,rfl,s2,o2,g2⟩:=pp;obtain ⟨p1,x,rfl,n1,rfl,y1⟩:=y;have ex:=y1 ws (SqT.of (s2 _ _ hb));obtain ⟨p',ep,rp⟩:=bl.get ex;have gp:P'.ps.getD i []=p':=by rw [n4_,ep];rfl
   generalize gG:upd H2 p1 (.tup [.int i,x])=H3;obtain ⟨sa,e3⟩:=gen_upd gG n1;have o3:=o2.more sa;have s3:=s2.trans sa;refine ⟨p1,_,rfl,SqT.of e3,rfl,_,_,rfl,_,_,rfl,rfl,?_⟩;refine ⟨_,rfl,x,p',rfl,rp.tk s3.tk,p3 p' (n6_ ep),fun H4 L al s4 nL eL tp ek=>⟨L,rfl,⟨_,SqL.of eL⟩,?_⟩⟩;have o4:=o3.more s4;have s04:=s3.trans s4
   have hL:L∉ads:=fun z=>by
    obtain ⟨_,e⟩:=o3.has z;rw [nL] at e;cases e
   have nLD:L≠D:=fun z=>by rw [z,o3.dt] at nL;cases nL
   refine Zcj (xs:=refs al) (fun m σ H5=>∃ w4 g ads,σ=[some (.ref a),some (.ref D),some (.int i),some x,w4]∧Same H H5∧H5 L=some (.lst (refs al))∧(∀ x∈al,tpl H5 x)∧L∉ads∧OwnA H H5 D g ads∧GI g (Zai P'.ps i++((Zu p').take m).map fun s=>(s,(i:Int)))) ⟨_,g,ads,rfl,s04,eL,tp,hL,o4,by simpa using g2⟩ ?_ ?_ ?_
   · rintro m σ H5 _ ⟨_,_,_,_,_,e5,_⟩
     exact SqL.of e5
   · rintro m w σ H5 hw ⟨w4',g5,ads5,rfl,s5,eL5,tp5,hL5,o5,gi5⟩
     rw [n7_] at hw;obtain ⟨y,ey,rfl⟩:=n19_.mp hw;have ey2:(Zu p')[m]? = some y.2:=by rw [← ek,n7_,ey];rfl
     have hm:=(n14_.mp ey2).1
     have qs:(Zai P'.ps i++((Zu p').take (m+1)).map fun s=>(s,(i:Int)))=(Zai P'.ps i++((Zu p').take m).map fun s=>(s,(i:Int)))++[(y.2,(i:Int))]:=by
      rw [List.take_succ,ey2,n45_,← n52_];rfl
     have tpy:=tp5 y (n6_ ey);have lq:=Zu1 P'.ps i m (by omega);rw [gp] at lq;have lk:=Zs3 gi5 lq o5.len;refine ⟨_,rfl,.inr (.inr (.inl ⟨rfl,.inr ⟨_,o5.dt⟩⟩)),_,rfl,z0_,fun L0 n0=>?_⟩;generalize gG:upd H5 L0 (.lst [])=H6;obtain ⟨s6,e6⟩:=gen_upd gG n0;have o6:=o5.more s6;have d0:L0≠D:=fun z=>by rw [z,o5.dt] at n0;cases n0
     have h0:L0∉ads5:=fun z=>by
      obtain ⟨_,e⟩:=o5.has z;rw [n0] at e;cases e
     have l0:L≠L0:=fun z=>by rw [← z,eL5] at n0;cases n0
     refine ⟨D,y.1,kvO g5 ads5,y.2.map Sum.inl,_,rfl,rfl,o6.dt,(by rw [kVs];exact s6 _ _ tpy),lk,fun u hu'=>?_,fun hn=>?_⟩
     · obtain ⟨j,u',e,hj,hg,he,rfl⟩:=(valO o6.len y.2).1 u hu';have eu:=o6.at_ j u' e hj hg;have le:=gi5.le (n6_ hg);have nu:u'≠L:=fun z=>hL5 (z ▸ n6_ hj);refine ⟨.inl ⟨rfl,_,SqL.of eu⟩,_,rfl,u',_,_,rfl,rfl,eu,by rw [n5_,sizeLine_eq];omega,?_⟩;have o7:=o6.old gi5.nd (i:Int) hj hg he;have fu:=o6.fr u' (n6_ hj);refine ⟨_,_,_,rfl,fun b o eb=>?_,?_,fun x hx=>?_,hL5,o7,by rw [qs];exact gi5.ins y.2 i⟩
       · rw [Zh (Zi eb fu)];exact s6 _ _ (s5 _ _ eb)
       · rw [Zh nu.symm];exact s6 _ _ eL5
       · have:=s6 _ _ (tp5 x hx)
         show upd H6 u' _ x.1=_
         rw [Zh (fun z=>by rw [z,eu] at this;cases this)];exact this
     · refine ⟨.inl ⟨rfl,_,SqL.of (by rw [Zh d0];exact e6)⟩,_,rfl,L0,_,_,rfl,rfl,(by rw [Zh d0];exact e6),by show 0<sizeLine;decide,?_⟩;have f0:=Z1 s5 n0;have o7:=o6.new (s:=y.2) (i:Int) hn h0 d0 f0;refine ⟨_,_,_,rfl,fun b o eb=>?_,?_,fun x hx=>?_,?_,o7,by rw [qs];exact gi5.ins y.2 i⟩
       · rw [Zh (Zi eb f0),Zh (Zi eb o6.frD)];exact s6 _ _ (s5 _ _ eb)
       · rw [Zh l0,Zh nLD];exact s6 _ _ eL5
       · have:=s6 _ _ (tp5 x hx)
         show upd (upd H6 D _) L0 _ x.1=_
         rw [Zh (fun z=>by rw [z,e6] at this;cases this),Zh (fun z=>by rw [z,o6.dt] at this;cases this)];exact this
       · rw [n28_,not_or];exact ⟨hL5,fun z=>l0 (n23_.mp z)⟩
   · rintro σ H5 ⟨w4',g5,ads5,rfl,s5,eL5,tp5,hL5,o5,gi5⟩
     refine ⟨_,_,_,g5,ads5,rfl,s5,o5,?_⟩
     have la:(refs al).length=3:=by
      have:=congrArg List.length ek
      simpa [Zu] using this
     rw [la,n70_ (show (Zu p').length≤3 from n10_ 3)] at gi5;rw [Zd1,gp];exact gi5
 · obtain ⟨w2,w3,w4,g,ads,rfl,s2,o2,g2⟩:=pp;exact ⟨_,rfl,q H2 D g ads s2 o2 g2⟩
abbrev Zhr:Stmt:=top 35
theorem Zps (F:Fun K "sides" "sides" Zhr f fd) (Cb_:a23_ P w K mg base) (Cf_:a24_ P w K mg base):FnOk P w K mg base CX0 7 f fd ["plate"] Zi6:=by
 have sc:FnScope ["plate"] ["plate"] (Ze Zhr):=fsc (by decide +kernel);refine F.ok sc (fun vs H Q E h=>by obtain ⟨v,P',rfl,_⟩:=h;rfl) fun cdv A outer s H vs Q E hr h=>?_;obtain ⟨v,P',rfl,hv,ok,p20,q⟩:=h;refine' ⟨_,?term,?read⟩
 case term=>refine' @Zd _ _ _ _ _ ?g1 (Zg (Zn (Zk (Zb7 rfl) rfl T.b_sorted Yi (Za (Zl Cf_ hr (by decide) rfl (Za (pv 0) Zb rfl)) Zb rfl))));case g1=>refine' @X8 _ _ _ _ (Zl Cb_ hr (by decide) rfl (Za (pv 0) Zb rfl)) (by rfl)
 refine ⟨_,rfl,v,P',rfl,hv,ok,fun H1 s1=>?_⟩;refine ⟨_,rfl,v,P',rfl,hv.tk s1.tk,pc3 ok,p20,fun H2 D g ads s2 o2 gi=>?_⟩;refine ⟨D,kvO g ads,g.map (·.1),rfl,o2.dt,Zkj o2.len,gi.nd,Zp9 gi,Zig gi p20,fun l ql nl tp pm rs=>?_⟩;have s3:Same H2 (upd H2 l (.lst (refs ql))):=Same.new nl;exact q _ l ql (s1.trans (s2.trans s3)) (Z1 (s1.trans s2) nl) Zc (fun x hx=>s3 _ _ (tp x hx)) rs fun k=>pm.mem_iff.trans (Zn5 gi k)
abbrev Zo7:Stmt:=top 36
theorem Zus (F:Fun K "rim" "rim" Zo7 f fd) (Cb_:a23_ P w K mg base) (Cf_:a24_ P w K mg base):FnOk P w K mg base CX0 7 f fd ["plate"] Zlv:=by
 have sc:FnScope ["plate","found"] ["plate"] (Ze Zo7):=fsc (by decide +kernel);refine F.ok sc (fun vs H Q E h=>by obtain ⟨v,P',rfl,_⟩:=h;rfl) fun cdv A outer s H vs Q E hr h=>?_;obtain ⟨v,P',rfl,hv,ok,p20,q⟩:=h;have nd:=sc.nd;have hu:=Zmm hr;refine' ⟨_,?term,?read⟩
 case term=>refine' @Zd _ _ _ _ _ ?g1 ?g2;(case g1=>refine' @X8 _ _ _ _ (Zl Cb_ hr (by decide) rfl (Za (pv 0) Zb rfl)) (by rfl));case g2=>refine' @Zd _ _ _ _ _ ?g3 ?g4;(case g3=>refine' @Zs _ _ (1) _ _ _ _ nd rfl (Or.inr rfl) (Zl Cf_ hr (by decide) rfl (Za (pv 0) Zb rfl)) (by rfl) (by first|exact Or.inl rfl|exact Or.inr rfl|assumption));case g4=>refine' @Zg _ _ _ ?g5;case g5=>refine' @Zn _ _ _ _ ?g6;case g6=>refine' @Y4 _ _ _ _ _ _ _ (["side","found"]) ([none,some 1]) _ _ _ _ _ rfl (Z0 (XN:=["plate","found"]) (Scope.names (Ze Zo7)) rfl rfl rfl (fun _ h=>Zq h) (by decide +kernel) rfl) (Yn (Zk (Zb7 rfl) rfl T.b_sorted Yi (Za (pv 1) Zb rfl))) (fun _ _ _ _=>pgB 0) (fun _ _ _ _=>X9 (Xa Zia (Zk (Zbl K rfl) rfl T.b_len Xc (Za (Zsj hu (pv 1) (pv 0) (fun _ _=>rfl)) Zb rfl)) Zf (Yx _))) (fun _ _ _ _=>pv 0) (by intro _ ;rfl)
 refine ⟨_,rfl,v,P',rfl,hv,ok,fun H1 s1=>?_⟩;refine ⟨_,rfl,v,P',rfl,hv.tk s1.tk,pc3 ok,p20,fun H2 D g ads s2 o2 gi=>?_⟩;refine ⟨_,rfl,D,kvO g ads,g.map (·.1),rfl,o2.dt,Zkj o2.len,gi.nd,Zp9 gi,Zig gi p20,fun l ql nl tp pm rs=>?_⟩;generalize gG:upd H2 l (.lst (refs ql))=H3;obtain ⟨s3,e3⟩:=gen_upd gG nl;have o3:=o2.more s3;have s03:=s1.trans (s2.trans s3)
 have lq:ql.length<64:=by
  have:=pm.length_eq
  rw [n5_] at this
  have:=Zig gi p20
  omega
 refine ⟨l,rfl,⟨_,SqL.of e3⟩,fun E nE=>?_⟩;refine lc_F (k:=.l) (vs:=refs ql) IsR hIsR (fun i=>(ql[i]?).filter fun x=>decide ((Zo P'.ps).count x.2=1)) (by rw [n5_];omega) nE e3 (fun i w H4 C N hw s4 c n=>?_) (fun H4 us s4 e4 al=>?_)
 · rw [n7_] at hw;obtain ⟨y,ey,rfl⟩:=n19_.mp hw;have ym:=n6_ ey;have hy:y.2∈g.map (·.1):=pm.mem_iff.mp (n50_ ym);obtain ⟨j,u,e,x1,x2,x3,x4⟩:=Zoz o3.len gi.nd hy;have o4:=o3.more s4;have ty:=s4 _ _ (s3 _ _ (tp y ym));have cnt:=gi.count (n6_ x2);rw [Zcr,x3] at cnt;refine ⟨_,rfl,_,rfl,D,.ref u,rfl,?_,u,_,rfl,.inl (SqL.of (o4.at_ j u e x1 x2)),rfl,?_⟩
   · rw [← x4];exact DGet.t o4.dt (by rw [kVs];exact ty)
   · refine ⟨_,rfl,?_⟩;rw [n5_,cnt]
     by_cases h:(Zo P'.ps).count y.2=1
     · rw [h,show decide (V.int ((1:Nat):Int)=V.int 1)=true from n40_ rfl];exact iteT ⟨_,rfl,c _ _ y (Same.refl _) (by rw [ey];simp [h]) ⟨rfl,ty⟩⟩
     · have:decide (V.int ((Zo P'.ps).count y.2:Nat)=V.int 1)=false:=n35_ fun z=>h (by injection z with z;omega)
       rw [this];exact iteF (n _ (Same.refl _) (by rw [ey];simp [h]))
 · rw [n5_,Yh _ _ _ (n10_ _),n62_] at al;obtain ⟨rfl,tp4⟩:=Zid al;refine q H4 E _ (s03.trans s4) (Z1 s03 nE) e4 tp4 (rs.sublist List.filter_sublist) fun k=>?_;rw [← Zn5 gi k,← pm.mem_iff,n29_,n29_];constructor
   · rintro ⟨x,hx,rfl⟩
     obtain ⟨h1,h2⟩:=n37_.mp hx;exact ⟨⟨x,h1,rfl⟩,by simpa using h2⟩
   · rintro ⟨⟨x,hx,rfl⟩,h2⟩
     exact ⟨x,n37_.mpr ⟨hx,by simpa using h2⟩,rfl⟩
abbrev Zau:Stmt:=top 37
theorem Zet (F:Fun K "neighbours" "neighbours" Zau f fd) (Cf_:a24_ P w K mg base):FnOk P w K mg base CX0 3 f fd ["plate"] Zm7:=by
 have sc:FnScope ["plate","found","numbers","number"] ["plate"] (Ze Zau):=fsc (by decide +kernel);refine F.ok sc (fun vs H Q E h=>by obtain ⟨v,P',rfl,_⟩:=h;rfl) fun cdv A outer s H vs Q E hr h=>?_;obtain ⟨v,P',rfl,hv,p3,p20,q⟩:=h;have nd:=sc.nd;refine' ⟨_,?term,?read⟩
 case term=>refine' @Zd _ _ _ _ _ ?g1 ?g2;(case g1=>refine' @Znt _ _ _ _ _ _ _ _ _ _ (["piece"]) ([none]) _ _ _ _ _ _ rfl rfl (Zm (i:=1) nd rfl (Or.inl rfl)) (Yv (by decide) rfl (by decide) rfl rfl) ?g3 (fun _ _ _ _=>pgB 0) (fun _ _ _ _=>Zt) (fun _ _ _ _=>Ye Zb) (by intro _ ;rfl);case g3=>refine' @Yy _ _ _ _ ?g4;case g4=>refine' @Zw _ _ _ _ _ _ _ Zz (pv 0) Zf (fun _ _=>rfl));case g2=>refine' @Zd _ _ _ _ _ ?g5 (Zg (Zn (pv 1)));case g5=>refine' @Xd _ _ _ _ _ _ _ _ PassesOwn.never rfl ?g6 (Zm (i:=2) nd rfl (Or.inl rfl)) ?g7 (by intro _ ;rfl);(case g6=>refine' @Zq7 _ _ _ _ _ _ (Zl Cf_ hr (by decide) rfl (Za (pv 0) Zb rfl)) (by rfl) (by rfl));case g7=>refine' @Zg _ _ _ ?g8;case g8=>refine' @Xd _ _ _ _ _ _ _ _ PassesOwn.never rfl (Yn (pv 2)) (Zm (i:=3) nd rfl (Or.inl rfl)) ?g9 (by intro _ ;rfl);case g9=>refine' @Zg _ _ _ ?ga;case ga=>refine' @X8 _ _ _ _ ?gb (by rfl);case gb=>refine' @Zgo _ _ _ _ _ _ _ _ _ _ _ _ PySem.F.plainAttrs_list PySem.F.slot_list_extend PySem.F.type_list_extend Zn4 ?gc (Za (pv 2) Zb rfl) (by rfl) (by rfl) (by rfl) (by rfl) (by rfl);case gc=>refine' @Zw _ _ _ _ _ _ _ Yk (pv 1) (pv 3) (fun _ _=>rfl)
 obtain ⟨a,c,p,t,st,rfl,ha,hc,⟨b,ws,rfl,hb,bl⟩,ht,hs⟩:=id hv;have hl:=bl.1;refine ⟨_,rfl,a,_,1,_,rfl,rfl,SqT.of ha,rfl,b,rfl,⟨_,SqT.of hb⟩,fun F nF=>?_⟩;refine Zu0 (k:=.t) (vs:=ws) (by omega) nF hb fun H2 as s2 las nda has eF=>?_;refine ⟨_,rfl,.ref a,P',rfl,hv.tk s2.tk,p3,p20,fun H3 D g ads s3 o3 gi=>⟨D,kvO g ads,rfl,o3.dt,fun ob=>?_⟩⟩;have lan:as.length=P'.ps.length:=by omega
 have nFD:F≠D:=fun z=>by have:=o3.frD;rw [← z,eF] at this;cases this
 have dz:∀ x o,H3 x=some o→x≠D→upd H3 D (.frz ob (.dT (kvO g ads))) x=some o:=fun x o e ne=>by rw [Zh ne];exact e
 have nDas:∀ x∈as,x≠D:=fun x hx z=>by have:=o3.frD;rw [← z,(has x hx).1] at this;cases this
 have kl:=Zoa o3.len;have gl:g.length≤60:=by have:=gi.len;rw [Zbh] at this;omega
 have dis:∀ x∈as,x∉ads:=fun x hx hx'=>by have:=o3.fr x hx';rw [(has x hx).1] at this;cases this
 have nFas:∀ x∈as,x≠F:=fun x hx=>(has x hx).2.2;have el:∀ e∈g,e.2.length≤60:=fun e he=>by have:=gi.le he;rw [Zbh] at this;omega
 have n0:NearG H (upd H3 D (.frz ob (.dT (kvO g ads)))) F D ob as ads g (fun _=>[]) (fun i x=>∃ e∈g.take 0,(i:Int)∈e.2∧x∈e.2) 0 :=
  ⟨fun x o e=>dz x o (s3 _ _ (s2 _ _ e)) (fun z=>by have:=Z1 s2 o3.frD;rw [← z,e] at this;cases this),dz _ _ (s3 _ _ eF) nFD,Zc,fun i x e h1 h2=>dz _ _ (o3.at_ i x e h1 h2) (fun z=>o3.nD (z ▸ n6_ h1)),fun i x hx=>by have hm:=n6_ hx;exact dz _ _ (s3 _ _ (has x hm).1) (nDas x hm),fun i _ x=>by simp,fun i _=>n51_ _⟩
 generalize upd H3 D (.frz ob (.dT (kvO g ads)))=H4 at n0 ⊢;refine Zb0 (n:=g.length) (fun k σ H5=>∃ w2 w3 nf,σ=[some (.ref a),some (.ref F),w2,w3]∧NearG H H5 F D ob as ads g nf (fun i x=>∃ e∈g.take k,(i:Int)∈e.2∧x∈e.2) (3600*k)) ⟨_,_,_,rfl,n0⟩ (fun k σ H5 hk pp=>?_) (fun σ H5 pp=>?_) (fun k x σ H5 H6 hk y pp=>?_) (fun σ H5 pp=>?_)
 · obtain ⟨_,_,_,_,N5⟩:=pp;exact ⟨_,N5.eD,by rw [kl];exact hk⟩
 · obtain ⟨_,_,_,_,N5⟩:=pp;exact ⟨_,N5.eD,by rw [kl];exact n10_ _⟩
 · obtain ⟨w2,w3,nf,rfl,N5⟩:=pp;obtain ⟨k',rfl,y2⟩:=y;have ek:=y2 _ N5.eD;have ha':ads[k]? = some (ads[k]'(by rw [o3.len];exact hk)):=n1_ _;have hg':g[k]? = some g[k]:=n1_ hk;obtain ⟨u,hu'⟩:∃ u,ads[k]? = some u:=⟨_,ha'⟩;obtain ⟨e,he⟩:∃ e,g[k]? = some e:=⟨_,hg'⟩
   have:x=.ref u:=by
    have ez:(g.zip ads)[k]? = some (e,u):=List.getElem?_zip_eq_some.mpr ⟨he,hu'⟩;rw [n7_,ez] at ek
    simpa using (congrArg Prod.snd (Option.some.inj ek)).symm
   subst this;have eu:=N5.av k u e hu' he;have hem:=n6_ he;have hum:=n6_ hu';have e60:=el e hem;refine ⟨_,rfl,u,rfl,⟨_,SqL.of eu⟩,?_⟩;refine Zcj (xs:=e.2.map V.int) (fun m σ H6=>∃ w3 nf,σ=[some (.ref a),some (.ref F),some (.ref u),w3]∧NearG H H6 F D ob as ads g nf (fun i x=>(∃ e∈g.take k,(i:Int)∈e.2∧x∈e.2)∨((i:Int)∈e.2.take m∧x∈e.2)) (3600*k+60*m)) ⟨_,nf,rfl,N5.sm,N5.eF,N5.eD,N5.av,N5.at_,fun i hi x=>(N5.mem i hi x).trans (by simp),N5.le⟩ ?_ ?_ ?_
   · rintro m σ H6 _ ⟨_,_,_,N6⟩
     exact SqL.of (N6.av k u e hu' he)
   · rintro m w σ H6 hw ⟨w3',nf6,rfl,N6⟩
     rw [n7_] at hw;obtain ⟨j,ej,rfl⟩:=n19_.mp hw;have hm60:=(n14_.mp ej).1;obtain ⟨j',rfl,hj,_⟩:=(gi.mem hem).mp (n6_ ej);obtain ⟨z,hz⟩:∃ z,as[j']? = some z:=⟨_,n1_ (by omega)⟩;have hzm:=n6_ hz;have ez:=N6.at_ j' z hz;have eu6:=N6.av k u e hu' he;have lz:=N6.le j' (by omega);refine ⟨_,rfl,_,rfl,F,_,(j':Int),.ref z,rfl,rfl,SqL.of N6.eF,Zbb (by rw [n7_,hz];rfl),.inl ⟨rfl,_,SqL.of ez⟩,_,rfl,z,u,_,_,rfl,rfl,ez,eu6,by rw [n5_,n5_,sizeLine_eq];omega,?_⟩;have nz':∀ x∈ads,x≠z:=fun x hx e=>dis z hzm (e ▸ hx);refine ⟨_,fun i=>if i=j' then nf6 i++e.2 else nf6 i,rfl,fun x o eb=>?_,?_,?_,fun i x e' h1 h2=>?_,fun i x hx=>?_,fun i hi x=>?_,fun i hi=>?_⟩
     · rw [Zh (Zi eb (has z hzm).2.1)];exact N6.sm _ _ eb
     · rw [Zh (nFas z hzm).symm];exact N6.eF
     · rw [Zh (nDas z hzm).symm];exact N6.eD
     · rw [Zh (nz' x (n6_ h1))];exact N6.av i x e' h1 h2
     · by_cases c:i=j'
       · subst c;rw [hz] at hx;cases hx;rw [Zc]
         simp
       · have:x≠z:=fun q=>c (Zot nda (q ▸ hx) hz)
         rw [Zh this,N6.at_ i x hx];simp [c]
     · have h0:=N6.mem i hi x;rw [List.take_succ,ej]
       by_cases c:i=j'
       · subst c;simp only [if_true,n28_,h0]
         simp
         constructor
         · rintro ((h|⟨h,h'⟩)|h)
           · exact .inl h
           · exact .inr h'
           · exact .inr h
         · rintro (h|h)
           · exact .inl (.inl h)
           · exact .inr h
       · simp only [if_neg c,h0]
         have:¬ (i:Int)=(j':Int):=by omega
         simp [this]
     · have:=N6.le i hi
       split
       · rw [n21_];omega
       · omega
   · rintro σ H6 ⟨w3',nf6,rfl,N6⟩
     refine ⟨_,_,nf6,rfl,N6.sm,N6.eF,N6.eD,N6.av,N6.at_,fun i hi x=>(N6.mem i hi x).trans ?_,fun i hi=>?_⟩
     · rw [n5_,n62_,List.take_succ,he];simp only [n28_,Option.toList_some,n23_];constructor
       · rintro (⟨e',h1,h2⟩|h2)
         · exact ⟨e',.inl h1,h2⟩
         · exact ⟨e,.inr rfl,h2⟩
       · rintro ⟨e',h1|h1,h2⟩
         · exact .inl ⟨e',h1,h2⟩
         · subst h1;exact .inr h2
     · have:=N6.le i hi
       rw [n5_] at this;omega
 · obtain ⟨w2,w3,nf,rfl,N5⟩:=pp;refine ⟨_,rfl,q H5 F as nf N5.sm nF ⟨N5.eF,lan,N5.at_,fun i hi x=>(N5.mem i (by omega) x).trans ?_,fun i hi=>?_⟩⟩
   · rw [n62_];constructor
     · rintro ⟨e,he,h1,h2⟩
       obtain ⟨i',hi',_,s1⟩:=(gi.mem he).mp h1;obtain ⟨m,hm,hmn,s2'⟩:=(gi.mem he).mp h2
       have:i=i':=by omega
       subst this;exact ⟨m,hm,hmn,e.1,s1,s2'⟩
     · rintro ⟨m,rfl,hm,s,s1,s2'⟩
       have hs':s∈g.map (·.1):=(gi.ks s).mpr (n29_.mpr ⟨(s,(i:Int)),Zf7.mpr ⟨i,rfl,hi,s1⟩,rfl⟩);obtain ⟨e,he,rfl⟩:=n29_.mp hs';exact ⟨e,he,(gi.mem he).mpr ⟨i,rfl,hi,s1⟩,(gi.mem he).mpr ⟨m,rfl,hm,s2'⟩⟩
   · have:=N5.le i (by omega)
     omega
abbrev Zcs:Stmt:=top 38
theorem Zli (F:Fun K "part_of" "part_of" Zcs f fd):FnOk P w K mg base CX0 2 f fd ["start","near"] Zgv:=by
 have sc:FnScope ["start","near","seen","left","last","number"] ["start","near"] (Ze Zcs):=fsc (by decide +kernel);refine F.ok sc (fun vs H Q E h=>by obtain ⟨i,n,F,as,A',nf,rfl,_⟩:=h;rfl) fun cdv A outer s H vs Q E hr h=>?_;obtain ⟨i,n,F,as,A',nf,rfl,N,n60,hi,q⟩:=h;have nd:=sc.nd;have hu:=Zmm hr;refine' ⟨_,?term,?read⟩
 case term=>refine' @Zd _ _ _ _ _ ?g1 ?g2;(case g1=>refine' @Zs _ _ (2) _ _ _ _ nd rfl (Or.inl rfl) ?g3 (by rfl) (by first|exact Or.inl rfl|exact Or.inr rfl|assumption);case g3=>refine' @Zst _ _ _ _ _ ?g4 rfl rfl (by decide) (by decide);case g4=>refine' @Zou _ _ _ _ _ _ _ _ _ (pv 0) X3 Zsw);case g2=>refine' @Zd _ _ _ _ _ ?g5 ?g6;(case g5=>refine' @Zs _ _ (3) _ _ _ _ nd rfl (Or.inl rfl) ?g7 (by rfl) (by first|exact Or.inl rfl|exact Or.inr rfl|assumption);case g7=>refine' @Ye _ _ _ _ (Za (pv 0) Zb rfl));case g6=>refine' @Zd _ _ _ _ _ ?g8 (Zg (Zn (Z9 Z3 rfl T.b_tuple Y6 (Za (Zk (Zf6 rfl) rfl T.b_sorted Yi (Za (pv 2) Zb rfl)) Zb rfl))));case g8=>refine' @Zjv _ _ _ _ _ _ PassesOwn.never ?g9 ?ga;(case g9=>refine' @Zv _ _ _ (pv 3) (fun _=>rfl));case ga=>refine' @Zd _ _ _ _ _ ?gb ?gc;(case gb=>refine' @Zs _ _ (4) _ _ _ _ nd rfl (Or.inl rfl) ?gd (by rfl) (by first|exact Or.inl rfl|exact Or.inr rfl|assumption);case gd=>refine' @Zuy _ _ _ _ _ _ _ _ _ PySem.F.plainAttrs_list PySem.F.slot_list_pop PySem.F.type_list_pop Zuv (pv 3) (by rfl) (by rfl));case gc=>refine' @Zg _ _ _ ?ge;case ge=>refine' @Xd _ _ _ _ _ _ _ _ PassesOwn.never rfl ?gf (Zm (i:=5) nd rfl (Or.inl rfl)) ?gg (by intro _ ;rfl);(case gf=>refine' @Yn _ _ _ _ ?gh;case gh=>refine' @Zw _ _ _ _ _ _ _ Yk (pv 1) (pv 4) (fun _ _=>rfl));case gg=>refine' @Zg _ _ _ ?gi;case gi=>refine' @Xz _ _ _ _ _ _ _ _ ?gj ?gk Z8;(case gj=>refine' @Ztn _ _ _ _ _ _ ?gl rfl;case gl=>refine' @Zm8 _ _ _ _ _ hu (pv 5) (pv 2));case gk=>refine' @Zd _ _ _ _ _ ?gm ?gn;(case gm=>refine' @Zsx _ _ _ _ _ _ _ _ _ hu (pv 2) (pv 5) X3 rfl);case gn=>refine' @Zg _ _ _ ?go;case go=>refine' @X8 _ _ _ _ ?gp (by rfl);case gp=>refine' @Zgo _ _ _ _ _ _ _ _ _ _ _ _ PySem.F.plainAttrs_list PySem.F.slot_list_append PySem.F.type_list_append Zaw (pv 3) (Za (pv 5) Zb rfl) (by rfl) (by rfl) (by rfl) (by rfl) (by rfl)
 refine fun S nS=>⟨_,rfl,Zc,[(Sum.inl (i:Int),V.bl true)],rfl,by simp,?_⟩;have s1:Same H (upd (upd H S (.dK [])) S (.dK (Zca [] [(Sum.inl (i:Int),V.bl true)]))):=fun b o e=>by rw [Zh (Zi e nS),Zh (Zi e nS)];exact e
 have e1:upd (upd H S (.dK [])) S (.dK (Zca [] [(Sum.inl (i:Int),V.bl true)])) S=some (.dK (kvT [(i:Int)])):=Zc;generalize upd (upd H S (.dK [])) S (.dK (Zca [] [(Sum.inl (i:Int),V.bl true)]))=H1 at s1 e1 ⊢;refine ⟨_,rfl,z1_,fun L nL=>?_⟩;have s2:Same H1 (upd H1 L (.lst [.int (i:Int)])):=Same.new nL;have e2:upd H1 L (.lst [.int (i:Int)]) L=some (.lst ([(i:Int)].map V.int)):=Zc;have nSL:S≠L:=Zi e1 nL;have nL0:=Z1 s1 nL;have e1':=s2 _ _ e1;generalize upd H1 L (.lst [.int (i:Int)])=H2 at s2 e2 e1' ⊢;have s02:=s1.trans s2;have o0:SeenOk A' n i [(i:Int)] [(i:Int)]:=⟨by simp,by simp,fun x hx=>⟨i,by simpa using hx,hi,.refl⟩,fun x hx=>hx,fun a b h1 h2=>absurd h1 h2,n10_ _⟩;dsimp only [Yr,tSeq];refine Ziz (fun σ H3=>∃ w4 w5 ks ls,σ=[some (.int (i:Int)),some (.ref F),some (.ref S),some (.ref L),w4,w5]∧Same H H3∧H3 S=some (.dK (kvT ks))∧H3 L=some (.lst (ls.map V.int))∧SeenOk A' n i ks ls) (fun σ H3=>match H3 L,H3 S with|some (.lst xs),some (.dK kvs)=>2*(n-kvs.length)+xs.length|_,_=>0) ⟨_,_,_,_,rfl,s02,e1',e2,o0⟩ ?_ ?_
 · rintro σ H3 ⟨w4,w5,ks,ls,rfl,s3,eS,eL,ok⟩
   refine ⟨_,rfl,_,.inl ⟨_,SqL.of eL,rfl⟩,?_⟩
   rcases List.eq_nil_or_concat ls with rfl|⟨ls0,z,rfl⟩
   · refine iteF ?_;refine ⟨_,rfl,S,kvT ks,ks,rfl,eS,by rw [n75_];rfl,by have:=Zi8 ok;omega,fun l ms nl pm so=>?_⟩;generalize gG:upd H3 l (.lst (ms.map V.int))=H4;obtain ⟨s4,e4⟩:=gen_upd gG nl;refine ⟨l,_,rfl,.inl ⟨SqL.of e4,fun t nt=>?_⟩⟩;exact q _ t ms (s3.trans (s4.trans (Same.new nt))) (Z1 (s3.trans s4) nt) Zc (Zob hi ok.nd ok.st ok.co (fun a b ha hb ab=>ok.cl a b ha (by simp) hb ab) pm so)
   · rw [List.concat_eq_append] at eL ok ⊢;refine (show (if (!List.isEmpty (List.map V.int (ls0++[z])))=true then _ else _) from ?_);rw [show (!List.isEmpty (List.map V.int (ls0++[z])))=true by simp];refine iteT ?_;refine ⟨_,rfl,.inl ⟨rfl,_,SqL.of eL⟩,L,_,.int z,rfl,rfl,eL,by simp,?_⟩;rw [n45_,show List.dropLast (List.map V.int ls0++List.map V.int [z])=ls0.map V.int by simp];obtain ⟨z',rfl,hz,cz⟩:=ok.co z (ok.sub z (by simp));obtain ⟨b,hb⟩:∃ b,as[z']? = some b:=⟨_,n1_ (by rw [N.len];exact hz)⟩;have eb:=N.at_ z' b hb;have s4:Same H (upd H3 L (.lst (ls0.map V.int))):=fun x o e=>by rw [Zh (Zi e nL0)];exact s3 _ _ e
     have eS4:upd H3 L (.lst (ls0.map V.int)) S=some (.dK (kvT ks)):=by rw [Zh nSL];exact eS
     have eL4:upd H3 L (.lst (ls0.map V.int)) L=some (.lst (ls0.map V.int)):=Zc;generalize upd H3 L (.lst (ls0.map V.int))=H4 at s4 eS4 eL4 ⊢;refine ⟨_,rfl,_,rfl,F,_,(z':Int),.ref b,rfl,rfl,SqL.of (s4 _ _ N.eF),Zbb (by rw [n7_,hb];rfl),b,rfl,⟨_,SqL.of (s4 _ _ eb)⟩,?_⟩;refine Zcj (xs:=(nf z').map V.int) (fun m σ H5=>∃ w5 nw,σ=[some (.int (i:Int)),some (.ref F),some (.ref S),some (.ref L),some (.int (z':Int)),w5]∧Same H H5∧H5 S=some (.dK (kvT (ks++nw)))∧H5 L=some (.lst ((ls0++nw).map V.int))∧(ks++nw).Nodup∧(∀ x∈nw,∃ m:Nat,x=m∧m<n∧Conn A' n i m)∧∀ x∈(nf z').take m,x∈ks++nw) ⟨_,[],rfl,s4,by simpa using eS4,by simpa using eL4,by simpa using ok.nd,by simp,by simp⟩ ?_ ?_ ?_
     · rintro m σ H5 _ ⟨_,_,_,s5,_⟩
       exact SqL.of (s5 _ _ eb)
     · rintro m w σ H5 hw ⟨w5',nw,rfl,s5,eS5,eL5,nd5,co5,al5⟩
       rw [n7_] at hw;obtain ⟨x,ex,rfl⟩:=n19_.mp hw;obtain ⟨x',rfl,hx,ax⟩:=(N.mem z' hz _).mp (n6_ ex);have coa:∀ y∈ks++nw,∃ m:Nat,y=m∧m<n∧Conn A' n i m:=fun y hy=>(n28_.mp hy).elim (ok.co y) (co5 y);have ln:(ks++nw).length≤n:=Zg3 nd5 fun y hy=>let ⟨m,a,b,_⟩:=coa y hy;⟨m,a,b⟩
       have lz:(ls0++nw).length≤n:=by
        have:=ok.le
        rw [n21_] at this ln ⊢;omega
       refine ⟨_,rfl,_,rfl,S,_,rfl,DGet.k (k:=Sum.inl (x':Int)) eS5,_,rfl,?_⟩;rw [valT]
       by_cases c:(x':Int)∈ks++nw
       · rw [if_pos c];refine iteF ?_;refine ⟨_,nw,rfl,s5,eS5,eL5,nd5,co5,fun y hy=>?_⟩;rw [List.take_succ,ex] at hy
         rcases n28_.mp hy with hy|hy
         · exact al5 y hy
         · rw [show y=x' by simpa using hy];exact c
       · rw [if_neg c];refine iteT ?_;refine ⟨_,rfl,_,rfl,S,_,rfl,DPut.k (k:=Sum.inl (x':Int)) eS5 (by rw [Zsd,sizeLine_eq];omega),?_⟩;rw [putT c];refine ⟨_,rfl,.inl ⟨rfl,_,SqL.of (by rw [Zh nSL.symm];exact eL5)⟩,_,rfl,L,_,_,rfl,rfl,(by rw [Zh nSL.symm];exact eL5),(by rw [n5_,sizeLine_eq];omega),?_⟩;refine ⟨_,nw++[(x':Int)],rfl,fun y o e=>?_,?_,?_,?_,fun y hy=>?_,fun y hy=>?_⟩
         · rw [Zh (Zi e nL0),Zh (Zi e nS)];exact s5 _ _ e
         · rw [Zh nSL,Zc,n52_]
         · rw [Zc];simp
         · rw [← n52_,n72_];exact ⟨nd5,by simp,fun a ha b hb e=>c (by rw [← n23_.mp hb,← e];exact ha)⟩
         · rcases n28_.mp hy with hy|hy
           · exact co5 y hy
           · exact ⟨x',by simpa using hy,hx,cz.trans (.one hz hx ax)⟩
         · rw [← n52_];rw [List.take_succ,ex] at hy
           rcases n28_.mp hy with hy|hy
           · exact n67_ _ (al5 y hy)
           · rw [show y=x' by simpa using hy];simp
     · rintro σ H5 ⟨w5',nw,rfl,s5,eS5,eL5,nd5,co5,al5⟩
       rw [n5_,n62_] at al5
       have ok':SeenOk A' n i (ks++nw) (ls0++nw):=by
        refine ⟨nd5,n67_ _ ok.st,fun y hy=>(n28_.mp hy).elim (ok.co y) (co5 y),fun x hx=>?_,fun a b1 ha hn hb1 ab=>?_,?_⟩
        · rcases n28_.mp hx with hx|hx
          · exact n67_ _ (ok.sub x (n67_ _ hx))
          · exact n33_ _ hx
        · rw [n28_,not_or] at hn;have hk:(a:Int)∈ks:=(n28_.mp ha).elim id fun z=>absurd z hn.2
          by_cases c:a=z'
          · subst c;exact al5 _ ((N.mem a hz _).mpr ⟨b1,rfl,hb1,ab⟩)
          · refine n67_ _ (ok.cl a b1 hk ?_ hb1 ab);rw [n28_,not_or];exact ⟨hn.1,fun z=>c (by have:=n23_.mp z;omega)⟩
        · have:=ok.le
          rw [n21_,n79_] at this;rw [n21_,n21_];omega
       refine ⟨⟨_,_,_,_,rfl,s5,eS5,eL5,ok'⟩,?_⟩;have l1:=Zi8 ok';rw [eS5,eL5,eS,eL];dsimp only;rw [n5_,n5_,n5_,n5_,n21_,n21_,n21_,n79_];rw [n21_] at l1;omega
 · rintro σ H' Q1 Q2 hq ⟨v,e,k,t,q'⟩
   exact ⟨v,e,k,t,hq _ _ q'⟩
abbrev Zeu:Stmt:=top 39
theorem Zpm (F:Fun K "parts" "parts" Zeu f fd) (Cb_:a23_ P w K mg base) (Cw_:a25_ P w K mg base) (Can_:a26_ P w K mg base):FnOk P w K mg base CX0 7 f fd ["plate"] Zj7:=by
 have sc:FnScope ["plate","near"] ["plate"] (Ze Zeu):=fsc (by decide +kernel);refine F.ok sc (fun vs H Q E h=>by obtain ⟨v,P',rfl,_⟩:=h;rfl) fun cdv A outer s H vs Q E hr h=>?_;obtain ⟨v,P',rfl,hv,ok,p20,q⟩:=h;have nd:=sc.nd;refine' ⟨_,?term,?read⟩
 case term=>refine' @Zd _ _ _ _ _ ?g1 ?g2;(case g1=>refine' @X8 _ _ _ _ (Zl Cb_ hr (by decide) rfl (Za (pv 0) Zb rfl)) (by rfl));case g2=>refine' @Zd _ _ _ _ _ ?g3 ?g4;(case g3=>refine' @Zs _ _ (1) _ _ _ _ nd rfl (Or.inr rfl) (Zl Cw_ hr (by decide) rfl (Za (pv 0) Zb rfl)) (by rfl) (by first|exact Or.inl rfl|exact Or.inr rfl|assumption));case g4=>refine' @Zg _ _ _ ?g5;case g5=>refine' @Zn _ _ _ _ ?g6;case g6=>refine' @Zk _ _ _ _ _ _ _ _ _ (Zb8 rfl) rfl T.b_sorted Yi ?g7 (by decide) (by decide) (by rfl) (by rfl);case g7=>refine' @Za _ _ _ _ _ ?g8 Zb rfl;case g8=>refine' @Zs1 _ _ _ _ _ _ _ (["start","near"]) ([none,some 1]) _ _ _ _ hr rfl (Z0 (XN:=["plate","near"]) (Scope.names (Ze Zeu)) rfl rfl rfl (fun _ h=>Zq h) (by decide +kernel) rfl) ?g9 (fun _ _ _ _=>pgB 0) (fun _ _ _ _=>Zl Can_ hr (by decide) rfl (Za (pv 0) (Za (pv 1) Zb rfl) rfl)) (by intro _ ;rfl);case g9=>refine' @Xk _ _ _ _ _ _ rfl T.b_range (Za (Zk Zr rfl T.b_len Xc (Za (pv 1) Zb rfl)) Zb rfl) (by rfl)
 refine ⟨_,rfl,v,P',rfl,hv,ok,fun H1 s1=>?_⟩;refine ⟨_,rfl,v,P',rfl,hv.tk s1.tk,pc3 ok,p20,fun H2 F as nf s2 nF N=>?_⟩;refine ⟨_,rfl,F,_,rfl,.inl (SqL.of N.eF),_,rfl,by rw [n5_,N.len];omega,by rw [n5_,N.len];omega,fun D nD=>?_⟩;have eN:((as.map V.ref).length:Int).toNat=P'.ps.length:=by rw [n5_,N.len];rfl
 rw [eN];generalize hn:P'.ps.length=n at *;have s3:Same H2 (upd H2 D (setU (Y1 w) D [])):=Same.new nD;refine ⟨fun i m σ H3=>m=n-i∧i≤n∧(∃ u,σ=[u,some (.ref F)])∧Same H2 H3∧∃ kl,H3 D=some (setU (Y1 w) D kl)∧(∀ x∈kl,tpl H3 x)∧kl.length≤i∧(kl.map (·.2)).Nodup∧∀ l,l∈kl.map (·.2)↔∃ j,j<i∧PartOk (Adj P'.ps) n j l,⟨_,rfl,n51_ _,⟨_,rfl⟩,s3,[],Zc,by simp,by simp,by simp,by simp⟩,?_⟩;rintro i m σ H3 ⟨rfl,hi,⟨u,rfl⟩,s03,kl,eD,tp,lk,nd',mem⟩
 by_cases hlt:i<n
 · refine .inr ⟨hlt,fun x H4 y=>?_⟩;obtain ⟨rfl,rfl⟩:=y;refine ⟨_,rfl,_,rfl,i,n,F,as,Adj P'.ps,nf,by rw [Int.zero_add],?_,by omega,hlt,fun H5 t l s5 nt tt pt=>?_⟩
   · exact ⟨s03 _ _ N.eF,N.len,fun j b hb=>s03 _ _ (N.at_ j b hb),N.mem,N.le⟩
   have nDt:t≠D:=fun z=>by rw [z,eD] at nt;cases nt
   have s6:∀ o,Tk H5 (upd H5 D o):=fun o b xs e=>by
    have:=s5 _ _ eD
    rw [Zh (fun z=>by rw [z,this] at e;cases e)];exact e
   refine ⟨kl,t,l,s5 _ _ eD,rfl,tt,fun x hx=>s5 _ _ (tp x hx),by omega,n-(i+1),by omega,rfl,hlt,⟨_,rfl⟩,fun b o e=>?_,addU kl (t,l),Zc,fun x hx=>?_,?_,Zmn nd',fun l'=>?_⟩
   · rw [Zh (Zi e nD)];exact s5 _ _ (s03 _ _ e)
   · rcases Zkl hx with h|h
     · exact s6 _ _ _ (s5 _ _ (tp x h))
     · subst h;exact s6 _ _ _ tt
   · have:=Zji kl (t,l);omega
   · rw [Zf0,mem l'];constructor
     · rintro (⟨j,hj,p⟩|e)
       · exact ⟨j,by omega,p⟩
       · exact ⟨i,by omega,by rw [show l'=l from e];exact pt⟩
     · rintro ⟨j,hj,p⟩
       by_cases c:j=i
       · subst c;exact .inr (p.eq pt)
       · exact .inl ⟨j,by omega,p⟩
 · have e:i=n:=by omega
   subst e;refine .inl ⟨n10_ _,D,kl,rfl,eD,tp,fun x hx=>?_,by omega,fun l ql nl pm rs=>?_⟩
   · obtain ⟨j,hj,p⟩:=(mem x.2).mp (n50_ hx);exact List.length_pos_of_mem ((p.mem j).mpr ⟨j,rfl,hj,.refl⟩)
   have s4:Same H3 (upd H3 l (.lst (refs ql))):=Same.new nl;exact q _ l ql (s1.trans (s2.trans (s03.trans s4))) (Z1 (s1.trans (s2.trans s03)) nl) Zc (fun x hx=>s4 _ _ (tp x (pm.mem_iff.mp hx))) ⟨Y0 rs,fun l'=>(pm.map (·.2)).mem_iff.trans (mem l')⟩
abbrev Zi0:Stmt:=top 40
theorem Zrw (F:Fun K "room" "room" Zi0 f fd) (Cb_:a23_ P w K mg base) (Ci_:a6_ P w K mg base):FnOk P w K mg base CX0 7 f fd ["plate"] Zme:=by
 have sc:FnScope ["plate"] ["plate"] (Ze Zi0):=fsc (by decide +kernel);refine F.ok sc (fun vs H Q E h=>by obtain ⟨v,P',rfl,_⟩:=h;rfl) fun cdv A outer s H vs Q E hr h=>?_;obtain ⟨v,P',rfl,hv,ok,p20,q⟩:=h;refine' ⟨_,?term,?read⟩
 case term=>refine' @Zd _ _ _ _ _ ?g1 ?g2;(case g1=>refine' @X8 _ _ _ _ (Zl Cb_ hr (by decide) rfl (Za (pv 0) Zb rfl)) (by rfl));case g2=>refine' @Zg _ _ _ ?g3;case g3=>refine' @Zn _ _ _ _ ?g4;case g4=>refine' @Zk _ _ _ _ _ _ _ _ _ (Zf1 rfl) rfl T.b_sum Zma ?g5 (by decide) (by decide) (by rfl) (by rfl);case g5=>refine' @Za _ _ _ _ _ ?g6 Zb rfl;case g6=>refine' @Y4 _ _ _ _ _ _ _ (["piece","plate"]) ([none,some 0]) _ _ _ _ _ rfl (Z0 (XN:=["plate"]) (Scope.names (Ze Zi0)) rfl rfl rfl (fun _ h=>Zq h) (by decide +kernel) rfl) ?g7 (fun _ _ _ _=>pgB 0) (fun _ _ _ _=>Zt) (fun _ _ _ _=>Zk Zjr rfl T.b_abs Zp3 (Za (Zl Ci_ hr (by decide) rfl (Za (Zw (Zh1 K rfl) (pv 1) Zf (fun _ _=>rfl)) (Za (pv 0) Zb rfl) rfl)) Zb rfl)) (by intro _ ;rfl);case g7=>refine' @Yy _ _ _ _ ?g8;case g8=>refine' @Zw _ _ _ _ _ _ _ Zz (pv 0) Zf (fun _ _=>rfl)
 refine ⟨_,rfl,v,P',rfl,hv,ok,fun H1 s1=>?_⟩;obtain ⟨a,c,p,t,st,rfl,ha,hc,⟨b,ws,rfl,hb,bl⟩,ht,hs⟩:=hv.tk s1.tk;have hl:=bl.1;refine ⟨_,rfl,a,_,1,_,rfl,rfl,SqT.of ha,rfl,b,rfl,⟨_,SqT.of hb⟩,fun D nD=>?_⟩;refine lc_T (k:=.t) (vs:=ws) RI hRI (P'.ps.map fun p=>absI (dOf P'.cs p)) (by simp [hl]) (by omega) nD hb (fun i w H2 C hw s2 c'=>?_) (fun H2 us s2 e2 a2=>?_)
 · obtain ⟨p',ep,rp⟩:=bl.get hw;have pk:=ok.pc p' (n6_ ep);refine ⟨_,rfl,a,_,0,_,rfl,rfl,SqT.of (s2 _ _ ha),rfl,_,rfl,c,w,P'.cs,p',rfl,hc.tk s2.tk,rp.tk s2.tk,pk.len,pk.bd,ok.nr,_,rfl,?_⟩;exact c' _ _ (absI (dOf P'.cs p')) (Same.refl _) (by rw [n7_,ep];rfl) rfl
 · have:=a2.ints
   subst this;exact ⟨D,_,rfl,SqL.of e2,q _ (s1.trans s2)⟩
abbrev Xs:Stmt:=top 42
theorem Zc4 (F:Fun K "_law_cell_at" "_law_cell_at" Xs f fd):FnOk P w K mg base CX0 1 f fd ["_law_script","_law_k"] (Znl K):=by
 have sc:FnScope ["_law_script","_law_k"] ["_law_script","_law_k"] (Ze Xs):=fsc (by decide +kernel);refine F.ok sc (fun vs H Q E h=>by obtain ⟨a,ns,k,rfl,_⟩:=h;rfl) fun cdv A outer s H vs Q E hr h=>?_;obtain ⟨a,ns,k,rfl,hS,q⟩:=h;refine' ⟨_,?term,?read⟩
 case term=>refine' @Zd _ _ _ _ _ ?g1 (Zg (Zn Zf));case g1=>refine' @Xz _ _ _ _ _ _ _ _ (Xa Zrt (pv 1) (Zk Zr rfl T.b_len Xc (Za (pv 0) Zb rfl)) (Yx _)) ?g2 Z8;case g2=>refine' @Zg _ _ _ ?g3;case g3=>refine' @Zn _ _ _ _ ?g4;case g4=>refine' @Zw _ _ _ _ _ _ _ Yk (pv 0) (pv 1) (fun _ _=>rfl)
 refine ⟨_,rfl,_,rfl,a,_,rfl,.inl hS,_,_,rfl,rfl,_,rfl,?_⟩;refine ite2 (fun hlt=>?_) (fun _=>q 0)
 have hk:k<ns.length:=by
  have z:=n30_ hlt;rw [n5_] at z;omega
 exact ⟨_,rfl,_,rfl,a,_,_,_,rfl,rfl,hS,Zbb (by rw [n7_,n1_ hk];rfl),q _⟩
abbrev Zaq:Stmt:=top 43
theorem Zfd (F:Fun K "_law_state" "_law_state" Zaq f fd) (Co_:a27_ P w K mg base):FnOk P w K mg base CX0 2 f fd ["_law_script","_law_k"] (Zj2 K):=by
 have sc:FnScope ["_law_script","_law_k","_law_cell"] ["_law_script","_law_k"] (Ze Zaq):=fsc (by decide +kernel);refine F.ok sc (fun vs H Q E h=>by obtain ⟨a,ns,k,rfl,_⟩:=h;rfl) fun cdv A outer s H vs Q E hr h=>?_;obtain ⟨a,ns,k,rfl,hS,q⟩:=h;have nd:=sc.nd;refine' ⟨_,?term,?read⟩
 case term=>refine' @Zd _ _ _ _ _ ?g1 ?g2;(case g1=>refine' @Zs _ _ (2) _ _ _ _ nd rfl (Or.inl rfl) (Zl Co_ hr (by decide) rfl (Za (pv 0) (Za (pv 1) Zb rfl) rfl)) (by rfl) (by first|exact Or.inl rfl|exact Or.inr rfl|assumption));case g2=>refine' @Zg _ _ _ ?g3;case g3=>refine' @Zn _ _ _ _ ?g4;case g4=>refine' @Ye _ _ _ _ (Za (Zk (Zg9 rfl) rfl T.b_max Zqz (Za Zf (Za (Zp Y8 (pv 2) (Zp Zut Zf Zf)) Zb rfl) rfl)) (Za (Zp Z7 (Zp Zby (pv 2) Zf) Zf) (Za Zf Zb rfl) rfl) rfl)
 refine ⟨_,rfl,_,rfl,a,ns,k,rfl,hS,fun c=>?_⟩;refine ⟨_,rfl,_,_,rfl,rfl,⟨by decide,by decide,by decide⟩,_,_,rfl,rfl,_,_,rfl,?_⟩;refine ⟨_,rfl,_,_,rfl,rfl,(by show (2147483629:Int)≠0;decide),_,_,rfl,rfl,(z3_),fun p hp=>q p _ hp (Same.new hp) ⟨_,_,_,Zc,?_,?_⟩⟩
 · have:=Int.fmod_nonneg_of_pos c (b:=2147483629) (by decide)
   omega
 · have:=Int.fmod_lt_of_pos c (b:=2147483629) (by decide)
   omega
abbrev X0:Stmt:=top 44
theorem Zdi (F:Fun K "_law_choice" "_law_choice" X0 f fd):FnOk P w K mg base CX0 1 f fd ["_law_state_here","_law_many"] Zct:=by
 have sc:FnScope ["_law_state_here","_law_many","_law_found","_law_mixed"] ["_law_state_here","_law_many"] (Ze X0):=fsc (by decide +kernel);refine F.ok sc (fun vs H Q E h=>by obtain ⟨l,m,rfl,_⟩:=h;rfl) fun cdv A outer s H vs Q E hr h=>?_;obtain ⟨l,m,rfl,⟨s0,s1,s2,hl,h0,h1⟩,hm,hz,q⟩:=h;have nd:=sc.nd;refine' ⟨_,?term,?read⟩
 case term=>refine' @Zd _ _ _ _ _ ?g1 ?g2;(case g1=>refine' @Xz _ _ _ _ _ _ _ _ ?g3 ?g4 Z8;(case g3=>refine' @Xa _ _ _ _ _ _ _ _ Zvc ?g5 Zf (Yx _);case g5=>refine' @Zw _ _ _ _ _ _ _ Yk (pv 0) Zf (fun _ _=>rfl));case g4=>refine' @Zd _ _ _ _ _ ?g6 ?g7;(case g6=>refine' @Zs _ _ (2) _ _ _ _ nd rfl (Or.inl rfl) ?g8 (by rfl) (by first|exact Or.inl rfl|exact Or.inr rfl|assumption);case g8=>refine' @Zp _ _ _ _ _ _ _ _ Zby ?g9 (pv 1);case g9=>refine' @Zw _ _ _ _ _ _ _ Yk (pv 0) Zf (fun _ _=>rfl));case g7=>refine' @Zd _ _ _ _ _ ?ga (Zg (Zn (pv 2)));case ga=>refine' @Zaz _ _ _ _ _ _ ?gb ?gc (by rfl) (by rfl) (by rfl);(case gb=>refine' @Zp _ _ _ _ _ _ _ _ Zkm ?gd (pv 1);case gd=>refine' @Zw _ _ _ _ _ _ _ Yk (pv 0) Zf (fun _ _=>rfl));case gc=>refine' @Zix _ _ _ _ _ _ _ (pv 0) Zf Zcl (by intro _ ;rfl));case g2=>refine' @Zd _ _ _ _ _ ?ge ?gf;(case ge=>refine' @Zaz _ _ _ _ _ _ ?gg ?gh (by rfl) (by rfl) (by rfl);(case gg=>refine' @Zp _ _ _ _ _ _ _ _ Z7 ?gi Zf;case gi=>refine' @Zw _ _ _ _ _ _ _ Yk (pv 0) Zf (fun _ _=>rfl));case gh=>refine' @Zix _ _ _ _ _ _ _ (pv 0) Zf Zcl (by intro _ ;rfl));case gf=>refine' @Zd _ _ _ _ _ ?gj ?gk;(case gj=>refine' @Zaz _ _ _ _ _ _ ?gl ?gm (by rfl) (by rfl) (by rfl);(case gl=>refine' @Zp _ _ _ _ _ _ _ _ Zby ?gn Zf;case gn=>refine' @Zp _ _ _ _ _ _ _ _ Z7 ?go ?gp;(case go=>refine' @Zp _ _ _ _ _ _ _ _ Z7 ?gq Zf;case gq=>refine' @Zp _ _ _ _ _ _ _ _ Yd ?gr Zf;case gr=>refine' @Zw _ _ _ _ _ _ _ Yk (pv 0) Zf (fun _ _=>rfl));case gp=>refine' @Zw _ _ _ _ _ _ _ Yk (pv 0) Zf (fun _ _=>rfl));case gm=>refine' @Zix _ _ _ _ _ _ _ (pv 0) Zf Zcl (by intro _ ;rfl));case gk=>refine' @Zd _ _ _ _ _ ?gs ?gt;(case gs=>refine' @Zs _ _ (3) _ _ _ _ nd rfl (Or.inl rfl) ?gu (by rfl) (by first|exact Or.inl rfl|exact Or.inr rfl|assumption);case gu=>refine' @Zp _ _ _ _ _ _ _ _ Zby ?gv Zf;case gv=>refine' @Zp _ _ _ _ _ _ _ _ Z7 ?gw Zf;case gw=>refine' @Zp _ _ _ _ _ _ _ _ Z7 ?gx ?gy;(case gx=>refine' @Zp _ _ _ _ _ _ _ _ Yd ?gz ?g10;(case gz=>refine' @Zw _ _ _ _ _ _ _ Yk (pv 0) Zf (fun _ _=>rfl));case g10=>refine' @Zw _ _ _ _ _ _ _ Yk (pv 0) Zf (fun _ _=>rfl));case gy=>refine' @Zp _ _ _ _ _ _ _ _ Yd Zf ?g11;case g11=>refine' @Zw _ _ _ _ _ _ _ Yk (pv 0) Zf (fun _ _=>rfl));case gt=>refine' @Zd _ _ _ _ _ ?g12 (Zg (Zn (Zp Zby (Zp Zkm (pv 3) Zf) (pv 1))));case g12=>refine' @Zs _ _ (3) _ _ _ _ nd rfl (Or.inl rfl) (Zp Zby (Zp Z7 (Zp Yd (pv 3) (pv 3)) (Zp Yd Zf (pv 3))) Zf) (by rfl) (by first|exact Or.inl rfl|exact Or.inr rfl|assumption)
 have hm0:m≠0:=by omega
 refine ⟨_,rfl,l,_,0,_,rfl,rfl,SqL.of hl,rfl,_,_,rfl,rfl,_,rfl,?_⟩;refine ite2 (fun _=>?_) (fun _=>?_)
 · refine ⟨_,rfl,l,_,0,_,rfl,rfl,SqL.of hl,rfl,_,rfl,_,_,rfl,rfl,hm0,?_⟩;refine ⟨_,rfl,l,_,0,_,rfl,rfl,SqL.of hl,rfl,_,rfl,_,_,rfl,rfl,⟨hm0,hz⟩,?_⟩;refine ⟨_,rfl,l,_,0,0,rfl,rfl,hl,rfl,?_⟩;exact ⟨_,rfl,q _ _ (Int.fmod_nonneg_of_pos _ hm) (Int.fmod_lt_of_pos _ hm) Keep.upd ⟨_,_,_,Zc,h0,h1⟩⟩
 ·
  refine ⟨_,rfl,l,_,2,_,rfl,rfl,SqL.of hl,rfl,_,_,rfl,rfl,?_⟩;refine ⟨_,rfl,l,_,2,2,rfl,rfl,hl,rfl,?_⟩;refine ⟨_,rfl,l,_,1,_,rfl,rfl,SqL.of Zc,rfl,_,_,rfl,rfl,mulS (by rw [p64];omega) (by decide),_,_,rfl,rfl,?_⟩;refine ⟨_,rfl,l,_,2,_,rfl,rfl,SqL.of Zc,rfl,_,_,rfl,rfl,_,_,rfl,rfl,(by show (2147483647:Int)≠0;decide),?_⟩;refine ⟨_,rfl,l,_,1,1,rfl,rfl,Zc,rfl,?_⟩;generalize hs:Int.fmod (s1*48271+29+(s2+1)) 2147483647=u;have u0:0≤u:=by rw [← hs];exact Int.fmod_nonneg_of_pos _ (by decide)
  have u1:u<2147483647:=by rw [← hs];exact Int.fmod_lt_of_pos _ (by decide)
  refine ⟨_,rfl,l,_,1,_,rfl,rfl,SqL.of Zc,rfl,_,rfl,l,_,1,_,rfl,rfl,SqL.of Zc,rfl,u,u,by rw [← hs],by rw [← hs],mulS (by rw [p64];omega) (by rw [p64];omega),?_⟩;refine ⟨_,rfl,l,_,1,_,rfl,rfl,SqL.of Zc,rfl,39373,u,rfl,by rw [← hs],mulS (by decide) (by rw [p64];omega),_,_,rfl,rfl,_,_,rfl,rfl,_,_,rfl,rfl,(by show (2147483629:Int)≠0;decide),?_⟩;generalize hv:Int.fmod (u*u+39373*u+7) 2147483629=v;have v0:0≤v:=by rw [← hv];exact Int.fmod_nonneg_of_pos _ (by decide)
  have v1:v<2147483629:=by rw [← hv];exact Int.fmod_lt_of_pos _ (by decide)
  refine ⟨_,rfl,_,rfl,v,v,by rw [← hv],by rw [← hv],mulS (by rw [p64];omega) (by rw [p64];omega),_,rfl,50021,v,rfl,by rw [← hv],mulS (by decide) (by rw [p64];omega),_,_,rfl,rfl,_,_,rfl,rfl,(by show (2147483587:Int)≠0;decide),?_⟩;refine ⟨_,rfl,_,_,rfl,rfl,⟨by decide,Yt (by decide)⟩,_,rfl,_,_,rfl,rfl,hm0,?_⟩;exact q _ _ (Int.fmod_nonneg_of_pos _ hm) (Int.fmod_lt_of_pos _ hm) (Keep.upd.trans Keep.upd) ⟨_,u,_,by rw [← hs];exact Zc,u0,by omega⟩
abbrev Zak:Stmt:=top 45
theorem Zfg (F:Fun K "_law_order" "_law_order" Zak f fd) (Ca_:a28_ P w K mg base):FnOk P w K mg base CX0 2 f fd ["_law_state_here","_law_many"] Zjw:=by
 have sc:FnScope ["_law_state_here","_law_many","_law_left","_law_found"] ["_law_state_here","_law_many"] (Ze Zak):=fsc (by decide +kernel);refine F.ok sc (fun vs H Q E h=>by obtain ⟨l,n,rfl,_⟩:=h;rfl) fun cdv A outer s H vs Q E hr h=>?_;obtain ⟨l,n,rfl,hl,h60,q⟩:=h;have nd:=sc.nd;have hu:=Zmm hr;have hu1:=Nat.lt_of_succ_lt hu;refine' ⟨_,?term,?read⟩
 case term=>refine' @Zd _ _ _ _ _ ?g1 ?g2;(case g1=>refine' @Zmg _ _ (2) (3) _ _ _ _ _ _ _ _ _ _ _ rfl nd rfl rfl (by decide) rfl rfl ?g3 rfl (by rfl);case g3=>refine' @Za _ _ _ _ _ ?g4 ?g5 rfl;(case g4=>refine' @Z9 _ _ _ _ _ _ _ _ _ (Zks rfl) rfl T.b_list Zsi ?g6 (by decide) (by decide) (by rfl) (by rfl);case g6=>refine' @Za _ _ _ _ _ ?g7 Zb rfl;case g7=>refine' @Ztt _ _ _ _ _ rfl T.b_range (Za (pv 1) Zb rfl) (by rfl));case g5=>refine' @Za _ _ _ _ _ ?g8 Zb rfl;case g8=>refine' @Ye _ _ _ _ Zb);case g2=>refine' @Zd _ _ _ _ _ ?g9 (Zg (Zn (pv 3)));case g9=>refine' @Zjv _ _ _ _ _ _ PassesOwn.never ?ga ?gb;(case ga=>refine' @Xa _ _ _ _ _ _ _ _ (Zuu hu1) (pv 2) ?gc (Yx _);case gc=>refine' @Ye _ _ _ _ Zb);case gb=>refine' @Zg _ _ _ ?gd;case gd=>refine' @X8 _ _ _ _ ?ge (by rfl);case ge=>refine' @Zgo _ _ _ _ _ _ _ _ _ _ _ _ PySem.F.plainAttrs_list PySem.F.slot_list_append PySem.F.type_list_append Zaw (pv 3) ?gf (by rfl) (by rfl) (by rfl) (by rfl) (by rfl);case gf=>refine' @Za _ _ _ _ _ ?gg Zb rfl;case gg=>refine' @Zgo _ _ _ _ _ _ _ _ _ _ _ _ PySem.F.plainAttrs_list PySem.F.slot_list_pop PySem.F.type_list_pop Zol (pv 2) (Za (Zl Ca_ hr (by decide) rfl (Za (pv 0) (Za (Zk Zr rfl T.b_len Xc (Za (pv 2) Zb rfl)) Zb rfl) rfl)) Zb rfl) (by rfl) (by rfl) (by rfl) (by rfl) (by rfl)
 refine ⟨_,rfl,n,rfl,fun R nR=>?_⟩;refine ⟨R,n,rfl,Zc,by omega,fun L nL=>?_⟩;have s1:Same H (upd H R (.rng 0 n)):=Same.new nR;generalize upd H R (.rng 0 n)=H1 at s1 nL ⊢
 have nL0:H L=none:=by
  cases e:H L with
  | none=>rfl
  | some o=>rw [s1 _ _ e] at nL;cases nL
 generalize gG:upd H1 L (.lst ((List.range n).map fun i:Nat=>V.int i))=H2;obtain ⟨s2,e2⟩:=gen_upd gG nL;refine ⟨z0_,fun F nF=>?_⟩;have s3:Same H2 (upd H2 F (.lst [])):=Same.new nF;have e3:upd H2 F (.lst []) F=some (.lst []):=Zc;have nLF:L≠F:=Zi e2 nF;generalize upd H2 F (.lst [])=H3 at s3 e3 ⊢;have s03:=s1.trans (s2.trans s3)
 have nF0:H F=none:=by
  cases e:H F with
  | none=>rfl
  | some o=>rw [s2 _ _ (s1 _ _ e)] at nF;cases nF
 have nLl:L≠l:=hl.neN nL0;have nFl:F≠l:=hl.neN nF0;refine ⟨_,_,rfl,?_⟩;refine Ziz (fun σ H2=>σ=[some (.ref l),some (.int n),some (.ref L),some (.ref F)]∧Keep l H H2∧StAt H2 l∧∃ xs ys:List Int,H2 L=some (.lst (xs.map V.int))∧H2 F=some (.lst (ys.map V.int))∧(ys++xs).Perm ((List.range n).map fun i:Nat=>(i:Int))) (fun σ H2=>match H2 L with|some (.lst xs)=>xs.length|_=>0) ⟨rfl,s03.keep,hl.same s03,(List.range n).map fun i:Nat=>(i:Int),[],?_,e3,.refl _⟩ ?_ ?_
 · rw [n75_];exact s3 _ _ e2
 · rintro σ H4 ⟨rfl,k4,l4,xs,ys,eL,eF,pm⟩
   refine ⟨_,rfl,z0_,fun E nE=>?_⟩;generalize gG:upd H4 E (.lst [])=H5;obtain ⟨s5,e5⟩:=gen_upd gG nE;refine ⟨L,E,_,rfl,rfl,SqL.of (s5 _ _ eL),SqL.of e5,_,rfl,?_⟩;cases xs with
   | nil =>
     refine iteF ?_;refine ⟨_,rfl,q H5 F ys (k4.trans s5.keep) (l4.same s5) nF0 (s5 _ _ eF) ?_⟩
     simpa using pm
   | cons x xs =>
     refine iteT ?_
     have len:ys.length+(x :: xs).length=n:=by
      have:=pm.length_eq
      simpa using this
     have l5:=l4.same s5;refine ⟨_,rfl,.inl ⟨rfl,_,SqL.of (s5 _ _ eF)⟩,_,rfl,.inl ⟨rfl,_,SqL.of (s5 _ _ eL)⟩,_,rfl,_,rfl,L,_,rfl,.inl (SqL.of (s5 _ _ eL)),l,_,rfl,l5,?_,?_,fun r H6 r0 r1 k6 l6=>?_⟩
     · simp
     · rw [n5_];refine Yt ?_;show _<18446744073709551616
       simp at len ⊢;omega
     · rw [n5_] at r1;have hr:r.toNat<(x :: xs).length:=by omega
       have eL6:=k6 _ _ nLl (s5 _ _ eL);have eF6:=k6 _ _ nFl (s5 _ _ eF);refine ⟨L,_,r,r.toNat,.int ((x :: xs)[r.toNat]),rfl,rfl,eL6,by omega,?_,seqI r0 (by rw [n5_];exact r1),by rw [n7_,n1_ hr];rfl,?_⟩
       · have:(n:Int)≤60:=by omega
         have:((x :: xs).length:Int)≤n:=by omega
         omega
       · refine ⟨F,_,_,rfl,rfl,by rw [Zh nLF.symm];exact eF6,?_,?_⟩
         · rw [n5_,sizeLine_eq];omega
         · have eL7:∀ o,upd (upd H6 L (.lst (((x :: xs).map V.int).eraseIdx r.toNat))) F o L=some (.lst (((x :: xs).map V.int).eraseIdx r.toNat)):=fun o=>by rw [Zh nLF,Zc]
           refine ⟨⟨rfl,?_,?_,(x :: xs).eraseIdx r.toNat,ys++[(x :: xs)[r.toNat]],?_,?_,?_⟩,?_⟩
           · intro b o nb e;rw [Zh (Zi e nF0),Zh (Zi e nL0)];exact k6 _ _ nb (s5 _ _ (k4 _ _ nb e))
           · obtain ⟨a,b,c,e,r⟩:=l6;exact ⟨a,b,c,by rw [Zh nFl.symm,Zh nLl.symm];exact e,r⟩
           · rw [eL7,Zfv]
           · rw [Zc,n45_];rfl
           · refine List.Perm.trans ?_ pm;rw [n52_];refine List.Perm.append_left ys ?_;exact Xy _ _ hr
           · rw [eL7,eL];dsimp only;rw [List.length_eraseIdx_of_lt (by rw [n5_];exact hr)]
             simp
 · rintro σ H' Q1 Q2 hq ⟨v,e,z,f⟩
   refine ⟨v,e,z,fun p np=>?_⟩;obtain ⟨a,b,xs,e1,e2,h1,h2,k,t,q'⟩:=f p np;exact ⟨a,b,xs,e1,e2,h1,h2,k,t,hq _ _ q'⟩
abbrev X4:Stmt:=top 46
theorem Zdn (F:Fun K "_law_shapes" "_law_shapes" X4 f fd):FnOk P w K mg base CX0 1 f fd [] Zgp:=by
 have sc:FnScope ["_law_one","_law_two","_law_hub","_law_hinge","_law_apart","_law_strip","_law_cross","_law_chain"] [] (Ze X4):=fsc (by decide +kernel);refine F.ok sc (fun vs H Q E h=>by obtain ⟨rfl,_⟩:=h;rfl) fun cdv A outer s H vs Q E hr h=>?_;obtain ⟨rfl,q⟩:=h;have nd:=sc.nd;refine' ⟨_,?term,?read⟩
 case term=>refine' @Zd _ _ _ _ _ ?g1 ?g2;(case g1=>refine' @Zs _ _ (0) _ _ _ _ nd rfl (Or.inl rfl) ?g3 (by rfl) (by first|exact Or.inl rfl|exact Or.inr rfl|assumption);case g3=>refine' @Xq _ _ (([(0,0),(2,0),(0,3)],[[0,1,2]])) rfl);case g2=>refine' @Zd _ _ _ _ _ ?g4 ?g5;(case g4=>refine' @Zs _ _ (1) _ _ _ _ nd rfl (Or.inl rfl) ?g6 (by rfl) (by first|exact Or.inl rfl|exact Or.inr rfl|assumption);case g6=>refine' @Xq _ _ (([(0,0),(3,0),(3,2),(0,2)],[[0,1,2],[0,2,3]])) rfl);case g5=>refine' @Zd _ _ _ _ _ ?g7 ?g8;(case g7=>refine' @Zs _ _ (2) _ _ _ _ nd rfl (Or.inl rfl) ?g9 (by rfl) (by first|exact Or.inl rfl|exact Or.inr rfl|assumption);case g9=>refine' @Xq _ _ (([(0,0),(6,0),(0,6),(2,1)],[[0,1,3],[0,2,3],[1,2,3]])) rfl);case g8=>refine' @Zd _ _ _ _ _ ?ga ?gb;(case ga=>refine' @Zs _ _ (3) _ _ _ _ nd rfl (Or.inl rfl) ?gc (by rfl) (by first|exact Or.inl rfl|exact Or.inr rfl|assumption);case gc=>refine' @Xq _ _ (([(0,0),(2,1),(2,-1),(-2,1),(-3,-1)],[[0,1,2],[0,3,4]])) rfl);case gb=>refine' @Zd _ _ _ _ _ ?gd ?ge;(case gd=>refine' @Zs _ _ (4) _ _ _ _ nd rfl (Or.inl rfl) ?gf (by rfl) (by first|exact Or.inl rfl|exact Or.inr rfl|assumption);case gf=>refine' @Xq _ _ (([(0,0),(2,0),(0,2),(4,0),(6,1),(4,3)],[[0,1,2],[3,4,5]])) rfl);case ge=>refine' @Zd _ _ _ _ _ ?gg ?gh;(case gg=>refine' @Zs _ _ (5) _ _ _ _ nd rfl (Or.inl rfl) ?gi (by rfl) (by first|exact Or.inl rfl|exact Or.inr rfl|assumption);case gi=>refine' @Xq _ _ (([(0,0),(0,2),(2,0),(3,2),(5,0)],[[0,1,2],[1,2,3],[2,3,4]])) rfl);case gh=>refine' @Zd _ _ _ _ _ ?gj ?gk;(case gj=>refine' @Zs _ _ (6) _ _ _ _ nd rfl (Or.inl rfl) ?gl (by rfl) (by first|exact Or.inl rfl|exact Or.inr rfl|assumption);case gl=>refine' @Xq _ _ (([(0,0),(2,0),(0,3),(-2,0),(0,-1)],[[0,1,2],[0,2,3],[0,3,4],[0,1,4]])) rfl);case gk=>refine' @Zd _ _ _ _ _ ?gm ?gn;(case gm=>refine' @Zs _ _ (7) _ _ _ _ nd rfl (Or.inl rfl) ?go (by rfl) (by first|exact Or.inl rfl|exact Or.inr rfl|assumption);case go=>refine' @Xq _ _ (([(0,0),(1,2),(2,0),(3,2),(4,0),(5,3)],[[0,1,2],[2,3,4],[3,4,5]])) rfl);case gn=>refine' @Zg _ _ _ ?gp;case gp=>refine' @Zn _ _ _ _ ?gq;case gq=>refine' @Ye _ _ _ _ (Za (pv 0) (Za (pv 1) (Za (pv 3) (Za (pv 4) (Za (pv 2) (Za (pv 5) (Za (pv 7) (Za (pv 6) Zb rfl) rfl) rfl) rfl) rfl) rfl) rfl) rfl)
 intro H1 v_one s1 h_one;intro H2 v_two s2 h_two;intro H3 v_hub s3 h_hub;intro H4 v_hinge s4 h_hinge;intro H5 v_apart s5 h_apart;intro H6 v_strip s6 h_strip;intro H7 v_cross s7 h_cross;intro H8 v_chain s8 h_chain;replace h_one:=h_one.tk s2.tk;replace h_one:=h_one.tk s3.tk;replace h_one:=h_one.tk s4.tk;replace h_one:=h_one.tk s5.tk;replace h_one:=h_one.tk s6.tk;replace h_one:=h_one.tk s7.tk;replace h_one:=h_one.tk s8.tk;replace h_two:=h_two.tk s3.tk;replace h_two:=h_two.tk s4.tk;replace h_two:=h_two.tk s5.tk;replace h_two:=h_two.tk s6.tk;replace h_two:=h_two.tk s7.tk;replace h_two:=h_two.tk s8.tk;replace h_hub:=h_hub.tk s4.tk;replace h_hub:=h_hub.tk s5.tk;replace h_hub:=h_hub.tk s6.tk;replace h_hub:=h_hub.tk s7.tk;replace h_hub:=h_hub.tk s8.tk;replace h_hinge:=h_hinge.tk s5.tk;replace h_hinge:=h_hinge.tk s6.tk;replace h_hinge:=h_hinge.tk s7.tk;replace h_hinge:=h_hinge.tk s8.tk;replace h_apart:=h_apart.tk s6.tk;replace h_apart:=h_apart.tk s7.tk;replace h_apart:=h_apart.tk s8.tk;replace h_strip:=h_strip.tk s7.tk;replace h_strip:=h_strip.tk s8.tk;replace h_cross:=h_cross.tk s8.tk;refine ⟨_,rfl,_,rfl,_,rfl,_,rfl,_,rfl,_,rfl,_,rfl,_,rfl,by show 8≤sizeLine;decide,fun r nr=>?_⟩;have s9:Same H8 (upd H8 r (.lst [v_one,v_two,v_hinge,v_apart,v_hub,v_strip,v_chain,v_cross])):=Same.new nr;have s08:=(((((((s1.trans s2).trans s3).trans s4).trans s5).trans s6).trans s7).trans s8);refine q _ r _ (s08.trans s9) ?_ Zc ?_
 · cases e:H r with
   | none=>rfl
   | some o=>rw [s08 _ _ e] at nr;cases nr
 · exact (.cons (h_one.tk s9.tk) (.cons (h_two.tk s9.tk) (.cons (h_hinge.tk s9.tk) (.cons (h_apart.tk s9.tk) (.cons (h_hub.tk s9.tk) (.cons (h_strip.tk s9.tk) (.cons (h_chain.tk s9.tk) (.cons (h_cross.tk s9.tk) .nil))))))))
abbrev Yq:Stmt:=top 47
theorem Zei (F:Fun K "_law_plate" "_law_plate" Yq f fd) (Ca_:a28_ P w K mg base) (Cx_:a29_ P w K mg base) (Cs_:a30_ P w K mg base):FnOk P w K mg base CX0 3 f fd ["_law_state_here","_law_most"] Zka:=by
 have sc:FnScope ["_law_state_here","_law_most","_law_points","_law_pieces","_law_a","_law_b","_law_c","_law_d","_law_s","_law_t","_law_order_here","_law_corners","_law_at","_law_x","_law_y","_law_rows","_law_thicks"] ["_law_state_here","_law_most"] (Ze Yq):=fsc (by decide +kernel);refine F.ok sc (fun vs H Q E h=>by obtain ⟨l,rfl,_⟩:=h;rfl) fun cdv A outer s H vs Q E hr h=>?_;obtain ⟨l,rfl,hl,q'⟩:=h;have nd:=sc.nd;refine' ⟨_,?term,?read⟩
 case term=>refine' @Zd _ _ _ _ _ ?g1 ?g2;(case g1=>refine' @Zaz _ _ _ _ _ _ ?g3 ?g4 (by rfl) (by rfl) (by rfl);(case g3=>refine' @Zw _ _ _ _ _ _ _ Yk ?g5 (Zl Ca_ hr (by decide) rfl (Za (pv 0) (Za (pv 1) Zb rfl) rfl)) (fun _ _=>rfl);case g5=>refine' @Zr4 _ _ _ _ _ _ _ Cs_ hr (by decide) rfl (by decide));case g4=>refine' @Yj _ _ _ _ _ (2) rfl (Zj (Zm (i:=2) nd rfl (Or.inl rfl)) (Zj (Zm (i:=3) nd rfl (Or.inl rfl)) Zy)) (by rfl) (by rfl));case g2=>refine' @Zd _ _ _ _ _ ?g6 ?g7;(case g6=>refine' @Zh8 _ _ (4) (5) (6) _ _ _ _ _ _ _ _ _ _ _ _ _ _ rfl nd rfl rfl rfl (by decide) (by decide) (by decide) rfl rfl rfl (Za (Zp Z7 Zf (Zl Ca_ hr (by decide) rfl (Za (pv 0) (Za Zf Zb rfl) rfl))) (Za (Zp Y8 (Zl Ca_ hr (by decide) rfl (Za (pv 0) (Za Zf Zb rfl) rfl)) Zf) (Za (Zp Y8 (Zl Ca_ hr (by decide) rfl (Za (pv 0) (Za Zf Zb rfl) rfl)) Zf) Zb rfl) rfl) rfl) rfl (by rfl));case g7=>refine' @Zd _ _ _ _ _ ?g8 ?g9;(case g8=>refine' @Zh8 _ _ (7) (8) (9) _ _ _ _ _ _ _ _ _ _ _ _ _ _ rfl nd rfl rfl rfl (by decide) (by decide) (by decide) rfl rfl rfl (Za (Zp Y8 (Zl Ca_ hr (by decide) rfl (Za (pv 0) (Za Zf Zb rfl) rfl)) Zf) (Za (Zp Y8 (Zl Ca_ hr (by decide) rfl (Za (pv 0) (Za Zf Zb rfl) rfl)) Zf) (Za (Zp Y8 (Zl Ca_ hr (by decide) rfl (Za (pv 0) (Za Zf Zb rfl) rfl)) Zf) Zb rfl) rfl) rfl) rfl (by rfl));case g9=>refine' @Zd _ _ _ _ _ ?ga ?gb;(case ga=>refine' @Xz _ _ _ _ _ _ _ _ (Xa Zia (Zp Yd (pv 4) (pv 7)) (Zp Yd (pv 5) (pv 6)) (Yx _)) ?gc Z8;case gc=>refine' @Zg _ _ _ ?gd;case gd=>refine' @Zaz _ _ _ _ _ _ (Z4 (Za Zf (Za (pv 5) (Za Zf (Za Zf Zb rfl) rfl) rfl) rfl)) ?ge (by rfl) (by rfl) (by rfl);case ge=>refine' @Yj _ _ _ _ _ (4) rfl (Zj (Zm (i:=4) nd rfl (Or.inl rfl)) (Zj (Zm (i:=5) nd rfl (Or.inl rfl)) (Zj (Zm (i:=6) nd rfl (Or.inl rfl)) (Zj (Zm (i:=7) nd rfl (Or.inl rfl)) Zy)))) (by rfl) (by rfl));case gb=>refine' @Zd _ _ _ _ _ ?gf ?gg;(case gf=>refine' @Zs _ _ (10) _ _ _ _ nd rfl (Or.inr rfl) (Zl Cx_ hr (by decide) rfl (Za (pv 0) (Za (Zk Zr rfl T.b_len Xc (Za (pv 2) Zb rfl)) Zb rfl) rfl)) (by rfl) (by first|exact Or.inl rfl|exact Or.inr rfl|assumption));case gg=>refine' @Zd _ _ _ _ _ ?gh ?gi;(case gh=>refine' @Zs _ _ (11) _ _ _ _ nd rfl (Or.inl rfl) ?gj (by rfl) (by first|exact Or.inl rfl|exact Or.inr rfl|assumption);case gj=>refine' @Zp _ _ _ _ _ _ _ _ Zux ?gk (Zk Zr rfl T.b_len Xc (Za (pv 2) Zb rfl));case gk=>refine' @Ye _ _ _ _ (Za (Z4 (Za Zf (Za Zf Zb rfl) rfl)) Zb rfl));case gi=>refine' @Zd _ _ _ _ _ ?gl ?gm;(case gl=>refine' @Xd _ _ _ _ _ _ _ _ PassesOwn.never rfl ?gn ?go ?gp (by intro _ ;rfl);(case gn=>refine' @Zeh _ _ _ _ .t _ _ _ _ rfl T.b_enumerate (Za (pv 2) Zb rfl) (by rfl));(case go=>refine' @Yj _ _ _ _ _ (2) rfl ?gq (by rfl) (by rfl);case gq=>refine' @Zj _ _ _ _ _ (Zm (i:=12) nd rfl (Or.inl rfl)) ?gr (by rfl);case gr=>refine' @Zj _ _ _ _ _ ?gs Zy (by rfl);case gs=>refine' @Yj _ _ _ _ _ (2) rfl (Zj (Zm (i:=13) nd rfl (Or.inl rfl)) (Zj (Zm (i:=14) nd rfl (Or.inl rfl)) Zy)) (by rfl) (by rfl));case gp=>refine' @Zg _ _ _ ?gt;case gt=>refine' @Zaz _ _ _ _ _ _ (Z4 (Za (Zp Z7 (Zp Z7 (Zp Yd (pv 4) (pv 13)) (Zp Yd (pv 5) (pv 14))) (pv 8)) (Za (Zp Z7 (Zp Z7 (Zp Yd (pv 6) (pv 13)) (Zp Yd (pv 7) (pv 14))) (pv 9)) Zb rfl) rfl)) ?gu (by rfl) (by rfl) (by rfl);case gu=>refine' @Zix _ _ _ _ _ _ _ (pv 11) ?gv Zcl (by intro _ ;rfl);case gv=>refine' @Zw _ _ _ _ _ _ _ Yk (pv 10) (pv 12) (fun _ _=>rfl));case gm=>refine' @Zd _ _ _ _ _ ?gw ?gx;(case gw=>refine' @Zs _ _ (15) _ _ _ _ nd rfl (Or.inl rfl) ?gy (by rfl) (by first|exact Or.inl rfl|exact Or.inr rfl|assumption);case gy=>refine' @Zk _ _ _ _ _ _ _ _ _ Zcb rfl T.b_sorted Yi ?gz (by decide) (by decide) (by rfl) (by rfl);case gz=>refine' @Za _ _ _ _ _ ?g10 Zb rfl;case g10=>refine' @Y4 _ _ _ _ _ _ _ (["_law_piece","_law_order_here"]) ([none,some 10]) _ _ _ _ _ rfl (Z0 (XN:=["_law_state_here","_law_most","_law_points","_law_pieces","_law_a","_law_b","_law_c","_law_d","_law_s","_law_t","_law_order_here","_law_corners","_law_at","_law_x","_law_y","_law_rows","_law_thicks"]) (Scope.names (Ze Yq)) rfl rfl rfl (fun _ h=>Zq h) (by decide +kernel) rfl) (Yy (pv 3)) (fun _ _ _ _=>pgB 0) (fun _ _ _ _=>Zt) (fun _ _ _ _=>Z9 (Za6 K rfl) rfl T.b_tuple Y6 (Za (Zk (Zfe K rfl) rfl T.b_sorted Yi (Za (Y4 (N:=["_law_at","_law_order_here"]) (fr:=[none,some 1]) rfl (Z0 (XN:=["_law_piece","_law_order_here"]) (relN _ (Scope.names (Ze Yq))) rfl rfl rfl (fun _ h=>Zgj (by decide +kernel) h) (by decide +kernel) rfl) (Zms K rfl (pv 0)) (fun _ _ _ _=>pgB 0) (fun _ _ _ _=>Zt) (fun _ _ _ _=>Zw (Zkd K rfl) (pv 1) (pv 0) (fun _ _=>rfl))) Zb rfl)) Zb rfl)) (by intro _ ;rfl));case gx=>refine' @Zd _ _ _ _ _ ?g11 ?g12;(case g11=>refine' @Zs _ _ (16) _ _ _ _ nd rfl (Or.inl rfl) ?g13 (by rfl) (by first|exact Or.inl rfl|exact Or.inr rfl|assumption);case g13=>refine' @Z9 _ _ _ _ _ _ _ _ _ Z3 rfl T.b_tuple Y6 ?g14 (by decide) (by decide) (by rfl) (by rfl);case g14=>refine' @Za _ _ _ _ _ ?g15 Zb rfl;case g15=>refine' @Y4 _ _ _ _ _ _ _ (["_law_row","_law_state_here"]) ([none,some 0]) _ _ _ _ _ rfl (Z0 (XN:=["_law_state_here","_law_most","_law_points","_law_pieces","_law_a","_law_b","_law_c","_law_d","_law_s","_law_t","_law_order_here","_law_corners","_law_at","_law_x","_law_y","_law_rows","_law_thicks"]) (Scope.names (Ze Yq)) rfl rfl rfl (fun _ h=>Zq h) (by decide +kernel) rfl) (Yn (pv 15)) (fun _ _ _ _=>pgB 0) (fun _ _ _ _=>Zt) (fun _ _ _ _=>Zp Z7 Zf (Zl Ca_ hr (by decide) rfl (Za (pv 1) (Za (Zw (Zkd K rfl) (Ye (Za Zf (Za Zf Zb rfl) rfl)) (Zl Ca_ hr (by decide) rfl (Za (pv 1) (Za Zf Zb rfl) rfl)) (fun _ _=>rfl)) Zb rfl) rfl))) (by intro _ ;rfl));case g12=>refine' @Zg _ _ _ ?g16;case g16=>refine' @Zn _ _ _ _ ?g17;case g17=>refine' @Z4 _ _ _ _ _ ?g18;case g18=>refine' @Za _ _ _ _ _ (Z9 Z3 rfl T.b_tuple Y6 (Za (pv 11) Zb rfl)) (Za (Z9 Z3 rfl T.b_tuple Y6 (Za (pv 15) Zb rfl)) (Za (pv 16) (Za (Z4 (Za (Zl Ca_ hr (by decide) rfl (Za (pv 0) (Za Zf Zb rfl) rfl)) (Za (Zp Z7 Zf (Zl Ca_ hr (by decide) rfl (Za (pv 0) (Za Zf Zb rfl) rfl))) Zb rfl) rfl)) Zb rfl) rfl) rfl) rfl
 refine ⟨rfl,fun H0 R us0 s0 nR eR al0=>?_⟩;have nRl:R≠l:=hl.neN nR;refine ⟨_,rfl,_,rfl,l,8,rfl,hl.same s0,by decide,Yt (by decide),fun r0 H1 r00 r01 k1 l1=>?_⟩;have al1:Al (IsSh H1) us0 Zc2:=al0.imp fun v x r=>r.tk (tkS k1 (hl.same s0));obtain ⟨u,sh,eu,hsh,msh⟩:=Zpd al1 r00 r01;have B:=Zky msh;obtain ⟨pts,pcs⟩:=sh;obtain ⟨a0,c,p,rfl,ha0,hc0,hp0⟩:=hsh;obtain ⟨c,cvs,rfl,hc7,cal⟩:=hc0;obtain ⟨p,pvs,rfl,hp7,pal⟩:=hp0;replace cal:Al (IsP H1) cvs pts:=cal;replace pal:Al (IsI H1) pvs pcs:=pal;replace B:Base pts pcs:=B;have n6:pts.length≤6:=B.n6;have clen:=cal.1;refine ⟨R,us0,_,_,rfl,rfl,SqL.of (k1 _ _ nRl eR),eu,?_⟩;refine ⟨a0,_,rfl,SqT.of ha0,rfl,_,_,rfl,_,_,rfl,rfl,?_⟩;refine ⟨_,rfl,l,3,rfl,l1,by decide,Yt (by decide),fun r1 H2 r10 r11 k2 l2=>⟨_,_,rfl,rfl,?_⟩⟩;refine ⟨_,rfl,l,5,rfl,l2,by decide,Yt (by decide),fun r2 H3 r20 r21 k3 l3=>⟨_,_,rfl,rfl,?_⟩⟩;refine ⟨_,rfl,l,5,rfl,l3,by decide,Yt (by decide),fun r3 H4 r30 r31 k4 l4=>⟨_,_,rfl,rfl,?_⟩⟩;refine ⟨_,_,_,rfl,?_⟩;refine ⟨_,rfl,l,7,rfl,l4,by decide,Yt (by decide),fun r4 H5 r40 r41 k5 l5=>⟨_,_,rfl,rfl,?_⟩⟩;refine ⟨_,rfl,l,41,rfl,l5,by decide,Yt (by decide),fun r5 H6 r50 r51 k6 l6=>⟨_,_,rfl,rfl,?_⟩⟩;refine ⟨_,rfl,l,9,rfl,l6,by decide,Yt (by decide),fun r6 H7 r60 r61 k7 l7=>⟨_,_,rfl,rfl,?_⟩⟩;refine ⟨_,_,_,rfl,?_⟩;have k17:=k2.trans (k3.trans (k4.trans (k5.trans (k6.trans k7))));have t7:Tk H1 H7:=tkS k17 l1;have kk:Keep l H H7:=s0.keep.trans (k1.trans k17);dsimp only;refine Zto (R:=fun σ Hn=>∃ A:Aff,σ=[some (.ref l),some (.int 8),some (.ref c),some (.ref p),some (.int A.a),some (.int A.b),some (.int A.c),some (.int A.d),some (.int A.s),some (.int A.t),none,none,none,none,none,none,none]∧A.det≠0∧Small A∧Same H7 Hn) ?_ ?_ ?_ ?_ ?_
 · refine ⟨_,rfl,_,rfl,_,_,rfl,rfl,mul4 (by omega) (by omega),_,rfl,_,rfl,_,_,rfl,rfl,mul4 (by omega) (by omega),rfl,_,rfl,?_⟩;refine ite2 (fun hd=>?_) (fun hd=>?_)
   · refine ⟨_,rfl,z4_,fun Z nZ=>?_⟩;exact ⟨Z,_,rfl,SqT.of Zc,rfl,_,_,rfl,_,_,rfl,_,_,rfl,_,_,rfl,rfl,Aff.mk 1 (r2-2) 0 1 (r5-20) (r6-4),rfl,by show (1:Int)*1-(r2-2)*0≠0;omega,⟨by show (1:Int).natAbs≤3;decide,by show (r2-2).natAbs≤3;omega,by show (0:Int).natAbs≤3;decide,by show (1:Int).natAbs≤3;decide,by show (r5-20).natAbs≤20;omega,by show (r6-4).natAbs≤20;omega⟩,Same.new nZ⟩
   · refine ⟨Aff.mk (1+r1) (r2-2) (r3-2) (r4-3) (r5-20) (r6-4),rfl,fun z=>?_,⟨by show (1+r1).natAbs≤3;omega,by show (r2-2).natAbs≤3;omega,by show (r3-2).natAbs≤3;omega,by show (r4-3).natAbs≤3;omega,by show (r5-20).natAbs≤20;omega,by show (r6-4).natAbs≤20;omega⟩,Same.refl _⟩;refine hd (n40_ (congrArg V.int ?_));have z':(1+r1)*(r4-3)-(r2-2)*(r3-2)=0:=z;omega
 · rintro Q1 Q2 hq ⟨v1,e1,v2,e2,i1,j1,f1,f2,m1,v3,e3,v4,e4,i2,j2,f3,f4,m2,f5,k,f6,q6⟩
   exact ⟨v1,e1,v2,e2,i1,j1,f1,f2,m1,v3,e3,v4,e4,i2,j2,f3,f4,m2,f5,k,f6,hq _ _ q6⟩
 · rintro key H1' ⟨v1,e1,z1,f1⟩
   refine ⟨v1,e1,z1,fun Z nZ=>?_⟩;obtain ⟨b1,xs1,g1,g2,g3,x1,y1,g4,x2,y2,g5,x3,y3,g6,x4,y4,g7,g8,q8⟩:=f1 Z nZ;exact ⟨b1,xs1,g1,g2,g3,x1,y1,g4,x2,y2,g5,x3,y3,g6,x4,y4,g7,g8,key _ _ q8⟩
 · exact fun key H1' r=>key _ _ r
 rintro σ H7n ⟨A,rfl,hdet,W,s7n⟩
 replace t7:=t7.trans s7n.tk;replace kk:=kk.trans s7n.keep;replace l7:=l7.same s7n;clear k1 k2 k3 k4 k5 k6 k7 k17;have Wa:=W.a;have Wb:=W.b;have Wc:=W.c;have Wd:=W.d;obtain ⟨Aa,Ab,Ac,Ad,As,At⟩:=A;replace Wa:Aa.natAbs≤1000:=n53_ Wa (by decide);replace Wb:Ab.natAbs≤1000:=n53_ Wb (by decide);replace Wc:Ac.natAbs≤1000:=n53_ Wc (by decide);replace Wd:Ad.natAbs≤1000:=n53_ Wd (by decide);refine ⟨_,rfl,_,rfl,c,cvs,rfl,.inr (SqT.of (t7 _ _ hc7)),l,cvs.length,rfl,l7,by omega,fun H8 O o k8 l8 nO eO pm=>?_⟩;rw [cal.1] at pm;have CO:=Zta pm;have t8:Tk H1 H8:=t7.trans (tkS k8 l7);refine ⟨z2_,fun z nz=>?_⟩;generalize gG:upd H8 z (.tup [.int 0,.int 0])=H9;obtain ⟨s9,e9⟩:=gen_upd gG nz;refine ⟨z1_,fun y ny=>?_⟩;generalize gG:upd H9 y (.lst [.ref z])=H10;obtain ⟨s10,e10⟩:=gen_upd gG ny;have t10:Tk H1 H10:=t8.trans (s9.trans s10).tk;refine ⟨_,rfl,c,cvs,rfl,.inr (SqT.of (t10 _ _ hc7)),y,cvs.length,_,rfl,rfl,e10,by omega,by omega,by simp;rw [sizeLine_eq];omega,fun C nC=>?_⟩;rw [n59_,Zjc];have s11:Same H10 (upd H10 C (.lst (List.replicate cvs.length (.ref z)))):=Same.new nC;have e11:upd H10 C (.lst (List.replicate cvs.length (.ref z))) C=some (.lst (List.replicate cvs.length (.ref z))):=Zc;have nCl:C≠l:=(l8.same (s9.trans s10)).neN nC;generalize upd H10 C (.lst (List.replicate cvs.length (.ref z)))=H11 at s11 e11 ⊢;have s811:=s9.trans (s10.trans s11);have t11:Tk H1 H11:=t8.trans s811.tk;have l11:=l8.same s811;have k11:Keep l H H11:=(kk.trans k8).trans s811.keep;have eO11:=s811 _ _ eO;have nOC:O≠C:=Zi (s9.trans s10 _ _ eO) nC
 have nC0:H C=none:=by
  cases e:H C with
  | none=>rfl
  | some ob =>
    have:=(kk.trans k8).trans (s9.trans s10).keep _ _ nCl e
    rw [this] at nC;cases nC
 refine ⟨_,rfl,c,rfl,⟨_,SqT.of (t11 _ _ hc7)⟩,?_⟩;refine Zb0 (n:=pts.length) (fun i σ H2=>Keep C H11 H2∧(∃ x1 x2 x3,σ=[some (.ref l),some (.int 8),some (.ref c),some (.ref p),some (.int Aa),some (.int Ab),some (.int Ac),some (.int Ad),some (.int As),some (.int At),some (.ref O),some (.ref C),x1,x2,x3,none,none])∧∃ us cs,H2 C=some (.lst us)∧Al (IsP H2) us cs∧cs.length=pts.length∧∀ j:Nat,j<i→cs[(o.getD j 0).toNat]? = some ((Aff.mk Aa Ab Ac Ad As At).at (pts.getD j (0,0)))) ⟨Keep.refl _ _,⟨_,_,_,rfl⟩,_,List.replicate cvs.length (0,0),e11,Zqh ⟨z,rfl,s11 _ _ (s10 _ _ e9)⟩ _,by simp [cal.1],fun j hj=>absurd hj (Nat.not_lt_zero _)⟩ (fun i σ H2 hi p=>?_) (fun σ H2 p=>?_) (fun i x σ H2 H3 hi y p=>?_) (fun σ H2 p=>?_)
 · have t2:Tk H11 H2:=Tk.of_keep p.1 e11;exact ⟨cvs,cvs[i]'(by rw [cal.1];exact hi),SqT.of (t2 _ _ (t11 _ _ hc7)),n1_ _⟩
 · have t2:Tk H11 H2:=Tk.of_keep p.1 e11;exact ⟨cvs,SqT.of (t2 _ _ (t11 _ _ hc7)),cal.1⟩
 · obtain ⟨k2,⟨x1,x2,x3,rfl⟩,us,cs,eC,alc,lc,hc⟩:=p;obtain ⟨g,x,rfl,ng,rfl,y1⟩:=y;have t2:Tk H11 H2:=Tk.of_keep k2 e11;have ex:=y1 cvs (SqT.of (t2 _ _ (t11 _ _ hc7)));obtain ⟨pt,ept,b,rfl,hb⟩:=cal.get ex;have hpt:=Zpn (B.bd pt (n6_ ept));generalize gG:upd H2 g (.tup [.int i,.ref b])=H3;obtain ⟨sg,eg⟩:=gen_upd gG ng;have hb3:=sg _ _ (t2 _ _ (t11 _ _ hb));refine ⟨g,_,rfl,SqT.of eg,rfl,_,_,rfl,_,_,rfl,⟨b,_,rfl,SqT.of hb3,rfl,_,_,rfl,_,_,rfl,rfl,rfl,?_⟩⟩;refine ⟨_,rfl,_,rfl,_,_,rfl,rfl,mul4 Wa hpt.1,_,rfl,_,rfl,_,_,rfl,rfl,mul4 Wb hpt.2,_,_,rfl,rfl,_,rfl,_,_,rfl,rfl,?_⟩;refine ⟨_,rfl,_,rfl,_,_,rfl,rfl,mul4 Wc hpt.1,_,rfl,_,rfl,_,_,rfl,rfl,mul4 Wd hpt.2,_,_,rfl,rfl,_,rfl,_,_,rfl,rfl,?_⟩;refine ⟨z2_,fun w nw=>?_⟩;generalize hH4:upd H3 w _=H4;have sw:Same H3 H4:=by (rw [← hH4];exact Same.new nw)
   have ew0:=(congrFun hH4 w).symm;rw [Zc] at ew0;have ew:H4 w=some (.tup [.int (Aa*pt.1+Ab*pt.2+As),.int (Ac*pt.1+Ad*pt.2+At)]):=ew0;clear ew0 hH4;have s24:=sg.trans sw;have eO4:H4 O=some (.lst (o.map V.int)):=s24 _ _ (k2 _ _ nOC eO11);have bo:=CO.bd i hi;have eC4:=s24 _ _ eC;refine ⟨_,rfl,_,rfl,_,rfl,O,_,(i:Int),_,rfl,rfl,SqL.of eO4,o_at CO (Int.natCast_nonneg i) (Int.ofNat_lt.mpr hi),?_⟩;have ulen:us.length=pts.length:=by rw [alc.1,lc]
   refine ⟨C,us,_,(o.getD i 0).toNat,rfl,rfl,eC4,Zp6 bo.1 (by rw [ulen];exact bo.2),?_⟩;have tC:Tk H4 (upd H4 C (.lst (us.set (o.getD i 0).toNat (.ref w)))):=Tk.upd_lst eC4;refine ⟨fun b' o' nb e=>?_,⟨_,_,_,rfl⟩,_,cs.set (o.getD i 0).toNat ((Aff.mk Aa Ab Ac Ad As At).at pt),Zc,?_,by simp [lc],fun j hj=>?_⟩
   · rw [Zh nb];exact s24 _ _ (k2 _ _ nb e)
   · exact Zvg (alc.imp fun v x r=>r.tk (s24.tk.trans tC)) _ ⟨w,rfl,tC _ _ ew⟩
   · rw [List.getElem?_set]
     by_cases hji:j=i
     · subst hji;rw [if_pos rfl,if_pos (by rw [lc];omega),n4_ (l:=pts),ept];rfl
     · rw [if_neg (fun z=>hji (CO.inj j i (by omega) hi (by have b2:=CO.bd j (by omega);omega)))];exact hc j (by omega)
 · obtain ⟨k2,⟨x1,x2,x3,rfl⟩,us,cs,eC,alc,lc,hc⟩:=p;have t2:Tk H11 H2:=Tk.of_keep k2 e11;have t12:=t11.trans t2;have eO2:=k2 _ _ nOC eO11
   have l2:StAt H2 l:=by
    obtain ⟨a',b',c',e,r⟩:=l11;exact ⟨a',b',c',k2 _ _ nCl.symm e,r⟩
   have k02:Keep l H H2:=fun b' o' nb e=>k2 _ _ (Zi e nC0) (k11 _ _ nb e);have hp2:=t12 _ _ hp7;refine ⟨_,rfl,p,rfl,⟨_,SqT.of hp2⟩,fun D nD=>?_⟩;refine lc_T (k:=.t) (vs:=pvs) (fun H v pc=>∃ r,IsI H v r∧(r.Perm (pc.map (oAt o))∧r.Pairwise (·≤·))) (fun H1 H2 v x t r=>let ⟨r',i,j⟩:=r;⟨r',i.tk t,j⟩) pcs (by rw [pal.1]) (by rw [pal.1];have:=B.p4;omega) nD hp2 (fun i w H4 C' hw s4 c'=>?_) (fun H4 vs s4 e4 a4=>?_)
   · obtain ⟨pc,epc,b,rfl,hb⟩:=pal.get hw;have hb4:=s4 _ _ (t12 _ _ hb);obtain ⟨i1,j1,k1,rfl,bi,bj,bk,_⟩:=Zqb (B.pc _ (n6_ epc));refine ⟨_,rfl,b,rfl,⟨_,SqT.of hb4⟩,fun E nE=>?_⟩;refine lc_T (k:=.t) (vs:=[i1,j1,k1].map V.int) RI hRI ([i1,j1,k1].map (oAt o)) (by simp) (by simp) nE hb4 (fun n x H6 C6 hx s6 c6=>?_) (fun H6 us6 s6 e6 a6=>?_)
     · rw [n7_] at hx;obtain ⟨y,ey,rfl⟩:=n19_.mp hx
       have by':0≤y∧y<(pts.length:Int):=by
        have:=n6_ ey
        simp only [n11_,n12_,or_false] at this
        rcases this with rfl|rfl|rfl<;>assumption
       exact ⟨_,rfl,_,rfl,O,_,y,_,rfl,rfl,SqL.of (s6 _ _ (s4 _ _ eO2)),o_at CO by'.1 by'.2,c6 _ _ _ (Same.refl _) (by rw [n7_,ey];rfl) rfl⟩
     · rw [a6.ints] at e6;refine ⟨E,_,rfl,SqL.of e6,by simp,fun L ns' nL pm' so'=>?_⟩;have s7:Same H6 (upd H6 L (.lst (ns'.map V.int))):=Same.new nL;have e7:upd H6 L (.lst (ns'.map V.int)) L=some (.lst (ns'.map V.int)):=Zc;generalize upd H6 L (.lst (ns'.map V.int))=H7' at s7 e7 ⊢;refine ⟨L,_,rfl,.inl ⟨SqL.of e7,fun T' nT=>?_⟩⟩;exact c' _ _ [i1,j1,k1] (s6.trans (s7.trans (Same.new nT))) epc ⟨ns',⟨T',rfl,Zc⟩,pm',so'⟩
   · obtain ⟨kl,klen,kal,kT⟩:=Zl3 a4;have DR:∀ q:List Nat,q.Perm (List.range pcs.length)→Drawn pts pcs (Aff.mk Aa Ab Ac Ad As At) o cs kl q:=fun q hq=>⟨B,hdet,W,CO,lc,hc,klen,fun i hi=>kT i hi,hq⟩;have D0:=DR _ (List.Perm.refl _);have p4:=B.p4;refine ⟨D,vs,kl,3,rfl,SqL.of e4,kal.1,fun i v hv=>?_,D0.knd,by rw [klen];omega,fun k hk=>?_,by decide,fun L q nL qp rise=>?_⟩
     · obtain ⟨k,ek,b,rfl,hb⟩:=kal.get hv;exact ⟨b,k,rfl,ek,hb⟩
     · obtain ⟨n,hn,rfl⟩:=n44_ hk;rw [klen] at hn;obtain ⟨_,_,_,x,y,z,_,e,_⟩:=D0.piece hn
       have:kl[n]=[x,y,z]:=by rw [← e,n4_,n1_ (by rw [klen];exact hn)];rfl
       rw [this];rfl
     · rw [klen] at qp;have D1:=DR q qp;have s5:Same H4 (upd H4 L (.lst (q.map fun i=>vs.getD i .non))):=Same.new nL;have e5:upd H4 L (.lst (q.map fun i=>vs.getD i .non)) L=some (.lst (q.map fun i=>vs.getD i .non)):=Zc;have nLl:L≠l:=(l2.same s4).neN nL;generalize upd H4 L (.lst (q.map fun i=>vs.getD i .non))=H5 at s5 e5 ⊢;have s25:=s4.trans s5;have l5:=l2.same s25;have k05:=k02.trans s25.keep;have qlen:q.length=pcs.length:=by rw [qp.length_eq,n65_]
       refine ⟨_,rfl,L,rfl,⟨_,SqL.of e5⟩,fun E nE=>?_⟩;refine Zm2 (n:=pcs.length) (l:=l) (fun H v (x:Int)=>v=.int x∧1≤x∧x≤9) (fun _ _ _ _ _ r=>r) (by omega) (fun σ=>∃ u,σ=[u,some (.ref l)]) ⟨_,rfl⟩ nE l5 (fun i H6 k6 hi=>⟨_,_,SqL.of (k6 _ _ nLl e5),n1_ (by simp [qlen];exact hi)⟩) (fun H6 k6=>⟨_,SqL.of (k6 _ _ nLl e5),by simp [qlen]⟩) (fun i x σ2 H6 H7' C' hi k6 l6 y o' c'=>?_) (fun H6 ts ys k6 l6 e6 hy a6=>?_)
       · obtain ⟨u,rfl⟩:=o';obtain ⟨rfl,y2⟩:=y;refine ⟨_,rfl,z2_,fun W' nW=>?_⟩;have s8':Same H7' (upd H7' W' (.lst [.int 9,.int 2])):=Same.new nW;have e8':upd H7' W' (.lst [.int 9,.int 2]) W'=some (.lst [.int 9,.int 2]):=Zc;have nWl:W'≠l:=l6.neN nW;generalize upd H7' W' (.lst [.int 9,.int 2])=H8' at s8' e8' ⊢;refine ⟨_,rfl,l,2,rfl,l6.same s8',by decide,Yt (by decide),fun r9 H9' r90 r91 k9 l9=>?_⟩;have hr9:r9=0∨r9=1:=by omega
         have fin:∀ m:Int,0<m→m≤9→Zct [.ref l,.int m] H9' (fun v H=>∃ i j,V.int 1=.int i∧v=.int j∧C' [some x,some (.ref l)] (.int (i+j)) H) E0:=fun m m0 m9=>⟨l,m,rfl,l9,m0,Yt (by show _<18446744073709551616;omega),fun r10 H10' ra rb k10 l10=>⟨_,_,rfl,rfl,c' _ _ _ _ ⟨_,rfl⟩ (s8'.keep.trans (k9.trans k10)) l10 ⟨rfl,by omega,by omega⟩⟩⟩
         rcases hr9 with rfl|rfl
         · exact ⟨W',_,_,_,rfl,rfl,SqL.of (k9 _ _ nWl e8'),rfl,fin 9 (by decide) (by decide)⟩
         · exact ⟨W',_,_,_,rfl,rfl,SqL.of (k9 _ _ nWl e8'),rfl,fin 2 (by decide) (by decide)⟩
       · have ets:ts=ys.map V.int:=by
          refine (Al.ints (ns:=ys) ?_);exact a6.imp fun v x r=>r.1
         refine ⟨E,ts,rfl,.inl ⟨SqL.of e6,fun T' nT=>?_⟩⟩;have s7:Same H6 (upd H6 T' (.tup ts)):=Same.new nT;have e7:upd H6 T' (.tup ts) T'=some (.tup (ys.map V.int)):=by rw [Zc,ets]
         generalize upd H6 T' (.tup ts)=H7' at s7 e7 ⊢;have t57:Tk H5 H7':=(tkS k6 l5).trans s7.tk;have t27:Tk H2 H7':=s25.tk.trans t57;have k07:=k05.trans (k6.trans s7.keep);have l7':=l6.same s7;have nDl:C≠l:=nCl;have eC7:H7' C=some (.lst us):=s7 _ _ (k6 _ _ nCl (s25 _ _ eC));have eL7:H7' L=some (.lst (q.map fun i=>vs.getD i .non)):=s7 _ _ (k6 _ _ nLl e5);refine ⟨_,rfl,C,us,rfl,.inl ⟨SqL.of eC7,fun T1 n1=>?_⟩⟩;generalize gG:upd H7' T1 (.tup us)=G1;obtain ⟨u1,f1⟩:=gen_upd gG n1;refine ⟨_,rfl,L,_,rfl,.inl ⟨SqL.of (u1 _ _ eL7),fun T2 n2=>?_⟩⟩;generalize gG:upd G1 T2 (.tup (q.map fun i=>vs.getD i .non))=G2;obtain ⟨u2,f2⟩:=gen_upd gG n2;have u02:=u1.trans u2;refine ⟨_,rfl,_,rfl,l,10,rfl,l7'.same u02,by decide,Yt (by decide),fun rl G3 rl0 rl1 k3' l3'=>?_⟩;refine ⟨_,rfl,l,9,rfl,l3',by decide,Yt (by decide),fun rm G4 rm0 rm1 k4' l4'=>⟨_,_,rfl,rfl,z2_,fun T4 n4=>?_⟩⟩;generalize gG:upd G4 T4 (.tup [.int rl,.int (1+rm)])=G5;obtain ⟨u5,f5⟩:=gen_upd gG n4;refine ⟨z4_,fun T5 n5=>?_⟩;have u6:Same G5 (upd G5 T5 (.tup [.ref T1,.ref T2,.ref T',.ref T4])):=Same.new n5;have w24:Tk G2 G4:=(tkS k3' (l7'.same u02)).trans (tkS k4' l3');have w26:Tk G2 (upd G5 T5 (.tup [.ref T1,.ref T2,.ref T',.ref T4])):=w24.trans (u5.trans u6).tk;have w76:=u02.tk.trans w26;refine q' _ _ ⟨cs,q.map fun i=>kl.getD i [],ys,rl,1+rm⟩ (k07.trans (u02.keep.trans (k3'.trans (k4'.trans (u5.trans u6).keep)))) (l4'.same (u5.trans u6)) ⟨T5,_,_,_,_,rfl,Zc,⟨T1,us,rfl,w26 _ _ (u2 _ _ f1),alc.imp fun v x r=>r.tk (t27.trans w76)⟩,⟨T2,_,rfl,w26 _ _ f2,?_⟩,⟨T',rfl,w76 _ _ e7⟩,⟨T4,rfl,u6 _ _ f5⟩⟩ (D1.ok rise (by rw [hy]) (fun t ht=>?_) ⟨rl0,by omega⟩ ⟨by omega,by omega⟩) (show (q.map fun i=>kl.getD i []).length≤4 by rw [n5_,qlen];exact p4)
         · refine (Zv1 kal (q:=q) fun i hi=>?_).imp fun v x r=>r.tk (s5.tk.trans (t57.trans w76));rw [klen];exact n26_.mp (qp.mem_iff.mp hi)
         · obtain ⟨i,hi,e⟩:=n44_ ht;obtain ⟨v,_,r⟩:=a6.got (show ys[i]? = some t by rw [n1_ hi,e]);exact r.2
abbrev Zbe:Stmt:=top 48
theorem Zg6 (F:Fun K "_law_same" "_law_same" Zbe f fd):FnOk P w K mg base CX0 1 f fd ["_law_found","_law_due"] Zjf:=by
 have sc:FnScope ["_law_found","_law_due"] ["_law_found","_law_due"] (Ze Zbe):=fsc (by decide +kernel);refine F.ok sc (fun vs H Q E h=>by obtain ⟨a,b,d,rfl,_⟩:=h;rfl) fun cdv A outer s H vs Q E hr h=>?_;obtain ⟨a,b,d,rfl,r1,r2,rp,q⟩:=h;refine' ⟨_,?term,?read⟩
 case term=>refine' @Zg _ _ _ (Zn (Zab Zia (Zk (Zdw hr) rfl T.b_repr Zfj (Za (pv 0) Zb rfl)) (Zk (Zdw hr) rfl T.b_repr Zfj (Za (pv 1) Zb rfl)) (Yx _)))
 refine ⟨_,rfl,a,d,rfl,r1,rp,_,rfl,b,d,rfl,r2,rp,rfl,?_⟩;exact qT rfl q
abbrev Zbd:Stmt:=top 49
theorem Zge (F:Fun K "_law_turn" "_law_turn" Zbd f fd):FnOk P w K mg base CX0 1 f fd ["_law_points","_law_a","_law_b","_law_c"] Zke:=by
 have sc:FnScope ["_law_points","_law_a","_law_b","_law_c","_law_xa","_law_ya","_law_xb","_law_yb","_law_xc","_law_yc"] ["_law_points","_law_a","_law_b","_law_c"] (Ze Zbd):=fsc (by decide +kernel);refine F.ok sc (fun vs H Q E h=>by obtain ⟨v,cs,i,j,k,rfl,_⟩:=h;rfl) fun cdv A outer s H vs Q E hr h=>?_;obtain ⟨v,cs,i,j,k,rfl,⟨a,us,rfl,ha,al⟩,⟨i0,i1⟩,⟨j0,j1⟩,⟨k0,k1⟩,nr,q⟩:=h;have nd:=sc.nd;refine' ⟨_,?term,?read⟩
 case term=>refine' @Zd _ _ _ _ _ ?g1 (Zg (Zn (Zp Y8 (Zp Yd (Zp Y8 (pv 6) (pv 4)) (Zp Y8 (pv 9) (pv 5))) (Zp Yd (Zp Y8 (pv 8) (pv 4)) (Zp Y8 (pv 7) (pv 5))))));case g1=>refine' @Zaz _ _ _ _ _ _ ?g2 ?g3 (by rfl) (by rfl) (by rfl);(case g2=>refine' @Z4 _ _ _ _ _ ?g4;case g4=>refine' @Za _ _ _ _ _ ?g5 ?g6 rfl;(case g5=>refine' @Zw _ _ _ _ _ _ _ Zz (pv 0) (pv 1) (fun _ _=>rfl));case g6=>refine' @Za _ _ _ _ _ ?g7 ?g8 rfl;(case g7=>refine' @Zw _ _ _ _ _ _ _ Zz (pv 0) (pv 2) (fun _ _=>rfl));case g8=>refine' @Za _ _ _ _ _ ?g9 Zb rfl;case g9=>refine' @Zw _ _ _ _ _ _ _ Zz (pv 0) (pv 3) (fun _ _=>rfl));case g3=>refine' @Yj _ _ _ _ _ (3) rfl ?ga (by rfl) (by rfl);case ga=>refine' @Zj _ _ _ _ _ ?gb ?gc (by rfl);(case gb=>refine' @Yj _ _ _ _ _ (2) rfl (Zj (Zm (i:=4) nd rfl (Or.inl rfl)) (Zj (Zm (i:=5) nd rfl (Or.inl rfl)) Zy)) (by rfl) (by rfl));case gc=>refine' @Zj _ _ _ _ _ ?gd ?ge (by rfl);(case gd=>refine' @Yj _ _ _ _ _ (2) rfl (Zj (Zm (i:=6) nd rfl (Or.inl rfl)) (Zj (Zm (i:=7) nd rfl (Or.inl rfl)) Zy)) (by rfl) (by rfl));case ge=>refine' @Zj _ _ _ _ _ ?gf Zy (by rfl);case gf=>refine' @Yj _ _ _ _ _ (2) rfl (Zj (Zm (i:=8) nd rfl (Or.inl rfl)) (Zj (Zm (i:=9) nd rfl (Or.inl rfl)) Zy)) (by rfl) (by rfl)
 obtain ⟨va,ea,pa,rfl,hpa⟩:=Zh5 al i0 i1;obtain ⟨vb,eb,pb,rfl,hpb⟩:=Zh5 al j0 j1;obtain ⟨vc,ec,pc,rfl,hpc⟩:=Zh5 al k0 k1;obtain ⟨⟨a1,a2⟩,a3,a4⟩:=nr _ (Y5 i0 i1);obtain ⟨⟨b1,b2⟩,b3,b4⟩:=nr _ (Y5 j0 j1);obtain ⟨⟨c1,c2⟩,c3,c4⟩:=nr _ (Y5 k0 k1);refine ⟨_,rfl,_,rfl,a,us,i,_,rfl,rfl,SqT.of ha,ea,_,rfl,_,rfl,a,us,j,_,rfl,rfl,SqT.of ha,eb,_,rfl,_,rfl,a,us,k,_,rfl,rfl,SqT.of ha,ec,z3_,fun T nT=>?_⟩;generalize gG:upd H T (.tup [.ref pa,.ref pb,.ref pc])=H1;obtain ⟨s1,e1⟩:=gen_upd gG nT;refine ⟨T,_,rfl,SqT.of e1,rfl,_,_,rfl,pa,_,rfl,SqT.of (s1 _ _ hpa),rfl,_,_,rfl,_,_,rfl,rfl,_,_,rfl,pb,_,rfl,SqT.of (s1 _ _ hpb),rfl,_,_,rfl,_,_,rfl,rfl,_,_,rfl,pc,_,rfl,SqT.of (s1 _ _ hpc),rfl,_,_,rfl,_,_,rfl,rfl,rfl,?_⟩;refine ⟨_,rfl,_,rfl,_,_,rfl,rfl,_,rfl,_,rfl,_,_,rfl,rfl,_,_,rfl,rfl,mul3 (by omega) (by omega),_,rfl,_,rfl,_,_,rfl,rfl,_,rfl,_,rfl,_,_,rfl,rfl,_,_,rfl,rfl,mul3 (by omega) (by omega),_,_,rfl,rfl,?_⟩;exact q _ s1
abbrev Xb:Stmt:=top 50
theorem Zbx (F:Fun K "_law_side_rows" "_law_side_rows" Xb f fd):FnOk P w K mg base CX0 1 f fd ["_law_pieces"] Zjp:=by
 have sc:FnScope ["_law_pieces","_law_found","_law_a","_law_b","_law_c"] ["_law_pieces"] (Ze Xb):=fsc (by decide +kernel);refine F.ok sc (fun vs H Q E h=>by obtain ⟨v,ps,rfl,_⟩:=h;rfl) fun cdv A outer s H vs Q E hr h=>?_;obtain ⟨v,ps,rfl,⟨a,us,rfl,ha,al⟩,h3,h20,q⟩:=h;have nd:=sc.nd;refine' ⟨_,?term,?read⟩
 case term=>refine' @Zd _ _ _ _ _ ?g1 ?g2;(case g1=>refine' @Zs _ _ (1) _ _ _ _ nd rfl (Or.inl rfl) ?g3 (by rfl) (by first|exact Or.inl rfl|exact Or.inr rfl|assumption);case g3=>refine' @Ye _ _ _ _ Zb);case g2=>refine' @Zd _ _ _ _ _ ?g4 (Zg (Zn (pv 1)));case g4=>refine' @Xd _ _ _ _ _ _ _ _ PassesOwn.never rfl (Yy (pv 0)) ?g5 ?g6 (by intro _ ;rfl);(case g5=>refine' @Yj _ _ _ _ _ (3) rfl (Zj (Zm (i:=2) nd rfl (Or.inl rfl)) (Zj (Zm (i:=3) nd rfl (Or.inl rfl)) (Zj (Zm (i:=4) nd rfl (Or.inl rfl)) Zy))) (by rfl) (by rfl));case g6=>refine' @Zg _ _ _ ?g7;case g7=>refine' @Zs _ _ (1) _ _ _ _ nd rfl (Or.inl rfl) ?g8 (by rfl) (by first|exact Or.inl rfl|exact Or.inr rfl|assumption);case g8=>refine' @Zp _ _ _ _ _ _ _ _ Zjn (pv 1) ?g9;case g9=>refine' @Ye _ _ _ _ (Za (Z4 (Za (pv 2) (Za (pv 3) Zb rfl) rfl)) (Za (Z4 (Za (pv 2) (Za (pv 4) Zb rfl) rfl)) (Za (Z4 (Za (pv 3) (Za (pv 4) Zb rfl) rfl)) Zb rfl) rfl) rfl)
 have hl:=al.1;refine ⟨z0_,fun L0 n0=>?_⟩;generalize gG:upd H L0 (.lst [])=H1;obtain ⟨s1,e1⟩:=gen_upd gG n0;refine ⟨_,rfl,a,rfl,⟨_,SqT.of (s1 _ _ ha)⟩,?_⟩;refine Zr3 (xs:=us) (fun n σ H2=>∃ w2 w3 w4 L bl,σ=[some (.ref a),some (.ref L),w2,w3,w4]∧Same H H2∧H L=none∧H2 L=some (.lst (refs bl))∧(∀ x∈bl,tpl H2 x)∧bl.map (·.2)=Zo (ps.take n)) ⟨_,_,_,L0,[],rfl,s1,n0,e1,by simp,by simp [Zo]⟩ ?_ ?_ ?_
 · rintro n σ H2 _ ⟨_,_,_,_,_,_,s2,_⟩
   exact SqT.of (s2 _ _ ha)
 · rintro n x σ H2 hx ⟨w2,w3,w4,L,bl,rfl,s2,nL,eL,tp,ek⟩
   obtain ⟨p',ep,pa,rfl,hp⟩:=al.get hx;obtain ⟨i,j,k,rfl⟩:∃ i j k,p'=[i,j,k]:=⟨_,_,_,Zgu (h3 p' (n6_ ep))⟩;have hn:=Ym ep
   have lb:bl.length≤60:=by
    have:=congrArg List.length ek
    rw [n5_,Xo,n57_] at this;omega
   refine ⟨pa,_,rfl,SqT.of (s2 _ _ hp),rfl,_,_,rfl,_,_,rfl,_,_,rfl,rfl,?_⟩;refine ⟨_,rfl,_,rfl,_,rfl,z2_,?_⟩;intro pb1 nb1;generalize hHb1:upd H2 pb1 _=Hb1;have Sb1:Same H2 Hb1:=by (rw [← hHb1];exact Same.new nb1)
   have Ab1:=(congrFun hHb1 pb1).symm;rw [Zc] at Ab1;clear hHb1;refine ⟨_,rfl,_,rfl,z2_,?_⟩;intro pb2 nb2;generalize hHb2:upd Hb1 pb2 _=Hb2;have Sb2:Same Hb1 Hb2:=by (rw [← hHb2];exact Same.new nb2)
   have Ab2:=(congrFun hHb2 pb2).symm;rw [Zc] at Ab2;clear hHb2;refine ⟨_,rfl,_,rfl,z2_,?_⟩;intro pb3 nb3;generalize hHb3:upd Hb2 pb3 _=Hb3;have Sb3:Same Hb2 Hb3:=by (rw [← hHb3];exact Same.new nb3)
   have Ab3:=(congrFun hHb3 pb3).symm;rw [Zc] at Ab3;clear hHb3;refine ⟨z3_,?_⟩;intro q4 nb4;generalize hHb4:upd Hb3 q4 _=Hb4;have Sb4:Same Hb3 Hb4:=by (rw [← hHb4];exact Same.new nb4)
   have Ab4:=(congrFun hHb4 q4).symm;rw [Zc] at Ab4;clear hHb4;have SS:Same H2 Hb4:=(Sb1.trans (Sb2.trans (Sb3.trans Sb4)));have T1:tpl Hb4 (pb1,[i,j]):=(Sb4 _ _ (Sb3 _ _ (Sb2 _ _ Ab1)));have T2:tpl Hb4 (pb2,[i,k]):=(Sb4 _ _ (Sb3 _ _ Ab2));have T3:tpl Hb4 (pb3,[j,k]):=(Sb4 _ _ Ab3);have TL:Hb4 q4=some (.lst (refs [(pb1,[i,j]),(pb2,[i,k]),(pb3,[j,k])])):=Ab4;generalize Hb4=HB at SS T1 T2 T3 TL ⊢;refine ⟨L,q4,_,_,rfl,rfl,SS _ _ eL,TL,by (have:=sizeLine_eq;rw [n5_,n5_,n18_,n18_,n18_,n69_];omega),fun L2 nL2=>?_⟩;have s6:Same HB (upd HB L2 (.lst (refs bl++refs [(pb1,[i,j]),(pb2,[i,k]),(pb3,[j,k])]))):=Same.new nL2;refine ⟨_,_,_,L2,bl++[(pb1,[i,j]),(pb2,[i,k]),(pb3,[j,k])],rfl,s2.trans (SS.trans s6),Z1 (s2.trans SS) nL2,?_,fun x hx=>?_,?_⟩
   · rw [Zc];exact congrArg (fun z=>some (HO.lst z)) (n45_ ..).symm
   · rcases n28_.mp hx with hx|hx
     · exact s6 _ _ (SS _ _ (tp x hx))
     · simp only [n11_,n12_,or_false] at hx
       rcases hx with rfl|rfl|rfl
       · exact s6 _ _ T1
       · exact s6 _ _ T2
       · exact s6 _ _ T3
   · rw [n45_,ek,List.take_succ,ep,show ps.take n++(some ([i,j,k]:List Int)).toList=ps.take n++[[i,j,k]] from rfl,Zen];rfl
 · rintro σ H2 ⟨w2,w3,w4,L,bl,rfl,s2,nL,eL,tp,ek⟩
   rw [n70_ (by omega)] at ek;exact ⟨_,rfl,q H2 L bl s2 nL eL tp ek⟩
abbrev Xi:Stmt:=top 51
theorem Zg4 (F:Fun K "_law_grid" "_law_grid" Xi f fd) (Ca_:a28_ P w K mg base):FnOk P w K mg base CX0 2 f fd ["_law_state_here","_law_wide","_law_high"] Zmf:=by
 have sc:FnScope ["_law_state_here","_law_wide","_law_high","_law_points","_law_pieces","_law_y","_law_x","_law_a","_law_b","_law_c","_law_d","_law_way","_law_thicks"] ["_law_state_here","_law_wide","_law_high"] (Ze Xi):=fsc (by decide +kernel);refine F.ok sc (fun vs H Q E h=>by obtain ⟨l,w,h',rfl,_⟩:=h;rfl) fun cdv A outer s H vs Q E hr h=>?_;obtain ⟨l,w,h',rfl,hl,w1,w3',h1,h3,q⟩:=h;have nd:=sc.nd;refine' ⟨_,?term,?read⟩
 case term=>refine' @Zd _ _ _ _ _ ?g1 ?g2;(case g1=>refine' @Zmg _ _ (3) (4) _ _ _ _ _ _ _ _ _ _ _ rfl nd rfl rfl (by decide) rfl rfl ?g3 rfl (by rfl);case g3=>refine' @Za _ _ _ _ _ ?g4 ?g5 rfl;(case g4=>refine' @Ye _ _ _ _ Zb);case g5=>refine' @Za _ _ _ _ _ ?g6 Zb rfl;case g6=>refine' @Ye _ _ _ _ Zb);case g2=>refine' @Zd _ _ _ _ _ ?g7 ?g8;(case g7=>refine' @Xd _ _ _ _ _ _ _ _ PassesOwn.never rfl ?g9 (Zm (i:=5) nd rfl (Or.inr rfl)) ?ga (by intro _ ;rfl);(case g9=>refine' @Xk _ _ _ _ _ _ rfl T.b_range (Za (Zp Z7 (pv 2) Zf) Zb rfl) (by rfl));case ga=>refine' @Zg _ _ _ ?gb;case gb=>refine' @Zs _ _ (3) _ _ _ _ nd rfl (Or.inl rfl) ?gc (by rfl) (by first|exact Or.inl rfl|exact Or.inr rfl|assumption);case gc=>refine' @Zp _ _ _ _ _ _ _ _ Zjn (pv 3) ?gd;case gd=>refine' @Y4 _ _ _ _ _ _ _ (["_law_x","_law_y"]) ([none,some 5]) _ _ _ _ _ rfl (Z0 (XN:=["_law_state_here","_law_wide","_law_high","_law_points","_law_pieces","_law_y","_law_x","_law_a","_law_b","_law_c","_law_d","_law_way","_law_thicks"]) (Scope.names (Ze Xi)) rfl rfl rfl (fun _ h=>Zq h) (by decide +kernel) rfl) ?ge (fun _ _ _ _=>pgB 0) (fun _ _ _ _=>Zt) (fun _ _ _ _=>Z4 (Za (Zp Yd Zf (pv 0)) (Za (Zp Yd Zf (pv 1)) Zb rfl) rfl)) (by intro _ ;rfl);case ge=>refine' @Xk _ _ _ _ _ _ rfl T.b_range (Za (Zp Z7 (pv 1) Zf) Zb rfl) (by rfl));case g8=>refine' @Zd _ _ _ _ _ ?gf ?gg;(case gf=>refine' @Xd _ _ _ _ _ _ _ _ PassesOwn.never rfl ?gh (Zm (i:=5) nd rfl (Or.inr rfl)) ?gi (by intro _ ;rfl);(case gh=>refine' @Xk _ _ _ _ _ _ rfl T.b_range (Za (pv 2) Zb rfl) (by rfl));case gi=>refine' @Zg _ _ _ ?gj;case gj=>refine' @Xd _ _ _ _ _ _ _ _ PassesOwn.never rfl ?gk (Zm (i:=6) nd rfl (Or.inl rfl)) ?gl (by intro _ ;rfl);(case gk=>refine' @Xk _ _ _ _ _ _ rfl T.b_range (Za (pv 1) Zb rfl) (by rfl));case gl=>refine' @Zd _ _ _ _ _ ?gm ?gn;(case gm=>refine' @Zs _ _ (7) _ _ _ _ nd rfl (Or.inl rfl) (Zp Z7 (Zp Yd (pv 5) (Zp Z7 (pv 1) Zf)) (pv 6)) (by rfl) (by first|exact Or.inl rfl|exact Or.inr rfl|assumption));case gn=>refine' @Zd _ _ _ _ _ ?go ?gp;(case go=>refine' @Zh8 _ _ (8) (9) (10) _ _ _ _ _ _ _ _ _ _ _ _ _ _ rfl nd rfl rfl rfl (by decide) (by decide) (by decide) rfl rfl rfl (Za (Zp Z7 (pv 7) Zf) (Za (Zp Z7 (Zp Z7 (pv 7) (pv 1)) Zf) (Za (Zp Z7 (Zp Z7 (pv 7) (pv 1)) Zf) Zb rfl) rfl) rfl) rfl (by rfl));case gp=>refine' @Zd _ _ _ _ _ ?gq ?gr;(case gq=>refine' @Zs _ _ (11) _ _ _ _ nd rfl (Or.inl rfl) (Zl Ca_ hr (by decide) rfl (Za (pv 0) (Za Zf Zb rfl) rfl)) (by rfl) (by first|exact Or.inl rfl|exact Or.inr rfl|assumption));case gr=>refine' @Zg _ _ _ ?gs;case gs=>refine' @Zs _ _ (4) _ _ _ _ nd rfl (Or.inl rfl) ?gt (by rfl) (by first|exact Or.inl rfl|exact Or.inr rfl|assumption);case gt=>refine' @Zp _ _ _ _ _ _ _ _ Zjn (pv 4) ?gu;case gu=>refine' @Zw _ _ _ _ _ _ _ Yk ?gv (pv 11) (fun _ _=>rfl);case gv=>refine' @Ye _ _ _ _ ?gw;case gw=>refine' @Za _ _ _ _ _ ?gx ?gy rfl;(case gx=>refine' @Ye _ _ _ _ (Za (Z4 (Za (pv 7) (Za (pv 8) (Za (pv 9) Zb rfl) rfl) rfl)) (Za (Z4 (Za (pv 8) (Za (pv 9) (Za (pv 10) Zb rfl) rfl) rfl)) Zb rfl) rfl));case gy=>refine' @Za _ _ _ _ _ ?gz Zb rfl;case gz=>refine' @Ye _ _ _ _ (Za (Z4 (Za (pv 7) (Za (pv 8) (Za (pv 10) Zb rfl) rfl) rfl)) (Za (Z4 (Za (pv 7) (Za (pv 9) (Za (pv 10) Zb rfl) rfl) rfl)) Zb rfl) rfl));case gg=>refine' @Zd _ _ _ _ _ ?g10 ?g11;(case g10=>refine' @Zs _ _ (12) _ _ _ _ nd rfl (Or.inl rfl) ?g12 (by rfl) (by first|exact Or.inl rfl|exact Or.inr rfl|assumption);case g12=>refine' @Z9 _ _ _ _ _ _ _ _ _ Z3 rfl T.b_tuple Y6 ?g13 (by decide) (by decide) (by rfl) (by rfl);case g13=>refine' @Za _ _ _ _ _ ?g14 Zb rfl;case g14=>refine' @Y4 _ _ _ _ _ _ _ (["_law_piece","_law_state_here"]) ([none,some 0]) _ _ _ _ _ rfl (Z0 (XN:=["_law_state_here","_law_wide","_law_high","_law_points","_law_pieces","_law_y","_law_x","_law_a","_law_b","_law_c","_law_d","_law_way","_law_thicks"]) (Scope.names (Ze Xi)) rfl rfl rfl (fun _ h=>Zq h) (by decide +kernel) rfl) (Yn (pv 4)) (fun _ _ _ _=>pgB 0) (fun _ _ _ _=>Zt) (fun _ _ _ _=>Zp Z7 Zf (Zl Ca_ hr (by decide) rfl (Za (pv 1) (Za Zf Zb rfl) rfl))) (by intro _ ;rfl));case g11=>refine' @Zg _ _ _ ?g15;case g15=>refine' @Zn _ _ _ _ ?g16;case g16=>refine' @Z4 _ _ _ _ _ ?g17;case g17=>refine' @Za _ _ _ _ _ (Z9 Z3 rfl T.b_tuple Y6 (Za (pv 3) Zb rfl)) (Za (Z9 Z3 rfl T.b_tuple Y6 (Za (Zk Zcb rfl T.b_sorted Yi (Za (pv 4) Zb rfl)) Zb rfl)) (Za (pv 12) (Za (Z4 (Za (Zl Ca_ hr (by decide) rfl (Za (pv 0) (Za Zf Zb rfl) rfl)) (Za (Zp Z7 Zf (Zl Ca_ hr (by decide) rfl (Za (pv 0) (Za Zf Zb rfl) rfl))) Zb rfl) rfl)) Zb rfl) rfl) rfl) rfl
 have w4:w≤4:=by omega
 refine ⟨z0_,fun C0 nC=>?_⟩;have s1:Same H (upd H C0 (.lst [])):=Same.new nC;have e1:upd H C0 (.lst []) C0=some (.lst []):=Zc;have nCl:C0≠l:=hl.neN nC;generalize upd H C0 (.lst [])=H1 at s1 e1 ⊢;refine ⟨z0_,fun D0 nD=>?_⟩;have s2:Same H1 (upd H1 D0 (.lst [])):=Same.new nD;have e2:upd H1 D0 (.lst []) D0=some (.lst []):=Zc;have nDl:D0≠l:=(hl.same s1).neN nD;have e1':=s2 _ _ e1;generalize upd H1 D0 (.lst [])=H2 at s2 e2 e1' ⊢;have s02:=s1.trans s2;refine ⟨_,_,rfl,?_⟩;refine ⟨_,rfl,_,_,rfl,rfl,_,rfl,by omega,by omega,?_⟩;rw [show ((h':Int)+1).toNat=h'+1 by omega];refine Zal (fun n σ H3=>∃ (w5:Option V) (C:Addr) (cv:List V),σ=[some (.ref l),some (.int w),some (.int h'),some (.ref C),some (.ref D0),w5,none,none,none,none,none,none,none]∧Same H2 H3∧C≠l∧H3 C=some (.lst cv)∧Al (IsP H3) cv (gPs w n)) ⟨_,C0,[],rfl,Same.refl _,nCl,e1',by unfold gPs;simp only [Nat.zero_mul,List.range_zero,List.map_nil];exact .nil⟩ ?_ ?_
 · rintro n σ H3 hn ⟨w5,C,cv,rfl,s3,nC',eC,al⟩
   have cvl:=al.1;have gl:(gPs w n).length=n*(w+1):=by simp [gPs]
   have hn5:n*(w+1)≤4*5:=Nat.mul_le_mul (by omega) (by omega);refine ⟨_,rfl,_,rfl,_,_,rfl,rfl,_,rfl,by omega,by omega,fun D nD'=>?_⟩;rw [show ((w:Int)+1).toNat=w+1 by omega];refine lc_R (n:=w+1) IsP (fun _ _ _ _ t h=>h.tk t) ((List.range (w+1)).map fun (x:Nat)=>((7*(x:Int),9*(n:Int)):Pnt)) (by simp) (by omega) nD' (fun i H4 C4 hi s4 c=>?_) (fun H4 us4 s4 e4 a4=>?_)
   · refine ⟨_,rfl,_,_,rfl,rfl,mul3 (by decide) (by omega),_,rfl,_,_,rfl,rfl,mul3 (by decide) (by omega),z2_,fun t nt=>?_⟩;refine c _ _ (7*(i:Int),9*(n:Int)) (Same.new nt) (by rw [n7_,List.getElem?_range hi];rfl) ⟨t,rfl,?_⟩;rw [Zc];show some (HO.tup [V.int (7*(0+(i:Int))),V.int (9*(0+(n:Int)))])=_
     rw [Int.zero_add,Int.zero_add];rfl
   have u4l:=a4.1;simp only [n5_,n65_] at u4l;refine ⟨C,D,_,_,rfl,rfl,s4 _ _ eC,e4,by have:=sizeLine_eq;omega,fun C2 nC2=>?_⟩;have s5:Same H4 (upd H4 C2 (.lst (cv++us4))):=Same.new nC2;have st4:StAt H4 l:=((hl.same s02).same s3).same s4;refine ⟨_,C2,cv++us4,rfl,s3.trans (s4.trans s5),st4.neN nC2,Zc,?_⟩;rw [Zo5];exact Zqn ((al.imp fun v x r=>r.tk s4.tk).imp fun v x r=>r.tk s5.tk) (a4.imp fun v x r=>r.tk s5.tk)
 rintro σ H3 ⟨w5,C,cv,rfl,s3,nC',eC,al⟩
 have st3:=(hl.same s02).same s3;have k03:Keep l H H3:=(s02.trans s3).keep;have eD3:=s3 _ _ e2;clear s02 e1' e2 s2 e1 s1 nC nD;refine ⟨_,rfl,_,rfl,by omega,by omega,?_⟩;rw [show ((h':Int)).toNat=h' by omega];refine Zal (fun n σ H4=>∃ (w5 w6 w7 w8 w9 w10 w11:Option V) (D:Addr) (pw:List V) (f':Nat→Nat),σ=[some (.ref l),some (.int w),some (.int h'),some (.ref C),some (.ref D),w5,w6,w7,w8,w9,w10,w11,none]∧Keep l H3 H4∧StAt H4 l∧D≠l∧H4 D=some (.lst pw)∧(∀ k,f' k=0∨f' k=1)∧Al (IsI H4) pw (gU w f' (n*w))) ⟨_,_,_,_,_,_,_,D0,[],fun _=>0,rfl,Keep.refl _ _,st3,nDl,eD3,fun _=>.inl rfl,by unfold gU;simp only [Nat.zero_mul,Nat.mul_zero,List.range_zero,List.map_nil];exact .nil⟩ ?_ ?_
 · rintro n σ H4 hn ⟨w5,w6,w7,w8,w9,w10,w11,D,pw,f',rfl,k4,st4,nDl',eD,hf,al4⟩
   refine ⟨_,rfl,_,rfl,by omega,by omega,?_⟩;rw [show ((w:Int)).toNat=w by omega];refine Zal (fun m σ H4=>∃ (w6 w7 w8 w9 w10 w11:Option V) (D:Addr) (pw:List V) (f':Nat→Nat),σ=[some (.ref l),some (.int w),some (.int h'),some (.ref C),some (.ref D),some (.int (0+n)),w6,w7,w8,w9,w10,w11,none]∧Keep l H3 H4∧StAt H4 l∧D≠l∧H4 D=some (.lst pw)∧(∀ k,f' k=0∨f' k=1)∧Al (IsI H4) pw (gU w f' (n*w+m))) ⟨_,_,_,_,_,_,D,pw,f',rfl,k4,st4,nDl',eD,hf,al4⟩ ?_ ?_
   · clear k4 st4 nDl' eD hf al4 D pw f';rintro m σ H4 hm ⟨w6,w7,w8,w9,w10,w11,D,pw,f',rfl,k4,st4,nDl',eD,hf,al4⟩
     have pwl:=al4.1;have ul:(gU w f' (n*w+m)).length=2*(n*w+m):=by simp [gU]
     have nw:n*w≤3*4:=Nat.mul_le_mul (by omega) (by omega);refine ⟨_,rfl,_,rfl,_,_,rfl,rfl,_,_,rfl,rfl,mul3 (by omega) (by omega),_,rfl,_,_,rfl,rfl,?_⟩;refine ⟨_,rfl,_,_,rfl,rfl,_,rfl,_,rfl,_,_,rfl,rfl,_,_,rfl,rfl,_,rfl,_,rfl,_,_,rfl,rfl,_,_,rfl,rfl,_,_,_,rfl,?_⟩;refine ⟨_,rfl,l,2,rfl,st4,by decide,Yt (by decide),fun r H5 r0 r1 k5 st5=>?_⟩;have eD5:=k5 _ _ nDl' eD;have al5:Al (IsI H5) pw (gU w f' (n*w+m)):=al4.imp fun v x r=>r.tk (tkS k5 st4)
     have ea:((0:Int)+(n:Int))*((w:Int)+1)+(0+(m:Int))=((n*(w+1)+m:Nat):Int):=by
      rw [Int.zero_add,Int.zero_add];push_cast;rfl
     rw [ea];refine ⟨_,rfl,_,rfl,_,rfl,_,rfl,z3_,?_⟩;intro p1' nb1;generalize hHb1:upd H5 p1' _=Hb1;have Sb1:Same H5 Hb1:=by (rw [← hHb1];exact Same.new nb1)
     have Ab1:=(congrFun hHb1 p1').symm;rw [Zc] at Ab1;clear hHb1;have stb1:=(st5).same Sb1;refine ⟨_,rfl,_,rfl,_,rfl,z3_,?_⟩;intro p2' nb2;generalize hHb2:upd Hb1 p2' _=Hb2;have Sb2:Same Hb1 Hb2:=by (rw [← hHb2];exact Same.new nb2)
     have Ab2:=(congrFun hHb2 p2').symm;rw [Zc] at Ab2;clear hHb2;have stb2:=(stb1).same Sb2;refine ⟨z2_,?_⟩;intro q1' nb3;generalize hHb3:upd Hb2 q1' _=Hb3;have Sb3:Same Hb2 Hb3:=by (rw [← hHb3];exact Same.new nb3)
     have Ab3:=(congrFun hHb3 q1').symm;rw [Zc] at Ab3;clear hHb3;have stb3:=(stb2).same Sb3;refine ⟨_,rfl,_,rfl,_,rfl,z3_,?_⟩;intro p3' nb4;generalize hHb4:upd Hb3 p3' _=Hb4;have Sb4:Same Hb3 Hb4:=by (rw [← hHb4];exact Same.new nb4)
     have Ab4:=(congrFun hHb4 p3').symm;rw [Zc] at Ab4;clear hHb4;have stb4:=(stb3).same Sb4;refine ⟨_,rfl,_,rfl,_,rfl,z3_,?_⟩;intro p4' nb5;generalize hHb5:upd Hb4 p4' _=Hb5;have Sb5:Same Hb4 Hb5:=by (rw [← hHb5];exact Same.new nb5)
     have Ab5:=(congrFun hHb5 p4').symm;rw [Zc] at Ab5;clear hHb5;have stb5:=(stb4).same Sb5;refine ⟨z2_,?_⟩;intro q2' nb6;generalize hHb6:upd Hb5 q2' _=Hb6;have Sb6:Same Hb5 Hb6:=by (rw [← hHb6];exact Same.new nb6)
     have Ab6:=(congrFun hHb6 q2').symm;rw [Zc] at Ab6;clear hHb6;have stb6:=(stb5).same Sb6;refine ⟨z2_,?_⟩;intro o' nb7;generalize hHb7:upd Hb6 o' _=Hb7;have Sb7:Same Hb6 Hb7:=by (rw [← hHb7];exact Same.new nb7)
     have Ab7:=(congrFun hHb7 o').symm;rw [Zc] at Ab7;clear hHb7;have stb7:=(stb6).same Sb7;have SB:Same H5 Hb7:=(Sb1.trans (Sb2.trans (Sb3.trans (Sb4.trans (Sb5.trans (Sb6.trans Sb7))))));have B1:=(Sb7 _ _ (Sb6 _ _ (Sb5 _ _ (Sb4 _ _ (Sb3 _ _ (Sb2 _ _ Ab1))))));have B2:=(Sb7 _ _ (Sb6 _ _ (Sb5 _ _ (Sb4 _ _ (Sb3 _ _ Ab2)))));have B3:=(Sb7 _ _ (Sb6 _ _ (Sb5 _ _ Ab4)));have B4:=(Sb7 _ _ (Sb6 _ _ Ab5));have BL1:=(Sb7 _ _ (Sb6 _ _ (Sb5 _ _ (Sb4 _ _ Ab3))));have BL2:=(Sb7 _ _ Ab6);have BO:=Ab7;have stB:=stb7;generalize Hb7=HB at SB B1 B2 B3 B4 BL1 BL2 BO stB ⊢;dsimp only at B1 B3 B4;rw [ea] at B1 B3 B4;have hk:∀ z:Nat,(z=0∨z=1)→∀ i,i<n*w+m→(fun i=>if i=n*w+m then z else f' i) i=f' i:=fun z _ i hi=>if_neg (by omega)
     have hz:∀ z:Nat,(z=0∨z=1)→∀ k,(fun i=>if i=n*w+m then z else f' i) k=0∨(fun i=>if i=n*w+m then z else f' i) k=1:=fun z hz k=>by
      show (if k=n*w+m then z else f' k)=0∨(if k=n*w+m then z else f' k)=1
      split
      · exact hz
      · exact hf k
     have fin:∀ (z:Nat) (hz':z=0∨z=1) (v1 v2:V),IsI HB v1 (gPc w (n*w+m) z 0)→IsI HB v2 (gPc w (n*w+m) z 1)→∀ D2,HB D2=none→∃ f'':Nat→Nat,(∀ k,f'' k=0∨f'' k=1)∧Al (IsI (upd HB D2 (.lst (pw++[v1,v2])))) (pw++[v1,v2]) (gU w f'' (n*w+(m+1))):=fun z hz' v1 v2 i1 i2 D2 nD2=>by
      have tk:Tk HB (upd HB D2 (.lst (pw++[v1,v2]))):=(Same.new nD2).tk;refine ⟨fun i=>if i=n*w+m then z else f' i,hz z hz',?_⟩;rw [← Nat.add_assoc,Zsl (hk z hz')];refine Zqn ((al5.imp fun v x r=>r.tk SB.tk).imp fun v x r=>r.tk tk) ?_;show Al _ _ [gPc w (n*w+m) (if n*w+m=n*w+m then z else f' (n*w+m)) 0,gPc w (n*w+m) (if n*w+m=n*w+m then z else f' (n*w+m)) 1]
      rw [if_pos rfl];exact .cons (i1.tk tk) (.cons (i2.tk tk) .nil)
     have hr:r=0∨r=1:=by omega
     rcases hr with rfl|rfl
     · refine ⟨_,rfl,o',_,0,_,rfl,rfl,SqL.of BO,rfl,D,q1',_,_,rfl,rfl,SB _ _ eD5,BL1,by have:=sizeLine_eq;simp;omega,fun D2 nD2=>?_⟩;obtain ⟨f'',hf'',al''⟩:=fin 0 (.inl rfl) (.ref p1') (.ref p2') ⟨p1',rfl,by rw [Zjy hm];exact B1⟩ ⟨p2',rfl,by rw [Zjy hm];exact B2⟩ D2 nD2;exact ⟨_,_,_,_,_,_,D2,_,f'',rfl,(k4.trans (k5.trans SB.keep)).trans (Keep.new nD2),stB.new nD2,stB.neN nD2,Zc,hf'',al''⟩
     · refine ⟨_,rfl,o',_,1,_,rfl,rfl,SqL.of BO,rfl,D,q2',_,_,rfl,rfl,SB _ _ eD5,BL2,by have:=sizeLine_eq;simp;omega,fun D2 nD2=>?_⟩;obtain ⟨f'',hf'',al''⟩:=fin 1 (.inr rfl) (.ref p3') (.ref p4') ⟨p3',rfl,by rw [Zjy hm];exact B3⟩ ⟨p4',rfl,by rw [Zjy hm];exact B4⟩ D2 nD2;exact ⟨_,_,_,_,_,_,D2,_,f'',rfl,(k4.trans (k5.trans SB.keep)).trans (Keep.new nD2),stB.new nD2,stB.neN nD2,Zc,hf'',al''⟩
   · rintro σ H5 ⟨w6,w7,w8,w9,w10,w11,D,pw,f',rfl,k5,st5,nDl',eD,hf,al5⟩
     exact ⟨_,_,_,_,_,_,_,D,pw,f',rfl,k5,st5,nDl',eD,hf,by rw [Nat.succ_mul];exact al5⟩
 rintro σ H4 ⟨w5,w6,w7,w8,w9,w10,w11,D,pw,f',rfl,k4,st4,nDl',eD,hf,al4⟩
 rw [show gU w f' (h'*w)=gKl w h' f' by unfold gU gKl;rw [Nat.mul_comm h' w]] at al4;have ww:=Zoc (w:=w) (h:=h') ⟨w1,w4⟩ ⟨h1,h3⟩;have kll:(gKl w h' f').length=2*(w*h'):=by simp [gKl]
 have pwl:=al4.1;have eC4:=k4 _ _ nC' eC;have al3:Al (IsP H4) cv (gCs w h'):=al.imp fun v x r=>r.tk (tkS k4 st3);have k04:=k03.trans k4;refine ⟨_,rfl,D,rfl,⟨_,SqL.of eD⟩,fun E nE=>?_⟩;refine Zm2 (n:=pw.length) (l:=l) (fun H v (x:Int)=>v=.int x∧1≤x∧x≤9) (fun _ _ _ _ _ r=>r) (by omega) (fun σ=>∃ u,σ=[u,some (.ref l)]) ⟨_,rfl⟩ nE st4 (fun i H6 k6 hi=>⟨_,_,SqL.of (k6 _ _ nDl' eD),n1_ hi⟩) (fun H6 k6=>⟨_,SqL.of (k6 _ _ nDl' eD),n10_ _⟩) (fun i x σ2 H6 H7' C' hi k6 l6 y o'' c'=>?_) (fun H6 ts ys k6 l6 e6 hy a6=>?_)
 · obtain ⟨u,rfl⟩:=o'';obtain ⟨rfl,y2⟩:=y;exact ⟨_,rfl,l,9,rfl,l6,by decide,Yt (by decide),fun r9 H9' r90 r91 k9 l9=>⟨_,_,rfl,rfl,c' _ _ _ _ ⟨_,rfl⟩ k9 l9 ⟨rfl,by omega,by omega⟩⟩⟩
 have ets:ts=ys.map V.int:=(Al.ints (ns:=ys) (a6.imp fun v x r=>r.1));subst ets;refine ⟨E,_,rfl,.inl ⟨SqL.of e6,fun T' nT=>?_⟩⟩;generalize gG:upd H6 T' (.tup (ys.map V.int))=H7;obtain ⟨s7,e7⟩:=gen_upd gG nT;have k47:=k6.trans s7.keep;have t47:Tk H4 H7:=(tkS k6 st4).trans s7.tk;have st7:=l6.same s7;refine ⟨_,rfl,C,cv,rfl,.inl ⟨SqL.of (k47 _ _ nC' eC4),fun T1 n1=>?_⟩⟩;generalize gG:upd H7 T1 (.tup cv)=G1;obtain ⟨u1,f1⟩:=gen_upd gG n1;have t41:=t47.trans u1.tk;have eD1:=u1 _ _ (k47 _ _ nDl' eD);have al1:Al (IsI G1) pw (gKl w h' f'):=al4.imp fun v x r=>r.tk t41;refine ⟨_,rfl,D,pw,gKl w h' f',3,rfl,SqL.of eD1,pwl,fun i v hv=>?_,Zt0 ⟨w1,w4⟩ ⟨h1,h3⟩ hf,by omega,fun k hk=>?_,by decide,fun L qq nL qp pws=>?_⟩
 · obtain ⟨k,ek,b',rfl,hb⟩:=al1.get hv;exact ⟨b',k,rfl,ek,hb⟩
 · obtain ⟨i,_,rfl⟩:=n29_.mp hk;rfl
 generalize gG:upd G1 L (.lst (qq.map fun i=>pw.getD i .non))=G2;obtain ⟨u2,f2⟩:=gen_upd gG nL;refine ⟨L,_,rfl,.inl ⟨SqL.of f2,fun T2 n2=>?_⟩⟩;generalize gG:upd G2 T2 (.tup (qq.map fun i=>pw.getD i .non))=G3;obtain ⟨u3,f3⟩:=gen_upd gG n2;have u13:=u2.trans u3;have u73:=u1.trans u13;have st3':=st7.same u73;refine ⟨_,rfl,_,rfl,l,10,rfl,st3',by decide,Yt (by decide),fun rl G4 rl0 rl1 k4' l4'=>?_⟩;refine ⟨_,rfl,l,9,rfl,l4',by decide,Yt (by decide),fun rm G5 rm0 rm1 k5' l5'=>⟨_,_,rfl,rfl,z2_,fun T4 n4=>?_⟩⟩;generalize gG:upd G5 T4 (.tup [.int rl,.int (1+rm)])=G6;obtain ⟨u5,f5⟩:=gen_upd gG n4;refine ⟨z4_,fun T5 n5=>?_⟩;generalize gG:upd G6 T5 (.tup [.ref T1,.ref T2,.ref T',.ref T4])=G7;obtain ⟨u6,f6⟩:=gen_upd gG n5;have t37:Tk G3 G7:=((tkS k4' st3').trans (tkS k5' l4')).trans (u5.trans u6).tk;have t17:=u13.tk.trans t37;have t77:=u1.tk.trans t17;have ql:qq.length=pw.length:=by rw [qp.length_eq,n65_,pwl]
 refine q G7 (.ref T5) ⟨gCs w h',qq.map fun i=>(gKl w h' f').getD i [],ys,rl,1+rm⟩ (k04.trans (k47.trans (u73.keep.trans (k4'.trans (k5'.trans (u5.trans u6).keep))))) (l5'.same (u5.trans u6)) ⟨T5,_,_,_,_,rfl,f6,⟨T1,cv,rfl,t17 _ _ f1,(al3.imp fun v x r=>r.tk (t47.trans t77))⟩,⟨T2,_,rfl,t37 _ _ f3,?_⟩,⟨T',rfl,t77 _ _ e7⟩,⟨T4,rfl,u6 _ _ f5⟩⟩ (Zsb ⟨w1,w4⟩ ⟨h1,h3⟩ hf qp pws (by rw [hy,ql]) (fun t ht=>?_) ⟨by omega,by omega⟩ ⟨by omega,by omega⟩) ?_
 · refine ⟨by simp,fun i v x e1 e2=>?_⟩;rw [n7_] at e1 e2;obtain ⟨j,ej,rfl⟩:=n19_.mp e1;rw [ej] at e2;cases e2
   have hj:j<(gKl w h' f').length:=n26_.mp (qp.mem_iff.mp (n6_ ej));have hj':j<pw.length:=by omega
   show IsI G7 (pw.getD j .non) ((gKl w h' f').getD j [])
   rw [n4_,n1_ hj',n4_,n1_ hj];exact (al1.2 j _ _ (n1_ hj') (n1_ hj)).tk t17
 · obtain ⟨i,hi,e⟩:=n44_ ht;obtain ⟨v,_,r⟩:=a6.got (show ys[i]? = some t by rw [n1_ hi,e]);exact r.2
 · show (qq.map _).length≤18
   rw [n5_,ql,pwl,kll]
   have:=Nat.mul_le_mul w3' h3
   omega
abbrev Xe:Stmt:=top 52
theorem Zdl (F:Fun K "_law_shares" "_law_shares" Xe f fd):FnOk P w K mg base CX0 1 f fd ["_law_one","_law_other"] Zfz:=by
 have sc:FnScope ["_law_one","_law_other"] ["_law_one","_law_other"] (Ze Xe):=fsc (by decide +kernel);refine F.ok sc (fun vs H Q E h=>by obtain ⟨v,u,p,q',rfl,_⟩:=h;rfl) fun cdv A outer s H vs Q E hr h=>?_;obtain ⟨v,u,p,q',rfl,⟨a,rfl,ha⟩,⟨b,rfl,hb⟩,h3,q⟩:=h;refine' ⟨_,?term,?read⟩
 case term=>refine' @Zg _ _ _ ?g1;case g1=>refine' @Zn _ _ _ _ ?g2;case g2=>refine' @Zab _ _ _ _ _ _ _ _ Zia ?g3 Zf (Yx _);case g3=>refine' @Zk _ _ _ _ _ _ _ _ _ Zr rfl T.b_len Xc ?g4 (by decide) (by decide) (by rfl) (by rfl);case g4=>refine' @Za _ _ _ _ _ ?g5 Zb rfl;case g5=>refine' @Y4 _ _ _ _ _ _ _ (["_law_corner","_law_other"]) ([none,some 1]) _ _ _ _ _ rfl (Z0 (XN:=["_law_one","_law_other"]) (Scope.names (Ze Xe)) rfl rfl rfl (fun _ h=>Zq h) (by decide +kernel) rfl) (Yy (pv 0)) (fun _ _ _ _=>pgB 0) (fun _ _ _ _=>X9 (Xa (Zll K rfl) (pv 0) (pv 1) rfl)) (fun _ _ _ _=>pv 0) (by intro _ ;rfl)
 refine ⟨_,rfl,a,rfl,⟨_,SqT.of ha⟩,fun D nD=>?_⟩;refine lc_F (k:=.t) (vs:=p.map V.int) RI hRI (fun i=>(p[i]?).filter fun x=>decide (x∈q')) (by rw [n5_];omega) nD ha (fun i w H2 C N hw s2 c n=>?_) (fun H2 us s2 e2 a2=>?_)
 · rw [n7_] at hw;obtain ⟨x,ex,rfl⟩:=n19_.mp hw;refine ⟨_,rfl,_,rfl,b,_,rfl,.inr (SqT.of (s2 _ _ hb)),rfl,by rw [List.all_map];exact n27_.mpr fun _ _=>rfl,_,rfl,?_⟩;rw [Zkb]
   by_cases hm:x∈q'
   · rw [n40_ hm];exact iteT ⟨_,rfl,c _ _ x (Same.refl _) (by rw [ex];simp [hm]) rfl⟩
   · rw [n35_ hm];exact iteF (n _ (Same.refl _) (by rw [ex];simp [hm]))
 · rw [n5_,Yh _ _ _ (n10_ _),n62_] at a2;have hl:=a2.1;refine ⟨D,_,rfl,.inl (SqL.of e2),rfl,?_⟩;rw [hl]
   have e:decide (V.int (((p.filter fun x=>decide (x∈q')).length:Nat):Int)=V.int 2)=decide (shN p q'=2):=by
    rw [decide_eq_decide];show _↔(p.filter fun x=>decide (x∈q')).length=2
    constructor
    · intro z;injection z with z;omega
    · intro z;rw [z];rfl
   rw [e];exact q _ s2
abbrev Y2:Stmt:=top 53
theorem Zhi (F:Fun K "_law_lots" "_law_lots" Y2 f fd) (Ct_:a31_ P w K mg base):FnOk P w K mg base CX0 2 f fd ["_law_pieces"] Zlx:=by
 have sc:FnScope ["_law_pieces","_law_lots_here","_law_number","_law_piece","_law_near"] ["_law_pieces"] (Ze Y2):=fsc (by decide +kernel);refine F.ok sc (fun vs H Q E h=>by obtain ⟨v,ps,rfl,_⟩:=h;rfl) fun cdv A outer s H vs Q E hr h=>?_;obtain ⟨v,ps,rfl,⟨a,us,rfl,ha,al⟩,ok,q⟩:=h;have nd:=sc.nd;refine' ⟨_,?term,?read⟩
 case term=>refine' @Zd _ _ _ _ _ ?g1 ?g2;(case g1=>refine' @Zs _ _ (1) _ _ _ _ nd rfl (Or.inl rfl) ?g3 (by rfl) (by first|exact Or.inl rfl|exact Or.inr rfl|assumption);case g3=>refine' @Ye _ _ _ _ Zb);case g2=>refine' @Zd _ _ _ _ _ ?g4 ?g5;(case g4=>refine' @Xd _ _ _ _ _ _ _ _ PassesOwn.never rfl ?g6 ?g7 ?g8 (by intro _ ;rfl);(case g6=>refine' @Zeh _ _ _ _ .t _ _ _ _ rfl T.b_enumerate (Za (pv 0) Zb rfl) (by rfl));(case g7=>refine' @Yj _ _ _ _ _ (2) rfl (Zj (Zm (i:=2) nd rfl (Or.inl rfl)) (Zj (Zm (i:=3) nd rfl (Or.inr rfl)) Zy)) (by rfl) (by rfl));case g8=>refine' @Zd _ _ _ _ _ ?g9 ?ga;(case g9=>refine' @Zs _ _ (4) _ _ _ _ nd rfl (Or.inr rfl) ?gb (by rfl) (by first|exact Or.inl rfl|exact Or.inr rfl|assumption);case gb=>refine' @Y4 _ _ _ _ _ _ _ (["_law_lot","_law_pieces","_law_piece"]) ([none,some 0,some 3]) _ _ _ _ _ rfl (Z0 (XN:=["_law_pieces","_law_lots_here","_law_number","_law_piece","_law_near"]) (Scope.names (Ze Y2)) rfl rfl rfl (fun _ h=>Zq h) (by decide +kernel) rfl) (Yn (pv 1)) (fun _ _ _ _=>pgB 0) (fun _ _ _ _=>X9 (Xa (Zr8 Zic (hq1 hr)) (Y4 (N:=["_law_at","_law_pieces","_law_piece"]) (fr:=[none,some 1,some 2]) rfl (Z0 (XN:=["_law_lot","_law_pieces","_law_piece"]) (relN _ (Scope.names (Ze Y2))) rfl rfl rfl (fun _ h=>Zgj (by decide +kernel) h) (by decide +kernel) rfl) (Zph K rfl (pv 0)) (fun _ _ _ _=>pgB 0) (fun _ _ _ _=>X9 (Zof K rfl (Zl Ct_ hr (by decide) rfl (Za (Zw (Zh1 K rfl) (pv 1) (pv 0) (fun _ _=>rfl)) (Za (pv 2) Zb rfl) rfl)) (fun _=>rfl))) (fun _ _ _ _=>pv 0)) (Ye Zb) (Yx _))) (fun _ _ _ _=>pv 0) (by intro _ ;rfl));case ga=>refine' @Zg _ _ _ ?gc;case gc=>refine' @Zs _ _ (1) _ _ _ _ nd rfl (Or.inl rfl) ?gd (by rfl) (by first|exact Or.inl rfl|exact Or.inr rfl|assumption);case gd=>refine' @Zp _ _ _ _ _ _ _ _ Zjn ?ge ?gf;(case ge=>refine' @Y4 _ _ _ _ _ _ _ (["_law_lot","_law_near"]) ([none,some 4]) _ _ _ _ _ rfl (Z0 (XN:=["_law_pieces","_law_lots_here","_law_number","_law_piece","_law_near"]) (Scope.names (Ze Y2)) rfl rfl rfl (fun _ h=>Zq h) (by decide +kernel) rfl) (Yn (pv 1)) (fun _ _ _ _=>pgB 0) (fun _ _ _ _=>X9 (Xa (Zmj Zt2 Zsz (hq2 hr)) (pv 0) (pv 1) rfl)) (fun _ _ _ _=>pv 0) (by intro _ ;rfl));case gf=>refine' @Ye _ _ _ _ ?gg;case gg=>refine' @Za _ _ _ _ _ ?gh Zb rfl;case gh=>refine' @Zk _ _ _ _ _ _ _ _ _ Zb5 rfl T.b_sorted Yi ?gi (by decide) (by decide) (by rfl) (by rfl);case gi=>refine' @Za _ _ _ _ _ ?gj Zb rfl;case gj=>refine' @Zk _ _ _ _ _ _ _ _ _ (Zmb rfl) rfl T.b_sum Zma ?gk (by decide) (by decide) (by rfl) (by rfl);case gk=>refine' @Za _ _ _ _ _ (pv 4) ?gl rfl;case gl=>refine' @Za _ _ _ _ _ ?gm Zb rfl;case gm=>refine' @Ye _ _ _ _ (Za (pv 2) Zb rfl));case g5=>refine' @Zg _ _ _ ?gn;case gn=>refine' @Zn _ _ _ _ ?go;case go=>refine' @Zk _ _ _ _ _ _ _ _ _ Zaj rfl T.b_sorted Yi ?gp (by decide) (by decide) (by rfl) (by rfl);case gp=>refine' @Za _ _ _ _ _ ?gq Zb rfl;case gq=>refine' @Y4 _ _ _ _ _ _ _ (["_law_lot"]) ([none]) _ _ _ _ _ rfl (Yv (by decide) rfl (by decide) rfl rfl) (Yn (pv 1)) (fun _ _ _ _=>pgB 0) (fun _ _ _ _=>Zt) (fun _ _ _ _=>Z9 (Za6 K rfl) rfl T.b_tuple Y6 (Za (pv 0) Zb rfl)) (by intro _ ;rfl)
 have hl:=al.1;have n20:=ok.n20;refine ⟨z0_,fun L0 n0=>?_⟩;generalize gG:upd H L0 (.lst [])=H1;obtain ⟨s1,e1⟩:=gen_upd gG n0;refine ⟨_,rfl,a,rfl,⟨_,SqT.of (s1 _ _ ha)⟩,?_⟩;refine Zb0 (n:=ps.length) (fun i σ H2=>∃ w2 w3 w4 L ll,σ=[some (.ref a),some (.ref L),w2,w3,w4]∧Same H H2∧H2 L=some (.lst (refs ll))∧(∀ x∈ll,lpl H2 x)∧LotsOk (Adj ps) i (ll.map (·.2))) ⟨_,_,_,L0,[],rfl,s1,e1,by simp,.nil⟩ (fun i σ H2 hi pp=>?_) (fun σ H2 pp=>?_) (fun i x σ H2 H3 hi y pp=>?_) (fun σ H2 pp=>?_)
 · obtain ⟨_,_,_,_,_,_,s2,_⟩:=pp;exact ⟨us,us[i]'(by omega),SqT.of (s2 _ _ ha),n1_ (by omega)⟩
 · obtain ⟨_,_,_,_,_,_,s2,_⟩:=pp;exact ⟨us,SqT.of (s2 _ _ ha),by omega⟩
 · obtain ⟨w2,w3,w4,L,ll,rfl,s2,eL,lp,lo⟩:=pp;obtain ⟨p1,x,rfl,n1,rfl,y1⟩:=y;have ex:=y1 us (SqT.of (s2 _ _ ha));obtain ⟨p',ep,pa,rfl,hp⟩:=al.get ex;have gp:ps.getD i []=p':=by rw [n4_,ep];rfl
   generalize gG:upd H2 p1 (.tup [.int i,.ref pa])=H3;obtain ⟨sa,e3⟩:=gen_upd gG n1;have s3:=s2.trans sa;have eL3:=sa _ _ eL;have lp3:∀ x∈ll,lpl H3 x:=fun x hx=>sa _ _ (lp x hx);have lll:ll.length≤i:=by have:=lo.len;rwa [n5_] at this
   have hfl:=Zt7 ok hi lo;rw [gp] at hfl;refine ⟨p1,_,rfl,SqT.of e3,rfl,_,_,rfl,_,_,rfl,rfl,?_⟩;refine ⟨_,rfl,L,rfl,⟨_,SqL.of eL3⟩,fun D nD=>?_⟩;refine lc_F (k:=.l) (vs:=refs ll) R0 hR0 (fun m=>(ll[m]?).filter fun x=>fL ps p' x.2) (by rw [n5_];omega) nD eL3 (fun m w H5 C N hw s5 c n=>?_) (fun H5 us5 s5 e5 a5=>?_)
   · rw [n7_] at hw;obtain ⟨y,ey,rfl⟩:=n19_.mp hw;have ym:=n6_ ey;have s05:=s3.trans s5;have ly:=s5 _ _ (lp3 y ym);have yel:=lo.el y.2 (n50_ ym)
     have ylen:y.2.length≤i:=by
      have nd:=(lo.rise y.2 (n50_ ym)).imp (S:=fun a b=>a≠b) fun {a b} z=>by omega
      exact Zg3 nd yel
     refine ⟨_,rfl,y.1,rfl,⟨_,SqL.of ly⟩,fun D2 nD2=>?_⟩;refine lc_F (k:=.l) (vs:=y.2.map V.int) RI hRI (fun m=>(y.2[m]?).filter (shB ps p')) (by rw [n5_];omega) nD2 ly (fun m2 w H6 C2 N2 hw2 s6 c2 n2=>?_) (fun H6 us6 s6 e6 a6=>?_)
     · rw [n7_] at hw2;obtain ⟨x,exx,rfl⟩:=n19_.mp hw2;obtain ⟨x',rfl,hx'⟩:=yel x (n6_ exx);have hxl:x'<ps.length:=by omega
       obtain ⟨vx,evx,rx⟩:=al.got (n1_ hxl);have gx:ps.getD x' []=ps[x']:=by simp [n4_,hxl]
       have s06:=s05.trans s6;refine ⟨_,rfl,_,rfl,a,us,(x':Int),vx,rfl,rfl,SqT.of (s06 _ _ ha),Zbb evx,_,rfl,vx,.ref pa,ps[x'],p',rfl,rx.tk s06.tk,⟨pa,rfl,s06 _ _ hp⟩,ok.len _ (n43_ hxl),fun H7 s7=>⟨_,rfl,?_⟩⟩;have es:shB ps p' (x':Int)=decide (shN ps[x'] p'=2):=by unfold shB;rw [n59_,gx]
       rw [← es];cases hs:shB ps p' (x':Int) with
       | true=>exact iteT ⟨_,rfl,c2 _ _ (x':Int) s7 (by rw [exx];simp [hs]) rfl⟩
       | false=>exact iteF (n2 _ s7 (by rw [exx];simp [hs]))
     · rw [n5_,Yh _ _ _ (n10_ _),n62_] at a6
       have:=a6.ints
       subst this;refine ⟨z0_,fun E nE=>?_⟩;have s7:Same H6 (upd H6 E (.lst [])):=Same.new nE;refine ⟨D2,E,_,_,_,_,rfl,rfl,s7 _ _ e6,Zc,Zko _ (H:=H6),Zko [] (H:=H6),_,rfl,?_⟩;rw [if_pos rfl];show (if fL ps p' y.2=true then _ else _)
       cases hs:fL ps p' y.2 with
       | true=>exact iteT ⟨_,rfl,c _ _ y (s6.trans s7) (by rw [ey];simp [hs]) rfl⟩
       | false=>exact iteF (n _ (s6.trans s7) (by rw [ey];simp [hs]))
   · rw [n5_,Yh _ _ _ (n10_ _),n62_] at a5
     have:=Zr0 a5
     subst this;have s05:=s3.trans s5;have eL5:=s5 _ _ eL3;have lp5:∀ x∈ll,lpl H5 x:=fun x hx=>s5 _ _ (lp3 x hx);generalize hnl:ll.filter (fun x=>fL ps p' x.2)=nl at e5 ⊢;have nlm:nl.map (·.2)=(ll.map (·.2)).filter (fL ps p'):=by rw [← hnl];exact Zep ll _
     have nls:∀ x∈nl,x∈ll:=fun x hx=>by rw [← hnl] at hx;exact (n37_.mp hx).1
     have nll:nl.length≤i:=by rw [← hnl];exact n53_ (List.length_filter_le ..) lll
     refine ⟨_,rfl,L,rfl,⟨_,SqL.of eL5⟩,fun D3 nD3=>?_⟩;refine lc_F (k:=.l) (vs:=refs ll) R0 hR0 (fun m=>(ll[m]?).filter fun x=>!fL ps p' x.2) (by rw [n5_];omega) nD3 eL5 (fun m w H6 C N hw s6 c n=>?_) (fun H6 us6 s6 e6 a6=>?_)
     · rw [n7_] at hw;obtain ⟨y,ey,rfl⟩:=n19_.mp hw;have ym:=n6_ ey;refine ⟨_,rfl,_,rfl,D,refs nl,nl.map (·.2),y.2,rfl,s6 _ _ e5,Zvq fun x hx=>s6 _ _ (lp5 x (nls x hx)),⟨y.1,rfl,s6 _ _ (lp5 y ym)⟩,_,rfl,?_⟩;rw [if_pos rfl]
       have e:∀ {i:Decidable (y.2∈nl.map (·.2))},@decide _ i=fL ps p' y.2:=by
        intro i;rw [Bool.eq_iff_iff,decide_eq_true_eq,nlm,n37_];exact ⟨fun h=>h.2,fun h=>⟨n50_ ym,h⟩⟩
       rw [e];cases hs:fL ps p' y.2 with
       | true=>exact iteF (n _ (Same.refl _) (by rw [ey];simp [hs]))
       | false=>exact iteT ⟨_,rfl,c _ _ y (Same.refl _) (by rw [ey];simp [hs]) rfl⟩
     · rw [n5_,Yh _ _ _ (n10_ _),n62_] at a6
       have:=Zr0 a6
       subst this;refine ⟨_,rfl,_,rfl,z1_,fun B nB=>?_⟩;have sB:Same H6 (upd H6 B (.lst [.int (i:Int)])):=Same.new nB;have eB:upd H6 B (.lst [.int (i:Int)]) B=some (.lst [.int (i:Int)]):=Zc;have s56:=s6.trans sB
       have tot:(nl.map (·.2)).flatten.length≤i:=by
        have h1:((nl.map (·.2)).flatten).Nodup:=by
         rw [nlm];exact Zer (fun l hl=>(lo.rise l (n37_.mp hl).1).imp fun {x y} z=>by omega) (lo.dj.sublist List.filter_sublist)
        refine Zg3 h1 fun x hx=>?_;obtain ⟨l,hl,hx⟩:=n74_.mp hx;rw [nlm] at hl;exact lo.el l (n37_.mp hl).1 x hx
       refine ⟨D,B,nl.map (·.1),nl.map (fun x=>x.2.map V.int),[.int (i:Int)],rfl,(by rw [n75_];exact s56 _ _ e5),eB,Zlz nl fun x hx=>s56 _ _ (lp5 x (nls x hx)),?_,fun T hT=>?_⟩
       · rw [Zfl,n21_,n5_,n79_];omega
       have nT6:H6 T=none:=by
        rcases hT with hT|hT
        · exact Z1 sB hT
        · rw [hT];exact nB
       have ez:[V.int (i:Int)]++(nl.map fun x=>x.2.map V.int).flatten=((i:Int) :: (nl.map (·.2)).flatten).map V.int:=by rw [Zfl];rfl
       rw [ez];have s7:Same H6 (upd (upd H6 B (.lst [.int (i:Int)])) T (.lst (((i:Int) :: (nl.map (·.2)).flatten).map V.int))):=fun b o e=>by rw [Zh (Zi e nT6),Zh (Zi e nB)];exact e
       have e7:upd (upd H6 B (.lst [.int (i:Int)])) T (.lst (((i:Int) :: (nl.map (·.2)).flatten).map V.int)) T=some (.lst (((i:Int) :: (nl.map (·.2)).flatten).map V.int)):=Zc;generalize upd (upd H6 B (.lst [.int (i:Int)])) T (.lst (((i:Int) :: (nl.map (·.2)).flatten).map V.int))=H7 at s7 e7 ⊢;refine ⟨T,_,rfl,SqL.of e7,by rw [n18_];omega,fun t ns' nt pm so=>?_⟩;generalize gG:upd H7 t (.lst (ns'.map V.int))=H8;obtain ⟨s8,e8⟩:=gen_upd gG nt;refine ⟨z1_,fun M nM=>?_⟩;generalize gG:upd H8 M (.lst [.ref t])=H9;obtain ⟨s9,e9⟩:=gen_upd gG nM;have s69:=s7.trans (s8.trans s9);refine ⟨D3,M,_,_,rfl,rfl,s69 _ _ e6,e9,?_,fun L' nL'=>?_⟩
       · have h1:(ll.filter fun x=>!fL ps p' x.2).length≤ll.length:=List.length_filter_le ..
         have:=sizeLine_eq
         rw [n5_,n79_];omega
       have sX:Same H9 (upd H9 L' (.lst (refs (ll.filter fun x=>!fL ps p' x.2)++[.ref t]))):=Same.new nL';refine ⟨_,_,_,L',(ll.filter fun x=>!fL ps p' x.2)++[(t,ns')],rfl,s05.trans (s6.trans (s69.trans sX)),?_,fun x hx=>?_,?_⟩
       · rw [Zc];exact congrArg (fun z=>some (HO.lst z)) (show refs _++[V.ref t]=refs (_++[(t,ns')]) from by simp)
       · rcases n28_.mp hx with hx|hx
         · exact sX _ _ (s69 _ _ (s6 _ _ (lp5 x (n37_.mp hx).1)))
         · rw [n23_.mp hx];exact sX _ _ (s9 _ _ e8)
       · rw [n45_,show (ll.filter fun x=>!fL ps p' x.2).map (·.2)=(ll.map (·.2)).filter (fun l=>!fL ps p' l) from Zep ll (fun l=>!fL ps p' l)];exact Zpx (fun a b h=>h.symm) lo (fL ps p') hfl (by rw [← nlm];exact pm) so
 · obtain ⟨w2,w3,w4,L,ll,rfl,s2,eL,lp,lo⟩:=pp;have lll:ll.length≤ps.length:=by have:=lo.len;rwa [n5_] at this
   refine ⟨_,rfl,L,rfl,⟨_,SqL.of eL⟩,fun D nD=>?_⟩;refine lc_T (k:=.l) (vs:=refs ll) IsI hRII (ll.map (·.2)) (by simp) (by rw [n5_];omega) nD eL (fun m w H5 C hw s5 c=>?_) (fun H5 us5 s5 e5 a5=>?_)
   · rw [n7_] at hw;obtain ⟨y,ey,rfl⟩:=n19_.mp hw;refine ⟨_,rfl,y.1,_,rfl,.inl ⟨SqL.of (s5 _ _ (lp y (n6_ ey))),fun t nt=>c _ _ y.2 (Same.new nt) (by rw [n7_,ey];rfl) ⟨t,rfl,Zc⟩⟩⟩
   · obtain ⟨bl,rfl,tp,eb⟩:=Zi4 a5;have lb:bl.length=ll.length:=by have:=congrArg List.length eb;simpa using this
     refine ⟨D,bl,rfl,SqL.of e5,tp,by rw [eb];exact lo.nd,fun x hx=>?_,by omega,fun l ql nl pm rs=>?_⟩
     · have:x.2∈ll.map (·.2):=by rw [← eb];exact n50_ hx
       exact List.length_pos_iff.mpr (lo.ne _ this)
     have s6:Same H5 (upd H5 l (.lst (refs ql))):=Same.new nl;exact q _ l ql (s2.trans (s5.trans s6)) (Z1 (s2.trans s5) nl) Zc (fun x hx=>s6 _ _ (tp x (pm.mem_iff.mp hx))) (lo.parts (Y0 rs) fun l'=>by rw [← eb];exact (pm.map (·.2)).mem_iff)
abbrev Y7:Stmt:=top 54
theorem Zez (F:Fun K "_law_right" "_law_right" Y7 f fd) (Cac_:a32_ P w K mg base) (Cad_:a33_ P w K mg base) (Cl_:a34_ P w K mg base) (Cae_:a35_ P w K mg base) (Cao_:a36_ P w K mg base) (Caq_:a37_ P w K mg base) (Cap_:a38_ P w K mg base) (Car_:Cal1 P w K mg base "rim" 7 "plate" Zlv):FnOk P w K mg base CX0 8 f fd ["_law_plate_own"] Zi2:=by
 have sc:FnScope ["_law_plate_own","_law_points","_law_pieces","_law_kept","_law_rows","_law_rim_due","_law_size","_law_dues","_law_turn_here","_law_found","_law_told"] ["_law_plate_own"] (Ze Y7):=fsc (by decide +kernel);refine F.ok sc (fun vs H Q E h=>by obtain ⟨v,P',rfl,_⟩:=h;rfl) fun cdv A outer s H vs Q E hr h=>?_;obtain ⟨v,P',rfl,hv,ok,p18,q⟩:=h;have nd:=sc.nd;refine' ⟨_,?term,?read⟩
 case term=>refine' @Zd _ _ _ _ _ ?g1 ?g2;(case g1=>refine' @Zaz _ _ _ _ _ _ ?g3 ?g4 (by rfl) (by rfl) (by rfl);(case g3=>refine' @Z4 _ _ _ _ _ ?g5;case g5=>refine' @Za _ _ _ _ _ ?g6 ?g7 rfl;(case g6=>refine' @Zw _ _ _ _ _ _ _ Zz (pv 0) Zf (fun _ _=>rfl));case g7=>refine' @Za _ _ _ _ _ ?g8 (Za (Zk (Zec hr) rfl T.b_repr Zfj (Za (pv 0) Zb rfl)) Zb rfl) rfl;case g8=>refine' @Zw _ _ _ _ _ _ _ Zz (pv 0) Zf (fun _ _=>rfl));case g4=>refine' @Yj _ _ _ _ _ (3) rfl (Zj (Zm (i:=1) nd rfl (Or.inr rfl)) (Zj (Zm (i:=2) nd rfl (Or.inl rfl)) (Zj (Zm (i:=3) nd rfl (Or.inl rfl)) Zy))) (by rfl) (by rfl));case g2=>refine' @Zd _ _ _ _ _ ?g9 ?ga;(case g9=>refine' @Zs _ _ (4) _ _ _ _ nd rfl (Or.inr rfl) (Zl Cl_ hr (by decide) rfl (Za (pv 2) Zb rfl)) (by rfl) (by first|exact Or.inl rfl|exact Or.inr rfl|assumption));case ga=>refine' @Zd _ _ _ _ _ ?gb ?gc;(case gb=>refine' @Zs _ _ (5) _ _ _ _ nd rfl (Or.inl rfl) ?gd (by rfl) (by first|exact Or.inl rfl|exact Or.inr rfl|assumption);case gd=>refine' @Zk _ _ _ _ _ _ _ _ _ Zaj rfl T.b_sorted Yi ?ge (by decide) (by decide) (by rfl) (by rfl);case ge=>refine' @Za _ _ _ _ _ ?gf Zb rfl;case gf=>refine' @Y4 _ _ _ _ _ _ _ (["_law_side","_law_rows"]) ([none,some 4]) _ _ _ _ _ rfl (Z0 (XN:=["_law_plate_own","_law_points","_law_pieces","_law_kept","_law_rows","_law_rim_due","_law_size","_law_dues","_law_turn_here","_law_found","_law_told"]) (Scope.names (Ze Y7)) rfl rfl rfl (fun _ h=>Zq h) (by decide +kernel) rfl) (Yn (pv 4)) (fun _ _ _ _=>pgB 0) (fun _ _ _ _=>X9 (Xa Zia (Zuh K rfl (Zgo PySem.F.plainAttrs_list PySem.F.slot_list_count PySem.F.type_list_count (Zmw Zvi Zrq (hq2 hr)) (pv 1) (Za (pv 0) Zb rfl))) Zf (Yx _))) (fun _ _ _ _=>pv 0) (by intro _ ;rfl));case gc=>refine' @Zd _ _ _ _ _ ?gg ?gh;(case gg=>refine' @Zs _ _ (6) _ _ _ _ nd rfl (Or.inl rfl) ?gi (by rfl) (by first|exact Or.inl rfl|exact Or.inr rfl|assumption);case gi=>refine' @Zk _ _ _ _ _ _ _ _ _ (Zf1 rfl) rfl T.b_sum Zma ?gj (by decide) (by decide) (by rfl) (by rfl);case gj=>refine' @Za _ _ _ _ _ ?gk Zb rfl;case gk=>refine' @Y4 _ _ _ _ _ _ _ (["_law_a","_law_b","_law_c","_law_points"]) ([none,none,none,some 1]) _ _ ((gTup K 3 (Xu (Yr 0) (Xu (Yr 1) (Xu (Yr 2) gNil))))) _ _ rfl (Z0 (XN:=["_law_plate_own","_law_points","_law_pieces","_law_kept","_law_rows","_law_rim_due","_law_size","_law_dues","_law_turn_here","_law_found","_law_told"]) (Scope.names (Ze Y7)) rfl rfl rfl (fun _ h=>Zq h) (by decide +kernel) rfl) (Yy (pv 2)) (fun _ _ _ _=>Yj (n:=3) rfl (Zj (pgB 0) (Zj (pgB 1) (Zj (pgB 2) Zy)))) (fun _ _ _ _=>Zt) (fun _ _ _ _=>Zk Zjr rfl T.b_abs Zp3 (Za (Zl Cae_ hr (by decide) rfl (Za (pv 3) (Za (pv 0) (Za (pv 1) (Za (pv 2) Zb rfl) rfl) rfl) rfl)) Zb rfl)) (by intro _ ;rfl));case gh=>refine' @Zd _ _ _ _ _ ?gl ?gm;(case gl=>refine' @Zs _ _ (7) _ _ _ _ nd rfl (Or.inl rfl) ?gn (by rfl) (by first|exact Or.inl rfl|exact Or.inr rfl|assumption);case gn=>refine' @Ye _ _ _ _ (Za (Zk (Zb8 rfl) rfl T.b_sorted Yi (Za (Z9 (Zmp rfl hr) rfl T.b_set Zp7 (Za (pv 4) Zb rfl)) Zb rfl)) (Za (pv 5) (Za (Zl Cac_ hr (by decide) rfl (Za (pv 2) Zb rfl)) (Za (pv 6) Zb rfl) rfl) rfl) rfl));case gm=>refine' @Zd _ _ _ _ _ ?go (Zg (Zn X3));case go=>refine' @Xd _ _ _ _ _ _ _ _ PassesOwn.never rfl ?gp (Zm (i:=8) nd rfl (Or.inl rfl)) ?gq (by intro _ ;rfl);(case gp=>refine' @Xk _ _ _ _ _ _ rfl T.b_range (Za Zf Zb rfl) (by rfl));case gq=>refine' @Zd _ _ _ _ _ ?gr ?gs;(case gr=>refine' @Zs _ _ (9) _ _ _ _ nd rfl (Or.inl rfl) ?gt (by rfl) (by first|exact Or.inl rfl|exact Or.inr rfl|assumption);case gt=>refine' @Ye _ _ _ _ ?gu;case gu=>refine' @Za _ _ _ _ _ (Zl Cap_ hr (by decide) rfl (Za (pv 0) Zb rfl)) ?gv rfl;case gv=>refine' @Za _ _ _ _ _ (Zr5 Car_ hr (by decide) rfl (Zsm (pv 0) Zts)) (Za (Zl Cao_ hr (by decide) rfl (Za (pv 0) Zb rfl)) (Za (Zl Caq_ hr (by decide) rfl (Za (pv 0) Zb rfl)) Zb rfl) rfl) rfl);case gs=>refine' @Zd _ _ _ _ _ ?gw ?gx;(case gw=>refine' @Xz _ _ _ _ _ _ _ _ ?gy (Zg (Zn X3)) Z8;case gy=>refine' @PW.pt _ _ _ ?gz;case gz=>refine' @Zlc _ _ _ _ _ _ _ ?g10 ?g11;(case g10=>refine' @Yz _ _ _ _ ?g12;case g12=>refine' @Zv _ _ _ (Zl Cad_ hr (by decide) rfl (Za (pv 9) (Za (pv 7) Zb rfl) rfl)) (fun _=>rfl));case g11=>refine' @Zef _ _ _ _ (Xa Zs6 (Zk (Zec hr) rfl T.b_repr Zfj (Za (pv 0) Zb rfl)) (pv 3) (Yx _)));case gx=>refine' @Zg _ _ _ ?g13;case g13=>refine' @Xd _ _ _ _ _ _ _ _ PassesOwn.never rfl ?g14 (Zm (i:=10) nd rfl (Or.inl rfl)) ?g15 (by intro _ ;rfl);(case g14=>refine' @Yn _ _ _ _ ?g16;case g16=>refine' @Zcm _ _ _ _ _ _ _ _ _ _ Zn3 (pv 9) Zfp (Zfn Zf));case g15=>refine' @Zg _ _ _ ?g17;case g17=>refine' @X8 _ _ _ _ ?g18 (by rfl);case g18=>refine' @Zgo _ _ _ _ _ _ _ _ _ _ _ _ PySem.F.plainAttrs_list PySem.F.slot_list_append PySem.F.type_list_append Zaw (pv 10) (Za Zt9 Zb rfl) (by rfl) (by rfl) (by rfl) (by rfl) (by rfl)
 obtain ⟨a,c,p,t,st,rfl,ha,hc,hp,ht,hs⟩:=id hv;refine ⟨_,rfl,a,_,0,_,rfl,rfl,SqT.of ha,rfl,_,rfl,a,_,1,_,rfl,rfl,SqT.of ha,rfl,_,rfl,NF,64,_,_,rfl,dtPl hv ok (by decide),by decide,n53_ (Zlp _) (by decide),n53_ (nzPl ok) (by decide),z3_,fun T0 nT0=>?_⟩;generalize gG:upd H T0 (.tup [c,p,.str (dPl P').shown])=H1;obtain ⟨s1,e1⟩:=gen_upd gG nT0;refine ⟨T0,_,rfl,SqT.of e1,rfl,_,_,rfl,_,_,rfl,_,_,rfl,rfl,?_⟩;refine ⟨_,rfl,p,P'.ps,rfl,hp.tk s1.tk,pc3 ok,by omega,fun H2 R al s2 nR eR tpR ekR=>?_⟩
 have lal:al.length≤54:=by
  have:=congrArg List.length ekR
  rw [n5_,Xo] at this;omega
 have s12:=s1.trans s2;refine ⟨_,rfl,R,rfl,⟨_,SqL.of eR⟩,fun D nD=>?_⟩;refine lc_F (k:=.l) (vs:=refs al) IsR hIsR (fun i=>(al[i]?).filter fun x=>decide ((Zo P'.ps).count x.2=1)) (by rw [n5_];omega) nD eR (fun i w H4 C N hw s4 c' n=>?_) (fun H4 us s4 e4 a4=>?_)
 · rw [n7_] at hw;obtain ⟨y,ey,rfl⟩:=n19_.mp hw;have ty:=s4 _ _ (tpR y (n6_ ey))
   have ali:Al (IsI H4) (refs al) (al.map (·.2)):=⟨by simp,fun j v x e1 e2=>by
    rw [n7_] at e1 e2;obtain ⟨z,ez,rfl⟩:=n19_.mp e1;rw [ez] at e2;cases e2
    exact ⟨z.1,rfl,s4 _ _ (tpR z (n6_ ez))⟩⟩
   refine ⟨_,rfl,.inl ⟨rfl,_,SqL.of (s4 _ _ eR)⟩,_,rfl,R,refs al,al.map (·.2),.ref y.1,y.2,rfl,rfl,s4 _ _ eR,ali,⟨y.1,rfl,ty⟩,rfl,_,rfl,?_⟩;have ec:@List.count _ instBEqOfDecidableEq y.2 (Zo P'.ps)=(Zo P'.ps).count y.2:=@cntE (Zo P'.ps) y.2 instBEqOfDecidableEq List.instBEq _ _;rw [ekR,ec]
   by_cases h:(Zo P'.ps).count y.2=1
   · rw [h,show decide (V.int ((1:Nat):Int)=V.int 1)=true from n40_ rfl];exact iteT ⟨_,rfl,c' _ _ y (Same.refl _) (by rw [ey];simp [h]) ⟨rfl,ty⟩⟩
   · have:decide (V.int ((Zo P'.ps).count y.2:Nat)=V.int 1)=false:=n35_ fun z=>h (by injection z with z;omega)
     rw [this];exact iteF (n _ (Same.refl _) (by rw [ey];simp [h]))
 rw [n5_,Yh _ _ _ (n10_ _),n62_] at a4;obtain ⟨rfl,tp4⟩:=Zid a4;have ekB:(al.filter fun x=>decide ((Zo P'.ps).count x.2=1)).map (·.2)=(Zo P'.ps).filter fun k=>decide ((Zo P'.ps).count k=1):=by rw [← ekR];exact Zep al fun k=>decide ((al.map (·.2)).count k=1)
 generalize (al.filter fun x=>decide ((Zo P'.ps).count x.2=1))=bl at e4 tp4 ekB
 have lbl:bl.length≤54:=by
  have:=congrArg List.length ekB
  have h2:=List.length_filter_le (fun k=>decide ((Zo P'.ps).count k=1)) (Zo P'.ps);rw [n5_] at this;rw [Xo] at h2;omega
 refine ⟨D,bl,rfl,SqL.of e4,tp4,by rw [ekB];exact Ztw _,fun x hx=>?_,by omega,fun l1 ql1 nl1 pm1 rs1=>?_⟩
 · have:x.2∈bl.map (·.2):=n50_ hx
   rw [ekB] at this;rw [Y9 (n37_.mp this).1];decide
 have s5:Same H4 (upd H4 l1 (.lst (refs ql1))):=Same.new nl1;have e5:upd H4 l1 (.lst (refs ql1)) l1=some (.lst (refs ql1)):=Zc;have tp5:∀ x∈ql1,tpl (upd H4 l1 (.lst (refs ql1))) x:=fun x hx=>s5 _ _ (tp4 x (pm1.mem_iff.mp hx));generalize upd H4 l1 (.lst (refs ql1))=H5 at s5 e5 tp5 ⊢;have s25:=s4.trans s5;have s05:=s12.trans s25;obtain ⟨pa,pus,rfl,hpa,pal⟩:=hp.tk s05.tk;have pl:=pal.1;refine ⟨_,rfl,pa,rfl,⟨_,SqT.of hpa⟩,fun E nE=>?_⟩;refine Zvh (k:=.t) (vs:=pus) RI hRI (P'.ps.map fun p=>absI (dOf P'.cs p)) (by simp [pl]) (by omega) nE hpa (fun i w hw=>?_) (fun i b x y z H6 C hw hb s6 c'=>?_) (fun H6 us s6 e6 a6=>?_)
 · obtain ⟨p',ep,b,rfl,hb⟩:=pal.get hw;have t:=Zgu (pc3 ok p' (n6_ ep));rw [t] at hb;exact ⟨b,_,_,_,rfl,hb⟩
 · obtain ⟨p',ep,b',e',hb'⟩:=pal.get hw;cases e'
   have pk:=ok.pc p' (n6_ ep);obtain ⟨i',j',k',rfl⟩:∃ i j k,p'=[i,j,k]:=⟨_,_,_,Zgu pk.len⟩;rw [hb] at hb';cases hb'
   refine ⟨_,rfl,_,rfl,_,rfl,_,rfl,c,P'.cs,i',j',k',rfl,hc.tk (s05.trans s6).tk,pk.bd i' (by simp),pk.bd j' (by simp),pk.bd k' (by simp),ok.nr,fun H7 s7=>⟨_,rfl,?_⟩⟩;exact c' _ _ (absI (dOf P'.cs [i',j',k'])) s7 (by rw [n7_,ep];rfl) rfl
 have:=a6.ints
 subst this;refine ⟨E,_,rfl,SqL.of e6,?_⟩;rw [show (P'.ps.map fun p=>absI (dOf P'.cs p)).sum=Xm P' from rfl];have s26:=s25.trans s6;refine ⟨_,rfl,R,al,rfl,SqL.of (s26 _ _ eR),fun x hx=>s26 _ _ (tpR x hx),by omega,fun S nS=>?_⟩;generalize hH7:upd H6 S _=H7;have s7:Same H6 H7:=by rw [← hH7];exact Same.new nS
 have e7:=(congrFun hH7 S).symm;rw [Zc] at e7;clear hH7;have s27:=s26.trans s7;refine ⟨S,metU al,rfl,e7,fun x hx=>s27 _ _ (tpR x (Zcn hx)),fun x hx=>?_,by have:=Zjl al;omega,fun l2 ql2 nl2 pm2 rs2=>?_⟩
 · have:x.2∈al.map (·.2):=n50_ (Zcn hx)
   rw [ekR] at this;rw [Y9 this];decide
 have s8:Same H7 (upd H7 l2 (.lst (refs ql2))):=Same.new nl2;have e8:upd H7 l2 (.lst (refs ql2)) l2=some (.lst (refs ql2)):=Zc;have tp8:∀ x∈ql2,tpl (upd H7 l2 (.lst (refs ql2))) x:=fun x hx=>s8 _ _ (s27 _ _ (tpR x (Zcn (pm2.mem_iff.mp hx))));generalize upd H7 l2 (.lst (refs ql2))=H8 at s8 e8 tp8 ⊢;have s58:=s6.trans (s7.trans s8);have s08:=s05.trans s58;refine ⟨_,rfl,_,rfl,.ref pa,P'.ps,rfl,hp.tk s08.tk,Zul ok (by omega),fun H9 l3 ql3 s9 nl3 e9 tp9 po3=>?_⟩;refine ⟨_,rfl,z4_,fun DU nDU=>?_⟩;have told:Told P' (ql2.map (·.2)) (ql1.map (·.2)) (ql3.map (·.2)):=⟨Y0 rs2,fun k=>(pm2.map (·.2)).mem_iff.trans (Zl1.trans (by rw [ekR])),Y0 rs1,fun k=>(pm1.map (·.2)).mem_iff.trans (by rw [ekB,n37_,decide_eq_true_eq]),po3⟩;obtain ⟨rp,_,_,_⟩:=told.rp ok p18;have s10:Same H9 (upd H9 DU (.lst [.ref l2,.ref l1,.ref l3,.int (Xm P')])):=Same.new nDU;have e10:upd H9 DU (.lst [.ref l2,.ref l1,.ref l3,.int (Xm P')]) DU=some (.lst [.ref l2,.ref l1,.ref l3,.int (Xm P')]):=Zc;have s9X:=s9.trans s10;have rd:=Zhz (P:=P') e10 (s9X _ _ e8) ((s58.trans s9X) _ _ e5) (s10 _ _ e9) (fun x hx=>s9X _ _ (tp8 x hx)) (fun x hx=>(s58.trans s9X) _ _ (tp5 x hx)) (fun x hx=>s10 _ _ (tp9 x hx));have sD:=s08.trans s9X;change Same H (upd H9 DU (.lst [.ref l2,.ref l1,.ref l3,.int (Xm P')])) at sD;have q8:=(s9X _ _ e8);have q5:=((s58.trans s9X) _ _ e5);have q9:=(s10 _ _ e9);have t8:∀ x∈ql2,tpl _ x:=fun x hx=>s9X _ _ (tp8 x hx);have t5:∀ x∈ql1,tpl _ x:=fun x hx=>(s58.trans s9X) _ _ (tp5 x hx);have t9:∀ x∈ql3,tpl _ x:=fun x hx=>s10 _ _ (tp9 x hx);generalize upd H9 DU (.lst [.ref l2,.ref l1,.ref l3,.int (Xm P')])=HD at sD e10 q8 q5 q9 t8 t5 t9 ⊢;have hvD:=hv.tk sD.tk;refine ⟨_,rfl,by decide,by decide,?_⟩;refine Zal (fun m σ G=>∃ w8 w9 w10:Option V,σ=[some (.ref a),some c,some (.ref pa),some (.str (dPl P').shown),some (.ref R),some (.ref l1),some (.int (Xm P')),some (.ref DU),w8,w9,w10]∧Same HD G) ⟨_,_,_,rfl,Same.refl _⟩ ?_ ?_
 · rintro m' σ G _ ⟨w8,w9,w10,rfl,sG⟩
   refine ⟨_,rfl,.ref a,P',rfl,hvD.tk sG.tk,ok,by omega,fun G1 r1 al1 g1 nr1 er1 tr1 rr1 mr1=>?_⟩;refine ⟨_,rfl,.ref a,rfl,.ref a,P',rfl,hvD.tk (sG.trans g1).tk,ok,by omega,fun G2 r2 al2 g2 nr2 er2 tr2 rr2 mr2=>?_⟩;refine ⟨_,rfl,.ref a,P',rfl,hvD.tk (sG.trans (g1.trans g2)).tk,ok,by omega,fun G3 r3 al3 g3 nr3 er3 tr3 po=>?_⟩;refine ⟨_,rfl,.ref a,P',rfl,hvD.tk (sG.trans (g1.trans (g2.trans g3))).tk,ok,by omega,fun G4 g4=>?_⟩;refine ⟨z4_,fun FO nFO=>?_⟩;generalize gG:upd G4 FO (.lst [.ref r1,.ref r2,.ref r3,.int (Xm P')])=G5;obtain ⟨g5,e11⟩:=gen_upd gG nFO;have g45:=g4.trans g5;have g35:=g3.trans g45;have g25:=g2.trans g35;have told':Told P' (al1.map (·.2)) (al2.map (·.2)) (al3.map (·.2)):=⟨Y0 rr1,mr1,Y0 rr2,mr2,po⟩;obtain ⟨E1,E2,E3⟩:=told'.eq told;obtain ⟨_,L1,L2,L3⟩:=told'.rp ok p18;have rf:=Zhz (P:=P') e11 (g25 _ _ er1) (g35 _ _ er2) (g45 _ _ er3) (fun x hx=>g25 _ _ (tr1 x hx)) (fun x hx=>g35 _ _ (tr2 x hx)) (fun x hx=>g45 _ _ (tr3 x hx));rw [E1,E2,E3] at rf;have sG5:=sG.trans (g1.trans g25);have rd5:=Zhz (P:=P') (sG5 _ _ e10) (sG5 _ _ q8) (sG5 _ _ q5) (sG5 _ _ q9) (fun x hx=>sG5 _ _ (t8 x hx)) (fun x hx=>sG5 _ _ (t5 x hx)) (fun x hx=>sG5 _ _ (t9 x hx));refine ⟨_,rfl,_,rfl,FO,DU,_,rfl,rf,rd5,rp,_,rfl,?_⟩;refine iteF ⟨_,rfl,NF,64,_,_,rfl,dtPl (hvD.tk sG5.tk) ok (by decide),by decide,n53_ (Zlp _) (by decide),n53_ (nzPl ok) (by decide),_,rfl,rfl,_,rfl,?_⟩;rw [n40_ rfl];refine iteF ?_;refine ⟨_,rfl,_,rfl,FO,_,rfl,SqL.of e11,fun SL nSL=>?_⟩;have g6:Same G5 (upd G5 SL (.lst [.ref r1,.ref r2,.ref r3])):=Same.new nSL;have e12:upd G5 SL (.lst [.ref r1,.ref r2,.ref r3]) SL=some (.lst [.ref r1,.ref r2,.ref r3]):=Zc;rw [show cutV [V.ref r1,.ref r2,.ref r3,.int (Xm P')] none (some 3)=[.ref r1,.ref r2,.ref r3] from rfl];generalize upd G5 SL (.lst [.ref r1,.ref r2,.ref r3])=G6 at g6 e12 ⊢;have g26:=g25.trans g6
   have i0:∀ r∈[r1,r2,r3],HD r=none∧∃ vs,G6 r=some (.lst vs)∧vs.length≤60:=fun r hr=>by
    simp only [n11_,n12_,or_false] at hr
    rcases hr with rfl|rfl|rfl
    · exact ⟨Z1 sG nr1,_,g26 _ _ er1,by rw [n5_];rw [n5_] at L1;exact L1⟩
    · exact ⟨Z1 (sG.trans g1) nr2,_,g6 _ _ (g35 _ _ er2),by rw [n5_];rw [n5_] at L2;exact L2⟩
    · exact ⟨Z1 (sG.trans (g1.trans g2)) nr3,_,g6 _ _ (g45 _ _ er3),by rw [n5_];rw [n5_] at L3;exact L3⟩
   have nS:∀ r∈[r1,r2,r3],r≠SL:=fun r hr z=>by
    have:∃ vs,G5 r=some (.lst vs):=by
     simp only [n11_,n12_,or_false] at hr
     rcases hr with rfl|rfl|rfl
     · exact ⟨_,g25 _ _ er1⟩
     · exact ⟨_,g35 _ _ er2⟩
     · exact ⟨_,g45 _ _ er3⟩
    obtain ⟨vs,e⟩:=this;rw [z,nSL] at e;cases e
   refine ⟨SL,rfl,⟨_,SqL.of e12⟩,?_⟩;have eX:([V.ref r1,.ref r2,.ref r3]:List V)=[r1,r2,r3].map V.ref:=rfl;rw [eX] at e12;have lrs:[r1,r2,r3].length=3:=rfl;generalize [r1,r2,r3]=rs at i0 nS e12 lrs;refine Zcj (xs:=rs.map V.ref) (fun m σ G7=>∃ w10:Option V,σ=[some (.ref a),some c,some (.ref pa),some (.str (dPl P').shown),some (.ref R),some (.ref l1),some (.int (Xm P')),some (.ref DU),some (.int (0+m')),some (.ref FO),w10]∧Same HD G7∧G7 SL=some (.lst (rs.map V.ref))∧∀ r∈rs,HD r=none∧∃ vs,G7 r=some (.lst vs)∧vs.length≤60+m) ⟨_,rfl,sG5.trans g6,e12,i0⟩ ?_ ?_ ?_
   · rintro m σ G7 _ ⟨_,_,_,e7,_⟩
     exact SqL.of e7
   · rintro m w σ G7 hw ⟨w10',rfl,s7',e7',i7⟩
     rw [n7_] at hw;obtain ⟨r,er,rfl⟩:=n19_.mp hw;have rm:=n6_ er;obtain ⟨f1,vs,ev,lv⟩:=i7 r rm;have hm:=(n14_.mp er).1;refine ⟨_,rfl,.inl ⟨rfl,_,SqL.of ev⟩,r,_,_,rfl,rfl,ev,?_,?_⟩
     · have h3:rs.length=3:=lrs;rw [sizeLine_eq];omega
     · refine ⟨_,rfl,fun b o e=>?_,?_,fun r' hr'=>?_⟩
       · rw [Zh (Zi e f1)];exact s7' _ _ e
       · rw [Zh (nS r rm).symm];exact e7'
       · obtain ⟨f2,vs',ev',lv'⟩:=i7 r' hr'
         by_cases z:r'=r
         · subst z;exact ⟨f2,_,Zc,by rw [ev] at ev';cases ev';rw [n21_,n79_];omega⟩
         · exact ⟨f2,vs',by rw [Zh z];exact ev',by omega⟩
   · rintro σ G7 ⟨w10',rfl,s7',_⟩
     exact ⟨_,_,_,rfl,s7'⟩
 · rintro σ G ⟨w8,w9,w10,rfl,sG⟩
   exact q G (sD.trans sG)
abbrev Zfi:Stmt:=top 55
theorem Zue (F:Fun K "law" "law" Zfi f fd) (Ca_:a28_ P w K mg base) (Caf_:a39_ P w K mg base) (Ck_:a40_ P w K mg base) (Cy_:a41_ P w K mg base) (Cz_:a42_ P w K mg base):FnOk P w K mg base CX0 9 f fd ["_law_script"] (Zkg K):=by
 have sc:FnScope ["_law_script","_law_k","_law_state_here","_law_wide","_law_high","_law_plates"] ["_law_script"] (Ze Zfi):=fsc (by decide +kernel);refine F.ok sc (fun vs H Q E h=>by obtain ⟨a,ns,rfl,_⟩:=h;rfl) fun cdv A outer s H vs Q E hr h=>?_;obtain ⟨a,ns,rfl,hS,hlen,q⟩:=h;have nd:=sc.nd;refine' ⟨_,?term,?read⟩
 case term=>refine' @Zd _ _ _ _ _ ?g1 (Zg (Zn X3));case g1=>refine' @Xd _ _ _ _ _ _ _ _ PassesOwn.never rfl ?g2 (Zm (i:=1) nd rfl (Or.inl rfl)) ?g3 (by intro _ ;rfl);(case g2=>refine' @Xk _ _ _ _ _ _ rfl T.b_range (Za (Zk (Zg9 rfl) rfl T.b_max Zqz (Za Zf (Za (Zk (Zmx rfl) rfl T.b_min Zs9 (Za (Zk Zr rfl T.b_len Xc (Za (pv 0) Zb rfl)) (Za Zf Zb rfl) rfl)) Zb rfl) rfl)) Zb rfl) (by rfl));case g3=>refine' @Zd _ _ _ _ _ ?g4 ?g5;(case g4=>refine' @Zs _ _ (2) _ _ _ _ nd rfl (Or.inl rfl) (Zl Cz_ hr (by decide) rfl (Za (pv 0) (Za (pv 1) Zb rfl) rfl)) (by rfl) (by first|exact Or.inl rfl|exact Or.inr rfl|assumption));case g5=>refine' @Zd _ _ _ _ _ ?g6 ?g7;(case g6=>refine' @Zmg _ _ (3) (4) _ _ _ _ _ _ _ _ _ _ _ rfl nd rfl rfl (by decide) rfl rfl (Za (Zp Z7 Zf (Zl Ca_ hr (by decide) rfl (Za (pv 2) (Za Zf Zb rfl) rfl))) (Za (Zp Z7 Zf (Zl Ca_ hr (by decide) rfl (Za (pv 2) (Za Zf Zb rfl) rfl))) Zb rfl) rfl) rfl (by rfl));case g7=>refine' @Zd _ _ _ _ _ ?g8 ?g9;(case g8=>refine' @Zs _ _ (5) _ _ _ _ nd rfl (Or.inl rfl) ?ga (by rfl) (by first|exact Or.inl rfl|exact Or.inr rfl|assumption);case ga=>refine' @Ye _ _ _ _ (Za (Zl Ck_ hr (by decide) rfl (Za (pv 2) (Za Zf Zb rfl) rfl)) (Za (Zl Ck_ hr (by decide) rfl (Za (pv 2) (Za Zf Zb rfl) rfl)) (Za (Zl Caf_ hr (by decide) rfl (Za (pv 2) (Za (pv 3) (Za (pv 4) Zb rfl) rfl) rfl)) Zb rfl) rfl) rfl));case g9=>refine' @Zg _ _ _ ?gb;case gb=>refine' @Xz _ _ _ _ _ _ _ _ ?gc (Zg (Zn X3)) Z8;case gc=>refine' @Yz _ _ _ _ ?gd;case gd=>refine' @Zv _ _ _ ?ge (fun _=>rfl);case ge=>refine' @Zk _ _ _ _ _ _ _ _ _ (Yg rfl) rfl T.b_all Zav ?gf (by decide) (by decide) (by rfl) (by rfl);case gf=>refine' @Za _ _ _ _ _ ?gg Zb rfl;case gg=>refine' @Y4 _ _ _ _ _ _ _ (["_law_plate_own"]) ([none]) _ _ _ _ _ rfl (Yv (by decide) rfl (by decide) rfl rfl) (Yn (pv 5)) (fun _ _ _ _=>pgB 0) (fun _ _ _ _=>Zt) (fun _ _ _ _=>Zl Cy_ hr (by decide) rfl (Za (pv 0) Zb rfl)) (by intro _ ;rfl)
 refine ⟨_,rfl,a,_,rfl,.inl hS,_,_,rfl,_,_,rfl,_,rfl,?_,?_,?_⟩
 · split<;>(try split)<;>omega
 · rw [n5_];split<;>(try split)<;>omega
 refine Zal (fun i σ H2=>∃ v1 v2 v3 v4 v5:Option V,σ=[some (.ref a),v1,v2,v3,v4,v5]∧Same H H2) ⟨_,_,_,_,_,rfl,Same.refl H⟩ ?_ ?_
 rotate_left
 · rintro σ H9 ⟨v1,v2,v3,v4,v5,rfl,s9⟩
   exact q H9
 rintro i σ H2 _ ⟨v1,v2,v3,v4,v5,rfl,s2⟩
 refine ⟨_,rfl,_,rfl,a,ns,i,by rw [Int.zero_add],s2.seq hS,fun l H3 nl s3 st3=>?_⟩;refine ⟨_,rfl,l,3,rfl,st3,by decide,Yt (by decide),fun r1 H4 r10 r11 k4 st4=>⟨_,_,rfl,rfl,?_⟩⟩;refine ⟨_,rfl,l,3,rfl,st4,by decide,Yt (by decide),fun r2 H5 r20 r21 k5 st5=>⟨_,_,rfl,rfl,_,_,rfl,?_⟩⟩;obtain ⟨w',rfl⟩:∃ w':Nat,r1=w':=⟨r1.toNat,by omega⟩;obtain ⟨h'',rfl⟩:∃ h'':Nat,r2=h'':=⟨r2.toNat,by omega⟩;refine ⟨_,rfl,l,rfl,st5,fun H6 x1 P1 k6 st6 hP1 ok1 n1=>?_⟩;refine ⟨_,rfl,l,rfl,st6,fun H7 x2 P2 k7 st7 hP2 ok2 n2=>?_⟩;refine ⟨_,rfl,_,rfl,_,rfl,l,1+w',1+h'',by (rw [show (((1+w':Nat)):Int)=1+(w':Int) by omega,show (((1+h'':Nat)):Int)=1+(h'':Int) by omega]),st7,by omega,by omega,by omega,by omega,fun H8 x3 P3 k8 st8 hP3 ok3 n3=>?_⟩;refine ⟨z3_,fun LL nL=>?_⟩;have t78:=tkS k8 st7;have t68:=(tkS k7 st6).trans t78
 have K28:Same H H8:=fun b o e=>by
  have e2:=s2 _ _ e;have nb:=Zi e2 nl;exact k8 _ _ nb (k7 _ _ nb (k6 _ _ nb (k5 _ _ nb (k4 _ _ nb (s3 _ _ e2)))))
 have S9:Same H8 (upd H8 LL (.lst [x1,x2,x3])):=Same.new nL;have e9:upd H8 LL (.lst [x1,x2,x3]) LL=some (.lst [x1,x2,x3]):=Zc
 have TP:∀ z∈([x1,x2,x3]:List V),∃ P',IsPl (upd H8 LL (.lst [x1,x2,x3])) z P'∧PlOk P'∧P'.ps.length≤18:=by
  intro z hz;simp only [n11_,n12_,or_false] at hz
  rcases hz with rfl|rfl|rfl
  · exact ⟨P1,(hP1.tk t68).tk S9.tk,ok1,by omega⟩
  · exact ⟨P2,(hP2.tk t78).tk S9.tk,ok2,by omega⟩
  · exact ⟨P3,hP3.tk S9.tk,ok3,n3⟩
 have lX:([x1,x2,x3]:List V).length=3:=rfl;generalize ([x1,x2,x3]:List V)=XS at TP S9 e9 lX ⊢;generalize upd H8 LL (.lst XS)=H9 at TP S9 e9 ⊢;refine ⟨_,rfl,LL,rfl,⟨_,SqL.of e9⟩,fun D nD=>?_⟩;refine lc_T (k:=.l) (vs:=XS) RB hRB (List.replicate XS.length true) (by simp) (by omega) nD e9 (fun m z H10 C hz s10 c=>?_) (fun H10 us s10 e10 a10=>?_)
 · obtain ⟨P',hP0,ok,n18⟩:=TP z (n6_ hz);exact ⟨_,rfl,z,P',rfl,hP0.tk s10.tk,ok,n18,fun H11 s11=>c _ _ true s11 (repT (Ym hz)) rfl⟩
 · rw [a10.bls] at e10;refine ⟨D,List.replicate XS.length true,rfl,SqL.of e10,true,by rw [allT];rfl,iteF ?_⟩;exact ⟨_,_,_,_,_,rfl,K28.trans (S9.trans s10)⟩
end
structure Lk (K:PySem.W.Frag) (b:Str) (st:Stmt) (f:Addr):Prop where
 fn:∃ fd,Fun K b b st f fd
 a:PySem.W.nsIn K mainGlobals b=some (some (.ref f))
 k:PySem.W.keepIn K (.ref f)=true
theorem Zvw {K:PySem.W.Frag} {b:Str} {st:Stmt} {f:Addr} {od an:Option Addr} {sl:Array (Option Value)} {oc kV dc pm cd ct:Value} (a:PySem.W.nsIn K mainGlobals b=some (some (.ref f))) (l:K.lookup f=some ⟨oc,od,.func (PySem.W.fnOf b b (Xv st) (Xj st) (Ze st) .none kV dc pm an cd ct),sl⟩) (c:PySem.W.codeIn K cd b=true) (k:PySem.W.keepIn K (.ref f)=true):Lk K b st f:=⟨⟨_,Zqo (st:=st) l c k⟩,a,k⟩
theorem Lk.cal {P:Program} {w:World} {K:PySem.W.Frag} {h:Heap} {mg:Str→Option Value} {base:Heap} {b:Str} {st:Stmt} {f:Addr} {k:Nat} {ps:List Str} {sp:Sp} (L:Lk K b st f) (X:K.In h) (G:h.Ns mainGlobals mg) (ok:∀ {fd},Fun K b b st f fd→FnOk P w K mg base CX0 k f fd ps sp) (hb:∀ (kV doc pm:Value) (an:Option Addr) (cdv ct:Value) (us:List Value),us.length=ps.length→bindArgs (PySem.W.fnOf b b (Xv st) (Xj st) (Ze st) .none kV doc pm an cdv ct) ⟨us,[]⟩=pure (ps.zip us)):Cal P w K mg base b k ps sp :=
 let ⟨_,F⟩:=L.fn
 ⟨f,_,ok F,PySem.W.mg_of X G L.a,L.k,F.binds (ps:=ps) hb⟩
theorem ln1 {P:List Value→Prop} (h:∀ x0,P [x0]):∀ us:List Value,us.length=1→P us:=fun us e=>match us,e with|[x0],_=>h x0
theorem ln2 {P:List Value→Prop} (h:∀ x0 x1,P [x0,x1]):∀ us:List Value,us.length=2→P us:=fun us e=>match us,e with|[x0,x1],_=>h x0 x1
theorem ln3 {P:List Value→Prop} (h:∀ x0 x1 x2,P [x0,x1,x2]):∀ us:List Value,us.length=3→P us:=fun us e=>match us,e with|[x0,x1,x2],_=>h x0 x1 x2
theorem ln4 {P:List Value→Prop} (h:∀ x0 x1 x2 x3,P [x0,x1,x2,x3]):∀ us:List Value,us.length=4→P us:=fun us e=>match us,e with|[x0,x1,x2,x3],_=>h x0 x1 x2 x3
theorem Zur {l:PySem.W.OpenLaw} {w:World} {K:PySem.W.Frag} {h:Heap} {mg:Str→Option Value} {fa:Addr} (X:K.In h) (G:h.Ns mainGlobals mg) (hfa:mg "law" = some (.ref fa))
 {f_0:Addr} (h_0:Lk K "is_whole" Zbt f_0)
 {f_1:Addr} (h_1:Lk K "is_between" Zap f_1)
 {f_2:Addr} (h_2:Lk K "is_row" Zfc f_2)
 {f_3:Addr} (h_3:Lk K "are_rising" X2 f_3)
 {f_4:Addr} (h_4:Lk K "is_corner" Za9 f_4)
 {f_5:Addr} (h_5:Lk K "are_corners" X6 f_5)
 {f_6:Addr} (h_6:Lk K "turn" Znh f_6)
 {f_7:Addr} (h_7:Lk K "turn_of" Zdb f_7)
 {f_8:Addr} (h_8:Lk K "is_piece" Za2 f_8)
 {f_9:Addr} (h_9:Lk K "are_pieces" Xp f_9)
 {f_10:Addr} (h_10:Lk K "are_thicks" Zat f_10)
 {f_11:Addr} (h_11:Lk K "is_stuff" Zbv f_11)
 {f_12:Addr} (h_12:Lk K "triangle" Za0 f_12)
 {f_13:Addr} (h_13:Lk K "edges" Zio f_13)
 {f_14:Addr} (h_14:Lk K "lies_in" Zbg f_14)
 {f_15:Addr} (h_15:Lk K "parts_from" Xr f_15)
 {f_16:Addr} (h_16:Lk K "are_apart" Zbc f_16)
 {f_17:Addr} (h_17:Lk K "every_corner_is_used" Yc f_17)
 {f_18:Addr} (h_18:Lk K "no_strange_corner" Zx f_18)
 {f_19:Addr} (h_19:Lk K "fit_together" Yl f_19)
 {f_20:Addr} (h_20:Lk K "is_plate" Zbu f_20)
 {f_21:Addr} (h_21:Lk K "look_at_plate" Xh f_21)
 {f_22:Addr} (h_22:Lk K "sides_of" Zbw f_22)
 {f_23:Addr} (h_23:Lk K "owners" Ze2 f_23)
 {f_24:Addr} (h_24:Lk K "sides" Zhr f_24)
 {f_25:Addr} (h_25:Lk K "rim" Zo7 f_25)
 {f_26:Addr} (h_26:Lk K "neighbours" Zau f_26)
 {f_27:Addr} (h_27:Lk K "part_of" Zcs f_27)
 {f_28:Addr} (h_28:Lk K "parts" Zeu f_28)
 {f_29:Addr} (h_29:Lk K "room" Zi0 f_29)
 {f_30:Addr} (h_30:Lk K "_law_cell_at" Xs f_30)
 {f_31:Addr} (h_31:Lk K "_law_state" Zaq f_31)
 {f_32:Addr} (h_32:Lk K "_law_choice" X0 f_32)
 {f_33:Addr} (h_33:Lk K "_law_order" Zak f_33)
 {f_34:Addr} (h_34:Lk K "_law_shapes" X4 f_34)
 {f_35:Addr} (h_35:Lk K "_law_plate" Yq f_35)
 {f_36:Addr} (h_36:Lk K "_law_same" Zbe f_36)
 {f_37:Addr} (h_37:Lk K "_law_turn" Zbd f_37)
 {f_38:Addr} (h_38:Lk K "_law_side_rows" Xb f_38)
 {f_39:Addr} (h_39:Lk K "_law_grid" Xi f_39)
 {f_40:Addr} (h_40:Lk K "_law_shares" Xe f_40)
 {f_41:Addr} (h_41:Lk K "_law_lots" Y2 f_41)
 {f_42:Addr} (h_42:Lk K "_law_right" Y7 f_42)
 {f_law:Addr} {od_law an_law:Option Addr} {sl_law:Array (Option Value)} {oc_law kV_law dc_law pm_law cd_law ct_law:Value}
 (a_law:PySem.W.nsIn K mainGlobals "law" = some (some (.ref f_law)))
 (l_law:K.lookup f_law=some ⟨oc_law,od_law,.func (PySem.W.fnOf "law" "law" (Xv Zfi) (Xj Zfi) (Ze Zfi) .none kV_law dc_law pm_law an_law cd_law ct_law),sl_law⟩)
 (c_law:PySem.W.codeIn K cd_law "law" = true) (k_law:PySem.W.keepIn K (.ref f_law)=true)
 (z_abs:PySem.W.nsIn K mainGlobals "abs" = some none)
 (z_all:PySem.W.nsIn K mainGlobals "all" = some none)
 (z_any:PySem.W.nsIn K mainGlobals "any" = some none)
 (z_bool:PySem.W.nsIn K mainGlobals "bool" = some none)
 (z_enumerate:PySem.W.nsIn K mainGlobals "enumerate" = some none)
 (z_int:PySem.W.nsIn K mainGlobals "int" = some none)
 (z_isinstance:PySem.W.nsIn K mainGlobals "isinstance" = some none)
 (z_len:PySem.W.nsIn K mainGlobals "len" = some none)
 (z_list:PySem.W.nsIn K mainGlobals "list" = some none)
 (z_max:PySem.W.nsIn K mainGlobals "max" = some none)
 (z_min:PySem.W.nsIn K mainGlobals "min" = some none)
 (z_range:PySem.W.nsIn K mainGlobals "range" = some none)
 (z_repr:PySem.W.nsIn K mainGlobals "repr" = some none)
 (z_set:PySem.W.nsIn K mainGlobals "set" = some none)
 (z_sorted:PySem.W.nsIn K mainGlobals "sorted" = some none)
 (z_sum:PySem.W.nsIn K mainGlobals "sum" = some none)
 (z_tuple:PySem.W.nsIn K mainGlobals "tuple" = some none)
 (z_zip:PySem.W.nsIn K mainGlobals "zip" = some none)
 {tn_FARTHEST:Tok} (n_FARTHEST:PySem.W.nsIn K mainGlobals "FARTHEST" = some (some (.int 100 tn_FARTHEST)))
 {tn_FEWEST_CORNERS:Tok} (n_FEWEST_CORNERS:PySem.W.nsIn K mainGlobals "FEWEST_CORNERS" = some (some (.int 3 tn_FEWEST_CORNERS)))
 {tn_MOST_CORNERS:Tok} (n_MOST_CORNERS:PySem.W.nsIn K mainGlobals "MOST_CORNERS" = some (some (.int 30 tn_MOST_CORNERS)))
 {tn_MOST_PIECES:Tok} (n_MOST_PIECES:PySem.W.nsIn K mainGlobals "MOST_PIECES" = some (some (.int 40 tn_MOST_PIECES)))
 {tn_MOST_STUFF:Tok} (n_MOST_STUFF:PySem.W.nsIn K mainGlobals "MOST_STUFF" = some (some (.int 9 tn_MOST_STUFF)))
 {tn_THICKEST:Tok} (n_THICKEST:PySem.W.nsIn K mainGlobals "THICKEST" = some (some (.int 9 tn_THICKEST)))
 : ∃ fd:FuncData,(∀ (s:Shared) (v:Value),BindsTo s fd ⟨[v],[]⟩ [("_law_script",v)])∧∀ base:Heap,K.In base→base.Ns mainGlobals mg→FnOk l.prog w K mg base CX0 9 fa fd ["_law_script"] (Zkg K):=by
 have e:=hfa.symm.trans (PySem.W.mg_of X G a_law);cases e
 have T:Bt mg:=⟨n39_ X G z_abs,n39_ X G z_all,n39_ X G z_any,n39_ X G z_bool,n39_ X G z_enumerate,n39_ X G z_int,n39_ X G z_isinstance,n39_ X G z_len,n39_ X G z_list,n39_ X G z_max,n39_ X G z_min,n39_ X G z_range,n39_ X G z_repr,n39_ X G z_set,n39_ X G z_sorted,n39_ X G z_sum,n39_ X G z_tuple,n39_ X G z_zip,⟨_,PySem.W.mg_of X G n_FARTHEST⟩,⟨_,PySem.W.mg_of X G n_FEWEST_CORNERS⟩,⟨_,PySem.W.mg_of X G n_MOST_CORNERS⟩,⟨_,PySem.W.mg_of X G n_MOST_PIECES⟩,⟨_,PySem.W.mg_of X G n_MOST_STUFF⟩,⟨_,PySem.W.mg_of X G n_THICKEST⟩⟩;obtain ⟨_,F_25⟩:=h_25.fn;have F_law:=Zqo (st:=Zfi) l_law c_law k_law;refine ⟨PySem.W.fnOf "law" "law" (Xv Zfi) (Xj Zfi) (Ze Zfi) .none kV_law dc_law pm_law an_law cd_law ct_law,fun s v=>.of_eq rfl,fun base _ _=>?_⟩;have C_0:a0_ l.prog w K mg base:=h_0.cal X G (fun F=>Zii T F) fun _ _ _ _ _ _=>ln1 fun _=>rfl;have C_1:a1_ l.prog w K mg base:=h_1.cal X G (fun F=>Zek T F C_0) fun _ _ _ _ _ _=>ln3 fun _ _ _=>rfl;have C_2:a2_ l.prog w K mg base:=h_2.cal X G (fun F=>Zm6 T F) fun _ _ _ _ _ _=>ln3 fun _ _ _=>rfl;have C_x3:a5_ l.prog w K mg base:=h_3.cal X G (fun F=>Zdp T F) fun _ _ _ _ _ _=>ln1 fun _=>rfl;have C_x4:a7_ l.prog w K mg base:=h_3.cal X G (fun F=>Zdk T F) fun _ _ _ _ _ _=>ln1 fun _=>rfl;have C_4:a3_ l.prog w K mg base:=h_4.cal X G (fun F=>Zhj T F C_1 C_2) fun _ _ _ _ _ _=>ln1 fun _=>rfl;have C_5:a15_ l.prog w K mg base:=h_5.cal X G (fun F=>Zdh T F C_4 C_2) fun _ _ _ _ _ _=>ln1 fun _=>rfl;have C_6:a4_ l.prog w K mg base:=h_6.cal X G (fun F=>Zq5 T F) fun _ _ _ _ _ _=>ln3 fun _ _ _=>rfl;have C_7:a6_ l.prog w K mg base:=h_7.cal X G (fun F=>Zk0 T F C_6) fun _ _ _ _ _ _=>ln2 fun _ _=>rfl;have C_8:a8_ l.prog w K mg base:=h_8.cal X G (fun F=>Zh4 T F C_x3 C_1 C_2 C_7) fun _ _ _ _ _ _=>ln2 fun _ _=>rfl;have C_9:a16_ l.prog w K mg base:=h_9.cal X G (fun F=>Zew T F C_x4 C_8 C_2) fun _ _ _ _ _ _=>ln2 fun _ _=>rfl;have C_10:a17_ l.prog w K mg base:=h_10.cal X G (fun F=>Zfr T F C_1 C_2) fun _ _ _ _ _ _=>ln2 fun _ _=>rfl;have C_11:a20_ l.prog w K mg base:=h_11.cal X G (fun F=>Ziv T F C_1 C_2) fun _ _ _ _ _ _=>ln1 fun _=>rfl;have C_12:a14_ l.prog w K mg base:=h_12.cal X G (fun F=>Zim T F C_6) fun _ _ _ _ _ _=>ln2 fun _ _=>rfl
 have C_13:a9_ l.prog w K mg base:=h_13.cal X G (fun F=>Zoy T F) fun _ _ _ _ _ _=>ln1 fun _=>rfl;have C_14:a11_ l.prog w K mg base:=h_14.cal X G (fun F=>Zle T F C_13 C_6) fun _ _ _ _ _ _=>ln2 fun _ _=>rfl;have C_15:a10_ l.prog w K mg base:=h_15.cal X G (fun F=>Zfb T F C_13 C_6) fun _ _ _ _ _ _=>ln2 fun _ _=>rfl;have C_16:a12_ l.prog w K mg base:=h_16.cal X G (fun F=>Zgi T F C_15) fun _ _ _ _ _ _=>ln2 fun _ _=>rfl;have C_17:a18_ l.prog w K mg base:=h_17.cal X G (fun F=>X1 T F) fun _ _ _ _ _ _=>ln2 fun _ _=>rfl;have C_18:a13_ l.prog w K mg base:=h_18.cal X G (fun F=>Za4 T F C_14) fun _ _ _ _ _ _=>ln3 fun _ _ _=>rfl;have C_19:a19_ l.prog w K mg base:=h_19.cal X G (fun F=>Zc0 T F C_16 C_18 C_12) fun _ _ _ _ _ _=>ln2 fun _ _=>rfl;have C_20:a21_ l.prog w K mg base:=h_20.cal X G (fun F=>Zhq T F C_5 C_9 C_10 C_17 C_19 C_2 C_11) fun _ _ _ _ _ _=>ln1 fun _=>rfl;have C_21:a23_ l.prog w K mg base:=h_21.cal X G (fun F=>Zcg T F C_20) fun _ _ _ _ _ _=>ln1 fun _=>rfl;have C_22:a22_ l.prog w K mg base:=h_22.cal X G (fun F=>Zit T F) fun _ _ _ _ _ _=>ln1 fun _=>rfl;have C_23:a24_ l.prog w K mg base:=h_23.cal X G (fun F=>Zne T F C_22) fun _ _ _ _ _ _=>ln1 fun _=>rfl;have C_24:a38_ l.prog w K mg base:=h_24.cal X G (fun F=>Zps T F C_21 C_23) fun _ _ _ _ _ _=>ln1 fun _=>rfl;have U_25:Cal1 l.prog w K mg base "rim" 7 "plate" Zlv:=⟨f_25,_,Zus T F_25 C_21 C_23,PySem.W.mg_of X G h_25.a,h_25.k,fun s u _=>by (obtain ⟨_,_,_,_,_,_,_,_,_,e,_,_⟩:=F_25.ex;subst e;exact .of_eq rfl)⟩;have C_26:a25_ l.prog w K mg base:=h_26.cal X G (fun F=>Zet T F C_23) fun _ _ _ _ _ _=>ln1 fun _=>rfl;have C_27:a26_ l.prog w K mg base:=h_27.cal X G (fun F=>Zli T F) fun _ _ _ _ _ _=>ln2 fun _ _=>rfl;have C_28:a36_ l.prog w K mg base:=h_28.cal X G (fun F=>Zpm T F C_21 C_26 C_27) fun _ _ _ _ _ _=>ln1 fun _=>rfl;have C_29:a37_ l.prog w K mg base:=h_29.cal X G (fun F=>Zrw T F C_21 C_7) fun _ _ _ _ _ _=>ln1 fun _=>rfl;have C_30:a27_ l.prog w K mg base:=h_30.cal X G (fun F=>Zc4 T F) fun _ _ _ _ _ _=>ln2 fun _ _=>rfl;have C_31:a42_ l.prog w K mg base:=h_31.cal X G (fun F=>Zfd T F C_30) fun _ _ _ _ _ _=>ln2 fun _ _=>rfl;have C_32:a28_ l.prog w K mg base:=h_32.cal X G (fun F=>Zdi T F) fun _ _ _ _ _ _=>ln2 fun _ _=>rfl
 have C_33:a29_ l.prog w K mg base:=h_33.cal X G (fun F=>Zfg T F C_32) fun _ _ _ _ _ _=>ln2 fun _ _=>rfl;have C_34:a30_ l.prog w K mg base:=h_34.cal X G (fun F=>Zdn T F) fun _ _ _ _ _ _=>fun us hl=>match us,hl with|[],_=>rfl
 have C_35:a40_ l.prog w K mg base:=h_35.cal X G (fun F=>Zei T F C_32 C_33 C_34) fun _ _ _ _ _ _=>ln2 fun _ _=>rfl;have C_36:a33_ l.prog w K mg base:=h_36.cal X G (fun F=>Zg6 T F) fun _ _ _ _ _ _=>ln2 fun _ _=>rfl;have C_37:a35_ l.prog w K mg base:=h_37.cal X G (fun F=>Zge T F) fun _ _ _ _ _ _=>ln4 fun _ _ _ _=>rfl;have C_38:a34_ l.prog w K mg base:=h_38.cal X G (fun F=>Zbx T F) fun _ _ _ _ _ _=>ln1 fun _=>rfl;have C_39:a39_ l.prog w K mg base:=h_39.cal X G (fun F=>Zg4 T F C_32) fun _ _ _ _ _ _=>ln3 fun _ _ _=>rfl;have C_40:a31_ l.prog w K mg base:=h_40.cal X G (fun F=>Zdl T F) fun _ _ _ _ _ _=>ln2 fun _ _=>rfl;have C_41:a32_ l.prog w K mg base:=h_41.cal X G (fun F=>Zhi T F C_40) fun _ _ _ _ _ _=>ln1 fun _=>rfl;have C_42:a41_ l.prog w K mg base:=h_42.cal X G (fun F=>Zez T F C_41 C_36 C_38 C_37 C_28 C_29 C_24 U_25) fun _ _ _ _ _ _=>ln1 fun _=>rfl;exact Zue T F_law C_32 C_39 C_35 C_42 C_31
theorem walk {l:PySem.W.OpenLaw} {q:Program} {loose:List Str} {XP:(Str→Option Value)→Heap→Prop} {YP:World→Heap→Prop} {d:DefRec} {K:Params→PySem.W.Frag} (hn:l.most=some 63) (hdf:d.params.defaults=[])
 (hY:∀ (w:World) (h:Heap),YP w h→(K w.params).In h)
 (F:∀ (w:World) (mg:Str→Option Value) (fa:Addr) (h:Heap),(K w.params).In h→h.Ns mainGlobals mg→mg d.name=some (.ref fa) →
   ∃ fd:FuncData,(∀ (s:Shared) (u:Value),BindsTo s fd ⟨[u],[]⟩ [("_law_script",u)])∧∀ base:Heap,(K w.params).In base→base.Ns mainGlobals mg→FnOk l.prog w (K w.params) mg base CX0 9 fa fd ["_law_script"] (Zkg (K w.params))) (him:importsNone q=true:=by decide +kernel) :
 PySem.W.WalkO q loose XP YP l.row.toRowW d [] (fun f vs=>PySem.call f vs) :=
 L2.Zrb (n:=63) (k:=9) (x := "_law_script") (CX:=fun _=>CX0) (sp:=fun w=>Zkg (K w.params)) hn (by decide) hdf ⟨rfl,by decide,by decide,rfl⟩ hY F (fun _ _ a ns hl _ hS=>⟨a,ns,rfl,hS,hl,fun _=>rfl⟩) (fun _ _ _ _ _ z=>z) him
end My

namespace My
open PySem PySem.W PyProof.Rows L2
set_option maxRecDepth 1000000
set_option maxHeartbeats 0
def gE (P:Params) (n:Str) (t:Tok) (v:Value):DictEntry:=⟨PySem.PyData.keyHash P n,.str n t,v⟩
def gR (P:Params) (n:Str) (t:Tok) (a:Addr):DictEntry:=gE P n t (.ref a)
def fO (n:Str) (i:Nat) (m:Str) (mt:Tok) (c:Addr) (dv:Value):Obj:={ cls:=.type "function",data:=.func (PySem.W.fnOf n n (Xv (top i)) (Xj (top i)) (Ze (top i)) dv .none .none (.str m mt) none (.ref c) .none) }
def cO (n:Str) (a:Tok) (l k:Int) (r s:Addr) (u v:Value) (t:Nat):Obj:={ cls:=.type "code",data:=.fields (Array.mk [.str n a,.str n (a+1),.str "/claim/cut.py" (a+2),.int l 0,.int k 0,.int 0 0,.int 0 0,.int 3 0,.ref r,.bool true,.int 181 0,.ref (r+1),.none,u,v,.ref s,.int t 0,.int l 0,.str "/claim/cut.py" (t+1)]) }
def dR (n:Str) (i:Nat) (m:Str) (mt a:Tok) (l k:Int) (r:Addr) (t:Nat):Frag:=[(r+6,fO n i m mt (r+5) .none),(r+5,cO n a l k r (r+4) (.ref (r+2)) (.ref (r+3)) t)]
def dN (n:Str) (i:Nat) (m:Str) (mt a:Tok) (l k:Int) (r:Addr) (t:Nat):Frag:=[(r+4,fO n i m mt (r+3) .none),(r+3,cO n a l k r (r+2) .none .none t)]
def Zs5 (s:Stmt):Pos:=match s with|.FunctionDef _ _ _ _ _ _ _ _ _ p=>p|_=>⟨0,0,0,0⟩
def m0:Str := "platerest.quotients"
def m1:Str := "platerest.plates"
def m2:Str := "law_platerest_k16_sides_rims_and_rooms"
noncomputable def kK (P:Params):Frag:=(3,{ cls:=.type "dict",data:=(.dict #[gE P "__name__" 165 (.str "law_platerest_k16_sides_rims_and_rooms" 458),
gE P "__doc__" 166 (.none),
gE P "__package__" 167 (.none),
gE P "__loader__" 168 (.builtin "__main__.__loader__#opaque"),
gE P "__spec__" 169 (.none),
gR P "__annotations__" 170 6,
gR P "__builtins__" 171 4,
gE P "__file__" 173 (.str "/claim/cut.py" 172),
gE P "__cached__" 174 (.none),
gR P "PlateError" 206 24,
gR P "NoPlate" 222 37,
gR P "is_whole" 231 46,
gE P "FEWEST_CORNERS" 235 (.int 3 234),
gE P "MOST_CORNERS" 237 (.int 30 236),
gE P "FARTHEST" 239 (.int 100 238),
gE P "MOST_PIECES" 241 (.int 40 240),
gE P "THICKEST" 243 (.int 9 242),
gE P "MOST_STUFF" 245 (.int 9 244),
gR P "is_between" 254 53,
gR P "is_row" 263 60,
gR P "are_rising" 269 65,
gR P "is_corner" 275 70,
gR P "are_corners" 281 75,
gR P "turn" 291 82,
gR P "turn_of" 299 89,
gR P "is_piece" 305 94,
gR P "are_pieces" 311 99,
gR P "are_thicks" 317 104,
gR P "is_stuff" 324 111,
gR P "triangle" 330 116,
gR P "edges" 337 123,
gR P "lies_in" 343 128,
gR P "parts_from" 349 133,
gR P "are_apart" 357 140,
gR P "every_corner_is_used" 363 145,
gR P "no_strange_corner" 369 150,
gR P "fit_together" 375 155,
gR P "is_plate" 386 162,
gR P "look_at_plate" 393 169,
gR P "sides_of" 403 176,
gR P "owners" 414 183,
gR P "sides" 421 190,
gR P "rim" 427 195,
gR P "neighbours" 433 200,
gR P "part_of" 445 207,
gR P "parts" 451 212,
gR P "room" 457 217,
gR P "_law_cell_at" 467 224,
gR P "_law_state" 476 231,
gR P "_law_choice" 486 238,
gR P "_law_order" 496 245,
gR P "_law_shapes" 510 252,
gR P "_law_plate" 516 257,
gR P "_law_same" 524 264,
gR P "_law_turn" 540 271,
gR P "_law_side_rows" 551 278,
gR P "_law_grid" 557 283,
gR P "_law_shares" 563 288,
gR P "_law_lots" 569 293,
gR P "_law_right" 575 298,
gR P "law" 581 303] 61) }) :: (dR "is_whole" 4 m0 223 225 7 1 40 229 ++
dR "is_between" 12 m1 232 246 16 3 47 252 ++
dR "is_row" 13 m1 232 255 18 3 54 261 ++
dN "are_rising" 14 m1 232 264 20 1 61 267 ++
dN "is_corner" 15 m1 232 270 22 1 66 273 ++
dN "are_corners" 16 m1 232 276 24 1 71 279 ++
dR "turn" 17 m1 232 282 28 3 76 289 ++
dR "turn_of" 18 m1 232 292 31 2 83 297 ++
dN "is_piece" 19 m1 232 300 33 2 90 303 ++
dN "are_pieces" 20 m1 232 306 37 2 95 309 ++
dN "are_thicks" 21 m1 232 312 41 2 100 315 ++
dR "is_stuff" 22 m1 232 318 45 1 105 322 ++
dN "triangle" 23 m1 232 325 49 2 112 328 ++
dR "edges" 24 m1 232 331 54 1 117 335 ++
dN "lies_in" 25 m1 232 338 56 2 124 341 ++
dN "parts_from" 26 m1 232 344 58 2 129 347 ++
dR "are_apart" 27 m1 232 350 63 2 134 355 ++
dN "every_corner_is_used" 28 m1 232 358 65 2 141 361 ++
dN "no_strange_corner" 29 m1 232 364 67 3 146 367 ++
dN "fit_together" 30 m1 232 370 70 2 151 373 ++
dR "is_plate" 31 m1 232 376 78 1 156 384 ++
dR "look_at_plate" 32 m1 232 387 87 1 163 391 ++
dR "sides_of" 33 m1 232 394 90 1 170 401 ++
dR "owners" 34 m1 232 404 93 1 177 412 ++
dR "sides" 35 m1 232 415 99 1 184 419 ++
dN "rim" 36 m1 232 422 102 1 191 425 ++
dN "neighbours" 37 m1 232 428 106 1 196 431 ++
dR "part_of" 38 m1 232 434 112 2 201 443 ++
dN "parts" 39 m1 232 446 122 1 208 449 ++
dN "room" 40 m1 232 452 126 1 213 455 ++
dR "_law_cell_at" 42 m2 458 460 130 2 218 465 ++
dR "_law_state" 43 m2 458 468 134 2 225 474 ++
dR "_law_choice" 44 m2 458 477 137 2 232 484 ++
dR "_law_order" 45 m2 458 487 147 2 239 494 ++
dR "_law_shapes" 46 m2 458 497 152 0 246 508 ++
dN "_law_plate" 47 m2 458 511 162 2 253 514 ++
dR "_law_same" 48 m2 458 517 175 2 258 522 ++
dR "_law_turn" 49 m2 458 525 177 4 265 538 ++
dR "_law_side_rows" 50 m2 458 541 180 1 272 549 ++
dN "_law_grid" 51 m2 458 552 185 3 279 555 ++
dN "_law_shares" 52 m2 458 558 197 2 284 561 ++
dN "_law_lots" 53 m2 458 564 199 1 289 567 ++
dN "_law_right" 54 m2 458 570 205 1 294 573 ++
dN "law" 55 m2 458 576 218 1 299 579)
def kA:List Addr:=[3,46,45,53,52,60,59,65,64,70,69,75,74,82,81,89,88,94,93,99,98,104,103,111,110,116,115,123,122,128,127,133,132,140,139,145,144,150,149,155,154,162,161,169,168,176,175,183,182,190,189,195,194,200,199,207,206,212,211,217,216,224,223,231,230,238,237,245,244,252,251,257,256,264,263,271,270,278,277,283,282,288,287,293,292,298,297,303,302]
theorem kAs:∀ P,kA=(kK P).map (·.1):=fun _=>by kernel_rfl
theorem h3:∀ w os,(topK pw 3634 w os).map (fun s=>kA.map s.abs.heap.get?)=some ((kK w.params).map fun p=>some p.2):=fun w os=>by
  unfold topK topStub;rw [PySem.W.Fast.te4652649595001227023,PySem.W.Fast.te14364793385576792824,PySem.W.Fast.te17154629097778926822,PySem.W.Fast.te12822647523644345616]
  kernel_rfl
theorem left:LeftO pw qq ll (fun s=>xlAt qq [] s&&recOk (RowW.records (OpenRow.toRowW rr)) s) (Hook.obs (kHook kK kA kAs)) (Hook.val (kHook kK kA kAs)) 3634 :=
  Zin (T0:=bootT) (life:={}) (by kernel_rfl) (by kernel_rfl) (fun s=>by kernel_rfl) Zp0 Zm4 (Zgx (R:=topK pw 3634) h1 h2 h3)
theorem lk4 {P:Params} {b:Str} {i:Nat} {f:Addr} (c:Addr) (m:Str) (mt:Tok) (h:((kK P).lookup f,PySem.W.nsIn (kK P) mainGlobals b,PySem.W.codeIn (kK P) (.ref c) b,PySem.W.keepIn (kK P) (.ref f))=(some (fO b i m mt c .none),some (some (.ref f)),true,true)):Lk (kK P) b (top i) f:=Zvw (Prod.mk.inj (Prod.mk.inj h).2).1 (Prod.mk.inj h).1 (Prod.mk.inj (Prod.mk.inj (Prod.mk.inj h).2).2).1 (Prod.mk.inj (Prod.mk.inj (Prod.mk.inj h).2).2).2
theorem Zud (P:Params):(kK P).lookup 303=some (fO "law" 55 m2 458 302 .none):=by kernel_rfl
theorem Zt4 (P:Params):PySem.W.nsIn (kK P) mainGlobals "law" = some (some (.ref 303)):=by kernel_rfl
theorem Zun (P:Params):PySem.W.codeIn (kK P) (.ref 302) "law" = true:=by kernel_rfl
theorem Ztp (P:Params):PySem.W.keepIn (kK P) (.ref 303)=true:=by kernel_rfl
def dL:DefRec:=⟨"law",Xv (top 55),Xj (top 55),Ze (top 55),Zs5 (top 55)⟩
theorem hdL:defOf qq (OpenRow.toRowW rr).name=some (dL,[]):=by kernel_rfl
theorem hpL:(OpenRow.toRowW rr).prog.theDef (OpenRow.toRowW rr).name=some (dL.params,dL.body,dL.scope):=by kernel_rfl
theorem hkL:kwWritten? dL.params.kwonlyargs dL.params.kw_defaults=some []:=by kernel_rfl
theorem okL:(chainsOk qq&&opensWell (OpenRow.toRowW rr).prog&&(frees (OpenRow.toRowW rr)&&(OpenRow.toRowW rr).within.isEmpty))=true:=by kernel_rfl
theorem dfL:dL.params.defaults=[]:=by kernel_rfl
theorem wkL:WalkO qq ll (XL qq []) (Hook.says (kHook kK kA kAs)) (OpenRow.toRowW rr) dL [] (fun f vs=>PySem.call f vs):=by
  refine My.walk (l:=PySem.Challenge.rw_platerest_k16_sides_rims_and_rooms) rfl dfL (fun w h Y=>PySem.W.kIn_of Y) ?F;intro w mg fa h KX G hmg;exact Zur KX G hmg (lk4 (f:=46) 45 m0 223 (by kernel_rfl)) (lk4 (f:=53) 52 m1 232 (by kernel_rfl)) (lk4 (f:=60) 59 m1 232 (by kernel_rfl)) (lk4 (f:=65) 64 m1 232 (by kernel_rfl)) (lk4 (f:=70) 69 m1 232 (by kernel_rfl)) (lk4 (f:=75) 74 m1 232 (by kernel_rfl)) (lk4 (f:=82) 81 m1 232 (by kernel_rfl)) (lk4 (f:=89) 88 m1 232 (by kernel_rfl)) (lk4 (f:=94) 93 m1 232 (by kernel_rfl)) (lk4 (f:=99) 98 m1 232 (by kernel_rfl)) (lk4 (f:=104) 103 m1 232 (by kernel_rfl)) (lk4 (f:=111) 110 m1 232 (by kernel_rfl)) (lk4 (f:=116) 115 m1 232 (by kernel_rfl)) (lk4 (f:=123) 122 m1 232 (by kernel_rfl)) (lk4 (f:=128) 127 m1 232 (by kernel_rfl)) (lk4 (f:=133) 132 m1 232 (by kernel_rfl)) (lk4 (f:=140) 139 m1 232 (by kernel_rfl)) (lk4 (f:=145) 144 m1 232 (by kernel_rfl)) (lk4 (f:=150) 149 m1 232 (by kernel_rfl)) (lk4 (f:=155) 154 m1 232 (by kernel_rfl)) (lk4 (f:=162) 161 m1 232 (by kernel_rfl)) (lk4 (f:=169) 168 m1 232 (by kernel_rfl)) (lk4 (f:=176) 175 m1 232 (by kernel_rfl)) (lk4 (f:=183) 182 m1 232 (by kernel_rfl)) (lk4 (f:=190) 189 m1 232 (by kernel_rfl)) (lk4 (f:=195) 194 m1 232 (by kernel_rfl)) (lk4 (f:=200) 199 m1 232 (by kernel_rfl)) (lk4 (f:=207) 206 m1 232 (by kernel_rfl)) (lk4 (f:=212) 211 m1 232 (by kernel_rfl)) (lk4 (f:=217) 216 m1 232 (by kernel_rfl)) (lk4 (f:=224) 223 m2 458 (by kernel_rfl)) (lk4 (f:=231) 230 m2 458 (by kernel_rfl)) (lk4 (f:=238) 237 m2 458 (by kernel_rfl)) (lk4 (f:=245) 244 m2 458 (by kernel_rfl)) (lk4 (f:=252) 251 m2 458 (by kernel_rfl)) (lk4 (f:=257) 256 m2 458 (by kernel_rfl)) (lk4 (f:=264) 263 m2 458 (by kernel_rfl)) (lk4 (f:=271) 270 m2 458 (by kernel_rfl)) (lk4 (f:=278) 277 m2 458 (by kernel_rfl)) (lk4 (f:=283) 282 m2 458 (by kernel_rfl)) (lk4 (f:=288) 287 m2 458 (by kernel_rfl)) (lk4 (f:=293) 292 m2 458 (by kernel_rfl)) (lk4 (f:=298) 297 m2 458 (by kernel_rfl)) (Zt4 _) (Zud _) (Zun _) (Ztp _) (by kernel_rfl) (by kernel_rfl) (by kernel_rfl) (by kernel_rfl) (by kernel_rfl) (by kernel_rfl) (by kernel_rfl) (by kernel_rfl) (by kernel_rfl) (by kernel_rfl) (by kernel_rfl) (by kernel_rfl) (by kernel_rfl) (by kernel_rfl) (by kernel_rfl) (by kernel_rfl) (by kernel_rfl) (by kernel_rfl) (tn_FARTHEST:=238) (by kernel_rfl) (tn_FEWEST_CORNERS:=234) (by kernel_rfl) (tn_MOST_CORNERS:=236) (by kernel_rfl) (tn_MOST_PIECES:=240) (by kernel_rfl) (tn_MOST_STUFF:=244) (by kernel_rfl) (tn_THICKEST:=242) (by kernel_rfl)
end My
open PySem PySem.W PyProof.Rows
set_option maxRecDepth 1000000 in
set_option maxHeartbeats 0 in
theorem PySem.Challenge.cw_platerest_k16_sides_rims_and_rooms_holds : PySem.Challenge.rw_platerest_k16_sides_rims_and_rooms.Holds := by
  refine holds_law My.ws fun said=>?_;refine holds_open (q:=My.qq) (loose:=My.ll) (Xt:=fun s=>xlAt My.qq [] s&&recOk (RowW.records (OpenRow.toRowW My.rr)) s) (XP:=XL My.qq []) (Yf:=Hook.obs (kHook My.kK My.kA My.kAs)) (Ya:=Hook.val (kHook My.kK My.kA My.kAs)) (YP:=Hook.says (kHook My.kK My.kA My.kAs)) My.left (Hook.of (kHook My.kK My.kA My.kAs)) (Hook.keeps (kHook My.kK My.kA My.kAs)) (fun s e=>xl_of s (Bool.and_eq_true_iff.mp e).1) XL.keeps My.hdL My.hpL My.hkL (fun s e=>recFacts_of (Bool.and_eq_true_iff.mp e).2) rfl said My.okL ⟨rfl,rfl,rfl,rfl,rfl,by decide +kernel⟩ ?hw My.wkL
  case hw=>w_witness2
