import PyProof.Rows.All
import Wide.All
import OpenK.AllK
import Wide.FinOn
import Lean
import PyProof.EqAt
import PyProof.EqKinds
import PyProof.TupleCall
import PyProof.NeKinds
import PyProof.ConsumeWalk
import PyProof.ReprRoads
import PyProof.ReprLen
import PyProof.ZipIter
import PyProof.Draws
import PyProof.EnumMake
import PySem.SetTable
import PyProof.TupleKey
import PyProof.Rows.SetFrom
import PyProof.InstEq
import PyProof.SumWalkG
import PyProof.Rows.SortWalk
import PyProof.ListRange
import KE.KSortTup
import PyProof.ListMulRoad
import PyProof.FactsAll.tuple_2
import PyProof.DictItems
import KE.KPairComp
import PyProof.DictWalks
import PyProof.Rows.DictUnroll
import PyProof.SetKind
import PyProof.DictKinds
import PyProof.SetRoads
import PyProof.Walks
import PyProof.CollectWalk
import PyProof.Rows.SortShell
import PyProof.CollectIter
import PyProof.TupleOfGen
import PyProof.DictValues
import PySem.Challenge.RW_platerest_k19_whole_plates_numbered_othe
set_option Elab.async false
set_option linter.all false
set_option maxRecDepth 100000
abbrev PySem.Shared.z (s:PySem.Shared):Nat:=s.heap.objs.size
abbrev n0_:=@PySem.wpAny_bind
abbrev n1_:=@List.getElem?_eq_getElem
abbrev n2_:=@List.getD_eq_getElem?_getD
abbrev n3_:=@PySem.Heap.get?_push_of_some
abbrev n4_:=@PySem.wpAny_pure
abbrev n5_:=@List.length_map
abbrev n6_:=@List.getElem?_map
abbrev n7_:=@List.mem_of_getElem?
abbrev n8_:=@PySem.Heap.get?_push_size
abbrev n9_:=@List.getElem?_eq_some_iff
abbrev n10_:=@Option.map_eq_some_iff
abbrev n11_:=@PySem.Heap.lt_size
abbrev n12_:=@List.mem_cons
abbrev n13_:=@List.size_toArray
abbrev n14_:=@Nat.le_refl
abbrev n15_:=@Bool.false_eq_true
abbrev n16_:=@List.not_mem_nil
abbrev n17_:=@Nat.ne_of_lt
abbrev n18_:=@List.mem_map
abbrev n19_:=@List.mem_cons_of_mem
abbrev n20_:=@List.nodup_iff_pairwise_ne
abbrev n21_:=@Bool.false_ne_true
abbrev n22_:=@List.mem_singleton
abbrev n23_:=@PySem.Builtin.SmallTypes.nextOf
abbrev n24_:=@List.mem_range
abbrev n25_:=@Nat.lt_of_lt_of_le
abbrev n26_:=@List.length_cons
abbrev n27_:=@List.mem_cons_self
abbrev n28_:=@List.length_append
abbrev n29_:=@decide_eq_true
abbrev n30_:=@PySem.wpAny_holding
abbrev n31_:=@List.map_cons
abbrev n32_:=@PySem.Builtin.SmallTypes.ownedTupleIsFree
abbrev n33_:=@decide_eq_false
abbrev n34_:=@List.mem_append
abbrev n35_:=@List.mem_append_right
abbrev n36_:=@PySem.Heap.size_push
abbrev n37_:=@List.getElem_mem
abbrev n38_:=@Nat.lt_succ_of_lt
abbrev n39_:=@List.mem_map_of_mem
abbrev n40_:=@PySem.Heap.get?_update_self
abbrev n41_:=@PySem.mem_of_lookup
abbrev n42_:=@PySem.W.mg_none_of
abbrev n43_:=@List.pairwise_map
abbrev n44_:=@List.map_map
abbrev n45_:=@PySem.wpAny_mono
abbrev n46_:=@List.ext_getElem
abbrev n47_:=@Bool.and_eq_true
abbrev n48_:=@List.map_append
abbrev n49_:=@List.getElem?_append_right
abbrev n50_:=@List.getElem_of_mem
abbrev n51_:=@of_decide_eq_true
abbrev n52_:=@List.map_congr_left
abbrev n53_:=@List.getElem_inj
abbrev n54_:=@List.Pairwise.imp_of_mem
abbrev n55_:=@Nat.zero_le
abbrev n56_:=@List.flatten_cons
abbrev n57_:=@List.append_assoc
abbrev n58_:=@List.getElem?_append_left
abbrev n59_:=@PySem.Heap.get?_update_other
abbrev n60_:=@Nat.ne_of_gt
abbrev n61_:=@List.all_eq_true
abbrev n62_:=@Int.toNat_natCast
abbrev n63_:=@List.pairwise_iff_getElem
abbrev n64_:=@PyProof.Rows.callWith_type1
abbrev n65_:=@List.length_take
abbrev n66_:=@List.nodup_append
abbrev n67_:=@List.foldl_cons
abbrev n68_:=@Nat.lt_succ_self
abbrev n69_:=@List.length_range
abbrev n70_:=@PySem.W.kia_one
abbrev n71_:=@List.mem_filter
abbrev n72_:=@List.take_of_length_le
abbrev n73_:=@List.replicate_succ
abbrev n74_:=@Nat.le_trans
abbrev n75_:=@List.mem_flatten
abbrev n76_:=@List.mem_append_left
abbrev n77_:=@List.getElem?_cons_succ
abbrev n78_:=@Nat.lt_irrefl
abbrev n79_:=@Bool.eq_iff_iff
abbrev n80_:=@List.take_succ_eq_append_getElem
namespace L2
open PySem PySem.W PyProof.Rows
def topRunT (tb:String→Option Builtin) (p:Program) (w:World) (n0:Nat) (ann:Option Value):Nat→SharedT→Thread→Option SharedT
  | 0,_,_=>none
  | n+1,s,t=>match through t with
    | true=>some s
    | false=>match stepOk n0 ann t with
      | false=>none
      | true=>match stepT (denote tb) p w s t with
        | some (s',t')=>topRunT tb p w n0 ann n s' t'
        | none=>none
variable {α:Type} {w:World}
theorem Zgt {tb:String→Option Builtin} {p:Program} {n0:Nat} {ann:Option Value}:∀ {n:Nat} {s s':SharedT} {t:Thread},topRunT tb p w n0 ann n s t=some s'→topRun tb p w n0 ann n s.abs t=some s'.abs
  | 0,_,_,_,h=>by cases h
  | n+1,s,s',t,h=>by
    unfold topRunT at h;unfold topRun;cases he:through t with
    | true=>rw [he] at h;cases h;rfl
    | false =>
      rw [he] at h;cases hk:stepOk n0 ann t with
      | false=>rw [hk] at h;cases h
      | true =>
        rw [hk] at h;cases hs:stepT (denote tb) p w s t with
        | none=>rw [hs] at h;cases h
        | some r=>obtain ⟨s2,t2⟩:=r;rw [hs] at h;rw [stepT_spec hs];exact Zgt h
def btOf:List Obj→Nat→BT→BT
  | [],_,t=>t
  | o :: os,n,t=>btOf os (n+1) (t.ins n o)
theorem Zjg {p q:Program} {loose:List Str} {Xt:Shared→Bool} {Yf:Shared→α} {Ya:World→α} {N:Nat} {g0:Bool} {T0:Params→BT} {n0:Nat} {life:Life} {ann:Option Value}
    (e:opening p=plainProg p.main.scope.names) (hN:Nat.ble 600 N=true) (f:∀ s,fenceModules? p s=some s)
    (h0:∀ P,absHeap (T0 P) n0 life=boot_heap P)
    (size:∀ P,((boot_heap P).isNs mainGlobals,(boot_heap P).objs.size,(boot_heap P).nsMap mainGlobals "__annotations__")=(true,n0,ann))
    (run:∀ (w:World) (os:OsState),(topRunT treeTable p w n0 ann N ⟨T0 w.params,n0,life,Array.mk [],boot_drawn,boot_toks,os⟩ (topStub p)).map (fun s=>((staticsOk (importedModules p.main.body) (boot_heap w.params) s.abs.heap&&namesBound p s.abs.heap&&gensDone s.abs&&laidKept (boot_heap w.params) s.abs.heap),openSeen q loose (importedModules p.main.body) Xt g0 s.abs,Yf s.abs))=some (true,openGood q loose,Ya w)):LeftO p q loose Xt Yf Ya N g0:=fun w=>by
  obtain ⟨⟨h,gs,d,k,os⟩,e1,e2⟩:=n10_.mp (boot_open e hN f w);obtain ⟨rfl,rfl,rfl,rfl⟩:h=boot_heap w.params∧gs=Array.mk []∧d=boot_drawn∧k=boot_toks:=by simpa using e2
  obtain ⟨z1,z2,z3⟩:_∧_∧_:=by simpa only [Prod.mk.injEq] using size w.params
  obtain ⟨s,r1,r2⟩:=n10_.mp (run w os);obtain ⟨l1,l2,l3⟩:_∧_∧_:=by simpa only [Prod.mk.injEq] using r2
  have r:=Zgt r1
  have ha:SharedT.abs ⟨T0 w.params,n0,life,Array.mk [],boot_drawn,boot_toks,os⟩=⟨boot_heap w.params,Array.mk [],boot_drawn,boot_toks,os⟩:=by
    unfold SharedT.abs;rw [h0]
  rw [ha] at r
  have t:topFrom treeTable p w N ⟨boot_heap w.params,Array.mk [],boot_drawn,boot_toks,os⟩=some s.abs:=by
    unfold topFrom;dsimp only;rw [z1,z2,z3,r];show (match staticsOk (importedModules p.main.body) (boot_heap w.params) s.abs.heap&&namesBound p s.abs.heap&&gensDone s.abs&&laidKept (boot_heap w.params) s.abs.heap with|true=>_|false=>_)=_
    rw [l1]
  unfold openEnds;rw [e1];show (topFrom treeTable p w N _).map _=_
  rw [t];exact congrArg some (Prod.ext l2 l3)
lay_quick L2.topRunT
end L2
namespace L2
open PySem PySem.W PyProof.Rows
variable {α:Type}
theorem Zh2 {p q:Program} {loose:List Str} {Xt:Shared→Bool} {Yf:Shared→α} {Ya:World→α} {g0:Bool} {R:World→OsState→Option SharedT}
    (h1:∀ w os,(R w os).map (fun s=>(staticsOk (importedModules p.main.body) (boot_heap w.params) s.abs.heap&&namesBound p s.abs.heap&&gensDone s.abs&&laidKept (boot_heap w.params) s.abs.heap))=some true)
    (h2:∀ w os,(R w os).map (fun s=>openSeen q loose (importedModules p.main.body) Xt g0 s.abs)=some (openGood q loose))
    (h3:∀ w os,(R w os).map (fun s=>Yf s.abs)=some (Ya w)) (w:World) (os:OsState) :
    (R w os).map (fun s=>((staticsOk (importedModules p.main.body) (boot_heap w.params) s.abs.heap&&namesBound p s.abs.heap&&gensDone s.abs&&laidKept (boot_heap w.params) s.abs.heap),openSeen q loose (importedModules p.main.body) Xt g0 s.abs,Yf s.abs))=some (true,openGood q loose,Ya w):=by
  have a:=h1 w os;have b:=h2 w os;have c:=h3 w os;cases e:R w os with
  | none=>rw [e] at a;cases a
  | some s =>
    rw [e] at a b c;exact congrArg some (Prod.ext (Option.some.inj a) (Prod.ext (Option.some.inj b) (Option.some.inj c)))
noncomputable abbrev bootT (P:Params):BT:=btOf (boot_heap P).objs.toList 0 .nil
noncomputable def topK (p:Program) (N:Nat) (w:World) (os:OsState):Option SharedT:=topRunT treeTable p w 11 (some (.ref 6)) N ⟨bootT w.params,11,{},Array.mk [],boot_drawn,boot_toks,os⟩ (topStub p)
theorem Zp6:∀ P,absHeap (bootT P) 11 {}=boot_heap P:=fun P=>by kernel_rfl
theorem Zn0:∀ P,((boot_heap P).isNs mainGlobals,(boot_heap P).objs.size,(boot_heap P).nsMap mainGlobals "__annotations__")=(true,11,some (.ref 6)):=fun P=>by kernel_rfl
def Zs5 (p:Program) (names:List Str):List Str:=((p.main.body.flatMap bindsAtTop).filter fun x=>!startupNames.contains x&&!names.contains x).eraseDups
end L2

namespace My
open PySem PySem.W PyProof.Rows L2
noncomputable abbrev pw:Program:=PySem.Challenge.pw_platerest_k19_whole_plates_numbered_othe
noncomputable abbrev rr:OpenRow:=OpenLaw.row PySem.Challenge.rw_platerest_k19_whole_plates_numbered_othe
noncomputable abbrev qq:Program:=view pw [52]
noncomputable abbrev ll:List Str:=Zs5 pw ["law"]
set_option maxRecDepth 1000000
set_option maxHeartbeats 0
theorem ws:OpenLaw.wellSaid PySem.Challenge.rw_platerest_k19_whole_plates_numbered_othe=true:=by kernel_rfl
theorem h1:∀ w os,(topK pw 3432 w os).map (fun s=>(staticsOk (importedModules pw.main.body) (boot_heap w.params) s.abs.heap&&namesBound pw s.abs.heap&&gensDone s.abs&&laidKept (boot_heap w.params) s.abs.heap))=some true:=fun w os=>by
  unfold topK topStub;rw [PySem.W.Fast.te4652649595001227023,PySem.W.Fast.te14364793385576792824,PySem.W.Fast.te17154629097778926822,PySem.W.Fast.te12822647523644345616]
  kernel_rfl
theorem h2:∀ w os,(topK pw 3432 w os).map (fun s=>openSeen qq ll (importedModules pw.main.body) (fun s=>xlAt qq [] s&&recOk (RowW.records (OpenRow.toRowW rr)) s) true s.abs)=some (openGood qq ll):=fun w os=>by
  unfold topK topStub;rw [PySem.W.Fast.te4652649595001227023,PySem.W.Fast.te14364793385576792824,PySem.W.Fast.te17154629097778926822,PySem.W.Fast.te12822647523644345616,PySem.W.Fast.te4187177175401517315]
  kernel_rfl
end My
noncomputable section
set_option Elab.async false
set_option linter.all false
set_option maxRecDepth 100000
namespace L2
open PySem PySem.Spec PyProof.Rows
theorem z0_:0≤sizeLine:=by decide
theorem z1_:1≤sizeLine:=by decide
theorem z2_:2≤sizeLine:=by decide
theorem z3_:3≤sizeLine:=by decide
theorem z4_:4≤sizeLine:=by decide
theorem z5_:5≤sizeLine:=by decide
abbrev Key:=Sum Int Str
def Zij:Key→Value→Bool
 | .inl k,v=>Value.isInt k v
 | .inr x,v=>Value.isStrOf x v
def keyH (w:World):Key→Int
 | .inl k=>hashInt k
 | .inr x=>hashStr w x
theorem Yc:∀ {k:Key} {v:Value},Zij k v=true→(∃ i t,k=Sum.inl i∧v=Value.int i t)∨(∃ x t,k=Sum.inr x∧v=Value.str x t)
 | .inl i,v,h=>by
   obtain ⟨t,e⟩:=Value.isInt_shape (k:=i) (v:=v) h;exact .inl ⟨i,t,rfl,e⟩
 | .inr x,v,h=>by
   obtain ⟨t,e⟩:=Value.isStrOf_shape (x:=x) (v:=v) h;exact .inr ⟨x,t,rfl,e⟩
theorem Zom (i:Int) (t:Tok):Zij (.inl i) (.int i t)=true:=by simp [Zij,Value.isInt]
theorem Zmy (x:Str) (t:Tok):Zij (.inr x) (.str x t)=true:=by simp [Zij,Value.isStrOf]
theorem Zud (a b:Int):decide ((Sum.inl a:Key)=Sum.inl b)=(a == b):=by
 by_cases e:a=b
 · subst e;simp
 · have h:¬ (Sum.inl a:Key)=Sum.inl b:=fun q=>e (Sum.inl.inj q);rw [n33_ h];exact (beq_eq_false_iff_ne.mpr e).symm
theorem Zvb (a b:Str):decide ((Sum.inr a:Key)=Sum.inr b)=decide (a=b):=by
 by_cases e:a=b
 · subst e;simp
 · have h:¬ (Sum.inr a:Key)=Sum.inr b:=fun q=>e (Sum.inr.inj q);rw [n33_ h,n33_ e]
theorem Zvh (a:Int) (b:Str):decide ((Sum.inl a:Key)=Sum.inr b)=false:=n33_ (fun q=>nomatch q)
theorem Zvc (a:Str) (b:Int):decide ((Sum.inr a:Key)=Sum.inl b)=false:=n33_ (fun q=>nomatch q)
def Yk (prog:Program) (w:World):PySem.KeyKind prog w Key where
 is:=Zij
 hash:=keyH w
 inj:=fun v a b ha hb=>by
  rcases Yc ha with ⟨i,t,rfl,rfl⟩|⟨x,t,rfl,rfl⟩
  · rcases Yc hb with ⟨j,u,rfl,e⟩|⟨y,u,rfl,e⟩
    · injection e with e1 _;rw [e1]
    · exact nomatch e
  · rcases Yc hb with ⟨j,u,rfl,e⟩|⟨y,u,rfl,e⟩
    · exact nomatch e
    · injection e with e1 _;rw [e1]
 byValue:=fun k v h=>by
  rcases Yc h with ⟨i,t,rfl,rfl⟩|⟨x,t,rfl,rfl⟩<;>rfl
 pyHash:=fun hv h=>by
  rcases Yc hv with ⟨i,t,rfl,rfl⟩|⟨x,t,rfl,rfl⟩
  · exact wpAny_pyHash_int h
  · exact wpAny_pyHash_str h
 eqBool:=fun hu hv h=>by
  rcases Yc hu with ⟨i,t,rfl,rfl⟩|⟨x,t,rfl,rfl⟩
  · rcases Yc hv with ⟨j,u,rfl,rfl⟩|⟨y,u,rfl,rfl⟩
    · rw [Zud] at h;exact wpAny_eqBool_int h
    · rw [Zvh] at h;exact SeqAt.EqAt.int_str i t y u _ _ _ _ h
  · rcases Yc hv with ⟨j,u,rfl,rfl⟩|⟨y,u,rfl,rfl⟩
    · rw [Zvc] at h;exact SeqAt.EqAt.str_int x t j u _ _ _ _ h
    · rw [Zvb] at h;exact wpAny_eqBool_str h
 «strs»:=fun k x t v h=>by
  rcases Yc h with ⟨i,u,rfl,e⟩|⟨y,u,rfl,e⟩
  · exact nomatch e
  · injection e with e1 _
    subst e1;cases v<;>rfl
theorem Zim (prog:Program) (w:World) (i:Int) (t:Tok):(Yk prog w).is (.inl i) (.int i t)=true:=Zom i t
theorem Zi3 (prog:Program) (w:World) (x:Str) (t:Tok):(Yk prog w).is (.inr x) (.str x t)=true:=Zmy x t
inductive V where
 | non|bl (b:Bool)|int (i:Int)|str (x:Str)|byt (b:Array UInt8)|flt (b:UInt64)|ref (a:Addr)|ty (n:String)
 deriving DecidableEq
def RelV:V→Value→Prop
 | .non,u=>u=Value.none
 | .bl b,u=>u=Value.bool b
 | .int i,u=>∃ t,u=Value.int i t
 | .str x,u=>∃ t,u=Value.str x t
 | .byt b,u=>∃ t,u=Value.bytes b t
 | .flt b,u=>∃ t,u=Value.float b t
 | .ref a,u=>u=Value.ref a
 | .ty n,u=>u=Value.type n
abbrev Vals:List V→List Value→Prop:=Paired RelV
variable {α:Type} {C a b f it:Addr} {A:Around} {X:Cx} {e iter tg:Expr} {fd:FuncData} {h:Heap} {H H':Hp} {pins:List (Addr×Obj)} {ch fp:List Addr} {N:List Str} {vs xs:List V} {its us:List Value} {M:Model} {i j k n t':Nat} {o:Obj} {pos:Pos} {P:Program} {scope:Scope} {s:Shared} {σ:St} {qual x:Str} {ta:TA} {te:TE} {wi:TI} {v y:V} {u:Value} {E Q:Value→Shared→Prop} {w:World}
theorem Vals.length (r:Vals xs us):xs.length=us.length:=Paired.length r
theorem Vals.get:∀ {xs:List V} {us:List Value} {i:Nat} {x:V},Vals xs us→xs[i]? = some x→∃ u,us[i]? = some u∧RelV x u
 | _,_,_,_,.nil,e=>by simp at e
 | _,_,0,_,.cons r _,e=>by simp at e;subst e;exact ⟨_,rfl,r⟩
 | _,_,i+1,x,.cons _ t,e=>by
   obtain ⟨u,h1,h2⟩:=Vals.get (i:=i) (x:=x) t (by simpa using e);exact ⟨u,by simpa using h1,h2⟩
theorem Vals.set {x:V} (r:RelV x u):∀ {xs:List V} {us:List Value} (i:Nat),Vals xs us→Vals (xs.set i x) (us.set i u)
 | _,_,_,.nil=>.nil
 | _,_,0,.cons _ t=>.cons r t
 | _,_,i+1,.cons q t=>.cons q (Vals.set r i t)
theorem Vals.append:∀ {xs ys:List V} {us ws:List Value},Vals xs us→Vals ys ws→Vals (xs++ys) (us++ws)
 | _,_,_,_,.nil,s=>s
 | _,_,_,_,.cons r t,s=>.cons r (Vals.append t s)
theorem Vals.take:∀ {xs:List V} {us:List Value} (n:Nat),Vals xs us→Vals (xs.take n) (us.take n)
 | _,_,0,_=>.nil
 | _,_,_+1,.nil=>.nil
 | _,_,n+1,.cons r t=>.cons r (Vals.take n t)
theorem Vals.drop:∀ {xs:List V} {us:List Value} (n:Nat),Vals xs us→Vals (xs.drop n) (us.drop n)
 | _,_,0,r=>r
 | _,_,_+1,.nil=>.nil
 | _,_,n+1,.cons _ t=>Vals.drop n t
def RelO:Option V→Option Value→Prop
 | some v,some u=>RelV v u
 | none,none=>True
 | _,_=>False
def KV {κ:Type}:List (κ×V)→List (κ×Value)→Prop:=Paired fun (p:κ×V) (q:κ×Value)=>p.1=q.1∧RelV p.2 q.2
def kV:Key→V
 | .inl i=>.int i
 | .inr x=>.str x
inductive HO where
 | lst (xs:List V)
 | tup (xs:List V)
 | dK (kvs:List (Key×V))|dT (kvs:List (List Key×V))
 | set (S:Int→Bool) (n:Nat)
 | ins (C dx:Addr) (fs:List (Str×V))
 | own (x:Addr)
 | xd (fs:List (Str×V))
 | met (f x:Addr)
 | rng (lo hi:Int)
 | frz (o:Obj) (u:HO)
 | tbl (ps:Array Value)
 | ext (φ:Heap→Prop)
abbrev Hp:=Addr→Option HO
def upd (H:Hp) (a:Addr) (o:HO):Hp:=fun b=>if b=a then some o else H b
theorem Zc {o:HO}:upd H a o a=some o:=by unfold upd;rw [if_pos rfl]
theorem Zh {o:HO} (h:b≠a):upd H a o b=H b:=by unfold upd;rw [if_neg h]
theorem Zsa {o u:HO}:upd (upd H a o) a u=upd H a u:=by
 funext b;unfold upd;split<;>rfl
theorem Zo1 {o u:HO} (h:H a=some o) (h':H b=some u) (d:o≠u):a≠b:=by
 intro e;subst e;rw [h] at h';exact d (Option.some.inj h')
theorem Zg {o:HO} (h:H a=some o) (h':H b=none):a≠b:=by
 intro e;subst e;rw [h] at h';cases h'
def IsTupN (h:Heap) (a:Addr) (its:Array Value):Prop:=∃ o,h.get? a=some o∧(o.cls=.type "tuple" ∧ o.dict=none)∧∃ n,o.data=.seq its n
theorem IsTupN.is {its:Array Value} (x:IsTupN h a its):IsTup h a its:=let ⟨o,e,c,n,d⟩:=x;⟨o,e,c.1,n,d⟩
theorem IsTupN.new (h:Heap) (its:Array Value):IsTupN (h.push { cls:=.type "tuple",data:=.seq its }) h.objs.size its:=⟨_,n8_ _ rfl,⟨rfl,rfl⟩,_,rfl⟩
section
variable (P:Program) (w:World)
def ObjOk (H:Hp) (h:Heap) (a:Addr):HO→Prop
 | .lst xs=>xs.length≤sizeLine∧∃ (its:List Value) (n:Nat),Vals xs its∧h.get? a=some { cls:=.type "list",data:=.seq its.toArray n }
 | .tup xs=>xs.length≤sizeLine∧∃ its:List Value,Vals xs its∧IsTupN h a its.toArray
 | .dK kvs=>kvs.length≤sizeLine∧(a == sysModules)=false∧∃ vs,KV kvs vs∧h.DictOf (Yk P w) a vs
 | .dT kvs=>kvs.length≤sizeLine∧(a == sysModules)=false∧∃ xs:List (List Key×Addr×Value),
    Paired (fun (p:List Key×V) (q:List Key×Addr×Value)=>p.1=q.1∧H q.2.1=some (.tup (p.1.map kV))∧RelV p.2 q.2.2) kvs xs ∧
    ∃ o es ep,h.get? a=some o∧o.ExactDict∧o.data=.dict es ep∧es.toList=xs.map (entryOfKey (tupleKind (Yk P w)))∧(xs.map (·.1)).Nodup
 | .set S n=>h.SetOf (intKind P w) a S n
 | .ins C dx fs=>H dx=some (.own a)∧fs.length≤1000∧dx≠a∧h.get? a=some (PySem.W.instObj C dx) ∧
    ∃ mA,h.Ns1 dx mA∧(∀ f,RelO (fs.lookup f) (mA f))∧PySem.Within mA (fs.map (·.1))
 | .own _=>∃ o,h.get? a=some o
 | .xd fs=>∃ mA,h.Ns1 a mA∧∀ f,RelO (fs.lookup f) (mA f)
 | .rng lo hi=>∃ t u v,h.get? a=some { cls:=.type "range",data:=.fields #[.int lo t,.int hi u,.int 1 v] }
 | .frz o u=>h.get? a=some o∧ObjOk H h a u
 | .tbl ps=>h.get? a=some { cls:=.none,data:=.fields ps }
 | .met f x=>h.get? a=some (PySem.W.methodObj (.ref f) (.ref x))
 | .ext φ=>φ h∧(∃ o,h.get? a=some o)∧∀ h1 h2:Heap,φ h1→(∀ o,h1.get? a=some o→h2.get? a=some o)→φ h2
def HOk (H:Hp) (h:Heap):Prop:=∀ a o,H a=some o→ObjOk P w H h a o
end
section
variable {P:Program} {w:World} {H H':Hp} {h h':Heap} {a:Addr} {o:HO}
theorem ObjOk.lt (x:ObjOk P w H h a o):a<h.objs.size:=by
 cases o with
 | lst xs=>obtain ⟨_,_,_,_,e⟩:=x;exact n11_ e
 | tup xs=>obtain ⟨_,_,_,p⟩:=x;exact p.is.lt
 | dK kvs=>obtain ⟨_,_,_,_,o,_,_,e,_⟩:=x;exact n11_ e
 | dT kvs=>obtain ⟨_,_,_,_,o,_,_,e,_⟩:=x;exact n11_ e
 | set S n=>obtain ⟨o,_,_,_,e,_⟩:=x;exact n11_ e
 | ins C dx fs=>obtain ⟨_,_,_,e,_⟩:=x;exact n11_ e
 | own y=>obtain ⟨_,e⟩:=x;exact n11_ e
 | xd fs=>obtain ⟨_,⟨_,_,_,e,_⟩,_⟩:=x;exact n11_ e
 | rng lo hi=>obtain ⟨_,_,_,e⟩:=x;exact n11_ e
 | frz ob u=>obtain ⟨e,_⟩:=x;exact n11_ e
 | tbl ps=>exact n11_ (show h.get? a=some _ from x)
 | met f y=>exact n11_ (show h.get? a=some _ from x)
 | ext φ=>obtain ⟨_,⟨_,e⟩,_⟩:=x;exact n11_ e
theorem Paired.mapP {β:Type} {F G:α→β→Prop}:∀ {l₁:List α} {l₂:List β},Paired F l₁ l₂→(∀ a b,F a b→G a b)→Paired G l₁ l₂
 | _,_,.nil,_=>.nil
 | _,_,.cons r t,f=>.cons (f _ _ r) (Paired.mapP t f)
theorem ObjOk.stay (x:ObjOk P w H h a o) (k:∀ b u,(b=a∨H b=some (.own a))→h.get? b=some u→h'.get? b=some u)
 (ho:∀ b,H b=some (.own a)→H' b=some (.own a)) (ht:∀ b xs,H b=some (.tup xs)→H' b=some (.tup xs)):ObjOk P w H' h' a o:=by
 induction o with
 | lst xs=>obtain ⟨z,its,n,r,e⟩:=x;exact ⟨z,its,n,r,k _ _ (.inl rfl) e⟩
 | tup xs=>obtain ⟨z,its,r,ob,e,c⟩:=x;exact ⟨z,its,r,ob,k _ _ (.inl rfl) e,c⟩
 | dK kvs=>obtain ⟨z,y,vs,r,ob,es,ep,e,c⟩:=x;exact ⟨z,y,vs,r,ob,es,ep,k _ _ (.inl rfl) e,c⟩
 | dT kvs =>
   obtain ⟨z,y,xs,r,ob,es,ep,e,c⟩:=x;exact ⟨z,y,xs,Paired.mapP r fun p q z=>⟨z.1,ht _ _ z.2.1,z.2.2⟩,ob,es,ep,k _ _ (.inl rfl) e,c⟩
 | set S n=>obtain ⟨ob,es,ep,t,e,c⟩:=x;exact ⟨ob,es,ep,t,k _ _ (.inl rfl) e,c⟩
 | ins C dx fs =>
   obtain ⟨d,z,ne,e,mA,⟨od,es,ep,e2,c⟩,r⟩:=x;exact ⟨ho _ d,z,ne,k _ _ (.inl rfl) e,mA,⟨od,es,ep,k _ _ (.inr d) e2,c⟩,r⟩
 | own y=>obtain ⟨ob,e⟩:=x;exact ⟨ob,k _ _ (.inl rfl) e⟩
 | xd fs=>obtain ⟨mA,⟨od,es,ep,e,c⟩,r⟩:=x;exact ⟨mA,⟨od,es,ep,k _ _ (.inl rfl) e,c⟩,r⟩
 | rng lo hi=>obtain ⟨t,u,v,e⟩:=x;exact ⟨t,u,v,k _ _ (.inl rfl) e⟩
 | frz ob u ih=>obtain ⟨e,q⟩:=x;exact ⟨k _ _ (.inl rfl) e,ih q⟩
 | tbl ps =>
   have e:h.get? a=some { cls:=.none,data:=.fields ps }:=x;show h'.get? a=some { cls:=.none,data:=.fields ps }
   exact k a _ (.inl rfl) e
 | met f y =>
   have e:h.get? a=some (PySem.W.methodObj (.ref f) (.ref y)):=x;show h'.get? a=some (PySem.W.methodObj (.ref f) (.ref y))
   exact k a _ (.inl rfl) e
 | ext φ=>obtain ⟨p,⟨o,e⟩,st⟩:=x;exact ⟨st _ _ p fun o q=>k _ _ (.inl rfl) q,⟨o,k _ _ (.inl rfl) e⟩,st⟩
theorem HOk.lt (x:HOk P w H h) (e:H a=some o):a<h.objs.size:=(x a o e).lt
theorem HOk.fresh (x:HOk P w H h) (e:h.objs.size≤a):H a=none:=by
 cases q:H a with
 | none=>rfl
 | some u=>exact absurd (n25_ (x.lt q) e) (n78_ _)
theorem HOk.kept (x:HOk P w H h) (k:∀ b u,h.get? b=some u→h'.get? b=some u):HOk P w H h':=fun a o e =>
 (x a o e).stay (fun b u _ q=>k b u q) (fun _ q=>q) fun _ _ q=>q
theorem HOk.laid (x:HOk P w H h) (k:∀ b u,h.get? b=some u→h'.get? b=some u) (hp:h.objs.size≤a) (new:ObjOk P w (upd H a o) h' a o):HOk P w (upd H a o) h':=fun b u e=>by
 have hn:=x.fresh hp
 by_cases hb:b=a
 · subst hb;rw [Zc] at e;cases e;exact new
 · rw [Zh hb] at e;exact (x b u e).stay (fun c v _ q=>k c v q) (fun c q=>by rw [Zh (Zg q hn)];exact q) fun c xs q=>by rw [Zh (Zg q hn)];exact q
end
def Rd (H:Hp) (a:Addr) (u:HO):Prop:=H a=some u∨∃ o,H a=some (.frz o u)
theorem Rd.ok {u:HO} (r:Rd H a u) (x:HOk P w H h):ObjOk P w H h a u:=by
 rcases r with r|⟨o,r⟩
 · exact x a u r
 · obtain ⟨_,q⟩:=x a _ r;exact q
def Mut:Option HO→Prop
 | some (.lst _)=>True
 | some (.dK _)=>True
 | some (.dT _)=>True
 | some (.set _ _)=>True
 | some (.ins _ _ _)=>True
 | some (.ext _)=>True
 | _=>False
section
variable {P:Program} {w:World} {H:Hp} {h h':Heap} {x e:Addr} {o':HO}
theorem HOk.write (ok:HOk P w H h) (mu:Mut (H x)) (he:e=x∨H e=some (.own x)) (k:∀ b u,b≠e→h.get? b=some u→h'.get? b=some u) (heo:∃ u,h'.get? e=some u)
 (new:ObjOk P w (upd H x o') h' x o'):HOk P w (upd H x o') h':=fun b u q=>by
 have nown:∀ c y,H c=some (.own y)→c≠x:=fun c y r z=>by subst z;rw [r] at mu;exact mu
 have ntup:∀ c xs,H c=some (.tup xs)→c≠x:=fun c xs r z=>by subst z;rw [r] at mu;exact mu
 by_cases hb:b=x
 · subst hb;rw [Zc] at q;cases q;exact new
 · rw [Zh hb] at q
   by_cases hbe:b=e
   · have q':H b=some (.own x):=by
      rcases he with z|z
      · exact absurd (hbe.trans z) hb
      · rw [hbe];exact z
     rw [q] at q';cases q';obtain ⟨v,hv⟩:=heo;exact ⟨v,by rw [hbe];exact hv⟩
   · refine (ok b u q).stay (fun c v hc r=>k c v ?_ r) (fun c r=>by rw [Zh (nown c b r)];exact r) fun c xs r=>by rw [Zh (ntup c xs r)];exact r
     rcases hc with rfl|hc
     · exact hbe
     · rintro rfl
       rcases he with z|z
       · exact nown c b hc z
       · rw [hc] at z;cases z;exact hb rfl
end
structure Un (fs ex:List Addr) (H H':Hp) (h h':Heap):Prop where
 keep:∀ b o,h.get? b=some o→H b=none→b∉fs→b∉ex→h'.get? b=some o
 slot:∀ b o,h.get? b=some o→H b=none→b∈fs→b∉ex→∃ sl,h'.get? b=some { o with slots:=sl }
 free:∀ b o,h.get? b=some o→H b=none→b∉ex→H' b=none
 there:∀ b o,h.get? b=some o→b∉ex→∃ o',h'.get? b=some o'
 tups:∀ b xs,H b=some (.tup xs)→H' b=some (.tup xs)
 frzs:∀ b o u,H b=some (.frz o u)→H' b=some (.frz o u)
 tbls:∀ b ps,H b=some (.tbl ps)→∃ more,H' b=some (.tbl (ps++more))
section
variable {fs fs' ex ex':List Addr} {H H1 H2:Hp} {h h1 h2 h':Heap} {a x e:Addr} {o:HO}
theorem Un.any (u:Un fs ex H H1 h h1) {ob:Obj} (q:h.get? b=some ob) (n:H b=none) (hx:b∉ex):∃ sl,h1.get? b=some { ob with slots:=sl }:=by
 by_cases hb:b∈fs
 · exact u.slot b ob q n hb hx
 · exact ⟨ob.slots,u.keep b ob q n hb hx⟩
theorem Un.kept (k:∀ b u,h.get? b=some u→h'.get? b=some u):Un fs ex H H h h' :=
 ⟨fun b ob q _ _ _=>k b ob q,fun b ob q _ _ _=>⟨ob.slots,k b ob q⟩,fun _ _ _ n _=>n,fun b ob q _=>⟨ob,k b ob q⟩,fun _ _ q=>q,fun _ _ _ q=>q,fun _ ps q=>⟨#[],by rw [q];simp⟩⟩
theorem Un.refl:Un fs ex H H h h:=Un.kept fun _ _ q=>q
theorem Un.laid (k:∀ b u,h.get? b=some u→h'.get? b=some u) (hp:h.objs.size≤a) (hn:H a=none):Un fs ex H (upd H a o) h h' where
 keep:=fun b u q _ _ _=>k b u q
 slot:=fun b u q _ _ _=>⟨u.slots,k b u q⟩
 free:=fun b u q n _=>by rw [Zh (n17_ (n25_ (n11_ q) hp))];exact n
 there:=fun b u q _=>⟨u,k b u q⟩
 tups:=fun b xs q=>by rw [Zh (Zg q hn)];exact q
 frzs:=fun b u xs q=>by rw [Zh (Zg q hn)];exact q
 tbls:=fun b ps q=>⟨#[],by rw [Zh (Zg q hn),q];simp⟩
theorem Un.write (mu:Mut (H x)) (he:e=x∨H e=some (.own x)) (k:∀ b u,b≠e→h.get? b=some u→h'.get? b=some u) (heo:∃ u,h'.get? e=some u):Un fs ex H (upd H x o) h h':=by
 have hx:∀ b,H b=none→b≠x:=fun b n z=>by subst z;rw [n] at mu;exact mu
 have hb:∀ b,H b=none→b≠e:=fun b n z=>by
  subst z
  rcases he with r|r
  · exact hx b n r
  · rw [n] at r;cases r
 have hm:∀ b u,H b=some u→¬ Mut (some u)→b≠x:=fun b u q nm z=>by subst z;rw [q] at mu;exact nm mu
 refine ⟨fun b u q n _ _=>k b u (hb b n) q,fun b u q n _ _=>⟨u.slots,k b u (hb b n) q⟩,fun b u q n _=>by rw [Zh (hx b n)];exact n,fun b u q _=>?_,
  fun b xs q=>by rw [Zh (hm b _ q fun z=>z)];exact q,fun b u xs q=>by rw [Zh (hm b _ q fun z=>z)];exact q,fun b ps q=>⟨#[],by rw [Zh (hm b _ q fun z=>z),q];simp⟩⟩
 by_cases hbe:b=e
 · subst hbe;exact heo
 · exact ⟨u,k b u hbe q⟩
end
def trk (h:Heap) (H:Hp):List Addr:=(List.range h.objs.size).filter fun a=>(H a).isSome
def hidT (h:Heap) (H:Hp):Heap:=PySem.W.hideAll h (trk h H)
theorem Zn8 (h:Heap) (H:Hp):(hidT h H).objs.size=h.objs.size:=PySem.W.hideAll_size _ _
theorem Zpz (e:h.get? b=some o) (n:H b=none):(hidT h H).get? b=some o :=
 PySem.W.hideAll_get _ e fun hm=>by
  have q:(H b).isSome=true:=(n71_.mp hm).2;rw [n] at q;simp at q
theorem Zrv (e:(hidT h H).get? b=some o):h.get? b=some o∧H b=none:=by
 have e':h.get? b=some o:=PySem.W.of_hideAll (trk h H) e;refine ⟨e',?_⟩;cases q:H b with
 | none=>rfl
 | some x =>
   have hm:b∈trk h H:=n71_.mpr ⟨n24_.mpr (n11_ e'),by simp [q]⟩;have z:(hidT h H).get? b=none:=PySem.W.hideAll_none (trk h H) hm;rw [z] at e;cases e
structure Mod (K:PySem.W.Frag) (mg:Str→Option Value) (base:Heap):Prop where
 kin:K.In base
 glob:base.Ns mainGlobals mg
 blt:∃ mb,base.Ns builtinsNs mb∧∀ x:Str,x ≠ "__name__" → mb x=bootBuiltins x
 nolimit:base.NoLimit
 seer:base.NoSeer
 digits:base.NoDigits
structure Cx where
 prog:Program
 w:World
 K:PySem.W.Frag
 mg:Str→Option Value
 base:Heap
 A:Around
 N:List Str
 s₀:Shared
 H₀:Hp
 env:Env
 outer:List Env
 stack:List Env
 ex:List Addr
 fn:Str→Bool
 calm:Bool
 pn:List (Addr×Obj)
 xe:Value→Shared→Prop
def frs (l:List Env):List Addr:=l.filterMap (·.frame)
abbrev Cx.fs (X:Cx):List Addr:=frs X.outer
def Vis (sc:Scope) (x:Str):Prop:=sc.names.lookup x=some .local∨sc.names.lookup x=some .cell∨sc.names.lookup x=some .free
def Loc (sc:Scope) (x:Str):Prop:=sc.names.lookup x=some .local∨sc.names.lookup x=some .cell
def Look (env:Env) (h:Heap) (m:Str→Option Value) (x:Str) (u:Value):Prop :=
 (env.kindOf x=some .local∧m x=some u)∨((env.kindOf x=some .cell∨env.kindOf x=some .free)∧∃ c,env.cells.lookup x=some c∧h.IsCell c (some u))
structure Cx.Ok (X:Cx):Prop where
 mod:Mod X.K X.mg X.base
 kind:X.env.scope.kind=.function
 glob:X.env.globals=mainGlobals
 blt:X.env.builtins=builtinsNs
 above:X.s₀.z≤X.env.locals
 inj:∀ x y c,X.env.cells.lookup x=some c→X.env.cells.lookup y=some c→x=y
 has:∀ x,(X.env.kindOf x=some .cell∨X.env.kindOf x=some .free)→∃ c,X.env.cells.lookup x=some c
 cab:∀ x c,X.fn x=true→X.env.cells.lookup x=some c→X.s₀.z≤c
 hd:X.calm=true→X.A.handled=none
 frames:X.A.frames=some X.stack
 stk:X.stack=X.outer∨(X.stack=X.env :: X.outer∧X.env.frame=some X.env.locals)
 exf:∀ b∈X.ex,b≠X.env.locals∧∀ x c,X.env.cells.lookup x=some c→c≠b
 bs:∀ b o,X.base.get? b=some o→X.s₀.heap.get? b=some o∧X.H₀ b=none
 bsz:X.base.objs.size≤X.s₀.z
 noex:∀ b o,X.base.get? b=some o→b∉X.ex
 exfs:∀ b∈X.ex,b∉X.fs
 funs:X.s₀.heap.FunFrames X.base X.outer
 frf:∀ b∈X.fs,X.H₀ b=none
structure Inv (X:Cx) (pins:List (Addr×Obj)) (σ:List (Option V)) (H:Hp) (s:Shared):Prop where
 ok:X.Ok
 os:s.os=X.s₀.os
 bare:AllBare s.gens
 base:Un X.fs X.ex X.H₀ H X.s₀.heap s.heap
 loc:∃ m,s.heap.Ns X.env.locals m∧∀ (i:Nat) (x:Str) (v:V),X.N[i]? = some x→σ[i]? = some (some v)→Vis X.env.scope x→∃ u,RelV v u∧Look X.env s.heap m x u
 cell:∀ x c,X.env.cells.lookup x=some c→∃ v,s.heap.IsCell c v
 free:H X.env.locals=none
 freeC:∀ x c,X.env.cells.lookup x=some c→H c=none∨(X.fn x=false∧∃ o u,H c=some (.frz o u))
 pin:∀ p∈X.pn++pins,s.heap.get? p.1=some p.2∧H p.1=none∧p.1≠X.env.locals∧p.1∉X.fs∧∀ v,p.2.data≠.cell v
 hok:HOk X.prog X.w H s.heap
 len:σ.length=X.N.length
section
variable {X:Cx} {pins:List (Addr×Obj)} {σ:List (Option V)} {H H':Hp} {s:Shared} {h':Heap}
theorem Cx.Ok.nofr (ok:X.Ok) (e:X.base.get? b=some o):b∉X.fs:=fun hb=>by
 have:=(ok.funs.mem hb).1
 rw [e] at this;cases this
theorem Inv.bs (I:Inv X pins σ H s):∀ b o,X.base.get? b=some o→s.heap.get? b=some o∧H b=none:=fun b o e =>
 ⟨I.base.keep b o (I.ok.bs b o e).1 (I.ok.bs b o e).2 (I.ok.nofr e) (I.ok.noex b o e),I.base.free b o (I.ok.bs b o e).1 (I.ok.bs b o e).2 (I.ok.noex b o e)⟩
theorem Inv.bk (I:Inv X pins σ H s):∀ b o,X.base.get? b=some o→s.heap.get? b=some o:=fun b o e=>(I.bs b o e).1
theorem Inv.mod (I:Inv X pins σ H s):Mod X.K X.mg X.base:=I.ok.mod
theorem Inv.kIn (I:Inv X pins σ H s):X.K.In s.heap:=I.ok.mod.kin.keeps I.bk
theorem Inv.lt (I:Inv X pins σ H s):X.env.locals<s.z:=let ⟨_,hn,_⟩:=I.loc;hn.lt
theorem Inv.sz (I:Inv X pins σ H s):X.s₀.z≤s.z:=n74_ I.ok.above (Nat.le_of_lt I.lt)
theorem Inv.nofs (I:Inv X pins σ H s) (h:s.z≤a):a∉X.fs:=fun hb=>by
 obtain ⟨_,o,ho,_⟩:=I.ok.funs.mem hb;exact absurd (n25_ (n11_ ho) (n74_ I.sz h)) (n78_ _)
theorem Inv.cne (I:Inv X pins σ H s):∀ x c,X.env.cells.lookup x=some c→c≠X.env.locals:=fun x c e z=>by
 obtain ⟨v,o,ho,hd⟩:=I.cell x c e;obtain ⟨m,⟨o',es,ep,ho',hd',_⟩,_⟩:=I.loc;rw [z,ho'] at ho;cases ho;rw [hd'] at hd;cases hd
theorem Inv.funs (I:Inv X pins σ H s):s.heap.FunFrames X.base X.outer:=by
 have all:∀ (l:List Env),(∀ b∈frs l,b∈X.fs)→X.s₀.heap.FunFrames X.base l→s.heap.FunFrames X.base l:=by
  intro l
  induction l with
  | nil=>intro _ _;trivial
  | cons env r ih =>
    intro hs hl;obtain ⟨hk,⟨L,o,hf,hn,ho,hd⟩,hr⟩:=hl;have hL:L∈X.fs:=hs L (by unfold frs;rw [List.filterMap_cons,hf];exact n27_);obtain ⟨sl,e⟩:=I.base.slot L o ho (I.ok.frf L hL) hL fun z=>I.ok.exfs L z hL;exact ⟨hk,⟨L,_,hf,hn,e,hd⟩,ih (fun b hb=>hs b (by unfold frs;rw [List.filterMap_cons,hf];exact n19_ _ hb)) hr⟩
 exact all X.outer (fun _ hb=>hb) I.ok.funs
theorem Inv.stack (I:Inv X pins σ H s):s.heap.FunFrames X.base X.stack:=by
 rcases I.ok.stk with e|⟨e,hf⟩
 · rw [e];exact I.funs
 · rw [e];obtain ⟨m,hn,_⟩:=I.loc;refine .cons (by rw [I.ok.kind];decide) hf hn ?_ I.funs;exact Heap.get?_none_of_le (n74_ I.ok.bsz I.ok.above)
theorem Inv.stkSub (I:Inv X pins σ H s):∀ b∈frs X.stack,b∈X.env.locals :: X.fs:=fun b hb=>by
 rcases I.ok.stk with e|⟨e,hf⟩
 · rw [e] at hb;exact n19_ _ hb
 · rw [e] at hb;unfold frs at hb;rw [List.filterMap_cons,hf] at hb;exact hb
theorem Inv.stkFree (I:Inv X pins σ H s):∀ b∈frs X.stack,H b=none:=fun b hb=>by
 rcases n12_.mp (I.stkSub b hb) with e|hb
 · rw [e];exact I.free
 · obtain ⟨_,o,ho,_⟩:=I.ok.funs.mem hb;exact I.base.free b o ho (I.ok.frf b hb) fun z=>I.ok.exfs b z hb
theorem Inv.step {g':Array GenState} {d':Drawn} (I:Inv X pins σ H s)
 (hch:∀ b∈ch,(b∈X.ex∨X.s₀.z≤b)∧b≠X.env.locals∧(∀ x c,X.env.cells.lookup x=some c→c≠b)∧∀ p∈X.pn++pins,p.1≠b)
 (keep:∀ b o,b≠X.env.locals→b∉X.fs→b∉ch→s.heap.get? b=some o→H b=none→h'.get? b=some o)
 (slot:∀ b o,b≠X.env.locals→b∈X.fs→b∉ch→s.heap.get? b=some o→H b=none→∃ sl,h'.get? b=some { o with slots:=sl }) (free:∀ b o,b∉ch→s.heap.get? b=some o→H b=none→H' b=none)
 (there:∀ b o,b∉ch→s.heap.get? b=some o→∃ o',h'.get? b=some o')
 (tups:∀ b xs,H b=some (.tup xs)→H' b=some (.tup xs)) (frzs:∀ b o u,H b=some (.frz o u)→H' b=some (.frz o u)) (tbls:∀ b ps,H b=some (.tbl ps)→∃ more,H' b=some (.tbl (ps++more)))
 (ns:∀ m,s.heap.Ns X.env.locals m→h'.Ns X.env.locals m) (hok:HOk X.prog X.w H' h') (hg:AllBare g') :
 Inv X pins σ H' { s with heap:=h',gens:=g',drawn:=d',toks:=t' }:=by
 have neL:∀ b o,X.s₀.heap.get? b=some o→b≠X.env.locals:=fun b o e=>n17_ (n25_ (n11_ e) I.ok.above)
 have neC:∀ b o,X.s₀.heap.get? b=some o→b∉X.ex→b∉ch:=fun b o e hx hb=>by
  rcases (hch b hb).1 with z|z
  · exact hx z
  · exact absurd (n25_ (n11_ e) z) (n78_ _)
 have cellK:∀ x c,X.env.cells.lookup x=some c→∀ v,s.heap.IsCell c v→h'.IsCell c v:=fun x c e v ⟨o,ho,hd⟩=>by
  have nch:c∉ch:=fun z=>(hch c z).2.2.1 x c e rfl
  rcases I.freeC x c e with fz|⟨_,o',u',fz⟩
  · by_cases hc:c∈X.fs
    · obtain ⟨sl,q⟩:=slot c o (I.cne x c e) hc nch ho fz;exact ⟨_,q,hd⟩
    · exact ⟨o,keep c o (I.cne x c e) hc nch ho fz,hd⟩
  · have h1:=(I.hok c _ fz).1;rw [ho] at h1;cases h1;exact ⟨o,(hok c _ (frzs c o u' fz)).1,hd⟩
 refine ⟨I.ok,I.os,hg,⟨fun b o e n hb hx=>?_,fun b o e n hb hx=>?_,fun b o e n hx=>?_,fun b o e hx=>?_,fun b xs e=>tups b xs (I.base.tups b xs e),fun b o xs e=>frzs b o xs (I.base.frzs b o xs e),fun b ps e=>?_⟩,?_,fun x c e=>?_,?_,fun x c e=>?_,fun p hp=>?_,hok,I.len⟩
 · exact keep b o (neL b o e) hb (neC b o e hx) (I.base.keep b o e n hb hx) (I.base.free b o e n hx)
 · obtain ⟨sl,e1⟩:=I.base.slot b o e n hb hx;obtain ⟨sl',e2⟩:=slot b _ (neL b o e) hb (neC b o e hx) e1 (I.base.free b o e n hx);exact ⟨sl',e2⟩
 · obtain ⟨o',e1⟩:=I.base.there b o e hx;exact free b o' (neC b o e hx) e1 (I.base.free b o e n hx)
 · obtain ⟨o',e1⟩:=I.base.there b o e hx;exact there b o' (neC b o e hx) e1
 · obtain ⟨m1,e1⟩:=I.base.tbls b ps e;obtain ⟨m2,e2⟩:=tbls b _ e1;exact ⟨m1++m2,by rw [e2,Array.append_assoc]⟩
 · obtain ⟨m,hn,hl⟩:=I.loc;refine ⟨m,ns m hn,fun i x v e1 e2 e3=>?_⟩;obtain ⟨u,r,l⟩:=hl i x v e1 e2 e3;refine ⟨u,r,?_⟩
   rcases l with l|⟨k,c,e,z⟩
   · exact .inl l
   · exact .inr ⟨k,c,e,cellK x c e _ z⟩
 · obtain ⟨v,z⟩:=I.cell x c e;exact ⟨v,cellK x c e v z⟩
 · obtain ⟨m,⟨o,_,_,ho,_⟩,_⟩:=I.loc;exact free _ o (fun z=>(hch _ z).2.1 rfl) ho I.free
 · obtain ⟨v,o,ho,hd⟩:=I.cell x c e;exact (I.freeC x c e).imp (fun fz=>free c o (fun z=>(hch c z).2.2.1 x c e rfl) ho fz) fun ⟨q,o',u',fz⟩=>⟨q,o',u',frzs c o' u' fz⟩
 · obtain ⟨e,n,ne,nf,d⟩:=I.pin p hp;have nch:p.1∉ch:=fun z=>(hch p.1 z).2.2.2 p hp rfl;exact ⟨keep p.1 p.2 ne nf nch e n,free p.1 p.2 nch e n,ne,nf,d⟩
theorem Inv.un (I:Inv X pins σ H s) (u:Un X.fs [] H H' s.heap h') (hok:HOk X.prog X.w H' h'):Inv X pins σ H' { s with heap:=h',toks:=t' }:=by
 obtain ⟨m,⟨o,es,ep,ho,r⟩,_⟩:=id I.loc;obtain ⟨sl,hL⟩:=u.any ho I.free (by simp)
 exact I.step (g':=s.gens) (d':=s.drawn) (ch:=[]) (fun _ z=>nomatch z) (fun b o _ hb _ e n=>u.keep b o e n hb (by simp)) (fun b o _ hb _ e n=>u.slot b o e n hb (by simp)) (fun b o _ e n=>u.free b o e n (by simp)) (fun b o _ e=>u.there b o e (by simp)) u.tups u.frzs u.tbls (fun m' hm=>by
  obtain ⟨o',es',ep',ho',r'⟩:=hm;rw [ho] at ho';cases ho';exact ⟨_,es',ep',hL,r'⟩) hok I.bare
theorem Inv.call {g':Array GenState} {d':Drawn} (I:Inv X pins σ H s) (u:Un (frs X.stack) ch H H' s.heap h') (hok:HOk X.prog X.w H' h') (hg:AllBare g')
 (hch:∀ b∈ch,(b∈X.ex∨X.s₀.z≤b)∧b≠X.env.locals∧(∀ x c,X.env.cells.lookup x=some c→c≠b)∧∀ p∈X.pn++pins,p.1≠b) :
 Inv X pins σ H' { s with heap:=h',gens:=g',drawn:=d',toks:=t' }:=by
 obtain ⟨m,⟨o,es,ep,ho,r⟩,_⟩:=id I.loc;obtain ⟨sl,hL⟩:=u.any ho I.free fun z=>(hch _ z).2.1 rfl
 exact I.step (ch:=ch) hch (fun b o hL hb hc e n=>u.keep b o e n (fun z=>(n12_.mp (I.stkSub b z)).elim hL hb) hc) (fun b o _ _ hc e n=>u.any e n hc) (fun b o hc e n=>u.free b o e n hc) (fun b o hc e=>u.there b o e hc) u.tups u.frzs u.tbls (fun m' hm=>by
  obtain ⟨o',es',ep',ho',r'⟩:=hm;rw [ho] at ho';cases ho';exact ⟨_,es',ep',hL,r'⟩) hok hg
theorem Inv.turned (I:Inv X pins σ H s) (k:∀ b o,b≠it→s.heap.get? b=some o→h'.get? b=some o) (hn:H it=none) (hL:it≠X.env.locals)
 (h1:it∈X.ex∨X.s₀.z≤it) (h2:∀ x c,X.env.cells.lookup x=some c→c≠it) (h3:∀ p∈X.pn++pins,p.1≠it):Inv X pins σ H { s with heap:=h',toks:=t' }:=by
 have nit:∀ b u,H b=some u→b≠it:=fun b u e z=>by rw [z,hn] at e;cases e
 refine I.step (g':=s.gens) (d':=s.drawn) (ch:=[it]) (fun b hb=>?_) (fun b o _ _ hc e _=>k b o (fun z=>hc (by simp [z])) e) (fun b o _ _ hc e _=>⟨o.slots,k b o (fun z=>hc (by simp [z])) e⟩) (fun _ _ _ _ n=>n)
  (fun b o hc e=>⟨o,k b o (fun z=>hc (by simp [z])) e⟩) (fun _ _ e=>e) (fun _ _ _ e=>e) (fun b ps e=>⟨#[],by rw [e];simp⟩) (fun m hm=>?_) (fun b u e=>?_) I.bare
 · have e:b=it:=by simpa using hb
   subst e;exact ⟨h1,hL,h2,h3⟩
 · obtain ⟨o,es,ep,ho,r⟩:=hm;exact ⟨o,es,ep,k _ o (Ne.symm hL) ho,r⟩
 · refine (I.hok b u e).stay (fun c v hc q=>k c v ?_ q) (fun _ q=>q) fun _ _ q=>q
   rcases hc with z|z
   · rw [z];exact nit b u e
   · exact nit c _ z
theorem Inv.tok (I:Inv X pins σ H s) (t:Nat):Inv X pins σ H { s with toks:=t }:=I.un (h':=s.heap) (t':=t) Un.refl I.hok
theorem Inv.kept (I:Inv X pins σ H s) (k:∀ b u,s.heap.get? b=some u→h'.get? b=some u):Inv X pins σ H { s with heap:=h',toks:=t' }:=I.un (Un.kept k) (I.hok.kept k)
theorem Inv.laid {o:HO} (I:Inv X pins σ H s) (k:∀ b u,s.heap.get? b=some u→h'.get? b=some u) (hp:s.z≤a) (new:ObjOk X.prog X.w (upd H a o) h' a o) :
 Inv X pins σ (upd H a o) { s with heap:=h',toks:=t' }:=I.un (Un.laid k hp (I.hok.fresh hp)) (I.hok.laid k hp new)
theorem Inv.write {x e:Addr} {o:HO} (I:Inv X pins σ H s) (mu:Mut (H x)) (he:e=x∨H e=some (.own x)) (k:∀ b u,b≠e→s.heap.get? b=some u→h'.get? b=some u) (heo:∃ u,h'.get? e=some u)
 (new:ObjOk X.prog X.w (upd H x o) h' x o):Inv X pins σ (upd H x o) { s with heap:=h',toks:=t' }:=I.un (Un.write mu he k heo) (I.hok.write mu he k heo new)
theorem Inv.pins_of {pins':List (Addr×Obj)} (I:Inv X pins σ H s) (h:∀ p∈pins',s.heap.get? p.1=some p.2∧H p.1=none∧p.1≠X.env.locals∧p.1∉X.fs∧∀ v,p.2.data≠.cell v):Inv X pins' σ H s :=
 ⟨I.ok,I.os,I.bare,I.base,I.loc,I.cell,I.free,I.freeC,fun p hp=>(n34_.mp hp).elim (fun z=>I.pin p (n76_ _ z)) (h p),I.hok,I.len⟩
theorem Zjx (hN:N.Nodup) (a:N[i]? = some x) (b:N[j]? = some x):i=j:=by
 obtain ⟨h1,e1⟩:=n9_.mp a;obtain ⟨h2,e2⟩:=n9_.mp b;exact (n53_ hN).mp (e1.trans e2.symm)
theorem Zo2 {Q:Unit→Shared→Prop} (I:Inv X pins σ H s) (hN:X.N.Nodup) (hi:X.N[i]? = some x) (hx:Loc X.env.scope x) (r:RelV v u)
 (h:∀ s',Inv X pins (σ.set i (some v)) H s'→(∃ a,Heap.SameBut a s.heap s'.heap∧(a=X.env.locals∨X.env.cells.lookup x=some a))→Q () s') (hf:X.fn x=true∨X.env.scope.names.lookup x=some .local:=by first|exact .inl rfl|exact .inr rfl|assumption):wpAny M A (storeName X.env x u) Q E s:=by
 obtain ⟨m,hn,hl⟩:=id I.loc;have hcls:(X.env.scope.kind == .class||(X.env.scope.kind == .module&&X.env.locals != X.env.globals))=false:=by rw [I.ok.kind];rfl
 have hiσ:i<σ.length:=by rw [I.len];exact (n9_.mp hi).1
 have cne:=I.cne
 have tracked:∀ {a:Addr} {h':Heap},(∃ o,s.heap.get? a=some o∧H a=none)→Heap.SameBut a s.heap h'→HOk X.prog X.w H h':=fun {a h'} ha hs b ob e=>by
  obtain ⟨_,_,hfree⟩:=ha;refine (I.hok b ob e).stay (fun c w' hc q=>(hs.2 c ?_).trans q) (fun _ q=>q) fun _ _ q=>q;rintro rfl
  rcases hc with rfl|hc
  · rw [hfree] at e;cases e
  · rw [hfree] at hc;cases hc
 rcases hx with hk|hk
 · refine wpAny_storeName_local hk hn (fun h' hn' hs=>?_) hcls;obtain ⟨oL,_,_,hoL,_⟩:=id hn;refine h _ ⟨I.ok,I.os,I.bare,⟨fun b o e n hb hx=>?_,fun b o e n hb hx=>?_,I.base.free,fun b o e hx=>?_,I.base.tups,I.base.frzs,I.base.tbls⟩,⟨_,hn',fun j y v' e1 e2 e3=>?_⟩,fun y c e=>?_,I.free,I.freeC,fun p hp=>?_,tracked ⟨oL,hoL,I.free⟩ hs,by simpa using I.len⟩ ⟨_,hs,.inl rfl⟩
   · exact (hs.2 b (n17_ (n25_ (n11_ e) I.ok.above))).trans (I.base.keep b o e n hb hx)
   · obtain ⟨sl,e1⟩:=I.base.slot b o e n hb hx;exact ⟨sl,(hs.2 b (n17_ (n25_ (n11_ e) I.ok.above))).trans e1⟩
   · obtain ⟨o',e1⟩:=I.base.there b o e hx;exact ⟨o',(hs.2 b (n17_ (n25_ (n11_ e) I.ok.above))).trans e1⟩
   · by_cases hj:j=i
     · subst hj;rw [hi] at e1;cases e1;rw [List.getElem?_set_self hiσ] at e2;cases e2
       exact ⟨u,r,.inl ⟨hk,by simp⟩⟩
     · rw [List.getElem?_set_ne (Ne.symm hj)] at e2;obtain ⟨u',r',q⟩:=hl j y v' e1 e2 e3;refine ⟨u',r',?_⟩
       rcases q with ⟨k,e⟩|⟨k,c,e,z⟩
       · refine .inl ⟨k,?_⟩
         have:y≠x:=fun e=>hj (Zjx hN e1 (e ▸ hi))
         simp [this,e]
       · exact .inr ⟨k,c,e,z.sameBut hs (cne y c e)⟩
   · obtain ⟨w',z⟩:=I.cell y c e;exact ⟨w',z.sameBut hs (cne y c e)⟩
   · obtain ⟨e,n,ne,nf,d⟩:=I.pin p hp;exact ⟨(hs.2 p.1 ne).trans e,n,ne,nf,d⟩
 · have hfn:X.fn x=true:=by
    rcases hf with z|z
    · exact z
    · rw [z] at hk;cases hk
   obtain ⟨c,hc⟩:=I.ok.has x (.inl hk);obtain ⟨w',z⟩:=I.cell x c hc;refine wpAny_storeName_cell I.ok.kind hk hc z (fun h' hc' hs=>?_);obtain ⟨oc,hoc,hocd⟩:=id z;refine h { s with heap:=h' } ⟨I.ok,I.os,I.bare,⟨fun b o e n hb hx=>?_,fun b o e n hb hx=>?_,I.base.free,fun b o e hx=>?_,I.base.tups,I.base.frzs,I.base.tbls⟩,⟨m,hn.sameBut hs (Ne.symm (cne x c hc)),fun j y v' e1 e2 e3=>?_⟩,fun y c' e=>?_,I.free,I.freeC,fun p hp=>?_,tracked ⟨oc,hoc,(I.freeC x c hc).elim id fun z=>(by rw [hfn] at z;cases z.1)⟩ hs,by simpa using I.len⟩ ⟨c,hs,.inr hc⟩
   · exact (hs.2 b (n17_ (n25_ (n11_ e) (I.ok.cab x c hfn hc)))).trans (I.base.keep b o e n hb hx)
   · obtain ⟨sl,e1⟩:=I.base.slot b o e n hb hx;exact ⟨sl,(hs.2 b (n17_ (n25_ (n11_ e) (I.ok.cab x c hfn hc)))).trans e1⟩
   · obtain ⟨o',e1⟩:=I.base.there b o e hx;exact ⟨o',(hs.2 b (n17_ (n25_ (n11_ e) (I.ok.cab x c hfn hc)))).trans e1⟩
   · by_cases hj:j=i
     · subst hj;rw [hi] at e1;cases e1;rw [List.getElem?_set_self hiσ] at e2;cases e2
       exact ⟨u,r,.inr ⟨.inl hk,c,hc,hc'⟩⟩
     · rw [List.getElem?_set_ne (Ne.symm hj)] at e2;obtain ⟨u',r',q⟩:=hl j y v' e1 e2 e3;refine ⟨u',r',?_⟩
       rcases q with q|⟨k,c',e,z'⟩
       · exact .inl q
       · refine .inr ⟨k,c',e,z'.sameBut hs ?_⟩;rintro rfl
         exact hj (Zjx hN e1 (I.ok.inj _ _ _ e hc ▸ hi))
   · by_cases hcc:c'=c
     · subst hcc;exact ⟨_,hc'⟩
     · obtain ⟨w2,z2⟩:=I.cell y c' e;exact ⟨w2,z2.sameBut hs hcc⟩
   · obtain ⟨e,n,ne,nf,d⟩:=I.pin p hp;refine ⟨(hs.2 p.1 ?_).trans e,n,ne,nf,d⟩;intro q;rw [q,hoc] at e;have q':oc=p.2:=Option.some.inj e;exact d w' (by rw [← q'];exact hocd)
theorem Zad {Q:Unit→Shared→Prop} (I:Inv X pins σ H s) (hN:X.N.Nodup) (hi:X.N[i]? = some x) (hx:Loc X.env.scope x) (r:RelV v u)
 (h:∀ s',Inv X pins (σ.set i (some v)) H s'→Q () s') (hf:X.fn x=true∨X.env.scope.names.lookup x=some .local:=by first|exact .inl rfl|exact .inr rfl|assumption):wpAny M A (storeName X.env x u) Q E s :=
 Zo2 I hN hi hx r (fun s' I' _=>h s' I') hf
theorem Inv.call' {s':Shared} (I:Inv X pins σ H s) (ho:s'.os=s.os) (u:Un (frs X.stack) ch H H' s.heap s'.heap) (hok:HOk X.prog X.w H' s'.heap) (hg:AllBare s'.gens)
 (hch:∀ b∈ch,(b∈X.ex∨X.s₀.z≤b)∧b≠X.env.locals∧(∀ x c,X.env.cells.lookup x=some c→c≠b)∧∀ p∈X.pn++pins,p.1≠b):Inv X pins σ H' s':=by
 obtain ⟨h',g',d',t',o'⟩:=s';have e:o'=s.os:=ho;subst e;exact I.call (g':=g') (t':=t') (d':=d') u hok hg hch
end
abbrev XK:=Value→Option Addr→Hp→Prop
abbrev St:=List (Option V)
abbrev VK:=V→Hp→Prop
abbrev TE:=St→Hp→VK→Prop
abbrev TT:=St→Hp→(Bool→Hp→Prop)→Prop
abbrev TA:=St→Hp→(List V→Hp→Prop)→Prop
structure Ends where
 nx:St→Hp→Prop
 rt:VK
 bk:St→Hp→Prop:=fun _ _=>False
 ct:St→Hp→Prop:=fun _ _=>False
abbrev TS:=Ends→St→Hp→Prop
def EP (X:Cx) (pins:List (Addr×Obj)) (σ:St) (Q:VK) (u:Value) (s':Shared):Prop:=∃ v H',Inv X pins σ H' s'∧RelV v u∧Q v H'
def TP (X:Cx) (pins:List (Addr×Obj)) (σ:St) (Q:Bool→Hp→Prop) (b:Bool) (s':Shared):Prop:=∃ H',Inv X pins σ H' s'∧Q b H'
def AP (X:Cx) (pins:List (Addr×Obj)) (σ:St) (Q:List V→Hp→Prop) (us:List Value) (s':Shared):Prop:=∃ vs H',Inv X pins σ H' s'∧Vals vs us∧Q vs H'
def SP (X:Cx) (pins:List (Addr×Obj)) (D:Ends) (f:Flow) (s':Shared):Prop :=
 match f with
 | .next=>∃ σ' H',Inv X pins σ' H' s'∧D.nx σ' H'
 | .brk=>∃ σ' H',Inv X pins σ' H' s'∧D.bk σ' H'
 | .cont=>∃ σ' H',Inv X pins σ' H' s'∧D.ct σ' H'
 | .ret u=>∃ v σ' H',Inv X pins σ' H' s'∧RelV v u∧D.rt v H'
def PE (X:Cx) (e:Expr) (t:TE):Prop :=
 ∀ (pins:List (Addr×Obj)) (s:Shared) (σ:St) (H:Hp) (Q:VK),Inv X pins σ H s→t σ H Q→wpAny (model X.prog X.w) X.A (eval e X.env) (EP X pins σ Q) X.xe s
def PT (X:Cx) (e:Expr) (t:TT):Prop :=
 ∀ (pins:List (Addr×Obj)) (s:Shared) (σ:St) (H:Hp) (Q:Bool→Hp→Prop),Inv X pins σ H s→t σ H Q→wpAny (model X.prog X.w) X.A (isTrue e X.env (eval e X.env)) (TP X pins σ Q) X.xe s
def PW (X:Cx) (e:Expr) (t:TT):Prop :=
 ∀ (whole:Sem Value) (pins:List (Addr×Obj)) (s:Shared) (σ:St) (H:Hp) (Q:Bool→Hp→Prop),Inv X pins σ H s→t σ H Q→wpAny (model X.prog X.w) X.A (isTrue e X.env whole) (TP X pins σ Q) X.xe s
theorem PW.pt {t:TT} (h:PW X e t):PT X e t:=h _
def PA (X:Cx) (es:List Expr) (t:TA):Prop :=
 ∀ (pos:Pos) (pins:List (Addr×Obj)) (s:Shared) (σ:St) (H:Hp) (Q:List V→Hp→Prop),Inv X pins σ H s→t σ H Q→wpAny (model X.prog X.w) X.A (spliced (backTo pos (starEach es X.env))) (AP X pins σ Q) X.xe s
def PS (X:Cx) (st:Stmt) (t:TS):Prop :=
 ∀ (pins:List (Addr×Obj)) (s:Shared) (σ:St) (H:Hp) (D:Ends),Inv X pins σ H s→t D σ H→wpAny (model X.prog X.w) X.A (exec st X.env) (SP X pins D) X.xe s
def PSs (X:Cx) (st:List Stmt) (t:TS):Prop :=
 ∀ (pins:List (Addr×Obj)) (s:Shared) (σ:St) (H:Hp) (D:Ends),Inv X pins σ H s→t D σ H→wpAny (model X.prog X.w) X.A (execs st X.env) (SP X pins D) X.xe s
theorem thn {t:Sem α} {Q Q':α→Shared→Prop} (h:wpAny M A t Q E s) (hQ:∀ a s,Q a s→Q' a s):wpAny M A t Q' E s:=n45_ h hQ fun _ _ x=>x
section
variable {X:Cx}
def tVar (i:Nat):TE:=fun σ H Q=>∃ v,σ[i]? = some (some v)∧Q v H
def tC (v:V):TE:=fun _ H Q=>Q v H
theorem Ztx (hN:X.N[i]? = some x) (hv:Vis X.env.scope x) (hd:(x == ("__debug__" : Str))=false:=by decide) (hcd:(x == ("__classdict__" : Str))=false:=by decide):PE X (.Name x pos) (tVar i):=by
 intro pins s σ H Q I h;obtain ⟨v,e,h⟩:=h;obtain ⟨m,hn,hl⟩:=I.loc;obtain ⟨u,r,l⟩:=hl i x v hN e hv;have fin:EP X pins σ Q u s:=⟨v,H,I,r,h⟩
 rcases l with ⟨hk,hm⟩|⟨hk,c,hc,hcell⟩
 · exact wpAny_Name (wpAny_loadName_local I.ok.kind hk hn hm fin) hd
 · rcases hk with hk|hk
   · exact wpAny_Name (wpAny_loadName_cell I.ok.kind hk hc hcell fin) hd
   · exact wpAny_Name (wpAny_loadName_free I.ok.kind hk hc hcell fin hcd) hd
theorem Ze {i j pos}:PE X (.Constant (.int i) j pos) (tC (.int i)):=fun _ _ _ H _ I h=>wpAny_Constant_int ⟨.int i,H,I.tok _,⟨_,rfl⟩,h⟩
theorem Xf {b j pos}:PE X (.Constant (.bool b) j pos) (tC (.bl b)):=fun _ _ _ H _ I h=>Constant_bool ⟨.bl b,H,I,rfl,h⟩
def Gl (X:Cx) (x:Str):Prop:=X.env.kindOf x=some .globalImplicit
theorem Zio (I:Inv X pins σ H s) (hg:Gl X x) (hm:X.mg x=some u) (h:Q u s)
 (hd:(x == ("__debug__" : Str))=false:=by decide):wpAny (model X.prog X.w) X.A (eval (.Name x pos) X.env) Q E s :=
 Calls.Name_function_global I.ok.kind hg (Calls.loadGlobal_global (by rw [I.ok.glob];exact I.mod.glob.keeps I.bk) hm h) hd
theorem Zbh (I:Inv X pins σ H s) (hg:Gl X x) (hm:X.mg x=none) (hv:bootBuiltins x=some u) (h:Q u s)
 (hn:x ≠ "__name__" := by decide) (hd:(x == ("__debug__" : Str))=false:=by decide):wpAny (model X.prog X.w) X.A (eval (.Name x pos) X.env) Q E s:=by
 obtain ⟨mb,h1,h2⟩:=I.mod.blt;exact Calls.Name_function_global I.ok.kind hg (Calls.loadGlobal_builtin (by rw [I.ok.glob];exact I.mod.glob.keeps I.bk) hm (by rw [I.ok.blt];exact h1.keeps I.bk) ((h2 x hn).trans hv) h) hd
theorem Zsy (hg:Gl X x) (hm:X.mg x=some u) (r:RelV v u) (hd:(x == ("__debug__" : Str))=false:=by decide):PE X (.Name x pos) (tC v) :=
 fun _ _ _ H _ I h=>Zio I hg hm ⟨v,H,I,r,h⟩ hd
theorem Zix (hg:Gl X x) (hm:X.mg x=none) (hv:bootBuiltins x=some u) (r:RelV v u) (hn:x ≠ "__name__" := by decide) (hd:(x == ("__debug__" : Str))=false:=by decide):PE X (.Name x pos) (tC v) :=
 fun _ _ _ H _ I h=>Zbh I hg hm hv ⟨v,H,I,r,h⟩ hn hd
variable {a b:Expr} {ta tb:TE} {pos:Pos}
def PC (X:Cx) (op:CmpOp) (a b:Expr) (t:TE):Prop :=
 ∀ (pins:List (Addr×Obj)) (s:Shared) (σ:St) (H:Hp) (Q:VK),Inv X pins σ H s→t σ H Q →
   wpAny (model X.prog X.w) X.A (eval a X.env) (fun v s₁=>wpAny (model X.prog X.w) X.A (eval b X.env) (fun u s₂=>wpAny (model X.prog X.w) X.A (compareOp op v u) (EP X pins σ Q) X.xe s₂) X.xe s₁) X.xe s
def tB (t:TE):TT:=fun σ H Q=>t σ H fun x H1=>∃ c,x=.bl c∧Q c H1
theorem Zvj {op:CmpOp} {t:TE} (h:PC X op a b t) (h1:behindInMarks op b=false:=by first|exact nobehind _ (by decide) (by decide)|rfl):PT X (.Compare a [op] [b] pos) (tB t):=by
 intro pins s σ H Q I hw;refine wpAny_isTrue_Compare1 (thn (h pins s σ H _ I hw) fun v s1 h1=>thn h1 fun u s2 h2=>thn h2 fun c s3 ⟨x,H1,I1,r1,q1⟩=>?_) h1;obtain ⟨d,rfl,q⟩:=q1;cases r1
 exact wpAny_truthy_bool ⟨H1,I1,q⟩
variable {tA tB':TT} {rest:List Expr}
def tOr (t u:TT):TT:=fun σ H Q=>t σ H fun c H1=>if c=true then Q true H1 else u σ H1 Q
def tNot (t:TT):TT:=fun σ H Q=>t σ H fun c H1=>Q (!c) H1
theorem Za9 (ha:PT X a tA):PW X (.BoolOp .Or [a] pos) tA:=by
 intro wh pins s σ H Q I h;refine isTrue_or (thn (ha pins s σ H Q I h) fun c s1 e=>?_);cases c with
 | false=>exact isTrue_or_nil e
 | true=>exact e
theorem Zd0 (ha:PT X a tA) (hb:PW X (.BoolOp .Or (b :: rest) pos) tB'):PW X (.BoolOp .Or (a :: b :: rest) pos) (tOr tA tB'):=by
 intro wh pins s σ H Q I h;refine isTrue_or (thn (ha pins s σ H _ I h) fun c s1 ⟨H1,I1,q1⟩=>?_);cases c with
 | true=>exact ⟨H1,I1,q1⟩
 | false=>exact hb wh pins s1 σ H1 Q I1 q1
theorem Xe (ha:PT X a tA):PT X (.UnaryOp .Not a pos) (tNot tA):=by
 intro pins s σ H Q I h;exact isTrue_not (ha pins s σ H (fun c H1=>Q (!c) H1) I h)
def Zwq (ta tb:TE):TE:=fun σ H Q=>ta σ H fun x H1=>∃ c,x=.bl c∧if c=true then tb σ H1 Q else Q (.bl false) H1
def tOrV (ta tb:TE):TE:=fun σ H Q=>ta σ H fun x H1=>∃ c,x=.bl c∧if c=true then Q (.bl true) H1 else tb σ H1 Q
def Zwk (ta:TE):TE:=fun σ H Q=>ta σ H fun x H1=>∃ c,x=.bl c∧Q (.bl (!c)) H1
theorem Zce {op} {t:TE} (h:PE X a t):PE X (.BoolOp op [a] pos) t:=fun pins s σ H Q I hw=>BoolOp_one (h pins s σ H Q I hw)
theorem Zc4 (ha:PE X a ta) (hb:PE X (.BoolOp .And (b :: rest) pos) tb):PE X (.BoolOp .And (a :: b :: rest) pos) (Zwq ta tb):=by
 intro pins s σ H Q I h;refine BoolOp_and (thn (ha pins s σ H _ I h) fun v s1 ⟨x,H1,I1,r1,q1⟩=>?_);obtain ⟨c,rfl,q1⟩:=q1;cases r1
 refine wpAny_truthy_bool ?_;cases c with
 | true=>exact hb pins s1 σ H1 Q I1 q1
 | false=>exact ⟨.bl false,H1,I1,rfl,q1⟩
theorem Zv0 (ha:PE X a ta) (hb:PE X (.BoolOp .Or (b :: rest) pos) tb):PE X (.BoolOp .Or (a :: b :: rest) pos) (tOrV ta tb):=by
 intro pins s σ H Q I h;refine BoolOp_or (thn (ha pins s σ H _ I h) fun v s1 ⟨x,H1,I1,r1,q1⟩=>?_);obtain ⟨c,rfl,q1⟩:=q1;cases r1
 refine wpAny_truthy_bool ?_;cases c with
 | false=>exact hb pins s1 σ H1 Q I1 q1
 | true=>exact ⟨.bl true,H1,I1,rfl,q1⟩
theorem Zqz (ha:PE X a ta):PE X (.UnaryOp .Not a pos) (Zwk ta):=by
 intro pins s σ H Q I h;refine UnaryOp_ (thn (ha pins s σ H _ I h) fun v s1 ⟨x,H1,I1,r1,q1⟩=>?_);obtain ⟨c,rfl,q1⟩:=q1;cases r1
 exact not_of (wpAny_truthy_bool ⟨.bl (!c),H1,I1,rfl,q1⟩)
end
def SqL (K:PySem.W.Frag) (H:Hp) (a:Addr) (xs:List V):Prop :=
 Rd H a (.lst xs) ∨
  ∃ (o:Obj) (its:Array Value) (n:Nat),K.lookup a=some o∧o.cls=.type "list" ∧ o.dict=none∧o.data=.seq its n∧its.size≤sizeLine∧Vals xs its.toList
def SqT (K:PySem.W.Frag) (H:Hp) (a:Addr) (xs:List V):Prop :=
 Rd H a (.tup xs) ∨
  ∃ (o:Obj) (its:Array Value) (n:Nat),K.lookup a=some o∧o.cls=.type "tuple" ∧ o.data=.seq its n∧its.size≤sizeLine∧Vals xs its.toList
def absV:Value→Option V
 | .none=>some .non
 | .bool b=>some (.bl b)
 | .int i _=>some (.int i)
 | .str x _=>some (.str x)
 | .bytes b _=>some (.byt b)
 | .float b _=>some (.flt b)
 | .ref a=>some (.ref a)
 | .type n=>some (.ty n)
 | _=>none
theorem RelV.abs {x:V} (r:RelV x u):absV u=some x:=by
 cases x with
 | non=>cases r;rfl
 | bl _=>cases r;rfl
 | int _=>obtain ⟨t,rfl⟩:=r;rfl
 | str _=>obtain ⟨t,rfl⟩:=r;rfl
 | byt _=>obtain ⟨t,rfl⟩:=r;rfl
 | flt _=>obtain ⟨t,rfl⟩:=r;rfl
 | ref _=>cases r;rfl
 | ty _=>cases r;rfl
theorem RelV.inj {x:V} (r:RelV x u) (q:RelV y u):x=y:=Option.some.inj (r.abs.symm.trans q.abs)
theorem Vals.inj:∀ {xs ys:List V} {us:List Value},Vals xs us→Vals ys us→xs=ys
 | _,_,_,.nil,.nil=>rfl
 | _,_,_,.cons r t,.cons r' t'=>by rw [r.inj r',Vals.inj t t']
section
variable {X:Cx} {pins:List (Addr×Obj)} {σ:St} {H:Hp} {s:Shared} {a:Addr} {xs ys:List V}
theorem SqL.of {K:PySem.W.Frag} (h:H a=some (.lst xs)):SqL K H a xs:=.inl (.inl h)
theorem SqT.of {K:PySem.W.Frag} (h:H a=some (.tup xs)):SqT K H a xs:=.inl (.inl h)
theorem Inv.list (I:Inv X pins σ H s) (h:SqL X.K H a xs):∃ its:List Value,Vals xs its∧PlainL s.heap a its.toArray∧xs.length≤sizeLine:=by
 rcases h with h|⟨o,its,n,hk,hc,hd,hs,hz,r⟩
 · obtain ⟨z,its,n,r,e⟩:=h.ok I.hok;exact ⟨its,r,⟨_,n,e,rfl,rfl,rfl⟩,z⟩
 · refine ⟨its.toList,r,⟨o,n,I.kIn a o hk,hc,hd,by simpa using hs⟩,?_⟩;have e:=r.length;simp only [Array.length_toList] at e;omega
theorem Inv.tuple (I:Inv X pins σ H s) (h:SqT X.K H a xs):∃ its:List Value,Vals xs its∧IsTup s.heap a its.toArray∧xs.length≤sizeLine:=by
 rcases h with h|⟨o,its,n,hk,hc,hs,hz,r⟩
 · obtain ⟨z,its,r,p⟩:=h.ok I.hok;exact ⟨its,r,p.is,z⟩
 · refine ⟨its.toList,r,⟨o,I.kIn a o hk,hc,n,by simpa using hs⟩,?_⟩;have e:=r.length;simp only [Array.length_toList] at e;omega
theorem Inv.list_inj (I:Inv X pins σ H s) (h:SqL X.K H a xs) (h':SqL X.K H a ys):xs=ys:=by
 obtain ⟨its,r,⟨o,n,e,_,_,d⟩,_⟩:=I.list h;obtain ⟨its',r',⟨o',n',e',_,_,d'⟩,_⟩:=I.list h';rw [e] at e';cases e';rw [d] at d';injection d' with d1 _
 have:its=its':=by simpa using congrArg Array.toList d1
 subst this;exact r.inj r'
theorem Inv.tuple_inj (I:Inv X pins σ H s) (h:SqT X.K H a xs) (h':SqT X.K H a ys):xs=ys:=by
 obtain ⟨its,r,⟨o,e,_,n,d⟩,_⟩:=I.tuple h;obtain ⟨its',r',⟨o',e',_,n',d'⟩,_⟩:=I.tuple h';rw [e] at e';cases e';rw [d] at d';injection d' with d1 _
 have:its=its':=by simpa using congrArg Array.toList d1
 subst this;exact r.inj r'
end
abbrev Cx.wish (X:Cx) (E:Value→Shared→Prop):Cx:={ X with xe:=E }
abbrev Cx.nox (X:Cx):Cx:=X.wish fun _ _=>False
theorem Cx.Ok.wish (ok:X.Ok) (E:Value→Shared→Prop):(X.wish E).Ok :=
 ⟨ok.mod,ok.kind,ok.glob,ok.blt,ok.above,ok.inj,ok.has,ok.cab,ok.hd,ok.frames,ok.stk,ok.exf,ok.bs,ok.bsz,ok.noex,ok.exfs,ok.funs,ok.frf⟩
theorem Cx.Ok.unwish (ok:(X.wish E).Ok):X.Ok :=
 ⟨ok.mod,ok.kind,ok.glob,ok.blt,ok.above,ok.inj,ok.has,ok.cab,ok.hd,ok.frames,ok.stk,ok.exf,ok.bs,ok.bsz,ok.noex,ok.exfs,ok.funs,ok.frf⟩
section
variable {X:Cx} {pins:List (Addr×Obj)} {σ:St} {H:Hp} {s:Shared} {E:Value→Shared→Prop}
theorem Inv.wish (I:Inv X pins σ H s) (E:Value→Shared→Prop):Inv (X.wish E) pins σ H s:=⟨I.ok.wish E,I.os,I.bare,I.base,I.loc,I.cell,I.free,I.freeC,I.pin,I.hok,I.len⟩
theorem Inv.unwish (I:Inv (X.wish E) pins σ H s):Inv X pins σ H s:=⟨I.ok.unwish,I.os,I.bare,I.base,I.loc,I.cell,I.free,I.freeC,I.pin,I.hok,I.len⟩
theorem SP.unwish {D:Ends} {f:Flow} {s':Shared} (h:SP (X.wish E) pins D f s'):SP X pins D f s':=by
 cases f with
 | next=>obtain ⟨σ',H',I,q⟩:=h;exact ⟨σ',H',I.unwish,q⟩
 | brk=>obtain ⟨σ',H',I,q⟩:=h;exact ⟨σ',H',I.unwish,q⟩
 | cont=>obtain ⟨σ',H',I,q⟩:=h;exact ⟨σ',H',I.unwish,q⟩
 | ret u=>obtain ⟨v,σ',H',I,r,q⟩:=h;exact ⟨v,σ',H',I.unwish,r,q⟩
theorem PSs.nox {st:List Stmt} {t:TS} (h:PSs X.nox st t):PSs X st t:=fun pins s σ H D I hw =>
 n45_ (h pins s σ H D (I.wish _) hw) (fun _ _ q=>q.unwish) fun _ _ z=>False.elim z
end
section
variable {X:Cx} {st:Stmt} {rest:List Stmt} {t u:TS} {e:Expr} {te:TE} {pos:Pos}
def Zvu:TS:=fun D σ H=>D.nx σ H
def tSeq (t u:TS):TS:=fun D σ H=>t { D with nx:=u D } σ H
theorem Z4:PSs X [] Zvu:=fun _ _ σ H _ I h=>wpAny_execs_nil ⟨σ,H,I,h⟩
theorem Zd (h1:PS X st t) (h2:PSs X rest u):PSs X (st :: rest) (tSeq t u):=by
 intro pins s σ H D I h;refine wpAny_execs_cons (thn (h1 pins s σ H { D with nx:=u D } I h) fun f s1 q=>?_);cases f with
 | next =>
   obtain ⟨σ',H',I',q⟩:=q;exact h2 pins s1 σ' H' D I' q
 | ret v=>exact q
 | brk=>exact q
 | cont=>exact q
theorem Zi (h1:PS X st t):PSs X [st] t:=by
 intro pins s σ H D I h;refine wpAny_execs_cons (thn (h1 pins s σ H D I h) fun f s1 q=>?_);cases f with
 | next=>exact wpAny_execs_nil q
 | ret v=>exact q
 | brk=>exact q
 | cont=>exact q
theorem Inv.quiet (I:Inv X pins σ H s):interactive X.env=false:=by simp [interactive,I.ok.kind]
def Zvv (te:TE):TS:=fun D σ H=>te σ H fun _ H1=>D.nx σ H1
theorem Zam (he:PE X e te) (hs:swapsWith e none pos.line X.env=pure false:=by rfl):PS X (.Expr e pos) (Zvv te):=by
 intro pins s σ H D I h;exact wpAny_Expr_any (thn (he pins s σ H _ I h) fun v s1 ⟨x,H1,I1,r1,q1⟩=>⟨σ,H1,I1,q1⟩) I.quiet hs
def tRet (te:TE):TS:=fun D σ H=>te σ H D.rt
theorem Zo (he:PE X e te):PS X (.Return (some e) pos) (tRet te):=by
 intro pins s σ H D I h;exact wpAny_Return_some (thn (he pins s σ H _ I h) fun v s1 ⟨x,H1,I1,r1,q1⟩=>⟨x,σ,H1,I1,r1,q1⟩)
def tIfS (c:TT) (t u:TS):TS:=fun D σ H=>c σ H fun b H1=>if b=true then t D σ H1 else u D σ H1
theorem Xp {c:Expr} {a b:List Stmt} {tc:TT} (hc:PT X c tc) (ha:PSs X a t) (hb:PSs X b u):PS X (.If c a b pos) (tIfS tc t u):=by
 intro pins s σ H D I h;refine wpAny_If (thn (hc pins s σ H _ I h) fun d s1 ⟨H1,I1,q1⟩=>?_);cases d with
 | true=>exact ha pins s1 σ H1 D I1 q1
 | false=>exact hb pins s1 σ H1 D I1 q1
def Zu0:TS:=fun _ _ _=>False
theorem Zn6 {sts:List Stmt}:PSs X sts Zu0:=fun _ _ _ _ _ _ h=>h.elim
end
abbrev TG:=V→St→Hp→(St→Hp→Prop)→Prop
abbrev TGs:=List V→St→Hp→(St→Hp→Prop)→Prop
def PG (X:Cx) (target:Expr) (t:TG):Prop :=
 ∀ (pins:List (Addr×Obj)) (s:Shared) (σ:St) (H:Hp) (v:V) (u:Value) (Q:St→Hp→Prop),Inv X pins σ H s→RelV v u→t v σ H Q →
   wpAny (model X.prog X.w) X.A (assign target X.env u) (fun _ s'=>∃ σ' H',Inv X pins σ' H' s'∧Q σ' H') X.xe s
def PGs (X:Cx) (ts:List Expr) (t:TGs):Prop :=
 ∀ (pins:List (Addr×Obj)) (s:Shared) (σ:St) (H:Hp) (vs:List V) (us:List Value) (Q:St→Hp→Prop),Inv X pins σ H s→Vals vs us→t vs σ H Q →
   wpAny (model X.prog X.w) X.A (assignInOrder ((assignEach ts X.env).map (·.2)) us) (fun _ s'=>∃ σ' H',Inv X pins σ' H' s'∧Q σ' H') X.xe s
abbrev TSet:=V→V→V→Hp→(Hp→Prop)→Prop
def PSet (X:Cx) (t:TSet):Prop :=
 ∀ (pins:List (Addr×Obj)) (s:Shared) (σ:St) (H:Hp) (o i v:V) (ov iv u:Value) (Q:Hp→Prop),Inv X pins σ H s→RelV o ov→RelV i iv→RelV v u→t o i v H Q →
   wpAny (model X.prog X.w) X.A (setItem ov iv u) (fun _ s'=>∃ H',Inv X pins σ H' s'∧Q H') X.xe s
section
variable {X:Cx} {pos:Pos}
def Y2 (i:Nat):TG:=fun v σ H Q=>Q (σ.set i (some v)) H
theorem Zm (hN:X.N.Nodup) (hi:X.N[i]? = some x) (hx:Loc X.env.scope x) (hf:X.fn x=true∨X.env.scope.names.lookup x=some .local:=by first|exact .inl rfl|exact .inr rfl|assumption):PG X (.Name x pos) (Y2 i):=by
 intro pins s σ H v u Q I r h;exact wpAny_assign_Name (Zad I hN hi hx r (fun s' I'=>⟨_,H,I',h⟩) hf)
def gNil:TGs:=fun vs σ H Q=>vs=[]∧Q σ H
def X0 (t:TG) (u:TGs):TGs:=fun vs σ H Q=>∃ v r,vs=v :: r∧t v σ H fun σ' H'=>u r σ' H' Q
theorem Z7:PGs X [] gNil:=by
 intro pins s σ H vs us Q I r h;obtain ⟨e,h⟩:=h;subst e;cases r
 exact assignInOrder_nil ⟨σ,H,I,h⟩
theorem Zl {es:List Expr} {t:TG} {u:TGs} (h1:PG X e t) (h2:PGs X es u)
 (hs:(assignEach (e :: es) X.env).map (·.2)=assign e X.env :: (assignEach es X.env).map (·.2):=by rfl):PGs X (e :: es) (X0 t u):=by
 intro pins s σ H vs us Q I r h;obtain ⟨v,vr,e1,h⟩:=h;subst e1;cases r with
 | cons r rr =>
   rw [hs];refine assignInOrder_cons (thn (h1 pins s σ H _ _ _ I r h) fun _ s1 ⟨σ1,H1,I1,q1⟩=>?_);exact h2 pins s1 σ1 H1 _ _ Q I1 rr q1
def gTup (K:PySem.W.Frag) (n:Nat) (t:TGs):TG:=fun v σ H Q=>∃ a xs,v=.ref a∧SqT K H a xs∧xs.length=n∧t xs σ H Q
theorem Ys {es:List Expr} {t:TGs} (hc:X.calm=true) (h:PGs X es t)
 (hn:(assignEach es X.env).length=n:=by rfl) (hst:(assignEach es X.env).findIdx? (·.1)=none:=by rfl):PG X (.Tuple es k pos) (gTup X.K n t):=by
 intro pins s σ H v u Q I r hw;obtain ⟨a,xs,e1,hq,hl,hw⟩:=hw;subst e1;cases r
 obtain ⟨its,rv,ht,hz⟩:=I.tuple hq;refine assign_Tuple_tuple (I.ok.hd hc) ht (by simp [hn,← hl,rv.length]) hst fun h' hx=>?_;have I1:Inv X pins σ H { s with heap:=h' }:=I.kept (t':=s.toks) fun b o e=>hx b o (n17_ (n11_ e)) e;exact h pins _ σ H xs _ Q I1 (by simpa using rv) hw
def gSub (to ti:TE) (t:TSet):TG:=fun v σ H Q=>to σ H fun o H1=>ti σ H1 fun i H2=>t o i v H2 fun H3=>Q σ H3
theorem Zhc {o i:Expr} {to ti:TE} {t:TSet} (ho:PE X o to) (hi:PE X i ti) (hs:PSet X t)
 (ha:∀ v,assign (.Subscript o i pos) X.env v=(do
   let ov ← holding [v] (eval o X.env)
   let iv ← holding [v,ov] (eval i X.env)
   standAt pos
   holding [v,ov,iv] (setItem ov iv v)
   release [v,ov,iv] []):=by intro _;rfl):PG X (.Subscript o i pos) (gSub to ti t):=by
 intro pins s σ H v u Q I r h;rw [ha];refine n0_ (n30_ (thn (ho pins s σ H _ I h) fun ov s1 ⟨x,H1,I1,r1,q1⟩=>?_));refine n0_ (n30_ (thn (hi pins s1 σ H1 _ I1 q1) fun iv s2 ⟨y,H2,I2,r2,q2⟩=>?_));refine n0_ (wpAny_standAt (n0_ (n30_ (thn (hs pins s2 σ H2 x y v ov iv u _ I2 r1 r2 r q2) fun _ s3 ⟨H3,I3,q3⟩=>?_))));exact wpAny_release ⟨σ,H3,I3,q3⟩
def tAsg (te:TE) (g:TG):TS:=fun D σ H=>te σ H fun x H1=>g x σ H1 D.nx
theorem Zah {g:TG} (he:PE X e te) (hg:PG X tg g) (hs:swapsWithSole [tg] e pos.line X.env=pure false:=by rfl) (hw:swappedStores [tg] e X.env=pure none:=by rfl)
 (h1:(assignEach [tg] X.env).map (·.2)=[assign tg X.env]:=by rfl):PS X (.Assign [tg] e pos) (tAsg te g):=by
 intro pins s σ H D I h;refine wpAny_Assign_stores (thn (he pins s σ H _ I h) fun v s1 ⟨x,H1,I1,r1,q1⟩=>?_) hs hw;rw [h1];exact thn (hg pins s1 σ H1 x v _ I1 r1 q1) fun _ s2 q=>q
theorem Zy {i:Nat} {x:Str} {e:Expr} {te:TE} {pos':Pos} (hN:X.N.Nodup) (hi:X.N[i]? = some x) (hx:Loc X.env.scope x) (he:PE X e te) (hs:swapsWith e (some (.Name x pos')) pos.line X.env=pure false:=by rfl) (hf:X.fn x=true∨X.env.scope.names.lookup x=some .local:=by first|exact .inl rfl|exact .inr rfl|assumption) :
 PS X (.Assign [.Name x pos'] e pos) (tAsg te (Y2 i)):=by
 intro pins s σ H D I h;refine wpAny_Assign_Name (thn (he pins s σ H _ I h) fun v s1 ⟨y,H1,I1,r1,q1⟩=>?_) hs;exact Zad I1 hN hi hx r1 (fun s2 I2=>⟨_,H1,I2,q1⟩) hf
def tPar (i j:Nat) (ta:TA):TS:=fun D σ H=>ta σ H fun vs H1=>∃ v w,vs=[v,w]∧D.nx ((σ.set i (some v)).set j (some w)) H1
theorem Zu1 {y:Str} {a b:Expr} {px py pt:Pos} {kt k2 pt2} (hc:X.calm=true) (hN:X.N.Nodup) (hi:X.N[i]? = some x) (hj:X.N[j]? = some y) (hij:i≠j)
 (hx:X.env.scope.names.lookup x=some .local) (hy:X.env.scope.names.lookup y=some .local) (ha:PA X [a,b] ta)
 (hw:swappedStores [.Tuple [.Name x px,.Name y py] kt pt] (.Tuple [a,b] k2 pt2) X.env=pure (some [x,y]))
 (hs:swapsWithSole [.Tuple [.Name x px,.Name y py] kt pt] (.Tuple [a,b] k2 pt2) pos.line X.env=pure false:=by rfl) :
 PS X (.Assign [.Tuple [.Name x px,.Name y py] kt pt] (.Tuple [a,b] k2 pt2) pos) (tPar i j ta):=by
 intro pins s σ H D I h;rw [exec_Assign_arm];refine n0_ (wpAny_standAt ?_);rw [hs];refine n0_ (n4_ ?_);rw [if_neg (by decide)];refine n0_ (Tuple_ (thn (ha _ pins s σ H _ I h) fun us s1 ⟨vs,H1,I1,r1,q1⟩=>?_));obtain ⟨v,w,e1,q1⟩:=q1;subst e1
 obtain ⟨u1,u2,rfl,rv,rw'⟩:∃ u1 u2,us=[u1,u2]∧RelV v u1∧RelV w u2:=by
  cases r1 with
  | cons p q =>
    cases q with
    | cons p' q' =>
      cases q'
      exact ⟨_,_,rfl,p,p'⟩
 refine wpAny_newObj_type ?_ (z2_);have I2:Inv X pins σ H1 { s1 with heap:=s1.heap.push { cls:=.type "tuple",data:=.seq [u1,u2].toArray } }:=I1.kept (t':=s1.toks) fun b o e=>n3_ _ e;rw [hw];refine n0_ (n4_ ?_);show wpAny (model X.prog X.w) X.A (do rule "assign.swapped-stores";let items ← unpackItems (.ref s1.z) 2 none;assignInOrder [fun v=>bindName X.env y v,fun v=>bindName X.env x v] items.reverse;pure Flow.next) _ _ _
 refine n0_ (wpAny_rule (n0_ (unpackItems_tuple (items:=#[u1,u2]) (I.ok.hd hc) (IsTup.new s1.heap _) fun h' hx'=>?_)));have I3:=I2.kept (h':=h') (t':=s1.toks) fun b o e=>hx' b o (n17_ (n11_ e)) e;show wpAny _ _ (assignInOrder [fun v=>bindName X.env y v,fun v=>bindName X.env x v] [u2,u1] >>= fun _=>pure Flow.next) _ _ _
 refine n0_ (assignInOrder_cons (wpAny_bindName (Zad I3 hN hj (.inl hy) rw' (fun s2 I4=>?_) (.inr hy))));refine assignInOrder_cons (wpAny_bindName (Zad I4 hN hi (.inl hx) rv (fun s3 I5=>assignInOrder_nil (n4_ ?_)) (.inr hx)));rw [List.set_comm _ _ (Ne.symm hij)] at I5;exact ⟨_,H1,I5,q1⟩
end
section
variable {X:Cx} {pos:Pos}
def Zqv (c:TT) (tb:TS):TS:=fun D σ H=>∃ W:Nat→St→Hp→Prop,(∃ m,W m σ H)∧∀ m σ H,W m σ H →
 c σ H fun b H1=>if b=true then ∃ N:St→Hp→Prop,(∀ σ' H',N σ' H'→∃ m',m'<m∧W m' σ' H')∧tb { D with nx:=N,ct:=N,bk:=D.nx } σ H1 else D.nx σ H1
theorem Zj9 {c:Expr} {body:List Stmt} {tc:TT} {tb:TS} (hp:PassesOwn (model X.prog X.w) X.A X.env X.xe) (hc:PT X c tc) (hb:PSs X body tb):PS X (.While c body [] pos) (Zqv tc tb):=by
 intro pins s σ H D I h;obtain ⟨W,⟨m0,w0⟩,turn⟩:=h;refine wpAny_While (codeAny_whileLoop (fun n s'=>∃ σ' H',Inv X pins σ' H' s'∧W n σ' H') ?_ m0 ⟨σ,H,I,w0⟩);rintro n s1 ⟨σ1,H1,I1,w1⟩
 refine wpAny_passesOwn hp (thn (hc pins s1 σ1 H1 _ I1 (turn n σ1 H1 w1)) fun b s2 ⟨H2,I2,q2⟩=>?_);cases b with
 | true =>
   obtain ⟨N,hN,q2⟩:=q2;rw [if_pos rfl];refine wpAny_passesOwn hp (thn (hb pins s2 σ1 H2 _ I2 q2) fun f s3 q3=>?_);cases f with
   | next =>
     obtain ⟨σ3,H3,I3,n3⟩:=q3;obtain ⟨m',hm,w3⟩:=hN σ3 H3 n3;exact ⟨m',hm,σ3,H3,I3,w3⟩
   | cont =>
     obtain ⟨σ3,H3,I3,n3⟩:=q3;obtain ⟨m',hm,w3⟩:=hN σ3 H3 n3;exact ⟨m',hm,σ3,H3,I3,w3⟩
   | brk=>exact q3
   | ret v=>exact q3
 | false =>
   rw [if_neg n21_];exact wpAny_execs_nil ⟨σ1,H2,I2,q2⟩
end
structure It where
 go:Nat→Hp→Prop
 yld:Nat→Hp→V→Hp→Prop
 stop:Nat→Hp→Prop
def FpOk (X:Cx) (pins:List (Addr×Obj)) (H:Hp) (b:Addr):Prop :=
 H b=none∧b≠X.env.locals∧b∉X.fs∧(b∈X.ex∨X.s₀.z≤b)∧(∀ x c,X.env.cells.lookup x=some c→c≠b)∧∀ p∈X.pn++pins,p.1≠b
theorem Inv.fpOk (I:Inv X pins σ H s) (hb:s.z≤b) (hn:H' b=none):FpOk X pins H' b:=by
 refine ⟨hn,n60_ (n25_ I.lt hb),I.nofs hb,.inr (n74_ I.sz hb),fun x c e z=>?_,fun p hp z=>?_⟩
 · obtain ⟨v,q⟩:=I.cell x c e;exact absurd (n25_ q.lt (by rw [z];exact hb)) (n78_ _)
 · exact absurd (n25_ (n11_ (I.pin p hp).1) (by rw [z];exact hb)) (n78_ _)
structure Turn (P:Program) (w:World) (K:PySem.W.Frag) (tg:Expr) (J:It) (fp:List Addr) (it:Addr) (tn:Nat→Heap→Prop):Prop where
 mem:it∈fp
 obj:∀ i h,tn i h→∀ b∈fp,∃ o,h.get? b=some o∧∀ v,o.data≠.cell v
 keep:∀ i h h',tn i h→(∀ b∈fp,∀ o,h.get? b=some o→h'.get? b=some o)→tn i h'
 item:∀ (X:Cx),X.prog=P→X.w=w→X.K=K→X.calm=true→∀ (i:Nat) (pins:List (Addr×Obj)) (s:Shared) (σ:St) (H:Hp) (E:Value→Shared→Prop),Inv X pins σ H s→(∀ b∈fp,FpOk X pins H b)→tn i s.heap→J.go i H →
  wpAny (model P w) X.A (pyNext (.ref it)) (fun r s1=>∃ u,r=some u ∧
   wpAny (model P w) X.A (letOwnedTupleGo tg (.ref it) u) (fun _ s2=>∃ x H',Inv X pins σ H' s2∧RelV x u∧J.yld i H x H'∧tn (i+1) s2.heap∧∀ b∈fp,H' b=none) E s1) E s
 done:∀ (X:Cx),X.prog=P→X.w=w→X.K=K→X.calm=true→∀ (i:Nat) (pins:List (Addr×Obj)) (s:Shared) (σ:St) (H:Hp) (E:Value→Shared→Prop),Inv X pins σ H s→(∀ b∈fp,FpOk X pins H b)→tn i s.heap→J.stop i H →
  wpAny (model P w) X.A (pyNext (.ref it)) (fun r s1=>r=none∧Inv X pins σ H s1) E s
 self:∀ (A:Around) (i:Nat) (s:Shared) (Q:Value→Shared→Prop) (E:Value→Shared→Prop),tn i s.heap→Q (.ref it) s→wpAny (model P w) A (pyIter (.ref it)) Q E s
abbrev TI:=St→Hp→(It→Hp→Prop)→Prop
def PIE (X:Cx) (pins:List (Addr×Obj)) (σ:St) (tg:Expr) (R:It→Hp→Prop) (itv:Value) (s2:Shared):Prop :=
 ∃ (it:Addr) (fp:List Addr) (tn:Nat→Heap→Prop) (J:It) (H':Hp),itv=.ref it∧Inv X pins σ H' s2∧Turn X.prog X.w X.K tg J fp it tn∧tn 0 s2.heap∧(∀ b∈fp,FpOk X pins H' b)∧R J H'
def PI (X:Cx) (tg iter:Expr) (wi:TI):Prop :=
 ∀ (pins:List (Addr×Obj)) (s:Shared) (σ:St) (H:Hp) (R:It→Hp→Prop),Inv X pins σ H s→wi σ H R →
   wpAny (model X.prog X.w) X.A (eval iter X.env) (fun v s1=>wpAny (model X.prog X.w) X.A (pyIter v) (PIE X pins σ tg R) X.xe s1) X.xe s
theorem Zsu {n:String} {vs:Array Value} {Q:Unit→Shared→Prop} (ho:s.heap.get? it=some o) (hc:o.cls=.type n) (hd:o.data=.fields vs)
 (hn:["enumerate","zip","dict_itemiterator","dict_reverseitemiterator","odict_iterator","itertools.zip_longest","itertools.pairwise"].contains n=false) (hQ:Q () s):wpAny M A (letOwnedTupleGo tg (.ref it) u) Q E s:=by
 unfold letOwnedTupleGo
 cases tg<;>first
  | exact n4_ hQ
  | (cases u<;>first
      | exact n4_ hQ
      | (refine n0_ (wpAny_load ho ?_)
         rw [hc,hd];show wpAny M A (if (["enumerate","zip","dict_itemiterator","dict_reverseitemiterator","odict_iterator","itertools.zip_longest","itertools.pairwise"].contains n&&vs[0]? == some (rawInt _))=true then _ else _) Q E s
         rw [if_neg (by intro h;rw [hn,Bool.false_and] at h;cases h)];exact n4_ hQ))
def Itl (K:PySem.W.Frag) (a:Addr):It :=
 ⟨fun i H=>∃ xs x,SqL K H a xs∧xs[i]? = some x,fun i H x H'=>H'=H∧∀ xs,SqL K H a xs→xs[i]? = some x,fun i H=>∃ xs,SqL K H a xs∧xs.length≤i⟩
def Itt (K:PySem.W.Frag) (a:Addr):It :=
 ⟨fun i H=>∃ xs x,SqT K H a xs∧xs[i]? = some x,fun i H x H'=>H'=H∧∀ xs,SqT K H a xs→xs[i]? = some x,fun i H=>∃ xs,SqT K H a xs∧xs.length≤i⟩
def Itr (lo:Int) (n:Nat):It:=⟨fun i _=>i<n,fun i H x H'=>H'=H∧x=.int (lo+i),fun i _=>n≤i⟩
theorem Zn9 {K:PySem.W.Frag} (a it:Addr):Turn P w K tg (Itl K a) [it] it (fun i h=>h.IsListIter it a i) where
 mem:=by simp
 obj:=fun i h st b hb=>by
  have e:b=it:=by simpa using hb
  subst e;obtain ⟨o,e,c,d⟩:=st;exact ⟨o,e,fun v z=>by rw [d] at z;cases z⟩
 keep:=fun i h h' st k=>st.at fun o e=>k it (by simp) o e
 item:=by
  intro X hP hw hK hc i pins s σ H E I hf st hg;subst hP hw hK;obtain ⟨xs,x,hq,hx⟩:=hg;obtain ⟨its,rv,p,hz⟩:=I.list hq;obtain ⟨u,hu,ru⟩:=rv.get hx;obtain ⟨f0,f1,f2,f3,f4,f5⟩:=hf it (by simp);refine wpAny_pyNext_list_item st p.isList (x:=u) (by simpa using hu) fun h' st' sb=>?_;have I1:Inv X pins σ H { s with heap:=h' }:=I.turned (t':=s.toks) (fun b o hb e=>(sb.2 b hb).trans e) f0 f1 f3 f4 f5;obtain ⟨o,e,c,d⟩:=id st';exact ⟨u,rfl,Zsu (s:={ s with heap:=h' }) e c d (by decide) ⟨x,H,I1,ru,⟨rfl,fun ys hy=>by rw [I.list_inj hy hq];exact hx⟩,st',fun b hb=>(hf b hb).1⟩⟩
 done:=by
  intro X hP hw hK hc i pins s σ H E I hf st hg;subst hP hw hK;obtain ⟨xs,hq,hx⟩:=hg;obtain ⟨its,rv,p,hz⟩:=I.list hq;obtain ⟨f0,f1,f2,f3,f4,f5⟩:=hf it (by simp);have hl:=rv.length;exact wpAny_pyNext_list_end (I.ok.hd hc) st p.isList (by simp;omega) fun h' eb=>⟨rfl,I.turned (t':=s.toks) (fun b o hb e=>eb b o hb e) f0 f1 f3 f4 f5⟩
 self:=fun _ _ _ _ _ st h=>wpAny_pyIter_listiter st h
theorem Zle {K:PySem.W.Frag} (a it:Addr):Turn P w K tg (Itt K a) [it] it (fun i h=>h.IsTupleIter it a i) where
 mem:=by simp
 obj:=fun i h st b hb=>by
  have e:b=it:=by simpa using hb
  subst e;obtain ⟨o,e,c,d⟩:=st;exact ⟨o,e,fun v z=>by rw [d] at z;cases z⟩
 keep:=fun i h h' st k=>st.at fun o e=>k it (by simp) o e
 item:=by
  intro X hP hw hK hc i pins s σ H E I hf st hg;subst hP hw hK;obtain ⟨xs,x,hq,hx⟩:=hg;obtain ⟨its,rv,p,hz⟩:=I.tuple hq;obtain ⟨u,hu,ru⟩:=rv.get hx;obtain ⟨f0,f1,f2,f3,f4,f5⟩:=hf it (by simp);refine wpAny_pyNext_tuple_item st (show s.heap.IsTuple a its.toArray from p) (x:=u) (by simpa using hu) fun h' st' sb=>?_;have I1:Inv X pins σ H { s with heap:=h' }:=I.turned (t':=s.toks) (fun b o hb e=>(sb.2 b hb).trans e) f0 f1 f3 f4 f5;obtain ⟨o,e,c,d⟩:=id st';exact ⟨u,rfl,Zsu (s:={ s with heap:=h' }) e c d (by decide) ⟨x,H,I1,ru,⟨rfl,fun ys hy=>by rw [I.tuple_inj hy hq];exact hx⟩,st',fun b hb=>(hf b hb).1⟩⟩
 done:=by
  intro X hP hw hK hc i pins s σ H E I hf st hg;subst hP hw hK;obtain ⟨xs,hq,hx⟩:=hg;obtain ⟨its,rv,p,hz⟩:=I.tuple hq;obtain ⟨f0,f1,f2,f3,f4,f5⟩:=hf it (by simp);have hl:=rv.length;exact wpAny_pyNext_tuple_end (I.ok.hd hc) st (show s.heap.IsTuple a its.toArray from p) (by simp;omega) fun h' eb=>⟨rfl,I.turned (t':=s.toks) (fun b o hb e=>eb b o hb e) f0 f1 f3 f4 f5⟩
 self:=fun _ _ _ _ _ st h=>wpAny_pyIter_tupleiter st h
theorem Zlc {K:PySem.W.Frag} (it:Addr) (lo:Int) (n:Nat):Turn P w K tg (Itr lo n) [it] it (fun i h=>IsRangeIter h it (lo+(i:Nat)*1) ((n:Int)-(i:Nat)) 1) where
 mem:=by simp
 obj:=fun i h st b hb=>by
  have e:b=it:=by simpa using hb
  subst e
  exact ⟨_,st,fun v z=>by
   have z':Data.fields _=Data.cell v:=z;cases z'⟩
 keep:=fun i h h' st k=>k it (by simp) _ st
 item:=by
  intro X hP hw hK hc i pins s σ H E I hf st hg;subst hP hw hK;obtain ⟨f0,f1,f2,f3,f4,f5⟩:=hf it (by simp);have W:=Walks.range (prog:=X.prog) (w:=X.w) (I.ok.hd hc) it lo 1 n;refine W.item i s _ _ hg st fun v h' tk hv st' kk=>?_;obtain ⟨t,rfl⟩:=hv;have I1:Inv X pins σ H { s with heap:=h',toks:=tk }:=I.turned (fun b o hb e=>kk b o (by simpa using hb) e) f0 f1 f3 f4 f5;refine ⟨_,rfl,Zsu (s:={ s with heap:=h',toks:=tk }) (n := "range_iterator") st' rfl rfl (by decide) ⟨.int (lo+i),H,I1,⟨t,?_⟩,⟨rfl,rfl⟩,st',fun b hb=>(hf b hb).1⟩⟩;rw [Int.mul_one]
 done:=by
  intro X hP hw hK hc i pins s σ H E I hf st hg;subst hP hw hK;obtain ⟨f0,f1,f2,f3,f4,f5⟩:=hf it (by simp);exact wpAny_pyNext_range_end (I.ok.hd hc) st (by have:n≤i:=hg;omega) fun h' eb=>⟨rfl,I.turned (t':=s.toks) (fun b o hb e=>eb b o hb e) f0 f1 f3 f4 f5⟩
 self:=fun _ _ _ _ _ st h=>wpAny_pyIter_rangeiter st h
section
variable {X:Cx} {tg:Expr}
def Zwf (K:PySem.W.Frag) (tl:TE):TI:=fun σ H R=>tl σ H fun x H1=>∃ a,x=.ref a∧(∃ xs,SqL K H1 a xs)∧R (Itl K a) H1
def iTup (K:PySem.W.Frag) (tl:TE):TI:=fun σ H R=>tl σ H fun x H1=>∃ a,x=.ref a∧(∃ xs,SqT K H1 a xs)∧R (Itt K a) H1
theorem Yg {l:Expr} {tl:TE} (hl:PE X l tl):PI X tg l (Zwf X.K tl):=by
 intro pins s σ H R I h;refine thn (hl pins s σ H _ I h) fun v s1 ⟨x,H1,I1,r1,q1⟩=>?_;obtain ⟨a,e,⟨xs,hq⟩,q⟩:=q1;subst e;cases r1
 obtain ⟨its,rv,p,hz⟩:=I1.list hq;refine wpAny_pyIter_list p.isList ?_;refine ⟨s1.z,[s1.z],_,_,H1,rfl,I1.kept (t':=s1.toks) fun b o e=>n3_ _ e,Zn9 a _,⟨_,n8_ _ rfl,rfl,rfl⟩,fun b hb=>?_,q⟩;have e:b=s1.z:=by simpa using hb
 subst e;exact I1.fpOk (n14_ _) (I1.hok.fresh (n14_ _))
theorem Y6 {l:Expr} {tl:TE} (hl:PE X l tl):PI X tg l (iTup X.K tl):=by
 intro pins s σ H R I h;refine thn (hl pins s σ H _ I h) fun v s1 ⟨x,H1,I1,r1,q1⟩=>?_;obtain ⟨a,e,⟨xs,hq⟩,q⟩:=q1;subst e;cases r1
 obtain ⟨its,rv,p,hz⟩:=I1.tuple hq;refine wpAny_pyIter_tuple (show s1.heap.IsTuple a its.toArray from p) ?_;refine ⟨s1.z,[s1.z],_,_,H1,rfl,I1.kept (t':=s1.toks) fun b o e=>n3_ _ e,Zle a _,⟨_,n8_ _ rfl,rfl,rfl⟩,fun b hb=>?_,q⟩;have e:b=s1.z:=by simpa using hb
 subst e;exact I1.fpOk (n14_ _) (I1.hok.fresh (n14_ _))
theorem Zo5 {R:It→Hp→Prop} {lo hi:Int} {t u v:Tok} {tk:Nat} (I:Inv X pins σ H s) (h1:-(2^62)≤lo) (h2:lo<2^62) (h3:-(2^62)≤hi) (h4:hi<2^62)
 (q:R (Itr lo (hi-lo).toNat) H):wpAny (model X.prog X.w) X.A (pyIter (.ref s.z)) (PIE X pins σ tg R) E { s with heap:=s.heap.push { cls:=.type "range",data:=.fields #[.int lo t,.int hi u,.int 1 v] },toks:=tk }:=by
 refine wpAny_pyIter_range (IsRange.new ..) (small_one h1 h2 h3 h4) ?_;have I1:Inv X pins σ H { s with heap:=s.heap.push { cls:=.type "range",data:=.fields #[.int lo t,.int hi u,.int 1 v] },toks:=tk }:=I.kept fun b o e=>n3_ _ e
 refine ⟨(s.heap.push { cls:=.type "range",data:=.fields #[.int lo t,.int hi u,.int 1 v] }).objs.size,[(s.heap.push { cls:=.type "range",data:=.fields #[.int lo t,.int hi u,.int 1 v] }).objs.size],_,_,H,rfl,
  I1.kept (t':=tk) fun b o e=>n3_ _ e,Zlc _ lo (hi-lo).toNat,?_,fun b hb=>?_,q⟩
 · have e1:lo+((0:Nat):Int)*1=lo:=by simp
   have e2:(((hi-lo).toNat:Nat):Int)-((0:Nat):Int)=Builtin.Range.rangeSize lo hi 1:=by rw [rangeSize_one];split<;>omega
   show IsRangeIter _ _ (lo+((0:Nat):Int)*1) ((((hi-lo).toNat:Nat):Int)-((0:Nat):Int)) 1
   rw [e1,e2];exact n8_ _ rfl
 · have e:b=(s.heap.push { cls:=.type "range",data:=.fields #[.int lo t,.int hi u,.int 1 v] }).objs.size:=by simpa using hb
   subst e;exact I1.fpOk (n14_ _) (I1.hok.fresh (n14_ _))
def Zwi (ta:TA):TI:=fun σ H R=>ta σ H fun vs H1=>∃ j:Int,vs=[.int j]∧-(2^62)≤j∧j<2^62∧R (Itr 0 j.toNat) H1
theorem Zhl {a:Expr} {p:Pos} (hg:Gl X "range") (hm:X.mg "range" = none) (ha:PA X [a] ta) (hs:starEach [a] X.env=[(false,eval a X.env)]:=by rfl):PI X tg (.Call (.Name "range" p) [a] [] pos) (Zwi ta):=by
 intro pins s σ H R I h;refine Call_ (Zbh I hg hm boot_range (n64_ (thn (ha pos pins s σ H _ I h) fun us s1 ⟨vs,H1,I1,r1,q1⟩=>?_) hs rfl));obtain ⟨j,e,q1,q2,q⟩:=q1;subst e;cases r1 with
 | cons r rr =>
   cases rr
   obtain ⟨t,rfl⟩:=r;exact call_range_1 (Zo5 I1 (by omega) (by omega) q1 q2 (by simpa using q))
def tFor (wi:TI) (g:TG) (tb:TS):TS:=fun D σ H=>wi σ H fun J H1=>∃ W:Nat→Nat→St→Hp→Prop,(∃ m,W 0 m σ H1)∧∀ i m σ H,W i m σ H →
 (J.stop i H∧D.nx σ H)∨(J.go i H∧∃ N:St→Hp→Prop,(∀ σ' H',N σ' H'→∃ m',m'<m∧W (i+1) m' σ' H')∧∀ x H',J.yld i H x H'→g x σ H' fun σ2 H2=>tb { D with nx:=N,ct:=N,bk:=D.nx } σ2 H2)
def Zke (fp:List Addr) (h:Heap):List (Addr×Obj):=fp.filterMap fun b=>(h.get? b).map fun o=>(b,o)
theorem Y9 (hb:b∈fp) (e:h.get? b=some o):(b,o)∈Zke fp h:=List.mem_filterMap.mpr ⟨b,hb,by rw [e];rfl⟩
theorem Zme {p:Addr×Obj} (hp:p∈Zke fp h):p.1∈fp∧h.get? p.1=some p.2:=by
 obtain ⟨b,hb,e⟩:=List.mem_filterMap.mp hp;cases q:h.get? b with
 | none=>rw [q] at e;cases e
 | some o =>
   rw [q] at e;have e':(b,o)=p:=Option.some.inj e;subst e';exact ⟨hb,q⟩
theorem Inv.pinned (I:Inv X pins σ H s) (hf:∀ b∈fp,FpOk X pins H b) (ho:∀ b∈fp,∃ o,s.heap.get? b=some o∧∀ v,o.data≠.cell v):Inv X (pins++Zke fp s.heap) σ H s :=
 I.pins_of fun p hp=>(n34_.mp hp).elim (fun z=>I.pin p (n35_ _ z)) fun z=>by
  obtain ⟨hb,e⟩:=Zme z;obtain ⟨f0,f1,f2,_⟩:=hf p.1 hb;obtain ⟨o,e',d⟩:=ho p.1 hb;rw [e] at e';cases e';exact ⟨e,f0,f1,f2,d⟩
theorem Inv.unpinned {pl:List (Addr×Obj)} (I:Inv X (pins++pl) σ H s):Inv X pins σ H s:=I.pins_of fun p hp=>I.pin p (n35_ _ (n76_ _ hp))
theorem Zav {body:List Stmt} {g:TG} {tb:TS} (hp:PassesOwn (model X.prog X.w) X.A X.env X.xe) (hc:X.calm=true) (hi:PI X tg iter wi) (hg:PG X tg g) (hb:PSs X body tb)
 (hs:∀ x,foldedSetIterable iter X.env x=pure x:=by intro _;rfl):PS X (.For tg iter body [] pos) (tFor wi g tb):=by
 intro pins s σ H D I h;refine wpAny_For (thn (hi pins s σ H _ I h) fun v s1 h1=>thn h1 fun itv s2 h2=>?_) hs;obtain ⟨it,fp,tn,J,H2,e,I2,T,st2,f2,W,⟨m0,w0⟩,turn⟩:=h2;subst e;have stat:∀ {H':Hp},(∀ b∈fp,H' b=none)→∀ b∈fp,FpOk X pins H' b:=fun hn b hb=>⟨hn b hb,(f2 b hb).2⟩;refine codeAny_forLoop_any (fun n s'=>∃ i σ' H',Inv X pins σ' H' s'∧tn i s'.heap∧(∀ b∈fp,H' b=none)∧W i n σ' H') ?_ m0 ⟨0,σ,H2,I2,st2,fun b hb=>(f2 b hb).1,w0⟩;rintro n s3 ⟨i,σ3,H3,I3,st3,fr3,w3⟩
 rcases turn i n σ3 H3 w3 with ⟨stop,qn⟩|⟨go,N,hN,step⟩
 · refine wpAny_passesOwn hp (thn (T.done X rfl rfl rfl hc i pins s3 σ3 H3 X.xe I3 (stat fr3) st3 stop) fun r s4 ⟨hr,I4⟩=>?_);subst hr;exact wpAny_execs_nil ⟨σ3,H3,I4,qn⟩
 · refine wpAny_passesOwn hp (thn (T.item X rfl rfl rfl hc i pins s3 σ3 H3 X.xe I3 (stat fr3) st3 go) fun r s4 ⟨u,hr,h4⟩=>?_);subst hr;refine wpAny_passesOwn hp (thn h4 fun _ s5 ⟨x,H5,I5,r5,y5,st5,fr5⟩=>?_);have I5':=I5.pinned (stat fr5) (T.obj _ _ st5);refine wpAny_passesOwn hp (thn (hg _ s5 σ3 H5 x u _ I5' r5 (step x H5 y5)) fun _ s6 ⟨σ6,H6,I6,q6⟩=>?_);refine wpAny_passesOwn hp (thn (hb _ s6 σ6 H6 _ I6 q6) fun f s7 q7=>?_)
   have again:∀ {σ7:St} {H7:Hp},Inv X (pins++Zke fp s5.heap) σ7 H7 s7→N σ7 H7→∃ m,m<n∧∃ i σ' H',Inv X pins σ' H' s7∧tn i s7.heap∧(∀ b∈fp,H' b=none)∧W i m σ' H':=fun {σ7 H7} I7 n7=>by
    obtain ⟨m',hm,w7⟩:=hN σ7 H7 n7;refine ⟨m',hm,i+1,σ7,H7,I7.unpinned,T.keep _ _ _ st5 fun b hb o e=>(I7.pin (b,o) (n35_ _ (n35_ _ (Y9 hb e)))).1,fun b hb=>?_,w7⟩;obtain ⟨o,e,d⟩:=T.obj _ _ st5 b hb;exact (I7.pin (b,o) (n35_ _ (n35_ _ (Y9 hb e)))).2.1
   cases f with
   | next=>obtain ⟨σ7,H7,I7,n7⟩:=q7;exact again I7 n7
   | cont=>obtain ⟨σ7,H7,I7,n7⟩:=q7;exact again I7 n7
   | brk=>obtain ⟨σ7,H7,I7,q7⟩:=q7;exact ⟨σ7,H7,I7.unpinned,q7⟩
   | ret v=>obtain ⟨x7,σ7,H7,I7,r7,q7⟩:=q7;exact ⟨x7,σ7,H7,I7.unpinned,r7,q7⟩
end
theorem Zc1 {K:PySem.W.Frag} {g:TG} {tb:TS} {D:Ends} (Pv:Nat→St→Hp→Prop) (h0:Pv 0 σ H) (hl:∀ i σ H,i≤xs.length→Pv i σ H→SqL K H a xs)
 (hs:∀ i x σ H,xs[i]? = some x→Pv i σ H→g x σ H fun σ2 H2=>tb { D with nx:=Pv (i+1),ct:=Pv (i+1),bk:=D.nx } σ2 H2) (hd:∀ σ H,Pv xs.length σ H→D.nx σ H) :
 ∃ W:Nat→Nat→St→Hp→Prop,(∃ m,W 0 m σ H)∧∀ i m σ H,W i m σ H →
   ((Itl K a).stop i H∧D.nx σ H)∨((Itl K a).go i H∧∃ N:St→Hp→Prop,(∀ σ' H',N σ' H'→∃ m',m'<m∧W (i+1) m' σ' H')∧∀ x H',(Itl K a).yld i H x H'→g x σ H' fun σ2 H2=>tb { D with nx:=N,ct:=N,bk:=D.nx } σ2 H2):=by
 refine ⟨fun i m σ H=>m=xs.length-i∧i≤xs.length∧Pv i σ H,⟨xs.length,by simp,n55_ _,h0⟩,?_⟩;rintro i m σ H ⟨rfl,hi,p⟩
 have q:=hl i σ H hi p
 by_cases hlt:i<xs.length
 · refine .inr ⟨⟨xs,xs[i],q,by simp [hlt]⟩,Pv (i+1),fun σ' H' p'=>⟨xs.length-(i+1),by omega,rfl,hlt,p'⟩,fun x H' y=>?_⟩;obtain ⟨e,y⟩:=y;subst e;exact hs i x σ _ (y xs q) p
 · have e:i=xs.length:=by omega
   subst e;exact .inl ⟨⟨xs,q,n14_ _⟩,hd σ H p⟩
theorem Zor {lo:Int} {g:TG} {tb:TS} {D:Ends} (Pv:Nat→St→Hp→Prop) (h0:Pv 0 σ H)
 (hs:∀ i σ H,i<n→Pv i σ H→g (.int (lo+i)) σ H fun σ2 H2=>tb { D with nx:=Pv (i+1),ct:=Pv (i+1),bk:=D.nx } σ2 H2) (hd:∀ σ H,Pv n σ H→D.nx σ H) :
 ∃ W:Nat→Nat→St→Hp→Prop,(∃ m,W 0 m σ H)∧∀ i m σ H,W i m σ H →
   ((Itr lo n).stop i H∧D.nx σ H)∨((Itr lo n).go i H∧∃ N:St→Hp→Prop,(∀ σ' H',N σ' H'→∃ m',m'<m∧W (i+1) m' σ' H')∧∀ x H',(Itr lo n).yld i H x H'→g x σ H' fun σ2 H2=>tb { D with nx:=N,ct:=N,bk:=D.nx } σ2 H2):=by
 refine ⟨fun i m σ H=>m=n-i∧i≤n∧Pv i σ H,⟨n,by simp,n55_ _,h0⟩,?_⟩;rintro i m σ H ⟨rfl,hi,p⟩
 by_cases hlt:i<n
 · refine .inr ⟨hlt,Pv (i+1),fun σ' H' p'=>⟨n-(i+1),by omega,rfl,hlt,p'⟩,fun x H' y=>?_⟩;obtain ⟨e,y⟩:=y;subst e y;exact hs i σ _ hlt p
 · have e:i=n:=by omega
   subst e;exact .inl ⟨n14_ _,hd σ H p⟩
theorem Zju {c:TT} {tb:TS} {D:Ends} (Pv:St→Hp→Prop) (μ:St→Hp→Nat) (h0:Pv σ H)
 (hs:∀ σ H,Pv σ H→c σ H fun b H1=>if b=true then tb { D with nx:=fun σ' H'=>Pv σ' H'∧μ σ' H'<μ σ H,ct:=fun σ' H'=>Pv σ' H'∧μ σ' H'<μ σ H,bk:=D.nx } σ H1 else D.nx σ H1)
 (mono:∀ σ H Q Q',(∀ b H1,Q b H1→Q' b H1)→c σ H Q→c σ H Q'):Zqv c tb D σ H:=by
 refine ⟨fun m σ H=>m=μ σ H∧Pv σ H,⟨_,rfl,h0⟩,?_⟩;rintro m σ H ⟨rfl,p⟩
 refine mono σ H _ _ (fun b H1 q=>?_) (hs σ H p);cases b with
 | true=>exact ⟨_,fun σ' H' ⟨p',l⟩=>⟨_,l,rfl,p'⟩,q⟩
 | false=>exact q
abbrev R2:=V→V→Hp→VK→Prop
def OpR (X:Cx) (f:Value→Value→Sem Value) (r:R2):Prop :=
 ∀ (pins:List (Addr×Obj)) (s:Shared) (σ:St) (H:Hp) (x y:V) (v u:Value) (Q:VK),Inv X pins σ H s→RelV x v→RelV y u→r x y H Q →
   wpAny (model X.prog X.w) X.A (f v u) (EP X pins σ Q) X.xe s
def UnR (X:Cx) (f:Value→Sem Value) (r:V→Hp→VK→Prop):Prop :=
 ∀ (pins:List (Addr×Obj)) (s:Shared) (σ:St) (H:Hp) (x:V) (v:Value) (Q:VK),Inv X pins σ H s→RelV x v→r x H Q →
   wpAny (model X.prog X.w) X.A (f v) (EP X pins σ Q) X.xe s
def Yy (X:Cx) (f:Value) (r:List V→Hp→VK→Prop):Prop :=
 ∀ (pins:List (Addr×Obj)) (s:Shared) (σ:St) (H:Hp) (xs:List V) (us:List Value) (Q:VK),Inv X pins σ H s→Vals xs us→r xs H Q →
   wpAny (model X.prog X.w) X.A (call f us) (EP X pins σ Q) X.xe s
def TruR (X:Cx) (r:V→Hp→(Bool→Hp→Prop)→Prop):Prop :=
 ∀ (pins:List (Addr×Obj)) (s:Shared) (σ:St) (H:Hp) (x:V) (v:Value) (Q:Bool→Hp→Prop),Inv X pins σ H s→RelV x v→r x H Q →
   wpAny (model X.prog X.w) X.A (truthy v) (TP X pins σ Q) X.xe s
def tOp (r:R2) (ta tb:TE):TE:=fun σ H Q=>ta σ H fun x H1=>tb σ H1 fun y H2=>r x y H2 Q
def tUn (r:V→Hp→VK→Prop) (ta:TE):TE:=fun σ H Q=>ta σ H fun x H1=>r x H1 Q
def rI (C:Int→Int→Prop) (g:Int→Int→V):R2:=fun x y H Q=>∃ i j,x=.int i∧y=.int j∧C i j∧Q (g i j) H
def rI0 (g:Int→Int→V):R2:=fun x y H Q=>∃ i j,x=.int i∧y=.int j∧Q (g i j) H
def rU (g:Int→V):V→Hp→VK→Prop:=fun x H Q=>∃ i,x=.int i∧Q (g i) H
section
variable {X:Cx} {a b c:Expr} {ta tb tc:TE} {pos:Pos}
theorem binT (ha:PE X a ta) (hb:PE X b tb) {R:V→V→Hp→Prop} (I:Inv X pins σ H s)
 (h:ta σ H fun x H1=>tb σ H1 fun y H2=>R x y H2) {f:Value→Value→Sem Value}
 (hf:∀ v u s2 x y H2,Inv X pins σ H2 s2→RelV x v→RelV y u→R x y H2→wpAny (model X.prog X.w) X.A (f v u) Q X.xe s2) :
 wpAny (model X.prog X.w) X.A (eval a X.env) (fun v s₁=>wpAny (model X.prog X.w) X.A (eval b X.env) (fun u s₂=>wpAny (model X.prog X.w) X.A (f v u) Q X.xe s₂) X.xe s₁) X.xe s:=by
 refine thn (ha pins s σ H _ I h) fun v s1 ⟨x,H1,I1,r1,q1⟩=>?_;refine thn (hb pins s1 σ H1 _ I1 q1) fun u s2 ⟨y,H2,I2,r2,q2⟩=>?_;exact hf v u s2 x y H2 I2 r1 r2 q2
theorem Zw {op:Operator} {r:R2} (ho:OpR X (binaryOp op) r) (ha:PE X a ta) (hb:PE X b tb):PE X (.BinOp a op b pos) (tOp r ta tb):=by
 intro pins s σ H Q I h;exact wpAny_BinOp (binT ha hb I h fun v u s2 x y H2 I2 rx ry q=>ho pins s2 σ H2 x y v u Q I2 rx ry q)
theorem Zly {op:UnaryOp} {r:V→Hp→VK→Prop} (ho:UnR X (unaryOp op) r) (ha:PE X a ta):PE X (.UnaryOp op a pos) (tUn r ta):=by
 intro pins s σ H Q I h;exact UnaryOp_ (thn (ha pins s σ H _ I h) fun v s1 ⟨x,H1,I1,r1,q1⟩=>ho pins s1 σ H1 x v Q I1 r1 q1)
theorem opI {f:Value→Value→Sem Value} {C:Int→Int→Prop} {g:Int→Int→Int}
 (rule:∀ (i j:Int) (t u:Tok) (s:Shared) (Q:Value→Shared→Prop) (E:Value→Shared→Prop),C i j→Q (.int (g i j) s.toks) { s with toks:=s.toks+1 }→wpAny (model X.prog X.w) X.A (f (.int i t) (.int j u)) Q E s) :
 OpR X f (rI C fun i j=>.int (g i j)):=by
 intro pins s σ H x y v u Q I rx ry h;obtain ⟨i,j,rfl,rfl,hc,q⟩:=h;obtain ⟨t,rfl⟩:=rx;obtain ⟨t',rfl⟩:=ry;exact rule i j t t' s _ _ hc ⟨.int (g i j),H,I.tok _,⟨_,rfl⟩,q⟩
theorem opI0 {f:Value→Value→Sem Value} {g:Int→Int→Int}
 (rule:∀ (i j:Int) (t u:Tok) (s:Shared) (Q:Value→Shared→Prop) (E:Value→Shared→Prop),Q (.int (g i j) s.toks) { s with toks:=s.toks+1 }→wpAny (model X.prog X.w) X.A (f (.int i t) (.int j u)) Q E s) :
 OpR X f (rI0 fun i j=>.int (g i j)):=by
 intro pins s σ H x y v u Q I rx ry h;obtain ⟨i,j,rfl,rfl,q⟩:=h;obtain ⟨t,rfl⟩:=rx;obtain ⟨t',rfl⟩:=ry;exact rule i j t t' s _ _ ⟨.int (g i j),H,I.tok _,⟨_,rfl⟩,q⟩
theorem opB0 {f:Value→Value→Sem Value} {g:Int→Int→Bool}
 (rule:∀ (i j:Int) (t u:Tok) (s:Shared) (Q:Value→Shared→Prop) (E:Value→Shared→Prop),Q (.bool (g i j)) s→wpAny (model X.prog X.w) X.A (f (.int i t) (.int j u)) Q E s) :
 OpR X f (rI0 fun i j=>.bl (g i j)):=by
 intro pins s σ H x y v u Q I rx ry h;obtain ⟨i,j,rfl,rfl,q⟩:=h;obtain ⟨t,rfl⟩:=rx;obtain ⟨t',rfl⟩:=ry;exact rule i j t t' s _ _ ⟨.bl (g i j),H,I,rfl,q⟩
def CPow (i j:Int):Prop:=0≤j∧j≤1000000∧i.natAbs<2^64
theorem Y7:OpR X (binaryOp .Add) (rI0 fun i j=>.int (i+j)):=opI0 fun _ _ _ _ _ _ _ q=>add_int q
theorem Xw:OpR X (binaryOp .Sub) (rI0 fun i j=>.int (i-j)):=opI0 fun _ _ _ _ _ _ _ q=>sub_int q
theorem Zcb:OpR X (binaryOp .Mod) (rI (fun _ j=>j≠0) fun i j=>.int (i.fmod j)):=opI fun _ _ _ _ _ _ _ hc q=>mod_int' hc q
theorem Zua:OpR X (binaryOp .Pow) (rI CPow fun i j=>.int (i^j.toNat)):=opI fun _ _ _ _ _ _ _ hc q=>pow_int_small hc.1 hc.2.1 hc.2.2 q
theorem unI {f:Value→Sem Value} {g:Int→Int}
 (rule:∀ (i:Int) (t:Tok) (s:Shared) (Q:Value→Shared→Prop) (E:Value→Shared→Prop),Q (.int (g i) s.toks) { s with toks:=s.toks+1 }→wpAny (model X.prog X.w) X.A (f (.int i t)) Q E s) :
 UnR X f (rU fun i=>.int (g i)):=by
 intro pins s σ H x v Q I rx h;obtain ⟨i,rfl,q⟩:=h;obtain ⟨t,rfl⟩:=rx;exact rule i t s _ _ ⟨.int (g i),H,I.tok _,⟨_,rfl⟩,q⟩
theorem Zea:UnR X (unaryOp .USub) (rU fun i=>.int (-i)):=unI fun _ _ _ _ _ q=>neg_int q
end
def scal:V→V→Bool
 | .non,.non=>true|.non,.int _=>true|.int _,.non=>true|.non,.bl _=>true|.bl _,.non=>true|.non,.str _=>true|.str _,.non=>true
 | .int _,.int _=>true|.bl _,.bl _=>true|.str _,.str _=>true|.byt _,.byt _=>true
 | .int _,.str _=>true|.str _,.int _=>true|.bl _,.str _=>true|.str _,.bl _=>true
 | _,_=>false
def rEq:R2:=fun x y H Q=>scal x y=true∧Q (.bl (decide (x=y))) H
def rNe:R2:=fun x y H Q=>scal x y=true∧Q (.bl (!decide (x=y))) H
theorem Zov {i j:Int}:decide (V.int i=V.int j)=(i == j):=by
 rw [n79_]
 simp
theorem Zqu {i j:Bool}:decide (V.bl i=V.bl j)=(i == j):=by
 rw [n79_]
 simp
theorem Zl1 {i j:Str}:decide (V.str i=V.str j)=(i == j):=by
 rw [n79_]
 simp
theorem Zl8 {i j:Array UInt8}:decide (V.byt i=V.byt j)=(i.toList == j.toList):=by
 rw [n79_];cases i
 cases j
 simp
section
variable {X:Cx} {a b c:Expr} {ta tb tc:TE} {pos:Pos}
theorem Z6 {Q:VK} {k k':Bool} (I:Inv X pins σ H s) (q:Q (.bl k) H) (e:k=k'):EP X pins σ Q (.bool k') s:=by
 subst e;exact ⟨.bl k,H,I,rfl,q⟩
theorem Zlt:OpR X (compareOp .Eq) rEq:=by
 intro pins s σ H x y v u Q I rx ry h;obtain ⟨hs,q⟩:=h;cases x with
 | non =>
   cases rx
   cases y with
   | non=>cases ry;exact PySem.EqNone.eq_none_none (Z6 I q (by simp))
   | bl j=>cases ry;exact PySem.EqNone.eq_none_bool (Z6 I q (by simp))
   | int j=>obtain ⟨t',rfl⟩:=ry;exact PySem.EqNone.eq_none_int (Z6 I q (by simp))
   | str j=>obtain ⟨t',rfl⟩:=ry;exact PySem.EqNone.eq_none_str (Z6 I q (by simp))
   | _=>exact absurd (show false=true from hs) n21_
 | bl i =>
   cases rx
   cases y with
   | non=>cases ry;exact PySem.EqNone.eq_bool_none (Z6 I q (by simp))
   | bl j=>cases ry;exact eq_bool (Z6 I q Zqu)
   | str j=>obtain ⟨t',rfl⟩:=ry;exact PySem.EqMixed.eq_bool_str (Z6 I q (by simp))
   | _=>exact absurd (show false=true from hs) n21_
 | int i =>
   obtain ⟨t,rfl⟩:=rx;cases y with
   | non=>cases ry;exact PySem.EqNone.eq_int_none (Z6 I q (by simp))
   | int j=>obtain ⟨t',rfl⟩:=ry;exact eq_int (Z6 I q Zov)
   | str j=>obtain ⟨t',rfl⟩:=ry;exact PySem.EqMixed.eq_int_str (Z6 I q (by simp))
   | _=>exact absurd (show false=true from hs) n21_
 | str i =>
   obtain ⟨t,rfl⟩:=rx;cases y with
   | non=>cases ry;exact PySem.EqNone.eq_str_none (Z6 I q (by simp))
   | bl j=>cases ry;exact PySem.EqMixed.eq_str_bool (Z6 I q (by simp))
   | int j=>obtain ⟨t',rfl⟩:=ry;exact PySem.EqMixed.eq_str_int (Z6 I q (by simp))
   | str j=>obtain ⟨t',rfl⟩:=ry;exact eq_str (Z6 I q Zl1)
   | _=>exact absurd (show false=true from hs) n21_
 | byt i =>
   obtain ⟨t,rfl⟩:=rx;cases y with
   | byt j=>obtain ⟨t',rfl⟩:=ry;exact PySem.W.eq_bytes (Z6 I q Zl8)
   | _=>exact absurd (show false=true from hs) n21_
 | _=>cases y<;>exact absurd (show false=true from hs) n21_
theorem Zwd:OpR X (compareOp .NotEq) rNe:=by
 intro pins s σ H x y v u Q I rx ry h;obtain ⟨hs,q⟩:=h;cases x with
 | non =>
   cases rx
   cases y with
   | non=>cases ry;exact PySem.EqNone.ne_none_none (Z6 I q (by simp))
   | bl j=>cases ry;exact PySem.EqNone.ne_none_bool (Z6 I q (by simp))
   | int j=>obtain ⟨t',rfl⟩:=ry;exact PySem.EqNone.ne_none_int (Z6 I q (by simp))
   | str j=>obtain ⟨t',rfl⟩:=ry;exact PySem.EqNone.ne_none_str (Z6 I q (by simp))
   | _=>exact absurd (show false=true from hs) n21_
 | bl i =>
   cases rx
   cases y with
   | non=>cases ry;exact PySem.EqNone.ne_bool_none (Z6 I q (by simp))
   | bl j=>cases ry;exact ne_bool (Z6 I q (congrArg not Zqu))
   | str j=>obtain ⟨t',rfl⟩:=ry;exact PySem.EqMixed.ne_bool_str (Z6 I q (by simp))
   | _=>exact absurd (show false=true from hs) n21_
 | int i =>
   obtain ⟨t,rfl⟩:=rx;cases y with
   | non=>cases ry;exact PySem.EqNone.ne_int_none (Z6 I q (by simp))
   | int j=>obtain ⟨t',rfl⟩:=ry;exact ne_int (Z6 I q (congrArg not Zov))
   | str j=>obtain ⟨t',rfl⟩:=ry;exact PySem.EqMixed.ne_int_str (Z6 I q (by simp))
   | _=>exact absurd (show false=true from hs) n21_
 | str i =>
   obtain ⟨t,rfl⟩:=rx;cases y with
   | non=>cases ry;exact PySem.EqNone.ne_str_none (Z6 I q (by simp))
   | bl j=>cases ry;exact PySem.EqMixed.ne_str_bool (Z6 I q (by simp))
   | int j=>obtain ⟨t',rfl⟩:=ry;exact PySem.EqMixed.ne_str_int (Z6 I q (by simp))
   | str j=>obtain ⟨t',rfl⟩:=ry;exact ne_str (Z6 I q (congrArg not Zl1))
   | _=>exact absurd (show false=true from hs) n21_
 | byt i =>
   obtain ⟨t,rfl⟩:=rx;cases y with
   | byt j=>obtain ⟨t',rfl⟩:=ry;exact PySem.W.ne_bytes (Z6 I q (congrArg not Zl8))
   | _=>exact absurd (show false=true from hs) n21_
 | _=>cases y<;>exact absurd (show false=true from hs) n21_
theorem Zsg:OpR X (compareOp .Lt) (rI0 fun i j=>.bl (decide (i<j))):=opB0 fun _ _ _ _ _ _ _ q=>lt_int q
theorem Zmp:OpR X (compareOp .LtE) (rI0 fun i j=>.bl (decide (i≤j))):=opB0 fun _ _ _ _ _ _ _ q=>le_int q
theorem Zu4:OpR X (compareOp .Gt) (rI0 fun i j=>.bl (decide (j<i))):=opB0 fun _ _ _ _ _ _ _ q=>gt_int q
theorem Zwg:OpR X (compareOp .GtE) (rI0 fun i j=>.bl (decide (j≤i))):=opB0 fun _ _ _ _ _ _ _ q=>ge_int q
theorem Yo (b:Expr) {op:CmpOp} (h:op≠.In:=by decide) (h2:op≠.NotIn:=by decide):behindInMarks op b=false:=by
 have e1:(op == CmpOp.In)=false:=by cases op<;>first|rfl|exact absurd rfl h
 have e2:(op == CmpOp.NotIn)=false:=by cases op<;>first|rfl|exact absurd rfl h2
 cases b<;>simp [behindInMarks,e1,e2]
theorem Zba {op:CmpOp} {r:R2} (ho:OpR X (compareOp op) r) (ha:PE X a ta) (hb:PE X b tb) (hm:behindInMarks op b=false):PE X (.Compare a [op] [b] pos) (tOp r ta tb):=by
 intro pins s σ H Q I h;exact wpAny_Compare1 (binT ha hb I h fun v u s2 x y H2 I2 rx ry q=>ho pins s2 σ H2 x y v u Q I2 rx ry q) hm
def Zv1 (t:TE):TT:=fun σ H Q=>t σ H fun x H'=>∃ k,x=.bl k∧Q k H'
theorem Ye {op:CmpOp} {r:R2} (ho:OpR X (compareOp op) r) (ha:PE X a ta) (hb:PE X b tb) (hm:behindInMarks op b=false):PT X (.Compare a [op] [b] pos) (Zv1 (tOp r ta tb)):=by
 intro pins s σ H Q I h
 refine wpAny_isTrue_Compare1 (thn (ha pins s σ H _ I h) fun v s1 ⟨x,H1,I1,r1,q1⟩=>thn (hb pins s1 σ H1 _ I1 q1) fun u s2 ⟨y,H2,I2,r2,q2⟩ =>
  thn (ho pins s2 σ H2 x y v u _ I2 r1 r2 q2) fun c s3 ⟨z,H3,I3,r3,k,e,q3⟩=>?_) hm
 subst e;cases r3
 exact wpAny_truthy_bool ⟨H3,I3,q3⟩
def Zuf (r r':R2) (ta tb tc:TE):TE:=fun σ H Q=>ta σ H fun x H1=>tb σ H1 fun y H2=>r x y H2 fun z H3=>∃ k,z=.bl k ∧
 (if k=true then tc σ H3 fun w' H4=>r' y w' H4 Q else Q (.bl false) H3)
theorem Zfr {op op':CmpOp} {r r':R2} (ho:OpR X (compareOp op) r) (ho':OpR X (compareOp op') r') (ha:PE X a ta) (hb:PE X b tb) (hc:PE X c tc)
 (hm:lastMarks [op,op'] [b,c]=false:=by with_unfolding_all rfl):PE X (.Compare a [op,op'] [b,c] pos) (Zuf r r' ta tb tc):=by
 intro pins s σ H Q I h
 refine Compare_chain (thn (ha pins s σ H _ I h) fun v s1 ⟨x,H1,I1,r1,q1⟩=>chain_link (thn (hb pins s1 σ H1 _ I1 q1) fun u s2 ⟨y,H2,I2,r2,q2⟩ =>
  thn (ho pins s2 σ H2 x y v u _ I2 r1 r2 q2) fun d s3 ⟨z,H3,I3,r3,k,e,q3⟩=>?_)) hm
 subst e;cases r3
 refine wpAny_truthy_bool ?_;cases k with
 | false=>exact ite_ff ⟨.bl false,H3,I3,rfl,q3⟩
 | true=>exact ite_tt (chain_last (thn (hc pins s3 σ H3 _ I3 q3) fun w' s4 ⟨z',H4,I4,r4,q4⟩=>ho' pins s4 σ H4 y z' u w' Q I4 r2 r4 q4))
def TruV (K:PySem.W.Frag) (x:V) (H:Hp) (k:Bool):Prop :=
 match x with
 | .non=>k=false
 | .bl b=>k=b
 | .int i=>k=(i != 0)
 | .str y=>y.length≤sizeLine∧k=((y.length:Int) != 0)
 | .byt y=>y.size≤sizeLine∧k=((y.size:Int) != 0)
 | .ref p=>(∃ xs,SqL K H p xs∧k = !xs.isEmpty)∨(∃ xs,SqT K H p xs∧k = !xs.isEmpty)∨∃ kvs,H p=some (.dK kvs)∧k = !kvs.isEmpty
 | _=>False
theorem Zlh {κ:Type} {kvs:List (κ×V)} {vs:List (κ×Value)} (r:KV kvs vs):(!vs.isEmpty) = !kvs.isEmpty:=by
 cases r<;>rfl
theorem Zej (r:Vals xs its):(!its.toArray.isEmpty) = !xs.isEmpty:=by
 cases r<;>simp
theorem Zds:(sizeLine:Nat)<2^63:=by rw [sizeLine_eq];decide
theorem Zt5:TruR X (fun x H Q=>∃ k,TruV X.K x H k∧Q k H):=by
 intro pins s σ H x v Q I rx h;obtain ⟨k,e,q⟩:=h;have hl:=Zds;have hs:sizeLine=16777216:=sizeLine_eq;cases x with
 | non =>
   cases rx
   have e':k=false:=e;subst e';exact truthy_none ⟨H,I,q⟩
 | bl b =>
   cases rx
   have e':k=b:=e;subst e';exact wpAny_truthy_bool ⟨H,I,q⟩
 | int i =>
   obtain ⟨t,rfl⟩:=rx;have e':k=(i != 0):=e;subst e';exact PySem.P.truthy_int ⟨H,I,q⟩
 | str y =>
   obtain ⟨t,rfl⟩:=rx;obtain ⟨hy,e'⟩:y.length≤sizeLine∧k=((y.length:Int) != 0):=e;subst e';exact PySem.P.truthy_str (by omega) ⟨H,I.tok _,q⟩
 | byt y =>
   obtain ⟨t,rfl⟩:=rx;obtain ⟨hy,e'⟩:y.size≤sizeLine∧k=((y.size:Int) != 0):=e;subst e';exact PySem.W.truthy_bytes (by omega) ⟨H,I.tok _,q⟩
 | ref p =>
   cases rx
   have e':(∃ xs,SqL X.K H p xs∧k = !xs.isEmpty)∨(∃ xs,SqT X.K H p xs∧k = !xs.isEmpty)∨∃ kvs,H p=some (.dK kvs)∧k = !kvs.isEmpty:=e
   rcases e' with ⟨xs,hx,e'⟩|⟨xs,hx,e'⟩|⟨kvs,hx,e'⟩
   · subst e';obtain ⟨its,r,pl,hz⟩:=I.list hx;have hlen:=r.length;exact wpAny_truthy_list pl.isList (by simp only [n13_];omega) ⟨H,I.tok _,by rw [Zej r];exact q⟩
   · subst e';obtain ⟨its,r,pl,hz⟩:=I.tuple hx;have hlen:=r.length;exact truthy_tuple pl (by simp only [n13_];omega) ⟨H,I.tok _,by rw [Zej r];exact q⟩
   · subst e';obtain ⟨hz,hS,vs,r,m⟩:kvs.length≤sizeLine∧(p == sysModules)=false∧∃ vs,KV kvs vs∧s.heap.DictOf (Yk X.prog X.w) p vs:=I.hok p _ hx;have hlen:kvs.length=vs.length:=Paired.length r;exact wpAny_truthy_dict hS m (by omega) ⟨H,I.tok _,by rw [Zlh r];exact q⟩
 | _=>exact (show False from e).elim
theorem Zz (ha:PE X a ta) (he:∀ whole,isTrue a X.env whole=(do let v ← whole;standAt a.pos;holding [v] (truthy v))) :
 PT X a (fun σ H Q=>ta σ H fun x H'=>∃ k,TruV X.K x H' k∧Q k H'):=by
 intro pins s σ H Q I h;exact isTrue_plain (thn (ha pins s σ H _ I h) fun v s1 ⟨x,H1,I1,r1,q1⟩=>Zt5 pins s1 σ H1 x v Q I1 r1 q1) (he _)
theorem Zp3 {x:V} (r:Vals [x] us):∃ u,us=[u]∧RelV x u:=by
 cases r with
 | cons r1 r2=>cases r2;exact ⟨_,rfl,r1⟩
theorem Zt0 {x:V} (r:Vals [x,y] us):∃ u w',us=[u,w']∧RelV x u∧RelV y w':=by
 cases r with
 | cons r1 r2 =>
   cases r2 with
   | cons r3 r4=>cases r4;exact ⟨_,_,rfl,r1,r3⟩
theorem Zps:Yy X (.builtin "abs") (fun xs H Q=>∃ i,xs=[.int i]∧Q (.int (if i<0 then -i else i)) H):=by
 intro pins s σ H xs us Q I r h;obtain ⟨i,rfl,q⟩:=h;obtain ⟨u,rfl,t,rfl⟩:=Zp3 r;exact call_abs_int fun u tk=>⟨.int (if i<0 then -i else i),H,I.tok _,⟨_,rfl⟩,q⟩
theorem Zh7 (hc:X.calm=true):Yy X (.builtin "max") (fun xs H Q=>∃ i j,xs=[.int i,.int j]∧Q (.int (if j>i then j else i)) H):=by
 intro pins s σ H xs us Q I r h;obtain ⟨i,j,rfl,q⟩:=h;obtain ⟨u,w',rfl,⟨t,rfl⟩,⟨t',rfl⟩⟩:=Zt0 r;refine max_two_ints (I.ok.hd hc) fun h' tk k=>⟨_,H,I.kept k,?_,q⟩
 by_cases hj:j>i
 · rw [if_pos hj,if_pos hj];exact ⟨_,rfl⟩
 · rw [if_neg hj,if_neg hj];exact ⟨_,rfl⟩
theorem Zm1 (hc:X.calm=true):Yy X (.builtin "min") (fun xs H Q=>∃ i j,xs=[.int i,.int j]∧Q (.int (if j<i then j else i)) H):=by
 intro pins s σ H xs us Q I r h;obtain ⟨i,j,rfl,q⟩:=h;obtain ⟨u,w',rfl,⟨t,rfl⟩,⟨t',rfl⟩⟩:=Zt0 r;refine min_two_ints (I.ok.hd hc) fun h' tk k=>⟨_,H,I.kept k,?_,q⟩
 by_cases hj:j<i
 · rw [if_pos hj,if_pos hj];exact ⟨_,rfl⟩
 · rw [if_neg hj,if_neg hj];exact ⟨_,rfl⟩
end
structure ObjM (h:Heap) (x dx C:Addr) (mA:Str→Option Value):Prop where
 obj:h.get? x=some (PySem.W.instObj C dx)
 ns:h.Ns1 dx mA
 ne:dx≠x
theorem Zl3 {dx:Addr} {mA:Str→Option Value} (n:h.Ns1 dx mA):∃ od,h.get? dx=some od∧∀ name,PySem.W.lookIn name od=some (mA name):=by
 obtain ⟨o,es,ep,ho,hd,hk,_,hm⟩:=n;refine ⟨o,ho,fun name=>?_⟩;have e:=hm name;unfold nsFind findBy at e;rw [← Array.find?_toList] at e;unfold PySem.W.lookIn;rw [hd];dsimp only;split
 · rename_i y q
   rw [q] at e;exact congrArg some e
 · rename_i q
   rw [q] at e
   have a:es.toList.any (·.refKey)=false:=by
    rw [List.any_eq_false];intro y hy;obtain ⟨z,t,hkey⟩:=hk y (Array.mem_toList_iff.mp hy);simp [DictEntry.refKey,hkey]
   have a':¬ es.toList.any (·.refKey)=true:=by rw [a];exact n21_
   rw [if_neg a'];exact congrArg some e
theorem ObjM.look {x dx:Addr} {mA:Str→Option Value} (I:ObjM h x dx C mA):∃ od,PySem.W.InstAt h x (PySem.W.instObj C dx) C (some od)∧∀ name,PySem.W.lookIn name od=some (mA name) :=
 let ⟨od,ho,hl⟩:=Zl3 I.ns
 ⟨od,⟨I.obj,rfl,rfl,ho⟩,hl⟩
section
variable {prog:Program} {w:World} {A:Around} {E:Value→Shared→Prop} {s:Shared} {K:PySem.W.Frag} {x dx C f:Addr} {mA:Str→Option Value} {name:Str} {v:Value}
end
theorem RelO.some_of {o:Option Value} (r:RelO (some v) o):∃ u,o=some u∧RelV v u:=by
 cases o with
 | none=>exact (show False from r).elim
 | some u=>exact ⟨u,rfl,r⟩
section
variable {P:Program} {w:World} {H H':Hp} {h h':Heap} {a C dx:Addr} {fs fs':List (Str×V)}
theorem Zse (hok:HOk P w H h) (e:H a=some (.ins C dx fs)):∃ mA,ObjM h a dx C mA∧(∀ f,RelO (fs.lookup f) (mA f))∧PySem.Within mA (fs.map (·.1))∧fs.length≤1000∧H dx=some (.own a):=by
 obtain ⟨d,z,ne,ob,mA,n,r,q⟩:=(show ObjOk P w H h a (.ins C dx fs) from hok a _ e);exact ⟨mA,⟨ob,n,ne⟩,r,q,z,d⟩
end
structure Cls (K:PySem.W.Frag) (C:Addr):Prop where
 pg:PySem.W.plainGet K C Str.empty=true
 hd:PySem.W.hasDictIn K C=true
 po:PySem.W.plainOver K C=true
 sa:PySem.W.findIn K (.ref C) "__setattr__" = some (some (.builtin "object.__setattr__"))
theorem Cls.get {K:PySem.W.Frag} (c:Cls K C) (f:Str):PySem.W.plainGet K C f=true:=c.pg
section
variable {X:Cx} {pins:List (Addr×Obj)} {σ:St} {H:Hp} {s:Shared} {a C dx:Addr} {fs:List (Str×V)} {f:Str} {v:V} {A:Around} {E:Value→Shared→Prop}
end
section
variable {X:Cx} {o e value:Expr} {f:Str} {pos pos' tpos:Pos} {ta tv:TE}
end
section
variable {X:Cx} {pins:List (Addr×Obj)} {σ:St} {H:Hp} {s:Shared} {A:Around} {E:Value→Shared→Prop} {Q:Value→Shared→Prop} {c:Value} {b:Bool}
inductive TyOf (K:PySem.W.Frag) (H:Hp):V→Value→Prop where
 | non:TyOf K H .non (.type "NoneType")
 | bl (x:Bool):TyOf K H (.bl x) (.type "bool")
 | int (i:Int):TyOf K H (.int i) (.type "int")
 | str (x:Str):TyOf K H (.str x) (.type "str")
 | flt (x:UInt64):TyOf K H (.flt x) (.type "float")
 | lst {a:Addr} {xs:List V} (e:H a=some (.lst xs)):TyOf K H (.ref a) (.type "list")
 | frz {a:Addr} {o:Obj} {xs:List V} (e:H a=some (.frz o (.lst xs))):TyOf K H (.ref a) (.type "list")
 | tup {a:Addr} {xs:List V} (e:H a=some (.tup xs)):TyOf K H (.ref a) (.type "tuple")
 | dK {a:Addr} {kvs:List (Key×V)} (e:H a=some (.dK kvs)):TyOf K H (.ref a) (.type "dict")
 | dT {a:Addr} {kvs:List (List Key×V)} (e:H a=some (.dT kvs)):TyOf K H (.ref a) (.type "dict")
 | ins {a C dx:Addr} {fs:List (Str×V)} (e:H a=some (.ins C dx fs)) (cl:Cls K C) (ha:PySem.W.findIn K (.ref C) "__class__" = some (some (.builtin "object.__class__")))
    (hn:PySem.W.specialIn K (.builtin "object.__class__") "__get__" = some (some (.builtin "getset_descriptor.__get__"))) (htk:PySem.W.takesIn K (.builtin "object.__class__")=some true)
    (hm:PySem.W.mroIn K C (.type "object")=some true):TyOf K H (.ref a) (.ref C)
theorem Zm6 {x:V} {t:Value} (I:Inv X pins σ H s) (rx:RelV x u) (ty:TyOf X.K H x t) (e:PySem.W.kitOne X.K t c=some b) (h:∀ tk,Q (.bool b) { s with toks:=tk }) :
 wpAny (model X.prog X.w) A (call (.builtin "isinstance") [u,c]) Q E s:=by
 cases ty with
 | non=>cases (show u=Value.none from rx);exact n70_ PySem.W.kitx_none I.kIn True.intro e (fun z=>nomatch z) h
 | bl y=>cases (show u=Value.bool y from rx);exact n70_ PySem.W.kitx_bool I.kIn True.intro e (fun z=>nomatch z) h
 | int i=>obtain ⟨t,q⟩:=(show ∃ t,u=Value.int i t from rx);cases q;exact n70_ PySem.W.kitx_int I.kIn True.intro e (fun z=>nomatch z) h
 | str y=>obtain ⟨t,q⟩:=(show ∃ t,u=Value.str y t from rx);cases q;exact n70_ PySem.W.kitx_str I.kIn True.intro e (fun z=>nomatch z) h
 | flt y=>obtain ⟨t,q⟩:=(show ∃ t,u=Value.float y t from rx);cases q;exact n70_ PySem.W.kitx_float I.kIn True.intro e (fun z=>nomatch z) h
 | @lst a xs ea =>
   cases (show u=Value.ref a from rx)
   obtain ⟨_,_,n,_,h1⟩:=(show ObjOk X.prog X.w H s.heap a (.lst xs) from I.hok a _ ea);exact n70_ PySem.W.kitx_list I.kIn ⟨_,h1,rfl⟩ e (fun z=>nomatch z) h
 | @frz a ob xs ea =>
   cases (show u=Value.ref a from rx)
   obtain ⟨_,_,_,n,_,h1⟩:=(show ObjOk X.prog X.w H s.heap a (.frz ob (.lst xs)) from I.hok a _ ea);exact n70_ PySem.W.kitx_list I.kIn ⟨_,h1,rfl⟩ e (fun z=>nomatch z) h
 | @tup a xs ea =>
   cases (show u=Value.ref a from rx)
   obtain ⟨_,_,_,p⟩:=(show ObjOk X.prog X.w H s.heap a (.tup xs) from I.hok a _ ea);obtain ⟨o,h1,⟨h2,_⟩,_⟩:=p;exact n70_ PySem.W.kitx_tuple I.kIn ⟨o,h1,h2⟩ e (fun z=>nomatch z) h
 | @dK a kvs ea =>
   cases (show u=Value.ref a from rx)
   obtain ⟨_,_,vs,_,p⟩:=(show ObjOk X.prog X.w H s.heap a (.dK kvs) from I.hok a _ ea);obtain ⟨o,es,ep,h1,h2,_⟩:=p;exact n70_ PySem.W.kitx_dict I.kIn ⟨o,h1,h2.1⟩ e (fun z=>nomatch z) h
 | @dT a kvs ea =>
   cases (show u=Value.ref a from rx)
   obtain ⟨_,_,xs,_,o,es,ep,h1,h2,_⟩:=(show ObjOk X.prog X.w H s.heap a (.dT kvs) from I.hok a _ ea);exact n70_ PySem.W.kitx_dict I.kIn ⟨o,h1,h2.1⟩ e (fun z=>nomatch z) h
 | @ins a C dx fs ea cl ha hn htk hm =>
   cases (show u=Value.ref a from rx)
   obtain ⟨mA,O,_⟩:=Zse I.hok ea;obtain ⟨od,J,_⟩:=O.look;exact n70_ (PySem.W.kitx_own (cl.get _) cl.hd ha hn htk hm) I.kIn J e (fun z=>nomatch z) h
end
structure Room (k:Nat) (A:Around):Prop where
 hd:A.handled=none
 dp:A.depth+3*k+5<recursionLimit
 un:A.units+16*k+200<cLine
 gd:A.guards=some []
theorem Room.mono (r:Room k A) (h:j≤k):Room j A:=⟨r.hd,by have:=r.dp;omega,by have:=r.un;omega,r.gd⟩
theorem Room.deeper (r:Room (k+1) A) (env:Env):Room k (A.deeper env) :=
 ⟨r.hd,by have:=r.dp;show A.depth+1+3*k+5<_;omega,by have:=r.un;show A.units+3+16*k+200<_;omega,r.gd⟩
theorem Room.depth (r:Room k A):A.depth<recursionLimit:=by have:=r.dp;omega
theorem Room.units (r:Room k A):A.units+64<cLine:=by have:=r.un;omega
def tNil:TA:=fun _ H Q=>Q [] H
def Zwh (ta:TE) (tr:TA):TA:=fun σ H Q=>ta σ H fun x H1=>tr σ H1 fun xs H2=>Q (x :: xs) H2
section
variable {X:Cx} {e:Expr} {es:List Expr} {te:TE} {t:TA} {pos:Pos}
theorem Zb:PA X [] tNil:=fun _ _ _ _ H Q I h=>Calls.spliced_nil ⟨[],H,I,.nil,h⟩
theorem Za (ha:PE X e te) (hr:PA X es t) (hs:starEach (e :: es) X.env=(false,eval e X.env) :: starEach es X.env:=by rfl):PA X (e :: es) (Zwh te t):=by
 intro pos pins s σ H Q I h;rw [hs];show wpAny _ _ (spliced ((false,eval e X.env) :: backTo pos (starEach es X.env))) _ _ s
 refine Calls.spliced_cons (thn (ha pins s σ H _ I h) fun u s1 ⟨x,H1,I1,r1,q1⟩=>?_);exact thn (hr pos pins s1 σ H1 _ I1 q1) fun us s2 ⟨xs,H2,I2,r2,q2⟩=>⟨x :: xs,H2,I2,.cons r1 r2,q2⟩
def tTup (t:TA):TE:=fun σ H Q=>t σ H fun xs H1=>xs.length≤sizeLine∧∀ p,H1 p=none→Q (.ref p) (upd H1 p (.tup xs))
def tLst (t:TA):TE:=fun σ H Q=>t σ H fun xs H1=>xs.length≤sizeLine∧∀ p,H1 p=none→Q (.ref p) (upd H1 p (.lst xs))
theorem Yb {x1} (h:PA X es t):PE X (.Tuple es x1 pos) (tTup t):=by
 intro pins s σ H Q I hq;refine wpAny_Tuple_spliced (thn (h pos pins s σ H _ I hq) fun us s1 ⟨xs,H1,I1,r,z,q⟩=>⟨by rw [← r.length];exact z,?_⟩);have hf:H1 s1.z=none:=I1.hok.fresh (n14_ _);refine ⟨.ref s1.z,upd H1 s1.z (.tup xs),I1.laid (t':=s1.toks) (fun b u e=>n3_ _ e) (n14_ _) ?_,rfl,q _ hf⟩;exact ⟨z,us,r,IsTupN.new _ _⟩
theorem Y8 (h:PA X es t):PE X (.List es pos) (tLst t):=by
 intro pins s σ H Q I hq;refine wpAny_List_spliced (thn (h pos pins s σ H _ I hq) fun us s1 ⟨xs,H1,I1,r,z,q⟩=>⟨by rw [← r.length];exact z,?_⟩);have hf:H1 s1.z=none:=I1.hok.fresh (n14_ _);refine ⟨.ref s1.z,upd H1 s1.z (.lst xs),I1.laid (t':=s1.toks) (fun b u e=>n3_ _ e) (n14_ _) ?_,rfl,q _ hf⟩;exact ⟨z,us,0,r,n8_ _ rfl⟩
end
abbrev Sp:=List V→Hp→VK→XK→Prop
abbrev CXT:=List Env→Hp→Shared→XK→Value→Shared→Prop
structure Env0 (P:Program) (w:World) (K:PySem.W.Frag) (mg:Str→Option Value) (base:Heap) (A:Around) (outer:List Env) (s:Shared) (H:Hp):Prop where
 frames:A.frames=some outer
 mod:Mod K mg base
 bs:∀ b o,base.get? b=some o→s.heap.get? b=some o∧H b=none
 bsz:base.objs.size≤s.z
 funs:s.heap.FunFrames base outer
 frf:∀ b∈frs outer,H b=none
 hok:HOk P w H s.heap
 bare:AllBare s.gens
def CE (outer:List Env) (P:Program) (w:World) (H:Hp) (s:Shared) (Q:VK) (u:Value) (s':Shared):Prop :=
 ∃ v H',s'.os=s.os∧AllBare s'.gens∧Un (frs outer) [] H H' s.heap s'.heap∧HOk P w H' s'.heap∧RelV v u∧Q v H'
def CR (CX:CXT) (outer:List Env) (P:Program) (w:World) (H:Hp) (s:Shared) (Q:VK) (E:XK) (r:Result) (s':Shared):Prop :=
 match r with
 | .ok (.ret u)=>CE outer P w H s Q u s'
 | .ok _=>False
 | .error e=>CX outer H s E e s'
structure FnOk (P:Program) (w:World) (K:PySem.W.Frag) (mg:Str→Option Value) (base:Heap) (CX:CXT) (k:Nat) (f:Addr) (fd:FuncData) (ps:List Str) (sp:Sp):Prop where
 len:∀ vs H Q E,sp vs H Q E→vs.length=ps.length
 run:∀ (A:Around) (outer:List Env) (s:Shared) (H:Hp) (args:Args) (us:List Value) (vs:List V) (Q:VK) (E:XK),Room k A→Env0 P w K mg base A outer s H→BindsTo s fd args (ps.zip us)→Vals vs us→sp vs H Q E →
  codeAny (model P w) A (.call (.ref f) args) (CR CX outer P w H s Q E) s
section
variable {X:Cx} {pins:List (Addr×Obj)} {σ:St} {H:Hp} {s s':Shared}
theorem Inv.env0 (I:Inv X pins σ H s):Env0 X.prog X.w X.K X.mg X.base X.A X.stack s H :=
 ⟨I.ok.frames,I.ok.mod,I.bs,n74_ I.ok.bsz I.sz,I.stack,I.stkFree,I.hok,I.bare⟩
theorem Inv.after {Q:VK} (I:Inv X pins σ H s) (h:CE X.stack X.prog X.w H s Q u s'):EP X pins σ Q u s':=by
 obtain ⟨v,H',os,bare,un,hok,r,q⟩:=h;obtain ⟨hh,g,d,t,os'⟩:=s';obtain rfl:os'=s.os:=os;exact ⟨v,H',I.call (h':=hh) (g':=g) (d':=d) (t':=t) (ch:=[]) un hok bare (fun b z=>absurd z (by simp)),r,q⟩
end
def Zte (sp:Sp) (dvs:List V) (E:XK) (t:TA):TE:=fun σ H Q=>t σ H fun vs H1=>sp (vs++dvs) H1 Q E
def Binds (K:PySem.W.Frag) (fd:FuncData) (ps:List Str) (ds:List Value):Prop :=
 ∀ (s:Shared) (us:List Value),K.In s.heap→(us++ds).length=ps.length→BindsTo s fd ⟨us,[]⟩ (ps.zip (us++ds))
theorem Binds.all {K:PySem.W.Frag} {ps:List Str} (h:∀ us:List Value,us.length=ps.length→bindArgs fd ⟨us,[]⟩=pure (ps.zip us)):Binds K fd ps []:=fun s us _ hl=>by
 rw [List.append_nil] at hl ⊢;exact .of_eq (h us hl)
def Zj6 (CX:CXT) (X:Cx) (E:XK):Prop:=∀ (pins:List (Addr×Obj)) (σ:St) (H:Hp) (s:Shared) (e:Value) (s':Shared),Inv X pins σ H s→CX X.stack H s E e s'→X.xe e s'
section
variable {X:Cx} {CX:CXT} {k:Nat} {f C:Addr} {fd:FuncData} {ps:List Str} {sp:Sp} {dvs:List V} {ds:List Value} {E:XK} {x m:Str} {p pos apos:Pos} {e o:Expr} {es:List Expr} {ta:TE} {t:TA}
theorem Zro {Q:VK} (F:FnOk X.prog X.w X.K X.mg X.base CX k f fd ps sp) (hr:Room k X.A) (hb:Binds X.K fd ps ds) (hd:Vals dvs ds) (hx:Zj6 CX X E)
 (I:Inv X pins σ H s) (r:Vals vs us) (h:sp (vs++dvs) H Q E):wpAny (model X.prog X.w) X.A (call (.ref f) us) (EP X pins σ Q) X.xe s:=by
 have r2:Vals (vs++dvs) (us++ds):=r.append hd;have hl:(us++ds).length=ps.length:=by rw [← r2.length];exact F.len _ _ _ _ h
 refine wpAny_call (codeAny_mono (F.run X.A X.stack s H ⟨us,[]⟩ (us++ds) (vs++dvs) Q E hr I.env0 (hb s us I.kIn hl) r2 h) fun r s' hq=>?_);cases r with
 | error e=>exact hx pins σ H s e s' I hq
 | ok fl =>
   cases fl with
   | ret u=>exact I.after hq
   | next=>exact False.elim hq
   | brk=>exact False.elim hq
   | cont=>exact False.elim hq
theorem Ztd (F:FnOk X.prog X.w X.K X.mg X.base CX k f fd ps sp) (hr:Room k X.A) (hg:Gl X x) (hm:X.mg x=some (.ref f)) (hk:PySem.W.keepIn X.K (.ref f)=true) (hb:Binds X.K fd ps ds) (hd:Vals dvs ds) (hx:Zj6 CX X E)
 (ha:PA X (e :: es) t) (hdb:(x == ("__debug__" : Str))=false:=by decide) (he:starEach (e :: es) X.env=(false,eval e X.env) :: starEach es X.env:=by rfl) (hpl:(backTo pos (starEach es X.env)).any (·.1)=false:=by rfl) :
 PE X (.Call (.Name x p) (e :: es) [] pos) (Zte sp dvs E t):=by
 intro pins s σ H Q I h;refine wpAny_Call_Name_kw (Zio I hg hm ?_ hdb);refine PySem.W.callWith_K (h₀:=X.base) I.ok.mod.kin hk (thn (ha pos pins s σ H _ I h) fun us s1 ⟨vs,H1,I1,r,q⟩=>⟨I1.kIn,?_⟩) he hpl;exact Zro F hr hb hd hx I1 r q
theorem Zpl (F:FnOk X.prog X.w X.K X.mg X.base CX k f fd ps sp) (hr:Room k X.A) (hg:Gl X x) (hm:X.mg x=some (.ref f)) (hk:PySem.W.keepIn X.K (.ref f)=true) (hb:Binds X.K fd ps ds) (hd:Vals dvs ds) (hx:Zj6 CX X E)
 (hdb:(x == ("__debug__" : Str))=false:=by decide):PE X (.Call (.Name x p) [] [] pos) (Zte sp dvs E tNil):=by
 intro pins s σ H Q I h;refine wpAny_Call_Name_kw (Zio I hg hm ?_ hdb);exact PySem.W.callWith_K0 I.kIn hk (Zro (us:=[]) F hr hb hd hx I .nil h)
end
section
variable {X:Cx} {CX:CXT} {k:Nat} {f C:Addr} {fd:FuncData} {ps ks:List Str} {sp:Sp} {E:XK} {x m:Str} {p pos apos kpos:Pos} {e o:Expr} {es:List Expr} {kws:List Keyword} {te ta:TE} {t tk:TA} {nm:Option Str}
variable {g:List Value→List Value→List Value} {gV:List V→List V→List V}
end
structure FnScope (N P:List Str) (sc:Scope):Prop where
 kind:sc.kind=.function
 co:sc.isCoroutine=false
 gen:sc.isGenerator=false
 nd:N.Nodup
 pre:N.take P.length=P
 par:∀ x∈P,sc.names.lookup x=some .local∨sc.names.lookup x=some .cell
 nofree:∀ y∈sc.names,y.2≠.free
theorem Zgm {kindOf:Str→Option NameKind}:∀ {binds:List (Str×Value)} {m:Str→Option Value},(∀ v,(x,v)∉binds)→bindL kindOf binds m x=m x
 | [],_,_=>rfl
 | (n,v) :: r,m,h=>by
   unfold bindL;rw [Zgm fun w hw=>h w (n19_ _ hw)];split
   · have:x≠n:=by rintro rfl;exact h v n27_
     simp [this]
   · rfl
theorem Zgo {kindOf:Str→Option NameKind}:∀ {binds:List (Str×Value)} {m:Str→Option Value},(∀ v,(x,v)∉binds)→bindC kindOf binds m x=m x
 | [],_,_=>rfl
 | (n,v) :: r,m,h=>by
   unfold bindC;rw [Zgo fun w hw=>h w (n19_ _ hw)];split
   · rfl
   · have:x≠n:=by rintro rfl;exact h v n27_
     simp [this]
theorem Zic {kindOf:Str→Option NameKind} {v:Value}:∀ {P:List Str} {vs:List Value} {i:Nat} {m:Str→Option Value},P.Nodup→P[i]? = some x→vs[i]? = some v→kindOf x=some .local →
 bindL kindOf (P.zip vs) m x=some v
 | [],_,_,_,_,h,_,_=>by simp at h
 | _ :: _,[],_,_,_,_,h,_=>by simp at h
 | p :: P,w :: vs,0,m,nd,h1,h2,hk=>by
   simp at h1 h2;subst h1;subst h2;show bindL kindOf ((p,w) :: P.zip vs) m p=_
   unfold bindL;rw [Zgm fun v hv=>(List.nodup_cons.mp nd).1 (List.of_mem_zip hv).1,if_pos hk]
   simp
 | p :: P,w :: vs,i+1,m,nd,h1,h2,hk=>by
   show bindL kindOf ((p,w) :: P.zip vs) m x=_
   unfold bindL;exact Zic (i:=i) (List.nodup_cons.mp nd).2 (by simpa using h1) (by simpa using h2) hk
theorem Zhd {kindOf:Str→Option NameKind} {v:Value}:∀ {P:List Str} {vs:List Value} {i:Nat} {m:Str→Option Value},P.Nodup→P[i]? = some x→vs[i]? = some v→kindOf x≠some .local →
 bindC kindOf (P.zip vs) m x=some v
 | [],_,_,_,_,h,_,_=>by simp at h
 | _ :: _,[],_,_,_,_,h,_=>by simp at h
 | p :: P,w :: vs,0,m,nd,h1,h2,hk=>by
   simp at h1 h2;subst h1;subst h2;show bindC kindOf ((p,w) :: P.zip vs) m p=_
   unfold bindC;rw [Zgo fun v hv=>(List.nodup_cons.mp nd).1 (List.of_mem_zip hv).1,if_neg hk]
   simp
 | p :: P,w :: vs,i+1,m,nd,h1,h2,hk=>by
   show bindC kindOf ((p,w) :: P.zip vs) m x=_
   unfold bindC;exact Zhd (i:=i) (List.nodup_cons.mp nd).2 (by simpa using h1) (by simpa using h2) hk
def start (N:List Str) (vs:List V):St:=vs.map some++List.replicate (N.length-vs.length) none
def cxOf (CX:CXT) (P:Program) (w:World) (K:PySem.W.Frag) (mg:Str→Option Value) (base:Heap) (N:List Str) (qual:Str) (scope:Scope) (f:Addr) (cd:Value) (A:Around) (outer:List Env) (s:Shared) (H:Hp) (E:XK):Cx where
 prog:=P
 w:=w
 K:=K
 mg:=mg
 base:=base
 A:=A.deeper (envOfC qual scope s.z f cd)
 N:=N
 s₀:=s
 H₀:=H
 env:=envOfC qual scope s.z f cd
 outer:=outer
 stack:=envOfC qual scope s.z f cd :: outer
 ex:=[]
 calm:=true
 fn:=fun _=>true
 pn:=[]
 xe:=fun e s'=>wpAny (model P w) (A.deeper (envOfC qual scope s.z f cd)) (leaving (envOfC qual scope s.z f cd) e) (fun _ s''=>CX outer H s E e s'') (fun e' s''=>CX outer H s E e' s'') s'
theorem Zr {sc:Scope} (h:sc.names.lookup x=some .cell):∃ c,(cellsFrom n sc.names []).lookup x=some c:=by
 have q:=PySem.W.cellsFrom_some sc.names n [] (.inl h);exact Option.isSome_iff_exists.mp q
theorem Zl7 {CX:CXT} {K:PySem.W.Frag} {mg:Str→Option Value} {base:Heap} {ps:List Str} {cd:Value} {outer:List Env} {s1:Shared} {E:XK}
 (S:FnScope N ps scope) (hd:A.handled=none) (e0:Env0 P w K mg base A outer s H) (hl:vs.length=ps.length) (r:Vals vs us)
 (x:InCallC s s.z (bindL (envOfC qual scope s.z f cd).kindOf (ps.zip us) fun _=>none) (cellsFrom (s.z+1) scope.names []) (bindC (envOfC qual scope s.z f cd).kindOf (ps.zip us) fun _=>none) s1) :
 Inv (cxOf CX P w K mg base N qual scope f cd A outer s H E) [] (start N vs) H s1:=by
 have hpl:ps.length≤N.length:=by have:=congrArg List.length S.pre;rw [n65_] at this;omega
 obtain ⟨h1,tk,rfl,hk⟩:=x.done;have noA:∀ b:Addr,b∉(cxOf CX P w K mg base N qual scope f cd A outer s H E).ex:=fun b z=>absurd (show b∈([]:List Addr) from z) (by simp)
 refine ⟨⟨e0.mod,S.kind,rfl,rfl,n14_ _,fun y z c h1 h2=>?_,fun y hy=>?_,fun y c _ h=>?_,fun _=>hd,Around.frames_deeper e0.frames,.inr ⟨rfl,rfl⟩,fun b z=>absurd z (noA b),e0.bs,e0.bsz,fun b _ _=>noA b,fun b z=>absurd z (noA b),e0.funs,e0.frf⟩,
  rfl,e0.bare,Un.kept hk,⟨_,x.toInCall.ns,fun i y v h1 h2 h3=>?_⟩,fun y c h=>⟨_,x.cell y c h⟩,e0.hok.fresh (n14_ _),fun y c h=>?_,fun p hp=>absurd (show p∈([]:List (Addr×Obj)) from hp) (by simp),e0.hok.kept hk,?_⟩
 · exact name_of_addr x.apart (n41_ h1) (n41_ h2)
 · have hy:scope.names.lookup y=some .cell∨scope.names.lookup y=some .free:=hy
   rcases hy with hy|hy
   · exact Zr hy
   · exact absurd rfl (S.nofree _ (n41_ hy))
 · exact Nat.le_of_lt (x.above y c (n41_ h))
 · have hi:i<vs.length:=by
    unfold start at h2
    by_cases hi:i<vs.length
    · exact hi
    · rw [n49_ (by simpa using hi)] at h2;rw [List.getElem?_replicate] at h2;split at h2<;>cases h2
   have ha:vs[i]? = some v:=by
    unfold start at h2;rw [n58_ (by simpa using hi),n6_] at h2;cases e:vs[i]? with
    | none=>rw [e] at h2;cases h2
    | some a=>rw [e] at h2;cases h2;rfl
   obtain ⟨u,hu,rv⟩:=r.get ha
   have hp:ps[i]? = some y:=by
    rw [← S.pre,List.getElem?_take_of_lt (by omega)];exact h1
   have ndP:ps.Nodup:=by rw [← S.pre];exact S.nd.sublist (List.take_sublist _ _)
   refine ⟨u,rv,?_⟩
   rcases S.par y (n7_ hp) with k|k
   · exact .inl ⟨k,Zic ndP hp hu k⟩
   · obtain ⟨c,e⟩:=Zr (n:=s.z+1) k;refine .inr ⟨.inl k,c,e,?_⟩;have q:=x.cell y c e;rw [Zhd ndP hp hu (by show scope.names.lookup y≠_;rw [k];decide)] at q;exact q
 · exact .inl (e0.hok.fresh (Nat.le_of_lt (x.above y c (n41_ h))))
 · unfold start;show _=N.length
   rw [n28_,n5_,List.length_replicate];omega
theorem Zvx {CX:CXT} {K:PySem.W.Frag} {mg:Str→Option Value} {base:Heap} {name:Str} {params:Arguments} {body:List Stmt} {dV kV doc pm cdv ct oc:Value} {an od:Option Addr}
 {osl:Array (Option Value)} {ps:List Str} {sp:Sp} (lk:K.lookup f=some ⟨oc,od,.func (PySem.W.fnOf name qual params body scope dV kV doc pm an cdv ct),osl⟩) (hcd:PySem.W.codeIn K cdv qual=true) (S:FnScope N ps scope)
 (len:∀ vs H Q E,sp vs H Q E→vs.length=ps.length)
 (hbody:∀ (A:Around) (outer:List Env) (s:Shared) (H:Hp) (vs:List V) (Q:VK) (E:XK),Room k (A.deeper (envOfC qual scope s.z f cdv))→sp vs H Q E →
   ∃ t,PSs (cxOf CX P w K mg base N qual scope f cdv A outer s H E) body t∧t { nx:=fun _ H'=>Q .non H',rt:=Q } (start N vs) H) :
 FnOk P w K mg base CX (k+1) f (PySem.W.fnOf name qual params body scope dV kV doc pm an cdv ct) ps sp:=by
 refine ⟨len,fun A outer s H args us vs Q E hr e0 hb r hsp=>?_⟩;have hl:=len _ _ _ _ hsp;have KX:K.In s.heap:=e0.mod.kin.keeps fun b o e=>(e0.bs b o e).1;have lim:s.heap.NoLimit:=e0.mod.nolimit.keeps fun b o e=>(e0.bs b o e).1
 have hkind:∀ y∈ps.zip us,scope.names.lookup y.1=some .local∨(scope.names.lookup y.1=some .cell∧((cellsFrom (s.z+1) scope.names []).lookup y.1).isSome=true):=fun ⟨n,v⟩ hy=>by
  rcases S.par n (List.of_mem_zip hy).1 with q|q
  · exact .inl q
  · exact .inr ⟨q,PySem.W.cellsFrom_some _ _ _ (.inl q)⟩
 refine codeAny_call_function hr.depth (KX _ _ lk) rfl S.co S.gen rfl (PySem.W.codeRec_of KX hcd) (hb _ _ _ _ ?_);refine wpAny_newFunctionEnv_cells S.kind hkind fun env he s1 x=>?_;subst he;refine ⟨lim.keeps x.toInCall.keep,codeAny_func ?_⟩;obtain ⟨t,ht,hq⟩:=hbody A outer s H vs Q E (hr.deeper _) hsp;have I:Inv (cxOf CX P w K mg base N qual scope f cdv A outer s H E) [] (start N vs) H s1:=Zl7 S hr.hd e0 hl r x;refine n45_ (ht [] s1 (start N vs) H _ I hq) (fun fl s' hs=>?_) fun e s' hs=>hs
 have fin:∀ {σ':St} {H':Hp} {v:V} {u:Value},Inv (cxOf CX P w K mg base N qual scope f cdv A outer s H E) [] σ' H' s'→RelV v u→Q v H'→CE outer P w H s Q u s' :=
  fun {σ' H' v u} J rv q=>⟨v,H',J.os,J.bare,J.base,J.hok,rv,q⟩
 cases fl with
 | ret u =>
   obtain ⟨v,σ',H',J,rv,q⟩:=hs;exact fin J rv q
 | next =>
   obtain ⟨σ',H',J,q⟩:=hs;exact fin (v:=V.non) (u:=Value.none) J rfl q
 | brk =>
   obtain ⟨_,_,_,q⟩:=hs;exact False.elim q
 | cont =>
   obtain ⟨_,_,_,q⟩:=hs;exact False.elim q
section
variable {X:Cx} {x:Str} {p pos:Pos} {e:Expr} {es:List Expr} {t:TA} {id T:String} {r:List V→Hp→VK→Prop}
def tCB (r:List V→Hp→VK→Prop) (t:TA):TE:=fun σ H Q=>t σ H fun vs H1=>r vs H1 Q
theorem Zj (hc:Yy X (.builtin id) r) (hg:Gl X x) (hm:X.mg x=none) (hv:bootBuiltins x=some (.builtin id)) (ha:PA X (e :: es) t) (hn:x ≠ "__name__" := by decide) (hdb:(x == ("__debug__" : Str))=false:=by decide)
 (he:starEach (e :: es) X.env=(false,eval e X.env) :: starEach es X.env:=by rfl) (hpl:(backTo pos (starEach es X.env)).any (·.1)=false:=by rfl):PE X (.Call (.Name x p) (e :: es) [] pos) (tCB r t):=by
 intro pins s σ H Q I h;refine wpAny_Call_Name_kw (Zbh I hg hm hv ?_ hn hdb);exact PyProof.Rows.callWith_builtin1 (thn (ha pos pins s σ H _ I h) fun us s1 ⟨vs,H1,I1,r1,q1⟩=>hc pins s1 σ H1 vs us Q I1 r1 q1) he hpl
theorem Zs (hc:Yy X (.type T) r) (hg:Gl X x) (hm:X.mg x=none) (hv:bootBuiltins x=some (.type T)) (ha:PA X (e :: es) t) (hn:x ≠ "__name__" := by decide) (hdb:(x == ("__debug__" : Str))=false:=by decide)
 (he:starEach (e :: es) X.env=(false,eval e X.env) :: starEach es X.env:=by rfl) (hpl:(backTo pos (starEach es X.env)).any (·.1)=false:=by rfl):PE X (.Call (.Name x p) (e :: es) [] pos) (tCB r t):=by
 intro pins s σ H Q I h;refine wpAny_Call_Name_kw (Zbh I hg hm hv ?_ hn hdb);exact n64_ (thn (ha pos pins s σ H _ I h) fun us s1 ⟨vs,H1,I1,r1,q1⟩=>hc pins s1 σ H1 vs us Q I1 r1 q1) he hpl
end
end L2
namespace HT
open PySem PyProof.Rows
def lexLt:List Int→List Int→Bool
 | [],[]=>false
 | [],_ :: _=>true
 | _ :: _,[]=>false
 | x :: xs,y :: ys=>if x=y then lexLt xs ys else decide (x<y)
theorem lexLt_cons (x y:Int) (xs ys:List Int):lexLt (x :: xs) (y :: ys)=if x=y then lexLt xs ys else decide (x<y):=rfl
theorem Zfq:lexLt [] []=false:=rfl
theorem Zd6 (y:Int) (ys:List Int):lexLt [] (y :: ys)=true:=rfl
theorem Zd9 (x:Int) (xs:List Int):lexLt (x :: xs) []=false:=rfl
theorem Zpm (A:Around) (s:Shared) (a:Int) (t:Tok) (c:Int) (u:Tok):∃ e,SeqAt.EqAt A s (.int a t) (.int c u) e∧(e=true↔a=c) :=
 ⟨(a == c),SeqAt.EqAt.int_int a t c u,by simp⟩
theorem Zp8 (A:Around) (s:Shared) (a:Int) (t:Tok) (c:Int) (u:Tok) (prog:Program) (w:World) (E:Value→Shared→Prop) (Q:Value→Shared→Prop) (h:Q (.bool (decide (a<c))) s) :
 wpAny (model prog w) A (richCompare .Lt (.int a t) (.int c u)) Q E s :=
 (PyProof.Rows.lt_int h:wpAny (model prog w) A (compareOp .Lt (.int a t) (.int c u)) Q E s)
section
open PySem.SeqAt
open PySem.AutoSeq1 (wpAny_loadPart')
open PySem.MeetsSeq PySem.MeetsSeq2 PySem.MeetsSeq3
theorem Zgd (l b:Addr) (items items2:Array Value) (n n2:Nat) (dd dd2:Option Addr) (sl sl2:Array (Option Value)) (ns ms:List Int) (hi:IntsAre items.toList ns) (hj:IntsAre items2.toList ms) :
 Meets (Builtin.«tuple.__lt__» ⟨[.ref l,.ref b],[]⟩)
  (fun _ R s=>s.heap.get? l=some { cls:=.type "tuple",dict:=dd,data:=.seq items n,slots:=sl }∧s.heap.get? b=some { cls:=.type "tuple",dict:=dd2,data:=.seq items2 n2,slots:=sl2 } ∧
    R (.ok (.ret (.bool (lexLt ns ms)))) s) :=
 .of_wp fun prog w A R s h=>by
  obtain ⟨hp,g,d,tk,os⟩:=s;obtain ⟨hl,hb,h⟩:=h;have f2:=AutoSeq1.sub_tuple_tuple;have z1:items.size=ns.length:=by rw [← hi.length];simp
  have z2:items2.size=ms.length:=by rw [← hj.length];simp
  wp_walk using wpAny_loadPart' hl,wpAny_loadPart' hb,wpAny_forIn_list _ (fun rest b s'=>b.1=none∧s'=⟨hp,g,d,tk,os⟩∧∃ (vs ws:List Value) (ns' ms':List Int),rest=vs.zip ws ∧
   IntsAre vs ns'∧IntsAre ws ms'∧ns'.length+items2.size=ms'.length+items.size∧R (.ok (.ret (.bool (lexLt ns' ms')))) ⟨hp,g,d,tk,os⟩) _
  case turn =>
   rintro ⟨y,x⟩ rest b s' ⟨hb',rfl,vs,ws,ns',ms',hz,hvi,hwi,hlen,hR⟩
   cases hvi with
   | nil=>rw [List.zip_nil_left] at hz;cases hz
   | cons a t hvi' =>
     cases hwi with
     | nil=>rw [List.zip_nil_right] at hz;cases hz
     | cons c u hwi' =>
       rw [List.zip_cons_cons] at hz;injection hz with hyx hrest
       injection hyx with hy hx
       subst hy hx;rw [lexLt_cons] at hR;simp only [n26_] at hlen;obtain ⟨e,he,hiff⟩:=Zpm A.in1 ⟨hp,g,d,tk,os⟩ a t c u;refine n0_ (he prog w _ _ ?_);cases e with
       | true =>
         rw [if_pos (hiff.mp rfl)] at hR
         wp_walk
         exact ⟨rfl,rfl,_,_,_,_,hrest,hvi',hwi',by omega,hR⟩
       | false =>
         rw [if_neg (fun q=>absurd (hiff.mpr q) n21_)] at hR;have hri:=Zp8 A.in1 ⟨hp,g,d,tk,os⟩ a t c u prog w
         wp_walk using hri
         exact ⟨_,rfl,by simpa using hR⟩
  case fin =>
   rintro ⟨b1,b2⟩ s' ⟨hb',rfl,vs,ws,ns',ms',hz,hvi,hwi,hlen,hR⟩
   simp only at hb';subst hb'
   have hv:lexLt ns' ms'=decide (items.size<items2.size):=by
    cases hvi with
    | nil =>
      cases hwi with
      | nil =>
        simp only [List.length_nil] at hlen;rw [Zfq];exact (n33_ (by omega)).symm
      | cons c u hw =>
        simp only [List.length_nil,n26_] at hlen;rw [Zd6];exact (n29_ (by omega)).symm
    | cons a t hv =>
      cases hwi with
      | nil =>
        simp only [List.length_nil,n26_] at hlen;rw [Zd9];exact (n33_ (by omega)).symm
      | cons c u hw =>
        rw [List.zip_cons_cons] at hz;cases hz
   rw [hv] at hR
   wp_walk
   exact ⟨_,rfl,by simpa [Builtin.Tuple.tupleCompareSizes] using hR⟩
  case h =>
   exact ⟨rfl,rfl,items.toList,items2.toList,ns,ms,rfl,hi,hj,by omega,h⟩
end
section
variable {prog:Program} {w:World} {A:Around} {E:Value→Shared→Prop} {s:Shared}
theorem lt_tupInts {l b:Addr} {items items2:Array Value} {ns ms:List Int} {Q:Value→Shared→Prop} (hl:IsTup s.heap l items) (hb:IsTup s.heap b items2) (hi:IntsAre items.toList ns) (hj:IntsAre items2.toList ms)
 (hu:A.units<cLine) (h:Q (.bool (lexLt ns ms)) s):wpAny (model prog w) A (compareOp .Lt (.ref l) (.ref b)) Q E s:=by
 obtain ⟨⟨cls,dd,data,sl⟩,ho,hc,n,hd⟩:=id hl;obtain ⟨⟨cls2,dd2,data2,sl2⟩,ho2,hc2,n2,hd2⟩:=id hb;simp only at hc hd hc2 hd2;subst hc hd hc2 hd2
 exact richCompare_meets_room (op:=.Lt) ⟨_,ho,rfl⟩ ⟨_,ho2,rfl⟩ PySem.F.slot_tuple_lt PySem.F.entry_tuple_lt (PySem.F.args_tuple_lt_2 _ _) (Zgd l b items items2 n n2 dd dd2 sl sl2 ns ms hi hj)
  ⟨ho,ho2,show Value.bool (lexLt ns ms)≠Value.notImplemented∧Q (.bool (lexLt ns ms)) s from ⟨(fun x=>nomatch x),h⟩⟩ hu
def sIx (n d:Nat):Option Int→Nat
 | none=>d
 | some v=>if v<0 then (v+(n:Int)).toNat else min v.toNat n
theorem sIx_none (n d:Nat):sIx n d none=d:=rfl
theorem sIx_nat (n d k:Nat):sIx n d (some (k:Int))=min k n:=by
 show (if (k:Int)<0 then ((k:Int)+(n:Int)).toNat else min (k:Int).toNat n)=min k n
 rw [if_neg (by omega),n62_]
theorem Zvl (n d:Nat) (hd:d≤n) (o:Option Int):sIx n d o≤n:=by
 cases o with
 | none=>exact hd
 | some v =>
   show (if v<0 then (v+(n:Int)).toNat else min v.toNat n)≤n
   by_cases hv:v<0
   · rw [if_pos hv];omega
   · rw [if_neg hv];exact Nat.min_le_right _ _
theorem Zl9 (v:Int) (n d:Nat):(if v<0 then max (v+(n:Int)) 0 else min v (n:Int))=((sIx n d (some v):Nat):Int):=by
 show (if v<0 then max (v+(n:Int)) 0 else min v (n:Int))=(((if v<0 then (v+(n:Int)).toNat else min v.toNat n):Nat):Int)
 by_cases hv:v<0
 · simp only [if_pos hv];omega
 · simp only [if_neg hv];omega
theorem Zlj (lo hi:Option Int) (n:Nat):Builtin.Slice.sliceAdjust lo hi 1 (n:Int)=(((sIx n 0 lo:Nat):Int),((sIx n n hi:Nat):Int)):=by
 have h1:¬ ((1:Int)<0):=by omega
 unfold Builtin.Slice.sliceAdjust;simp only [h1,if_false];refine Prod.ext ?_ ?_
 · cases lo with
   | none=>rfl
   | some v=>exact Zl9 v n 0
 · cases hi with
   | none=>rfl
   | some v=>exact Zl9 v n n
theorem Zlo (i j:Nat):Builtin.Slice.slicePlaces (i:Int) (j:Int) 1=j-i:=by
 unfold Builtin.Slice.slicePlaces;have h1:(1:Int)>0:=by omega
 simp only [h1,if_true,Int.ediv_one];split<;>omega
theorem Zev {v:Value} {o:Option Int} {Q:Option Int→Shared→Prop} (p:IsPart v o) (h:Q o s):wpAny (model prog w) A (Builtin.Slice.slicePartIndex v) Q E s:=by
 cases p with
 | none=>exact slicePart_none h
 | int i t=>exact slicePart_int h
theorem Zaj {sl:Addr} {vl vu:Value} {lo hi:Option Int} {n:Nat} {Q:Int×Int×Nat→Shared→Prop} (hs:s.heap.IsSliceOf sl vl vu .none) (pl:IsPart vl lo) (pu:IsPart vu hi)
 (h:Q (((sIx n 0 lo:Nat):Int),1,sIx n n hi-sIx n 0 lo) s):wpAny (model prog w) A (Builtin.Slice.sliceApplied (.ref sl) (pure (n:Int))) Q E s:=by
 obtain ⟨os,hos,hcs,hds⟩:=id hs;unfold Builtin.Slice.sliceApplied Builtin.Slice.sliceFields;refine n0_ (n0_ (wpAny_field hos hds (x:=vl) rfl (n0_ (wpAny_field hos hds (x:=vu) rfl (n0_ (wpAny_field hos hds (x:=.none) rfl (n4_ ?_)))))));refine n0_ (slicePart_none ?_);show wpAny _ _ (if ((1:Int) == 0)=true then _ else _) _ _ s
 rw [if_neg (by decide)];refine n0_ (Zev pl (n0_ (Zev pu (n0_ (n4_ ?_)))));show wpAny _ _ (match Builtin.Slice.sliceAdjust lo hi 1 (n:Int) with|(lo,hi)=>pure (lo,(1:Int),Builtin.Slice.slicePlaces lo hi 1)) _ _ s
 rw [Zlj lo hi n];show wpAny _ _ (pure (((sIx n 0 lo:Nat):Int),(1:Int),Builtin.Slice.slicePlaces ((sIx n 0 lo:Nat):Int) ((sIx n n hi:Nat):Int) 1)) _ _ s
 rw [Zlo];exact n4_ h
theorem Zp2 (xs:Array Value) (i k:Nat):((List.range k).filterMap fun (m:Nat)=>xs[((i:Int)+(m:Int)*1).toNat]?).toArray=((xs.toList.drop i).take k).toArray:=by
 have e:(fun (m:Nat)=>xs[((i:Int)+(m:Int)*1).toNat]?)=fun m=>xs[i+m]?:=by
  funext m
  have:((i:Int)+(m:Int)*1).toNat=i+m:=by omega
  rw [this]
 rw [e]
 have:=pick_run xs i k
 rw [List.filterMap_map] at this;have e2:((fun x=>xs[x]?) ∘ fun x=>i+x)=fun m=>xs[i+m]?:=rfl;rw [e2] at this;rw [this]
theorem getItem_tuple_cut {t sl:Addr} {items:Array Value} {vl vu:Value} {lo hi:Option Int} {Q:Value→Shared→Prop} (ht:IsTup s.heap t items) (hs:s.heap.IsSliceOf sl vl vu .none) (pl:IsPart vl lo) (pu:IsPart vu hi)
 (hw:¬ (sIx items.size 0 lo=0∧sIx items.size items.size hi=items.size))
 (h:Q (.ref s.z) { s with heap:=s.heap.push { cls:=.type "tuple",data:=.seq ((items.toList.drop (sIx items.size 0 lo)).take (sIx items.size items.size hi-sIx items.size 0 lo)).toArray } })
 (hsz:items.size≤sizeLine):wpAny (model prog w) A (getItem (.ref t) (.ref sl)) Q E s:=by
 have htake:sizeOk (.seq ((items.toList.drop (sIx items.size 0 lo)).take (sIx items.size items.size hi-sIx items.size 0 lo)).toArray):=by
  show ((items.toList.drop (sIx items.size 0 lo)).take (sIx items.size items.size hi-sIx items.size 0 lo)).toArray.size≤sizeLine
  rw [n13_,n65_,List.length_drop,Array.length_toList];omega
 have hj:sIx items.size items.size hi≤items.size:=Zvl _ _ (n14_ _) hi;obtain ⟨os,hos,hcs,hds⟩:=id hs;have hTs:s.TypeIs (.ref sl) "slice" := ⟨os,hos,hcs⟩;unfold getItem
 try with_reducible refine n30_ ?_
 first|refine n0_ (n4_ ?_)|skip
 refine n0_ (wpAny_sequenceKey ht.typeIs (by decide) ?_)
 refine n0_ (wpAny_callSpecial?_slot (name:=Str.ofString "__getitem__") ht.typeIs PyProof.Rows.slot_tuple_getitem
  (wpAny_call_entry PyProof.Rows.slot_tuple_getitem ht.typeIs entry_tuple_getitem ?_ (args_tuple_getitem _ _)))
 show wpAny _ _ (Builtin.Tuple.tupleItemsOf (.ref t) >>= _) _ _ s
 refine n0_ (tupleItemsOf_ ht ?_);refine n0_ (wpAny_typeOf hTs ?_);rw [if_pos (by decide)];refine n0_ (Zaj hs pl pu ?_)
 have hno:¬ ((((sIx items.size 0 lo:Nat):Int) == 0&&(1:Int) == 1&&(sIx items.size items.size hi-sIx items.size 0 lo) == items.size)=true):=by
  intro q;rw [n47_,n47_] at q;have q1:((sIx items.size 0 lo:Nat):Int)=0:=eq_of_beq q.1.1;have q2:sIx items.size items.size hi-sIx items.size 0 lo=items.size:=eq_of_beq q.2;exact hw ⟨by omega,by omega⟩
 show wpAny _ _ (if (((sIx items.size 0 lo:Nat):Int) == 0&&(1:Int) == 1&&(sIx items.size items.size hi-sIx items.size 0 lo) == items.size)=true then _ else _) _ _ s
 rw [if_neg hno,Zp2]
 first
  | exact n0_ (m:=Builtin.Tuple.tupleExact _) (wpAny_newObj_type (n4_ ⟨_,rfl,n4_ h⟩) htake)
  | exact n0_ (m:=Builtin.Tuple.tupleExact _) (wpAny_newObj_type (n0_ (n4_ (n4_ ⟨_,rfl,n4_ h⟩))) htake)
  | exact n0_ (n0_ (m:=Builtin.Tuple.tupleExact _) (wpAny_newObj_type (n4_ (n4_ ⟨_,rfl,n4_ h⟩)) htake))
  | exact n0_ (n0_ (m:=Builtin.Tuple.tupleExact _) (wpAny_newObj_type (n4_ ⟨_,rfl,n4_ h⟩) htake))
end
end HT
namespace L2
open PySem PySem.Spec PyProof.Rows
abbrev TO:=St→Hp→(Option Int→Hp→Prop)→Prop
def PO (X:Cx) (e:Option Expr) (t:TO):Prop :=
 ∀ (pins:List (Addr×Obj)) (s:Shared) (σ:St) (H:Hp) (Q:Option Int→Hp→Prop),Inv X pins σ H s→t σ H Q →
   wpAny (model X.prog X.w) X.A (evalPart e X.env) (fun u s'=>∃ o H',Inv X pins σ H' s'∧IsPart u o∧Q o H') X.xe s
def Zr6:TO:=fun _ H Q=>Q none H
def Zvt (t:TE):TO:=fun σ H Q=>t σ H fun x H1=>∃ i,x=.int i∧Q (some i) H1
variable {α:Type} {A:Around} {H:Hp} {pins:List (Addr×Obj)} {ns:List Int} {xs:List V} {its us:List Value} {j n t':Nat} {s:Shared} {σ:St} {y:V} {u:Value}
theorem Xj:∀ {us:List Value},Vals (ns.map V.int) us→IntsAre us ns:=by
 induction ns with
 | nil=>intro us r;rw [List.map_nil] at r;cases r;exact .nil
 | cons n ns ih =>
   intro us r;rw [n31_] at r;cases r with
   | cons r1 r2 =>
     obtain ⟨t,e⟩:=r1;subst e;exact .cons n t (ih r2)
section
variable {X:Cx} {e:Expr} {te:TE} {lo hi:Option Expr} {tl th:TO} {pos p2:Pos}
theorem Zja:PO X none Zr6:=by
 intro pins s σ H Q I h;rw [evalPart_none];exact n4_ ⟨none,H,I,.none,h⟩
theorem Zip (h:PE X e te):PO X (some e) (Zvt te):=by
 intro pins s σ H Q I hw;rw [evalPart_some];refine thn (h pins s σ H _ I hw) fun u s1 ⟨x,H1,I1,r1,q1⟩=>?_;obtain ⟨i,rfl,q⟩:=q1;obtain ⟨t,rfl⟩:=r1;exact ⟨some i,H1,I1,.int i t,q⟩
def SlR (X:Cx) (r:V→Option Int→Option Int→Hp→VK→Prop):Prop :=
 ∀ (pins:List (Addr×Obj)) (s:Shared) (σ:St) (H:Hp) (x:V) (v vl vu:Value) (lo hi:Option Int) (sl:Addr) (Q:VK),Inv X pins σ H s→RelV x v→s.heap.IsSliceOf sl vl vu .none→IsPart vl lo→IsPart vu hi→r x lo hi H Q →
   ∃ T id,typeLookup (.type T) "__getitem__" = pure (some (.builtin id))∧s.TypeIs v T∧wpAny (model X.prog X.w) X.A (getItem v (.ref sl)) (EP X pins σ Q) X.xe s
def tSl (r:V→Option Int→Option Int→Hp→VK→Prop) (te:TE) (tl th:TO):TE:=fun σ H Q=>te σ H fun x H1=>tl σ H1 fun l H2=>th σ H2 fun u H3=>r x l u H3 Q
theorem Zfk {r:V→Option Int→Option Int→Hp→VK→Prop} (hr:SlR X r) (he:PE X e te) (hl:PO X lo tl) (hu:PO X hi th):PE X (.Subscript e (.Slice lo hi none p2) pos) (tSl r te tl th):=by
 intro pins s σ H Q I h;refine Subscript_ (thn (he pins s σ H _ I h) fun v s1 ⟨x,H1,I1,r1,q1⟩=>?_);refine wpAny_Slice (thn (hl pins s1 σ H1 _ I1 q1) fun vl s2 ⟨l,H2,I2,pl,q2⟩=>thn (hu pins s2 σ H2 _ I2 q2) fun vu s3 ⟨u,H3,I3,pu,q3⟩=>?_);rw [evalPart_none];refine n4_ ?_;have I4:Inv X pins σ H3 { s3 with heap:=s3.heap.push { cls:=.type "slice",data:=.fields #[vl,vu,.none] } }:=I3.kept (t':=s3.toks) fun b ob q=>n3_ _ q;obtain ⟨T,id,hT,ht,hg⟩:=hr pins { s3 with heap:=s3.heap.push { cls:=.type "slice",data:=.fields #[vl,vu,.none] } } σ H3 x v vl vu l u s3.z Q I4 r1 (Heap.IsSliceOf.new ..) pl pu q3;show wpAny (model X.prog X.w) X.A (subscriptTail e (.Slice lo hi none p2) v (.ref s3.z)) (EP X pins σ Q) X.xe { s3 with heap:=s3.heap.push { cls:=.type "slice",data:=.fields #[vl,vu,.none] } }
 exact tail_any (ops:=[.ref s3.z,v]) ht hT hg (by with_unfolding_all rfl)
def cutV (xs:List V) (lo hi:Option Int):List V:=(xs.drop (HT.sIx xs.length 0 lo)).take (HT.sIx xs.length xs.length hi-HT.sIx xs.length 0 lo)
theorem Zc7 (xs:List V) (lo hi:Option Int):(cutV xs lo hi).length≤xs.length:=by
 unfold cutV;rw [n65_,List.length_drop];omega
def rSlT (K:PySem.W.Frag):V→Option Int→Option Int→Hp→VK→Prop:=fun x lo hi H Q=>∃ a xs,x=.ref a∧SqT K H a xs ∧
 ¬ (HT.sIx xs.length 0 lo=0∧HT.sIx xs.length xs.length hi=xs.length)∧∀ p,H p=none→Q (.ref p) (upd H p (.tup (cutV xs lo hi)))
theorem Zus:SlR X (rSlT X.K):=by
 intro pins s σ H x v vl vu lo hi sl Q I rx hs pl pu h;obtain ⟨a,xs,rfl,hx,hw,q⟩:=h;cases rx
 obtain ⟨its,r,ht,hz⟩:=I.tuple hx;have hlen:its.toArray.size=xs.length:=by rw [n13_];exact r.length.symm
 refine ⟨"tuple",_,PyProof.Rows.slot_tuple_getitem.lookup,ht.typeIs,?_⟩;refine HT.getItem_tuple_cut ht hs pl pu (by rw [hlen];exact hw) ?_ (by rw [hlen];exact hz);rw [hlen];refine ⟨.ref s.z,_,I.laid (t':=s.toks) (o:=.tup (cutV xs lo hi)) (fun b ob q=>n3_ _ q) (n14_ _) ?_,rfl,q _ (I.hok.fresh (n14_ _))⟩;exact ⟨n74_ (Zc7 xs lo hi) hz,_,(r.drop (HT.sIx xs.length 0 lo)).take (HT.sIx xs.length xs.length hi-HT.sIx xs.length 0 lo),IsTupN.new _ _⟩
def rLtT (K:PySem.W.Frag):R2:=fun x y H Q=>∃ a b ns ms,x=.ref a∧y=.ref b∧SqT K H a (ns.map V.int)∧SqT K H b (ms.map V.int)∧Q (.bl (HT.lexLt ns ms)) H
theorem Zvf (hu:X.A.units<cLine):OpR X (compareOp .Lt) (rLtT X.K):=by
 intro pins s σ H x y v u Q I rx ry h;obtain ⟨a,b,ns,ms,rfl,rfl,ha,hb,q⟩:=h;cases rx
 cases ry
 obtain ⟨its,r1,p1,_⟩:=I.tuple ha;obtain ⟨its2,r2,p2,_⟩:=I.tuple hb;have i1:IntsAre its.toArray.toList ns:=Xj r1;have i2:IntsAre its2.toArray.toList ms:=Xj r2;exact HT.lt_tupInts p1 p2 i1 i2 hu ⟨.bl (HT.lexLt ns ms),H,I,rfl,q⟩
theorem Vals.nil_iff (r:Vals xs us):us=[]↔xs=[]:=by
 cases r with
 | nil=>simp
 | cons _ _=>simp
end
def ixN (n:Nat) (i:Int):Option Nat:=if 0≤i then (if i<n then some i.toNat else none) else if -(n:Int)≤i then some (i+n).toNat else none
def atI {α:Type} (xs:List α) (i:Int):Option α:=(ixN xs.length i).bind fun j=>xs[j]?
theorem Zis {i:Int} (h:ixN n i=some j):seqIndex? i n=some j∧j<n∧-(n:Int)≤i∧i<n:=by
 unfold ixN at h
 by_cases h0:0≤i
 · rw [if_pos h0] at h
   by_cases h1:i<n
   · rw [if_pos h1] at h;have e:i.toNat=j:=Option.some.inj h;exact ⟨by rw [seqIndex_of h0 h1,e],by omega,by omega,h1⟩
   · rw [if_neg h1] at h;cases h
 · rw [if_neg h0] at h
   by_cases h1:-(n:Int)≤i
   · rw [if_pos h1] at h;have e:(i+n).toNat=j:=Option.some.inj h;exact ⟨by rw [seqIndex_neg (by omega) h1,e],by omega,h1,by omega⟩
   · rw [if_neg h1] at h;cases h
theorem Zo4 {xs:List α} {i:Int} {v:α} (h:atI xs i=some v):∃ j,seqIndex? i xs.length=some j∧xs[j]? = some v∧j<xs.length∧-(xs.length:Int)≤i∧i<xs.length:=by
 unfold atI at h;cases e:ixN xs.length i with
 | none=>rw [e] at h;cases h
 | some j =>
   rw [e] at h;obtain ⟨h1,h2,h3,h4⟩:=Zis e;exact ⟨j,h1,h,h2,h3,h4⟩
theorem Xk {xs:List α} {v:α} (h:xs[j]? = some v):atI xs (j:Int)=some v:=by
 have hj:j<xs.length:=(n9_.mp h).1
 have e:ixN xs.length (j:Int)=some j:=by
  unfold ixN;rw [if_pos (by omega),if_pos (by omega)];simp
 unfold atI;rw [e];exact h
def Ztk (b:Expr):Prop:=∀ o i,subscripted b false o i=operate [o,i] (getItem o i)
def IxR (X:Cx) (r:R2):Prop :=
 ∀ (value slice:Expr) (pins:List (Addr×Obj)) (s:Shared) (σ:St) (H:Hp) (x y:V) (v u:Value) (Q:VK),Inv X pins σ H s→RelV x v→RelV y u→r x y H Q →
   subscripted slice false v u=operate [v,u] (getItem v u)→wpAny (model X.prog X.w) X.A (subscriptTail value slice v u) (EP X pins σ Q) X.xe s
def MtR (X:Cx) (id:String) (r:V→List V→Hp→VK→Prop):Prop :=
 ∀ (pins:List (Addr×Obj)) (s:Shared) (σ:St) (H:Hp) (x:V) (xs:List V) (v:Value) (us:List Value) (Q:VK),Inv X pins σ H s→RelV x v→Vals xs us→r x xs H Q →
   wpAny (model X.prog X.w) X.A (call (.builtin id) (v :: us)) (EP X pins σ Q) X.xe s
section
variable {X:Cx} {a b:Expr} {ta tb:TE} {pos:Pos}
theorem Zu {r:R2} (hr:IxR X r) (ha:PE X a ta) (hb:PE X b tb) (hs:Ztk b):PE X (.Subscript a b pos) (tOp r ta tb):=by
 intro pins s σ H Q I h;exact Subscript_ (binT ha hb I h fun v u s2 x y H2 I2 rx ry q=>hr a b pins s2 σ H2 x y v u Q I2 rx ry q (hs _ _))
def rIxL (K:PySem.W.Frag):R2:=fun x y H Q=>∃ p xs i v,x=.ref p∧y=.int i∧SqL K H p xs∧atI xs i=some v∧Q v H
def rIxT (K:PySem.W.Frag):R2:=fun x y H Q=>∃ p xs i v,x=.ref p∧y=.int i∧SqT K H p xs∧atI xs i=some v∧Q v H
theorem Ym:IxR X (rIxL X.K):=by
 intro value slice pins s σ H x y v u Q I rx ry h hs;obtain ⟨p,xs,i,z,rfl,rfl,hq,he,q⟩:=h;cases rx
 obtain ⟨t,rfl⟩:=ry;obtain ⟨its,r,pl,hz⟩:=I.list hq;obtain ⟨j,h1,h2,h3,h4,h5⟩:=Zo4 he;obtain ⟨w,ew,rw'⟩:=r.get h2;have hl:=r.length;have hn:=Zds;have fin:EP X pins σ Q w s:=⟨z,H,I,rw',q⟩
 by_cases h0:0≤i
 · have hj:i.toNat=j:=by
    rw [seqIndex_of h0 h5] at h1;exact Option.some.inj h1
   exact item_listR pl.isList h0 (by omega) (by rw [hj];simpa using ew) fin hs
 · have hj:(i+(its.toArray.size:Int)).toNat=j:=by
    rw [seqIndex_neg (by omega) h4] at h1;rw [n13_,← hl];exact Option.some.inj h1
   exact subscriptTail_builtinR (x:=w) pl.isList.typeIs slot_list_getitem.lookup
    (wpAny_getItem_list_neg (Q:=fun r s'=>r=w∧EP X pins σ Q r s') pl.isList (by omega) (by rw [n13_]<;>omega) (by omega) (by rw [hj];simpa using ew) ⟨rfl,fin⟩) hs
theorem Z1:IxR X (rIxT X.K):=by
 intro value slice pins s σ H x y v u Q I rx ry h hs;obtain ⟨p,xs,i,z,rfl,rfl,hq,he,q⟩:=h;cases rx
 obtain ⟨t,rfl⟩:=ry;obtain ⟨its,r,pl,hz⟩:=I.tuple hq;obtain ⟨j,h1,h2,h3,h4,h5⟩:=Zo4 he;obtain ⟨w,ew,rw'⟩:=r.get h2;have hl:=r.length;have hn:=Zds;have fin:EP X pins σ Q w s:=⟨z,H,I,rw',q⟩
 exact subscriptTail_builtinR (x:=w) pl.typeIs slot_tuple_getitem.lookup
  (getItem_tuple (j:=j) (Q:=fun r s'=>r=w∧EP X pins σ Q r s') pl (by omega) (by omega) (by rw [n13_,← hl];exact h1) (by simpa using ew) ⟨rfl,fin⟩) hs
theorem Zk7 (its:List Value) (n j:Nat) (u:Value):Obj.mapSeq (·.setIfInBounds j u) { cls:=.type "list",data:=.seq its.toArray n }={ cls:=.type "list",data:=.seq (its.set j u).toArray n }:=by
 simp [Obj.mapSeq]
theorem Inv.lst {p:Addr} (I:Inv X pins σ H s) (h:H p=some (.lst xs)) :
 ∃ (its:List Value) (n:Nat),Vals xs its∧s.heap.get? p=some { cls:=.type "list",data:=.seq its.toArray n }∧xs.length≤sizeLine:=by
 obtain ⟨z,its,n,r,e⟩:=I.hok p _ h;exact ⟨its,n,r,e,z⟩
theorem Inv.lstUpd {p:Addr} {ys:List V} {its':List Value} {n':Nat} {f:Obj→Obj} (I:Inv X pins σ H s) (h:H p=some (.lst xs))
 (ho:s.heap.get? p=some { cls:=.type "list",data:=.seq its.toArray n }) (hf:f { cls:=.type "list",data:=.seq its.toArray n }={ cls:=.type "list",data:=.seq its'.toArray n' }) (r:Vals ys its') (hz:ys.length≤sizeLine) (t:Nat) :
 Inv X pins σ (upd H p (.lst ys)) { s with heap:=s.heap.update p f,toks:=t }:=by
 have e:(s.heap.update p f).get? p=some { cls:=.type "list",data:=.seq its'.toArray n' }:=by
  rw [n40_ f ho (by rw [hf]<;>rfl),hf]
 refine I.write (x:=p) (e:=p) (by rw [h];trivial) (.inl rfl) (fun b u hb q=>(n59_ _ _ (Ne.symm hb)).trans q) ⟨_,e⟩ ?_;exact ⟨hz,its',n',r,e⟩
def Zvy:V→V→V→Hp→(Hp→Prop)→Prop:=fun o i v H Q=>∃ p xs k j,o=.ref p∧i=.int k∧H p=some (.lst xs)∧ixN xs.length k=some j∧Q (upd H p (.lst (xs.set j v)))
theorem Zbt:PSet X Zvy:=by
 intro pins s σ H o i v ov iv u Q I ro ri rv h;obtain ⟨p,xs,k,j,rfl,rfl,hp,hj,q⟩:=h;cases ro
 obtain ⟨t,rfl⟩:=ri;obtain ⟨its,n,r,ho,hz⟩:=I.lst hp;obtain ⟨h1,h2,h3,h4⟩:=Zis hj;have hl:=r.length;have hn:=Zds
 have I':Inv X pins σ (upd H p (.lst (xs.set j v))) { s with heap:=s.heap.update p (Obj.mapSeq (·.setIfInBounds j u)) } :=
  I.lstUpd hp ho (Zk7 its n j u) (r.set rv j) (by rw [List.length_set];exact hz) s.toks
 by_cases h0:0≤k
 · have hk:k.toNat=j:=by
    rw [seqIndex_of h0 h4] at h1;exact Option.some.inj h1
   exact PySem.W.ki_setAt ho h0 (by omega) (by rw [n13_,← hl];exact h4) (by rw [hk];exact ⟨_,I',q⟩)
 · have hk:(k+(its.toArray.size:Int)).toNat=j:=by
    rw [seqIndex_neg (by omega) h3] at h1;rw [n13_,← hl];exact Option.some.inj h1
   exact PySem.W.ki_setBack ho (by omega) (by rw [n13_,← hl];exact h3) (by omega) (by rw [hk];exact ⟨_,I',q⟩)
theorem Zgi (lo hi:Option Int) (n:Nat):(sliceBounds lo hi none n).1=((HT.sIx n 0 lo:Nat):Int)∧(sliceBounds lo hi none n).2.1=((HT.sIx n n hi:Nat):Int)∧(sliceBounds lo hi none n).2.2=1:=by
 refine ⟨?_,?_,rfl⟩
 · cases lo with
   | none=>simp [sliceBounds,HT.sIx]
   | some i =>
     simp only [sliceBounds,HT.sIx,Option.getD_none,show (1:Int)>0 by decide,if_true]
     by_cases h:i<0
     · simp only [h,if_true]<;>omega
     · simp only [h,if_false]<;>omega
 · cases hi with
   | none=>simp [sliceBounds,HT.sIx]
   | some i =>
     simp only [sliceBounds,HT.sIx,Option.getD_none,show (1:Int)>0 by decide,if_true]
     by_cases h:i<0
     · simp only [h,if_true]<;>omega
     · simp only [h,if_false]<;>omega
theorem Zfb (its:List Value) (lo hi:Option Int):slicePick its.toArray lo hi none=((its.drop (HT.sIx its.length 0 lo)).take (HT.sIx its.length its.length hi-HT.sIx its.length 0 lo)).toArray:=by
 obtain ⟨h1,h2,h3⟩:=Zgi lo hi its.toArray.size;unfold slicePick;rw [h1,h2,h3];simp only [sliceRange_one,pick_run,n13_]<;>rfl
def rSlL (K:PySem.W.Frag):V→Option Int→Option Int→Hp→VK→Prop:=fun x lo hi H Q=>∃ a xs,x=.ref a∧SqL K H a xs∧∀ p,H p=none→Q (.ref p) (upd H p (.lst (cutV xs lo hi)))
theorem Zto:SlR X (rSlL X.K):=by
 intro pins s σ H x v vl vu lo hi sl Q I rx hs pl pu h;obtain ⟨a,xs,rfl,hx,q⟩:=h;cases rx
 obtain ⟨its,r,ht,hz⟩:=I.list hx;have hlen:=r.length;refine ⟨"list",_,slot_list_getitem.lookup,ht.isList.typeIs,?_⟩;refine wpAny_getItem_list_slice ht.isList hs pl pu .none (by simp) ?_ (by rw [n13_]<;>omega);rw [Zfb,← hlen];refine ⟨.ref s.z,_,I.laid (t':=s.toks) (o:=.lst (cutV xs lo hi)) (fun b ob q=>n3_ _ q) (n14_ _) ?_,rfl,q _ (I.hok.fresh (n14_ _))⟩;exact ⟨n74_ (Zc7 xs lo hi) hz,_,0,(r.drop (HT.sIx xs.length 0 lo)).take (HT.sIx xs.length xs.length hi-HT.sIx xs.length 0 lo),n8_ _ rfl⟩
def Zg2:V→Bool
 | .non=>true
 | .bl _=>true
 | .int _=>true
 | .str _=>true
 | _=>false
def eqV:V→V→Bool
 | .non,.non=>true
 | .bl a,.bl b=>a == b
 | .bl a,.int b=>(if a then 1 else 0) == b
 | .int a,.bl b=>a == (if b then 1 else 0)
 | .int a,.int b=>a == b
 | .str a,.str b=>a == b
 | _,_=>false
theorem Zvs {x:V} {v:Value} (ry:RelV y u) (rx:RelV x v) (fy:Zg2 y=true) (fx:Zg2 x=true):SeqAt.EqAt A s u v (eqV y x):=by
 cases y with
 | non =>
   cases ry
   cases x with
   | non=>cases rx;exact SeqAt.EqAt.same _
   | bl b=>cases rx;exact SeqAt.EqAt.none_bool b
   | int b=>obtain ⟨t,rfl⟩:=rx;exact SeqAt.EqAt.none_int b t
   | str b=>obtain ⟨t,rfl⟩:=rx;exact SeqAt.EqAt.none_str b t
   | _=>exact absurd (show false=true from fx) n21_
 | bl a =>
   cases ry
   cases x with
   | non=>cases rx;exact SeqAt.EqAt.bool_none a
   | bl b=>cases rx;exact SeqAt.EqAt.bool_bool a b
   | int b=>obtain ⟨t,rfl⟩:=rx;exact SeqAt.EqAt.bool_int a b t
   | str b=>obtain ⟨t,rfl⟩:=rx;exact SeqAt.EqAt.bool_str a b t
   | _=>exact absurd (show false=true from fx) n21_
 | int a =>
   obtain ⟨t',rfl⟩:=ry;cases x with
   | non=>cases rx;exact SeqAt.EqAt.int_none a t'
   | bl b=>cases rx;exact SeqAt.EqAt.int_bool a t' b
   | int b=>obtain ⟨t,rfl⟩:=rx;exact SeqAt.EqAt.int_int a t' b t
   | str b=>obtain ⟨t,rfl⟩:=rx;exact SeqAt.EqAt.int_str a t' b t
   | _=>exact absurd (show false=true from fx) n21_
 | str a =>
   obtain ⟨t',rfl⟩:=ry;cases x with
   | non=>cases rx;exact SeqAt.EqAt.str_none a t'
   | bl b=>cases rx;exact SeqAt.EqAt.str_bool a t' b
   | int b=>obtain ⟨t,rfl⟩:=rx;exact SeqAt.EqAt.str_int a t' b t
   | str b=>obtain ⟨t,rfl⟩:=rx;exact SeqAt.EqAt.str_str a t' b t
   | _=>exact absurd (show false=true from fx) n21_
 | _=>exact absurd (show false=true from fy) n21_
def eqU (x:V) (u:Value):Bool:=match u with
 | .none=>eqV .non x
 | .bool b=>eqV (.bl b) x
 | .int i _=>eqV (.int i) x
 | .str z _=>eqV (.str z) x
 | _=>false
theorem Zq9 {x:V} (r:RelV y u) (f:Zg2 y=true):eqU x u=eqV y x:=by
 cases y with
 | non=>cases r;rfl
 | bl b=>cases r;rfl
 | int i=>obtain ⟨t,rfl⟩:=r;rfl
 | str z=>obtain ⟨t,rfl⟩:=r;rfl
 | _=>exact absurd (show false=true from f) n21_
theorem Zi2 {x:V}:∀ {xs:List V} {us:List Value},Vals xs us→xs.all Zg2=true→us.any (eqU x)=xs.any fun y=>eqV y x
 | _,_,.nil,_=>rfl
 | y :: xs,u :: us,.cons r t,f=>by
   rw [List.all_cons,n47_] at f;rw [List.any_cons,List.any_cons,Zq9 r f.1,Zi2 t f.2]
theorem Zfx {x:V} {v:Value} (rx:RelV x v) (fx:Zg2 x=true):∀ {xs:List V} {us:List Value},Vals xs us→xs.all Zg2=true→∀ u∈us,SeqAt.EqAt A s u v (eqU x u)
 | _,_,.nil,_=>fun u hu=>by cases hu
 | y :: xs,u :: us,.cons r t,f=>fun u' hu=>by
   rw [List.all_cons,n47_] at f
   rcases n12_.mp hu with rfl|hu
   · rw [Zq9 r f.1];exact Zvs r rx f.1 fx
   · exact Zfx rx fx t f.2 u' hu
def inV (x:V) (xs:List V):Bool:=xs.any fun y=>eqV y x
def rIn (K:PySem.W.Frag) (neg:Bool):R2:=fun x y H Q=>∃ p xs,y=.ref p∧(SqL K H p xs∨SqT K H p xs)∧Zg2 x=true∧xs.all Zg2=true∧Q (.bl (if neg then !inV x xs else inV x xs)) H
theorem Zia:OpR X (compareOp .NotIn) (rIn X.K true):=by
 intro pins s σ H x y v u Q I rx ry h;obtain ⟨p,xs,rfl,hq,fx,fs,q⟩:=h;cases ry
 rcases hq with hq|hq
 · obtain ⟨its,r,pl,hz⟩:=I.list hq;refine SeqAt.notIn_listAt (eqU x) pl.isList (fun w hw=>Zfx rx fx r fs w (by simpa using hw)) ⟨.bl _,H,I,rfl,?_⟩;rw [show its.toArray.any (eqU x)=its.any (eqU x) by simp,Zi2 r fs];exact q
 · obtain ⟨its,r,pl,hz⟩:=I.tuple hq;refine SeqAt.notIn_tupleAt (eqU x) pl (fun w hw=>Zfx rx fx r fs w (by simpa using hw)) ⟨.bl _,H,I,rfl,?_⟩;rw [show its.toArray.any (eqU x)=its.any (eqU x) by simp,Zi2 r fs];exact q
theorem Zq:Yy X (.builtin "len") (fun xs H Q=>∃ p ys,xs=[.ref p]∧(SqL X.K H p ys∨SqT X.K H p ys)∧Q (.int ys.length) H):=by
 intro pins s σ H xs us Q I r h;obtain ⟨p,ys,rfl,hq,q⟩:=h;obtain ⟨u,rfl,rx⟩:=Zp3 r;cases rx
 have hn:=Zds
 rcases hq with hq|hq
 · obtain ⟨its,r',pl,hz⟩:=I.list hq;have hlen:=r'.length;exact Calls.call_len_list pl.isList (by simp only [n13_]<;>omega) ⟨.int ys.length,H,I.tok _,⟨s.toks+1,by rw [n13_,hlen]⟩,q⟩
 · obtain ⟨its,r',pl,hz⟩:=I.tuple hq;have hlen:=r'.length;exact len_tuple pl (by simp only [n13_]<;>omega) ⟨.int ys.length,H,I.tok _,⟨s.toks+1,by rw [n13_,hlen]⟩,q⟩
theorem Zx:Yy X (.type "tuple") (fun xs H Q=>∃ p ys,xs=[.ref p]∧((SqL X.K H p ys∧∀ l,H l=none→Q (.ref l) (upd H l (.tup ys)))∨(SqT X.K H p ys∧Q (.ref p) H))):=by
 intro pins s σ H xs us Q I r h;obtain ⟨p,ys,rfl,h⟩:=h;obtain ⟨u,rfl,rx⟩:=Zp3 r;cases rx
 rcases h with ⟨hq,q⟩|⟨hq,q⟩
 · obtain ⟨its,r',pl,hz⟩:=I.list hq;have hlen:=r'.length;refine call_tuple_list pl.isList (fun h' kp=>?_) (by simp only [n13_]<;>omega);have I1:Inv X pins σ H { s with heap:=h' }:=I.kept (t':=s.toks) kp
   have I2:Inv X pins σ (upd H h'.objs.size (.tup ys)) { s with heap:=h'.push { cls:=.type "tuple",data:=.seq its.toArray } } :=
    I1.laid (t':=s.toks) (fun b o e=>n3_ _ e) (n14_ _) (show ObjOk X.prog X.w _ _ _ (.tup ys) from ⟨hz,its,r',IsTupN.new _ _⟩)
   exact ⟨.ref h'.objs.size,_,I2,rfl,q _ (I1.hok.fresh (n14_ _))⟩
 · obtain ⟨its,r',pl,hz⟩:=I.tuple hq;exact call_tuple_same pl ⟨.ref p,H,I,rfl,q⟩
def tyV (K:PySem.W.Frag) (T:String) (x:V) (H:Hp):Prop:=match x with
 | .str _=>T = "str"
 | .int _=>T = "int"
 | .ref p=>(T = "list" ∧ ∃ xs,SqL K H p xs)∨(T = "tuple" ∧ ((∃ o,K.lookup p=some o∧o.cls=.type "tuple" ∧ o.dict=none)∨∃ xs,H p=some (.tup xs))) ∨
    (T = "dict" ∧ ((∃ kvs,H p=some (.dK kvs))∨∃ kvs,H p=some (.dT kvs)))∨(T = "set" ∧ ∃ S n,H p=some (.set S n))
 | _=>False
theorem Zq1 {T:String} {x:V} {v:Value} (I:Inv X pins σ H s) (r:RelV x v) (ty:tyV X.K T x H) :
 s.TypeIs v T∧∀ a,v=.ref a→∃ ob,s.heap.get? a=some ob∧ob.dict=none:=by
 cases x with
 | str z =>
   obtain ⟨t,rfl⟩:=r;cases (show T = "str" from ty)
   exact ⟨typeIs_str s z t,fun _ e=>nomatch e⟩
 | int i =>
   obtain ⟨t,rfl⟩:=r;cases (show T = "int" from ty)
   exact ⟨typeIs_int s i t,fun _ e=>nomatch e⟩
 | ref p =>
   cases r
   rcases ty with ⟨rfl,xs,hq⟩|⟨rfl,⟨o,hk,hc,hd⟩|⟨xs,hq⟩⟩|⟨rfl,hk⟩|⟨rfl,S,n,hk⟩
   · obtain ⟨its,_,pl,_⟩:=I.list hq;refine ⟨pl.isList.typeIs,fun a e=>?_⟩;cases e
     obtain ⟨o,n,e,c,hd,_⟩:=pl;exact ⟨o,e,hd⟩
   · refine ⟨⟨o,I.kIn p o hk,hc⟩,fun a e=>?_⟩;cases e
     exact ⟨o,I.kIn _ o hk,hd⟩
   · obtain ⟨_,its,_,o,e1,⟨e2,e3⟩,_⟩:=(show ObjOk X.prog X.w H s.heap p (.tup xs) from I.hok p _ hq);refine ⟨⟨o,e1,e2⟩,fun a e=>?_⟩;cases e
     exact ⟨o,e1,e3⟩
   · have z:∃ o,s.heap.get? p=some o∧o.ExactDict:=by
      rcases hk with ⟨kvs,hk⟩|⟨kvs,hk⟩
      · obtain ⟨_,_,_,_,o,_,_,e,ex,_⟩:=I.hok p _ hk;exact ⟨o,e,ex⟩
      · obtain ⟨_,_,_,_,o,_,_,e,ex,_⟩:=I.hok p _ hk;exact ⟨o,e,ex⟩
     obtain ⟨o,e,ex⟩:=z;refine ⟨⟨o,e,ex.1⟩,fun a e2=>?_⟩;cases e2
     exact ⟨o,e,ex.2.1⟩
   · obtain ⟨o,_,_,_,e,ex,_⟩:=I.hok p _ hk;refine ⟨⟨o,e,ex.1⟩,fun a e2=>?_⟩;cases e2
     exact ⟨o,e,ex.2.1⟩
 | _=>exact False.elim ty
def tBM0 (K:PySem.W.Frag) (T:String) (r:V→List V→Hp→VK→Prop) (to:TE):TE:=fun σ H Q=>to σ H fun x H1=>tyV K T x H1∧r x [] H1 Q
def tBM (K:PySem.W.Frag) (T:String) (r:V→List V→Hp→VK→Prop) (to:TE) (t:TA):TE:=fun σ H Q=>to σ H fun x H1=>tyV K T x H1∧t σ H1 fun xs H2=>r x xs H2 Q
variable {o e:Expr} {es:List Expr} {to:TE} {t:TA} {name:Str} {apos cpos:Pos} {T id:String} {r:V→List V→Hp→VK→Prop}
theorem Zvk (pa:PlainAttrs T) (slot:Slot T name id) (hty:typeOf (.builtin id)=pure (.type "method_descriptor")) (hm:MtR X id r) (ho:PE X o to)
 (hbase:attributeBase o name X.env (eval o X.env)=eval o X.env:=by rfl) (hline:(apos.endLine == cpos.line)=true:=by rfl):PE X (.Call (.Attribute o name apos) [] [] cpos) (tBM0 X.K T r to):=by
 intro pins s σ H Q I h;refine wpAny_Call_method0_late hbase hline (thn (ho pins s σ H _ I h) fun v s1 ⟨x,H1,I1,r1,ty,q1⟩=>?_);obtain ⟨h1,h2⟩:=Zq1 I1 r1 ty;exact ⟨T,id,pa,slot,hty,h1,h2,Calls.callWith_builtin rfl (PySem.evalArgs_none (hm pins s1 σ H1 x [] v [] Q I1 r1 .nil q1))⟩
theorem Zhe (pa:PlainAttrs T) (slot:Slot T name id) (hty:typeOf (.builtin id)=pure (.type "method_descriptor")) (hm:MtR X id r) (ho:PE X o to) (ha:PA X (e :: es) t)
 (hbase:attributeBase o name X.env (eval o X.env)=eval o X.env:=by rfl)
 (hfew:((backTo cpos (starEach (e :: es) X.env)).all (fun x=>!x.1)&&(backToKw cpos (keywordEach [] X.env)).all (fun x=>x.1.isSome)
   && decide ((e :: es).length+([]:List Keyword).length+(if ([]:List Keyword).isEmpty then 0 else 1)<30))=true:=by rfl)
 (hline:(apos.endLine == cpos.line)=true:=by rfl) (hs:starEach (e :: es) X.env=(false,eval e X.env) :: starEach es X.env:=by rfl) (hplain:(backTo cpos (starEach es X.env)).any (·.1)=false:=by rfl) :
 PE X (.Call (.Attribute o name apos) (e :: es) [] cpos) (tBM X.K T r to t):=by
 intro pins s σ H Q I h;refine wpAny_Call_method_late hbase hfew hline rfl (thn (ho pins s σ H _ I h) fun v s1 ⟨x,H1,I1,r1,ty,q1⟩=>?_);obtain ⟨h1,h2⟩:=Zq1 I1 r1 ty;refine ⟨T,id,pa,slot,hty,h1,h2,?_⟩;have hA:=ha cpos pins s1 σ H1 _ I1 q1;rw [hs] at hA ⊢;refine Calls.callWith_builtin (by show (false||(backTo cpos (starEach es X.env)).any (·.1))=false;rw [hplain]<;>rfl) (Calls.evalArgs_plain ?_);exact thn hA fun us s2 ⟨vs,H2,I2,r2,q2⟩=>hm pins s2 σ H2 x vs v us Q I2 r1 r2 q2
/- xs.append(e),list.index on a module's tuple .. are MtR facts of 06m -/
end
def MtM (X:Cx) (id:String) (r:V→List V→Hp→VK→Prop):Prop :=
 ∀ (pins:List (Addr×Obj)) (s:Shared) (σ:St) (H:Hp) (x:V) (xs:List V) (v:Value) (us:List Value) (Q:VK),Inv X pins σ H s→RelV x v→Vals xs us→r x xs H Q →
   wpAny (model X.prog X.w) X.A (call (.builtin id) (v :: us)) (EP X pins σ Q) X.xe s
theorem Vals.one:∀ {x:V} {us:List Value},Vals [x] us→∃ u,us=[u]∧RelV x u
 | _,_,.cons r .nil=>⟨_,rfl,r⟩
theorem Vals.zero:∀ {us:List Value},Vals [] us→us=[]
 | _,.nil=>rfl
theorem Vals.dropLast (h:Vals xs us):Vals xs.dropLast us.dropLast:=by
 induction h with
 | nil=>exact .nil
 | cons r t ih =>
   cases t with
   | nil=>exact .nil
   | cons q t'=>exact .cons r ih
theorem Vals.eraseIdx:∀ {xs:List V} {us:List Value} (i:Nat),Vals xs us→Vals (xs.eraseIdx i) (us.eraseIdx i)
 | _,_,_,.nil=>.nil
 | _,_,0,.cons _ t=>t
 | _,_,i+1,.cons r t=>.cons r (Vals.eraseIdx i t)
theorem Vals.rep (h:Vals xs us):∀ k:Nat,Vals (List.replicate k xs).flatten (List.replicate k us).flatten
 | 0=>.nil
 | k+1=>by
   rw [n73_,n73_,n56_,n56_];exact Vals.append h (Vals.rep h k)
theorem Zlp (l:List α):l.eraseIdx (l.length-1)=l.dropLast:=by
 induction l with
 | nil=>rfl
 | cons a r ih =>
   cases r with
   | nil=>rfl
   | cons b r =>
     have e:(a :: b :: r).length-1=((b :: r).length-1)+1:=by
      have h1:(a :: b :: r).length=r.length+2:=rfl;have h2:(b :: r).length=r.length+1:=rfl;omega
     rw [e,List.eraseIdx_cons_succ,ih]
     all_goals rfl
theorem Zha:∀ (l:List α) (i:Nat),(l.eraseIdx i).length≤l.length
 | [],_=>n14_ _
 | _ :: _,0=>Nat.le_succ _
 | _ :: r,i+1=>Nat.succ_le_succ (Zha r i)
theorem Zhv (its:List Value):∀ (k:Nat) (acc:List Value),
 List.foldl (fun x1 x2=>x1++x2) acc.toArray (List.replicate k its.toArray)=(acc++(List.replicate k its).flatten).toArray
 | 0,acc=>by simp
 | k+1,acc=>by
   have e:acc.toArray++its.toArray=(acc++its).toArray:=by simp
   have e2:(acc++its)++(List.replicate k its).flatten=acc++(List.replicate (k+1) its).flatten:=by
    rw [n73_,n56_,n57_]
   rw [← e2,← Zhv its k (acc++its),← e,n73_,n67_]
section
variable {X:Cx} {pins:List (Addr×Obj)} {σ:St} {H:Hp} {s:Shared} {l b:Addr} {xs ys zs:List V}
theorem Inv.lset {its':List Value} {f:Array Value→Array Value} (I:Inv X pins σ H s) (hH:H l=some (.lst xs))
 (e:s.heap.get? l=some { cls:=.type "list",data:=.seq its.toArray n }) (hf:f its.toArray=its'.toArray) (hv:Vals ys its') (hz:ys.length≤sizeLine) :
 Inv X pins σ (upd H l (.lst ys)) { s with heap:=s.heap.update l (Obj.mapSeq f),toks:=t' }:=by
 have q:=PySem.IsL.update e f;rw [hf] at q;refine I.write (x:=l) (e:=l) (by rw [hH];exact trivial) (.inl rfl) (fun b' u hb hu=>(n59_ s.heap (Obj.mapSeq f) (Ne.symm hb)).trans hu) ⟨_,q⟩ ?_;exact ⟨hz,its',_,hv,q⟩
theorem Inv.lnew (I:Inv X pins σ H s) (hv:Vals ys its) (hz:ys.length≤sizeLine) :
 Inv X pins σ (upd H s.z (.lst ys)) { s with heap:=s.heap.push { cls:=.type "list",data:=.seq its.toArray },toks:=t' } :=
 I.laid (fun _ _ q=>n3_ _ q) (n14_ _) ⟨hz,its,0,hv,n8_ _ rfl⟩
theorem Inv.fresh (I:Inv X pins σ H s):H s.z=none:=I.hok.fresh (n14_ _)
theorem Inv.lstM (I:Inv X pins σ H s) (hH:H l=some (.lst xs)):xs.length≤sizeLine∧∃ (its:List Value) (n:Nat),Vals xs its∧xs.length=its.length∧s.heap.get? l=some { cls:=.type "list",data:=.seq its.toArray n }:=by
 obtain ⟨z,its,n,r,e⟩:=I.hok l _ hH;exact ⟨z,its,n,r,r.length,e⟩
theorem Zkb (h:n≤sizeLine):Builtin.List.listTooLong n=false:=by
 unfold Builtin.List.listTooLong;exact n33_ (by omega)
end
section
variable {X:Cx}
def Zsn:V→List V→Hp→VK→Prop:=fun x vs H Q=>∃ l xs y,x=.ref l∧vs=[y]∧H l=some (.lst xs)∧xs.length<sizeLine∧Q .non (upd H l (.lst (xs++[y])))
theorem Zbz:MtM X "list.append" Zsn:=by
 intro pins s σ H x vs v us Q I rx rv h;obtain ⟨l,xs,y,rfl,rfl,hH,hz,q⟩:=h;cases rx
 obtain ⟨u,rfl,ru⟩:=rv.one;obtain ⟨z,its,n,r,hl,e⟩:=I.lstM hH;refine call_meets F.slot_list_append ⟨_,e,rfl⟩ F.entry_list_append (F.args_list_append_2 _ _) (PySem.list_append l its.toArray n u (by rw [n13_];omega)) ⟨e,?_⟩;refine ⟨.non,_,I.lset (its':=its++[u]) hH e (by simp) (r.append (.cons ru .nil)) ?_,rfl,q⟩;rw [n28_,List.length_singleton];omega
def Zr9:V→List V→Hp→VK→Prop:=fun x vs H Q=>∃ l b xs zs,x=.ref l∧vs=[.ref b]∧H l=some (.lst xs)∧H b=some (.lst zs)∧xs.length+zs.length≤sizeLine∧Q .non (upd H l (.lst (xs++zs)))
theorem Zoz:MtM X "list.extend" Zr9:=by
 intro pins s σ H x vs v us Q I rx rv h;obtain ⟨l,b,xs,zs,rfl,rfl,hH,hB,hz,q⟩:=h;cases rx
 obtain ⟨u,rfl,ru⟩:=rv.one;cases ru
 obtain ⟨z,its,n,r,hl,e⟩:=I.lstM hH;obtain ⟨z2,its2,n2,r2,hl2,e2⟩:=I.lstM hB;have hsz:its.toArray.size+its2.toArray.size≤sizeLine:=by rw [n13_,n13_];omega
 have hlong:¬ (!its.toArray.isEmpty&&Builtin.List.listTooLong (its.toArray.size+its2.toArray.size))=true:=by
  rw [Zkb hsz,Bool.and_false];exact n21_
 refine call_meets F.slot_list_extend ⟨_,e,rfl⟩ F.entry_list_extend (F.args_list_extend_2 _ _)
  (AutoSeq1.list_extend_list_list_0 l its.toArray n b its2.toArray n2 hlong (by rw [n13_];omega) (by omega)) ⟨e,e2,?_⟩
 refine ⟨.non,_,I.lset (its':=its++its2) hH e (by simp) (r.append r2) ?_,rfl,q⟩;rw [n28_];omega
def rPop:V→List V→Hp→VK→Prop:=fun x vs H Q=>∃ l xs y,x=.ref l∧vs=[]∧H l=some (.lst xs)∧xs[xs.length-1]? = some y∧Q y (upd H l (.lst xs.dropLast))
theorem Zvp:MtM X "list.pop" rPop:=by
 intro pins s σ H x vs v us Q I rx rv h;obtain ⟨l,xs,y,rfl,rfl,hH,hy,q⟩:=h;cases rx
 have hus:=rv.zero;subst hus;obtain ⟨z,its,n,r,hl,e⟩:=I.lstM hH;obtain ⟨u,hu,ru⟩:=r.get hy
 have hy':its.toArray[its.toArray.size-1]? = some u:=by
  show its.toArray[its.length-1]? = some u
  rw [← Array.getElem?_toList,← hl];exact hu
 refine call_meets F.slot_list_pop ⟨_,e,rfl⟩ F.entry_list_pop (F.args_list_pop_1 _) (MeetsSeq.list_pop_last l its.toArray n u hy' (by rw [n13_];omega)) ⟨e,?_⟩;refine ⟨y,_,I.lset (its':=its.dropLast) hH e ?_ r.dropLast ?_,ru,q⟩
 · show its.toArray.eraseIdxIfInBounds (its.toArray.size-1)=its.dropLast.toArray
   rw [n13_,List.eraseIdxIfInBounds_toArray,Zlp]
 · rw [List.length_dropLast];omega
def Zvo:V→List V→Hp→VK→Prop:=fun x vs H Q=>∃ l xs i k y,x=.ref l∧vs=[.int i]∧H l=some (.lst xs)∧-(2^63)≤i∧i<2^63∧seqIndex? i xs.length=some k∧xs[k]? = some y∧Q y (upd H l (.lst (xs.eraseIdx k)))
theorem Zqb:MtM X "list.pop" Zvo:=by
 intro pins s σ H x vs v us Q I rx rv h;obtain ⟨l,xs,i,k,y,rfl,rfl,hH,h1,h2,hk,hy,q⟩:=h;cases rx
 obtain ⟨u,rfl,ru⟩:=rv.one;obtain ⟨t,rfl⟩:=ru;obtain ⟨z,its,n,r,hl,e⟩:=I.lstM hH;obtain ⟨w,hw,rw'⟩:=r.get hy
 refine call_meets F.slot_list_pop ⟨_,e,rfl⟩ F.entry_list_pop (F.args_list_pop_2 _ _)
  (MeetsSeq.list_pop_at l its.toArray n i t k w (fitsIndex_both h1 h2) (by rw [n13_,← hl];exact hk) (by rw [← Array.getElem?_toList];exact hw) (by rw [n13_];omega)) ⟨e,?_⟩
 refine ⟨y,_,I.lset (its':=its.eraseIdx k) hH e ?_ (r.eraseIdx k) ?_,rw',q⟩
 · show its.toArray.eraseIdxIfInBounds k=(its.eraseIdx k).toArray
   rw [List.eraseIdxIfInBounds_toArray]
 · have:=Zha xs k
   omega
def rRep:R2:=fun x y H Q=>∃ l k xs,x=.ref l∧y=.int k∧H l=some (.lst xs)∧-(2^63)≤k∧k<2^63∧xs.length*k.toNat≤sizeLine ∧
 ∀ p,H p=none→Q (.ref p) (upd H p (.lst (List.replicate k.toNat xs).flatten))
theorem Zth (xs:List α) (k:Nat):(List.replicate k xs).flatten.length=k*xs.length:=by
 induction k with
 | zero=>simp
 | succ k ih=>rw [n73_,n56_,n28_,ih,Nat.succ_mul,Nat.add_comm]
theorem Zrl:OpR X (binaryOp .Mult) rRep:=by
 intro pins s σ H x y v u Q I rx ry h;obtain ⟨l,k,xs,rfl,rfl,hH,h1,h2,hz,q⟩:=h;cases rx
 obtain ⟨t,rfl⟩:=ry;obtain ⟨z,its,n,r,hl,e⟩:=I.lstM hH;have hlen:its.toArray.size*k.toNat≤sizeLine:=by rw [n13_,← hl];exact hz
 have hcap:¬ its.toArray.size*k.toNat>(2^63-1)/8:=by
  have:(sizeLine:Nat)≤(2^63-1)/8:=by decide
  omega
 have hfit:¬ (!Builtin.List.listFitsIndex k)=true:=by
  rw [fitsIndex_both h1 h2];exact n21_
 have hlong:¬ Builtin.List.listTooLong (its.toArray.size*k.toNat)=true:=by
  rw [Zkb hlen];exact n21_
 have hnew:List.foldl (fun x1 x2=>x1++x2) #[] (List.replicate (if its.toArray.isEmpty=true then 0 else k.toNat) its.toArray)=(List.replicate k.toNat its).flatten.toArray:=by
  have f0:∀ m:Nat,List.foldl (fun x1 x2=>x1++x2) #[] (List.replicate m its.toArray)=(List.replicate m its).flatten.toArray:=fun m=>by
   have:=Zhv its m []
   rw [List.nil_append] at this;exact this
  rw [f0];cases its with
  | nil=>simp
  | cons a r'=>rw [if_neg (by simp)]
 refine wpAny_binaryOp_repeat_ref (T := "list") (U := "int") (by decide) ⟨_,e,rfl⟩ (fun s'=>typeIs_int s' k t) noFill_list_mul F.fills_int_mul F.slot_int_rmul repeat_list F.slot_int_index.lookup
  (call_meets F.slot_int_rmul (typeIs_int s k t) F.entry_int_rmul (F.args_int_rmul_2 _ _) (int___rmul___int_list k t l its.toArray n)
    ⟨e,rfl,⟨_,e,rfl⟩,call_meets F.slot_list_mul ⟨_,e,rfl⟩ F.entry_list_mul (F.args_list_mul_2 _ _) (AutoListH.list___mul___list_int_3 l its.toArray n k t hfit hcap hlong) ⟨e,?_⟩⟩)
 rw [hnew];exact ⟨.ref _,_,I.lnew (t':=s.toks) (r.rep k.toNat) (by rw [Zth,Nat.mul_comm];exact hz),rfl,q _ I.fresh⟩
end
section
variable {prog:Program} {w:World} {A:Around} {E:Value→Shared→Prop} {s:Shared}
set_option maxRecDepth 100000 in
end
section
variable {X:Cx}
end
end L2
namespace Att
open PySem PySem.W PySem.Calls PyProof.Rows
theorem Zda {P:Params} {h:Heap}:∀ (ns:List Int) (vs:List Value),WellAll P h vs (ns.map WData.int)→IntsAre vs ns:=by
 intro ns
 induction ns with
 | nil =>
   intro vs w;rw [List.map_nil] at w;cases w
   exact .nil
 | cons n ns ih =>
   intro vs w;rw [n31_] at w;cases w with
   | cons a b =>
     cases a
     exact .cons _ _ (ih _ b)
theorem Zn4 {l:OpenLaw} {n:Nat} (hn:l.most=some n) {P:Params} {h:Heap} {args:List WData} {vals:List Value}
 (hpre:l.row.toRowW.claim.pre args=true) (hwl:WellAll P h vals args) :
 ∃ a vs ns,vals=[Value.ref a]∧args=[WData.list (ns.map WData.int)]∧h.get? a=some { cls:=.type "list",data:=.seq vs.toArray }∧IntsAre vs ns∧ns.length≤n:=by
 have hsh:WShape.hasAll [] args [.list .int]=true:=(pre_splitW hpre).1;have hc:l.pre.holds [] { args:=args }=true:=(pre_splitW hpre).2;obtain ⟨d,r,rfl,h1,h2⟩:=hasAllW_cons hsh;obtain rfl:=hasAllW_nil h2;obtain ⟨xs,rfl,h3⟩:=hasW_list h1;obtain ⟨ns,rfl⟩:=items_int h3
 have hlen:ns.length≤n:=by
  unfold OpenLaw.pre at hc
  have h4:(WTm.not (.lt (.lit (.int (n:Int))) (.len (.arg 0)))).holds [] { args:=[.list (ns.map .int)] }=true:=by
   have h4:=(holds_andW hc).1;rw [hn] at h4;exact h4
  have h5:=condW_of h4 (w_not (w_lt w_lit (w_len_list (w_arg rfl))));rw [n5_] at h5;refine Nat.le_of_not_lt fun q=>?_;have q':(n:Int)<((ns.length:Nat):Int):=by omega
  first
   | (rw [n29_ q'] at h5;exact absurd h5 (by decide))
   | (simp at h5;omega)
 cases hwl with
 | cons w1 w2 =>
   cases w2
   cases w1 with
   | list ho hall=>exact ⟨_,_,ns,rfl,rfl,ho,Zda ns _ hall,hlen⟩
theorem Zon (l:OpenLaw) (args:List WData):l.row.toRowW.claim.post args (.bool true) args=true :=
 postW_of (r:=l.row.toRowW) (X:=(true == true))
  (show WShape.has [] (.bool true) .bool=true by first|rfl|decide|simp [WShape.has,WShape.arms,WShape.armsAll])
  (show (WTm.eq .res (.lit (.bool true))).value [] { args:=args,res:=some (.bool true),after:=args }=some (.bool (true == true)) from w_eq_bool (w_res rfl) w_lit) rfl
theorem attach_call {l:OpenLaw} {n:Nat} {q:Program} {loose:List Str} {XP:(Str→Option Value)→Heap→Prop} {YP:World→Heap→Prop} {d:DefRec}
 (hn:l.most=some n) (hdf:d.params.defaults=[])
 (call:∀ (w:World) (s₀ s₁:Shared) (mg mb:Str→Option Value) (fa:Addr) (o:Obj) (pm cd doc:Value) (a:Addr) (vs:List Value) (ns:List Int),
   Ground q loose [] XP w s₀ mg mb s₁.heap→YP w s₁.heap →
   s₁.heap.get? fa=some o→o.data=.func (docDef d.name d.params d.body d.scope pm cd doc)→s₁.heap.CodeRec cd d.name→mg d.name=some (.ref fa) →
   s₁.heap.get? a=some { cls:=.type "list",data:=.seq vs.toArray }→IntsAre vs ns→ns.length≤n→s₁.gens=#[] →
   codeAny (model l.prog w) callerA (.call (.ref fa) ⟨[.ref a],[]⟩) (fun r s'=>r=.ok (.ret (.bool true))∧OldK s₁.heap s'.heap∧s'.os=s₁.os∧AllBare s'.gens) s₁) :
 WalkO q loose XP YP l.row.toRowW d [] (fun f vs=>PySem.call f vs):=by
 intro w s₀ s₁ mg mb G Y fa o pm cd doc dV kV ho hd hcd hD hmg hg args vals as hpre hlay hrd hwl hlo;obtain rfl:dV=.none:=Dflts.none hD hdf;obtain rfl:kV=.none:=Dflts.noKw hD;obtain ⟨a,vs,ns,rfl,rfl,hobj,hints,hlen⟩:=Zn4 hn hpre hwl;refine enter_call (codeAny_mono (call w s₀ s₁ mg mb fa o pm cd doc a vs ns G Y ho (fd_plain hd) hcd hmg hobj hints hlen hg) fun r s' hq=>?_);obtain ⟨rfl,h2,h3,h4⟩:=hq;exact ⟨.inl ⟨.bool true,.bool true,[],rfl,fun _=>rfl,.bool true,Zon l _,fun _=>⟨List.Pairwise.nil,fun _ hm=>(nomatch hm)⟩⟩,h2,h3,h4⟩
section
variable {prog:Program} {w:World} {A:Around} {E:Value→Shared→Prop} {s:Shared} {K:Frag}
end
end Att
namespace L2
open PySem PySem.Spec PyProof.Rows
theorem Zg4:∀ {vs:List Value} {ns:List Int},IntsAre vs ns→Vals (ns.map V.int) vs
 | _,_,.nil=>.nil
 | _,_,.cons n t h=>.cons ⟨t,rfl⟩ (Zg4 h)
def Only (H:Hp):Prop:=∀ b,H b=none∨∃ o xs,H b=some (.frz o (.lst xs))
variable {a f:Addr} {A:Around} {X:Cx} {fd:FuncData} {H H' H2:Hp} {ns:List Int} {N:List Str} {xs:List V} {k n:Nat} {pos:Pos} {P:Program} {qual x:Str} {w:World}
theorem Zqk {K:PySem.W.Frag} {mg mb:Str→Option Value} {CX:CXT} {fa:Addr} {sp:Sp} {s₁:Shared} {vs:List Value}
 (KX:K.In s₁.heap) (hns:s₁.heap.Ns mainGlobals mg) (hb:s₁.heap.Ns builtinsNs mb) (hbb:∀ x:Str,x ≠ "__name__" → mb x=bootBuiltins x) (hlim:s₁.heap.NoLimit) (hsr:s₁.heap.NoSeer) (hdg:s₁.heap.NoDigits) (hg:s₁.gens=#[])
 (ha:s₁.heap.get? a=some { cls:=.type "list",data:=.seq vs.toArray }) (hi:IntsAre vs ns) (hl:ns.length≤sizeLine) (hr:Room k callerA)
 (F:∀ base:Heap,K.In base→base.Ns mainGlobals mg→FnOk P w K mg base CX k fa fd [x] sp) (hbind:∀ (s:Shared) (u:Value),BindsTo s fd ⟨[u],[]⟩ [(x,u)])
 (hsp:∀ H:Hp,Only H→SqL K H a (ns.map V.int)→sp [.ref a] H (fun v _=>v=.bl true) fun _ _ _=>False)
 (hCX:∀ H e s',CX [] H s₁ (fun _ _ _=>False) e s'→False) :
 codeAny (model P w) callerA (.call (.ref fa) ⟨[.ref a],[]⟩) (fun r s'=>r=.ok (.ret (.bool true))∧OldK s₁.heap s'.heap∧s'.os=s₁.os∧AllBare s'.gens) s₁:=by
 have rv:=Zg4 hi;have lenV:=hi.length
 have core:∀ H:Hp,Only H→SqL K H a (ns.map V.int)→HOk P w H s₁.heap→(∀ b,H b≠none→b=a)→(H a≠none→K.lookup a=none) →
  codeAny (model P w) callerA (.call (.ref fa) ⟨[.ref a],[]⟩) (fun r s'=>r=.ok (.ret (.bool true))∧OldK s₁.heap s'.heap∧s'.os=s₁.os∧AllBare s'.gens) s₁:=by
  intro H hO hS hok hA hK;have Zdb:∀ {b:Addr} {o:Obj},s₁.heap.get? b=some o→H b=none→(hidT s₁.heap H).get? b=some o:=fun e n=>Zpz e n
  have noA:∀ {b:Addr} {o:Obj} {es:Array DictEntry} {ep:Nat},s₁.heap.get? b=some o→o.data=.dict es ep→H b=none:=fun {b o es ep} e d=>by
   cases q:H b with
   | none=>rfl
   | some u =>
     have e':b=a:=hA b (by rw [q];simp);subst e';rw [ha] at e;cases e;have d':Data.seq vs.toArray _=Data.dict es ep:=d;cases d'
  have nsK:∀ {b:Addr} {m:Str→Option Value},s₁.heap.Ns b m→(hidT s₁.heap H).Ns b m:=fun {b m} ⟨o,es,ep,e,d,r⟩=>⟨o,es,ep,Zdb e (noA e d),d,r⟩
  have hKb:K.In (hidT s₁.heap H):=fun b o e=>Zdb (KX b o e) (by
   cases q:H b with
   | none=>rfl
   | some u =>
     have e':b=a:=hA b (by rw [q];simp);subst e';rw [hK (by rw [q];simp)] at e;cases e)
  have sK:(hidT s₁.heap H).NoSeer:=⟨let ⟨mc,a,b⟩:=hsr.statics;⟨mc,nsK a,b⟩,let ⟨mc,a,b⟩:=hsr.mods;⟨mc,nsK a,b⟩,let ⟨mb,a,b⟩:=hsr.imp;⟨mb,nsK a,b⟩,let ⟨mg',bm,ob,a,b,c,d,e⟩:=hsr.main;⟨mg',bm,ob,nsK a,b,Zdb c (by
   cases q:H bm with
   | none=>rfl
   | some u =>
     have e':bm=_:=hA bm (by rw [q];simp);subst e';rw [ha] at c;cases c;exact absurd d (by simp)),d,e⟩⟩
  have hM:Mod K mg (hidT s₁.heap H):=⟨hKb,nsK hns,⟨mb,nsK hb,hbb⟩,(let ⟨mc,h1,h2⟩:=hlim;⟨mc,nsK h1,h2⟩),sK,(let ⟨mc,h1,h2⟩:=hdg;⟨mc,nsK h1,h2⟩)⟩;have e0:Env0 P w K mg (hidT s₁.heap H) callerA [] s₁ H:=⟨rfl,hM,fun b o e=>Zrv e,Nat.le_of_eq (Zn8 _ _),trivial,fun b hb=>absurd (show b∈([]:List Addr) from hb) (by simp),hok,.of_eq hg⟩;refine codeAny_mono ((F _ hKb (nsK hns)).run callerA [] s₁ H ⟨[.ref a],[]⟩ [.ref a] [.ref a] _ _ hr e0 (hbind s₁ (.ref a)) (.cons rfl .nil) (hsp H hO hS)) fun r s' h=>?_;cases r with
  | error e=>exact (hCX H e s' h).elim
  | ok fl =>
    cases fl with
    | next=>exact False.elim h
    | brk=>exact False.elim h
    | cont=>exact False.elim h
    | ret u =>
      obtain ⟨v,H',os,bare,un,hok',r',q⟩:=h;have q':v=.bl true:=q;subst q';obtain rfl:u=Value.bool true:=r';refine ⟨rfl,OldK.of_keep fun b o e=>?_,os,bare⟩;cases q:H b with
      | none=>exact un.keep b o e q (by intro z;exact absurd (show b∈([]:List Addr) from z) (by simp)) (by simp)
      | some u =>
        rcases hO b with z|⟨ob,xs,z⟩
        · rw [q] at z;cases z
        · have z2:=un.frzs b ob _ z;obtain ⟨e1,_⟩:=hok b _ z;obtain ⟨e2,_⟩:=hok' b _ z2;rw [e] at e1;cases e1;exact e2
 cases hk:K.lookup a with
 | some o =>
   have e:=KX a o hk;rw [ha] at e;cases e
   refine core (fun _=>none) (fun _=>.inl rfl) (.inr ⟨_,vs.toArray,_,hk,rfl,rfl,rfl,by rw [n13_,lenV];exact hl,by simpa using rv⟩) (fun b u z=>by have z':(none:Option HO)=some u:=z;cases z') (fun b z=>absurd rfl z) fun z=>absurd rfl z
 | none =>
   refine core (fun b=>if b=a then some (.frz { cls:=.type "list",data:=.seq vs.toArray } (.lst (ns.map V.int))) else none) (fun b=>?_) (.inl (.inr ⟨{ cls:=.type "list",data:=.seq vs.toArray },if_pos rfl⟩)) (fun b u z=>?_) (fun b z=>?_) fun _=>hk
   · by_cases hb:b=a
     · exact .inr ⟨_,_,if_pos hb⟩
     · exact .inl (if_neg hb)
   · by_cases hb:b=a
     · have z':=(if_pos hb).symm.trans z;cases z'
       subst hb;exact ⟨ha,by rw [n5_];exact hl,vs,_,rv,ha⟩
     · have z':=(if_neg hb).symm.trans z;cases z'
   · by_cases hb:b=a
     · exact hb
     · exact absurd (if_neg hb) z
theorem Zsh {l:PySem.W.OpenLaw} {q:Program} {loose:List Str} {XP:(Str→Option Value)→Heap→Prop} {YP:World→Heap→Prop} {d:DefRec} {K:Params→PySem.W.Frag} {CX:World→CXT} {sp:World→Sp}
 (hn:l.most=some n) (hn2:n≤sizeLine) (hdf:d.params.defaults=[]) (hr:Room k callerA)
 (hY:∀ (w:World) (h:Heap),YP w h→(K w.params).In h)
 (F:∀ (w:World) (mg:Str→Option Value) (fa:Addr) (h:Heap),(K w.params).In h→h.Ns mainGlobals mg→mg d.name=some (.ref fa) →
   ∃ fd:FuncData,(∀ (s:Shared) (u:Value),BindsTo s fd ⟨[u],[]⟩ [(x,u)]) ∧
     ∀ base:Heap,(K w.params).In base→base.Ns mainGlobals mg→FnOk l.prog w (K w.params) mg base (CX w) k fa fd [x] (sp w))
 (hsp:∀ (w:World) (H:Hp) (a:Addr) (ns:List Int),ns.length≤n→Only H→SqL (K w.params) H a (ns.map V.int)→sp w [.ref a] H (fun v _=>v=.bl true) fun _ _ _=>False)
 (hCX:∀ (w:World) (H:Hp) (s:Shared) (e:Value) (s':Shared),CX w [] H s (fun _ _ _=>False) e s'→False) (him:importsNone q=true:=by decide +kernel) :
 PySem.W.WalkO q loose XP YP l.row.toRowW d [] (fun f vs=>PySem.call f vs):=by
 refine Att.attach_call hn hdf fun w s₀ s₁ mg mb fa o pm cd doc a vs ns G Y ho hd hcd hmg hobj hints hlen hg=>?_;have KX:=hY w _ Y;obtain ⟨fd,hb,hF⟩:=F w mg fa _ KX G.T.g hmg;exact Zqk KX G.T.g G.T.b G.T.builtins G.T.nolimit (G.T.seer him) G.T.nodigits hg hobj hints (n74_ hlen hn2) hr hF hb (fun H hO hS=>hsp w H a ns hlen hO hS) fun H e s'=>hCX w H s₁ e s'
def X1 (s:Stmt):Arguments:=match s with
 | .FunctionDef _ a _ _ _ _ _ _ _ _=>a
 | _=>{ posonlyargs:=[],args:=[],vararg:=none,kwonlyargs:=[],kw_defaults:=[],kwarg:=none,defaults:=[] }
def Xo (s:Stmt):List Stmt:=match s with
 | .FunctionDef _ _ b _ _ _ _ _ _ _=>b
 | _=>[]
def Zf (s:Stmt):Scope:=match s with
 | .FunctionDef _ _ _ _ _ _ sc _ _ _=>sc
 | _=>{ kind:=.function,names:=[],isGenerator:=false,isCoroutine:=false }
abbrev CX0:CXT:=fun _ _ _ _ _ _=>False
abbrev E0:XK:=fun _ _ _=>False
theorem Zuv:Zj6 CX0 X E0:=fun _ _ _ _ _ _ _ h=>h.elim
structure Fun (K:PySem.W.Frag) (x qual:Str) (st:Stmt) (f:Addr) (fd:FuncData):Prop where
 ex:∃ (oc:Value) (od:Option Addr) (kV doc pm:Value) (an:Option Addr) (cdv ct:Value) (osl:Array (Option Value)),
  fd=PySem.W.fnOf x qual (X1 st) (Xo st) (Zf st) .none kV doc pm an cdv ct∧K.lookup f=some ⟨oc,od,.func fd,osl⟩∧PySem.W.codeIn K cdv qual=true
 kp:PySem.W.keepIn K (.ref f)=true
section
variable {P:Program} {w:World} {K:PySem.W.Frag} {mg:Str→Option Value} {base:Heap}
theorem Fun.ok {st:Stmt} {ps:List Str} {sp:Sp} (F:Fun K x qual st f fd) (S:FnScope N ps (Zf st)) (len:∀ vs H Q E,sp vs H Q E→vs.length=ps.length)
 (hbody:∀ (cdv:Value) (A:Around) (outer:List Env) (s:Shared) (H:Hp) (vs:List V) (Q:VK) (E:XK),Room k (A.deeper (envOfC qual (Zf st) s.z f cdv))→sp vs H Q E →
   ∃ t,PSs (cxOf CX0 P w K mg base N qual (Zf st) f cdv A outer s H E).nox (Xo st) t∧t { nx:=fun _ H'=>Q .non H',rt:=Q } (start N vs) H):FnOk P w K mg base CX0 (k+1) f fd ps sp:=by
 obtain ⟨oc,od,kV,doc,pm,an,cdv,ct,osl,rfl,lk,hcd⟩:=F.ex;refine Zvx lk hcd S len fun A outer s H vs Q E hr hsp=>?_;obtain ⟨t,h,q⟩:=hbody cdv A outer s H vs Q E hr hsp;exact ⟨t,h.nox,q⟩
theorem Fun.binds {st:Stmt} {ps:List Str} (F:Fun K x qual st f fd)
 (h:∀ (kV doc pm:Value) (an:Option Addr) (cdv ct:Value) (us:List Value),us.length=ps.length→bindArgs (PySem.W.fnOf x qual (X1 st) (Xo st) (Zf st) .none kV doc pm an cdv ct) ⟨us,[]⟩=pure (ps.zip us)):Binds K fd ps []:=by
 obtain ⟨oc,od,kV,doc,pm,an,cdv,ct,osl,rfl,lk,hcd⟩:=F.ex;exact .all (h kV doc pm an cdv ct)
theorem Zq4 {st:Stmt} {oc:Value} {od an:Option Addr} {osl:Array (Option Value)} {kV doc pm cdv ct:Value} (l:K.lookup f=some ⟨oc,od,.func (PySem.W.fnOf x qual (X1 st) (Xo st) (Zf st) .none kV doc pm an cdv ct),osl⟩)
 (c:PySem.W.codeIn K cdv qual=true) (k:PySem.W.keepIn K (.ref f)=true):Fun K x qual st f (PySem.W.fnOf x qual (X1 st) (Xo st) (Zf st) .none kV doc pm an cdv ct):=⟨⟨oc,od,kV,doc,pm,an,cdv,ct,osl,rfl,l,c⟩,k⟩
end
theorem Zm9 (hr:Room k A):A.units+1<cLine:=Nat.lt_of_le_of_lt (Nat.add_le_add_left (by decide:1≤64) _) hr.units
section
variable {X:Cx}
theorem pv (i:Nat) (hN:X.N[i]? = some x:=by rfl) (hv:Vis X.env.scope x:=by first|exact Or.inl rfl|exact Or.inr (Or.inl rfl)|exact Or.inr (Or.inr rfl)) (hd:(x == ("__debug__" : Str))=false:=by decide)
 (hcd:(x == ("__classdict__" : Str))=false:=by decide):PE X (.Name x pos) (tVar i):=Ztx hN hv hd hcd
end
theorem iteF {A B:Prop} (h:B):if false=true then A else B:=by
 rw [if_neg n21_];exact h
theorem iteT {A B:Prop} (h:A):if true=true then A else B:=by
 rw [if_pos rfl];exact h
theorem ite2 {c A B:Prop} [Decidable c] (h1:c→A) (h2:¬ c→B):if c then A else B:=by
 by_cases h:c
 · rw [if_pos h];exact h1 h
 · rw [if_neg h];exact h2 h
def Same (H H':Hp):Prop:=∀ b o,H b=some o→H' b=some o
theorem Same.refl (H:Hp):Same H H:=fun _ _ h=>h
theorem Same.trans {H1:Hp} (a:Same H H1) (b:Same H1 H2):Same H H2:=fun c o h=>b c o (a c o h)
theorem Same.seq {K:PySem.W.Frag} (e:Same H H') (h:SqL K H a xs):SqL K H' a xs:=by
 rcases h with (h|⟨o,h⟩)|h
 · exact .inl (.inl (e _ _ h))
 · exact .inl (.inr ⟨o,e _ _ h⟩)
 · exact .inr h
end L2
namespace FM
end FM
namespace L2
open PySem PySem.Spec PyProof.Rows
variable {C D a it l:Addr} {A:Around} {X:Cx} {env:Env} {e elt iter tg:Expr} {h h':Heap} {H H' H2:Hp} {pins:List (Addr×Obj)} {fr:List (Option Nat)} {cl:List (Str×Addr)} {fp:List Addr} {ifs:List Expr} {N:List Str} {M:Model} {i j k n:Nat} {o:Obj} {pos:Pos} {P prog:Program} {scope:Scope} {s s3:Shared} {σ:St} {qual x:Str} {ta:TA} {te:TE} {wi:TI} {tt:TT} {E:Value→Shared→Prop} {w:World}
theorem Zcj {R:Result→Shared→Prop} {target:Expr} {it acc:Value} (I:Nat→Shared→Prop)
 (turn:∀ n s,I n s→wpAny (model prog w) A (pyNext it) (fun r s₁=>match r with
   | none=>R (.ok .next) s₁
   | some v=>wpAny (model prog w) A (letOwnedTupleGo target it v) (fun _ s₀=>wpAny (model prog w) A (assign target env v) (fun _ s₂ =>
      wpAny (model prog w) A (forIn ifs true fun c r=>if r=true then do let ok ← isTrue c env (eval c env);pure (ForInStep.yield ok) else pure (ForInStep.yield r)) (fun ok s₃ =>
       if ok=true then wpAny (model prog w) A (eval elt env) (fun x s₄ =>
        wpAny (model prog w) A (call (.builtin "list.append") [acc,x]) (fun _ s₅=>∃ m,m<n∧I m s₅) (fun _ _=>False) s₄) (fun _ _=>False) s₃
       else ∃ m,m<n∧I m s₃) (fun _ _=>False) s₂) (fun _ _=>False) s₀) (fun _ _=>False) s₁) (fun _ _=>False) s)
 (n:Nat) (h:I n s) :
 codeAny (model prog w) A (.compLoop (.ListComp elt [⟨target,iter,ifs,0⟩] scope pos) 0 it acc env) R s:=by
 refine codeAny_loop rfl I (fun n s hI=>?_) n h;show wpAny _ A ((compTurn (.ListComp elt [⟨target,iter,ifs,0⟩] scope pos) 0 it acc env).onRaise (fun x=>do noteFrame x env;theTreesLotGoes x)) _ _ s
 refine wpAny_noted ?_;rw [compTurn_list];refine n0_ (wpAny_standAt (n0_ (n45_ (turn n s hI) (fun r s₁ h₁=>?_) fun _ _ h'=>h'.elim)));cases r with
 | none=>exact n4_ h₁
 | some v =>
   refine n0_ (n45_ h₁ (fun _ s₀ h₀=>?_) fun _ _ h'=>h'.elim);refine n0_ (n45_ h₀ (fun _ s₂ h₂=>n0_ (n45_ h₂ (fun ok s₃ h₃=>?_) fun _ _ h'=>h'.elim)) fun _ _ h'=>h'.elim);cases ok with
   | false=>exact n4_ ⟨rfl,h₃⟩
   | true =>
     exact n0_ (n0_ (n45_ h₃ (fun x s₄ h₄=>n0_ (n45_ h₄ (fun _ s₅ h₅=>n4_ (n4_ ⟨rfl,h₅⟩)) fun _ _ h'=>h'.elim)) fun _ _ h'=>h'.elim))
theorem Z8:∀ (names:List (Str×NameKind)) (n:Nat) (acc:List (Str×Addr)),cellsFrom n names acc=cellsFrom n names []++acc
 | [],_,_=>rfl
 | (x,k) :: r,n,acc=>by
   unfold cellsFrom;split
   · rw [Z8 r (n+1) ((x,n) :: acc),Z8 r (n+1) [(x,n)],n57_];rfl
   · exact Z8 r n acc
theorem Zae {c:Addr}:∀ (names:List (Str×NameKind)) (n:Nat),(x,c)∈cellsFrom n names []→(x,NameKind.cell)∈names
 | [],_,h=>by simp [cellsFrom] at h
 | (y,k) :: r,n,h=>by
   unfold cellsFrom at h;split at h
   · rename_i hk
     rw [Z8] at h
     rcases n34_.mp h with h|h
     · exact n19_ _ (Zae r _ h)
     · cases n22_.mp h
       rw [show k=.cell by simpa using hk];exact n27_
   · exact n19_ _ (Zae r _ h)
theorem Zby {names:List (Str×NameKind)} {c:Addr} (h:(cellsFrom n names cl).lookup x=some c):(cellsFrom n names []).lookup x=some c∨cl.lookup x=some c:=by
 rw [Z8,List.lookup_append] at h;cases e:(cellsFrom n names []).lookup x with
 | none=>rw [e] at h;exact .inr h
 | some c'=>rw [e] at h;exact .inl h
theorem Zlw {globals:Addr} {Q:Env→Shared→Prop}
 (hQ:∀ h',h'.Ns s.z (fun _=>none)→(∀ b o,s.heap.get? b=some o→h'.get? b=some o)→CellsOk h' (s.z+1) (cellsFrom (s.z+1) scope.names []) →
   Q (newEnv scope s.z globals (cellsFrom (s.z+1) scope.names cl) qual none .none (some env) builtinsNs) { s with heap:=h' }) :
 wpAny M A (newFunctionEnv scope globals cl [] qual none .none (some env)) Q E s:=by
 simp only [newFunctionEnv,Option.isSome_some,if_true];refine n0_ (wpAny_alloc ?_);refine n0_ (wpAny_layCells _ (fun name kind cells=>by cases hkc:kind == NameKind.cell<;>simp [hkc]) _ _ _ _ ?_);have ok:=cellsFrom_ok scope.names (s.heap.push { cls:=.type "dict",data:=.dict #[] }) (s.z+1) [] ⟨fun _ _ hm=>(nomatch hm),List.Pairwise.nil⟩ (by rw [n36_];exact n14_ _);rw [n36_] at ok;rw [show ({ s with heap:=s.heap.push { cls:=.type "dict",data:=.dict #[] } }:Shared).heap.objs.size=s.z+1 from n36_ ..];rw [List.forIn_nil];exact n0_ (n4_ (n4_ (hQ _ ((Heap.Ns.new s.heap (.type "dict")).keeps (pushCells_keeps _ _)) (fun b o e=>pushCells_keeps _ _ b o (n3_ _ e)) ok)))
def blk (X:Cx) (scope:Scope) (cl:List (Str×Addr)) (C:Addr) (N:List Str) (s3:Shared) (H3:Hp) (fp:List Addr):Cx where
 prog:=X.prog
 w:=X.w
 K:=X.K
 mg:=X.mg
 base:=X.base
 A:=X.A
 N:=N
 s₀:=s3
 H₀:=H3
 env:=compEnvC scope (cellsFrom (C+1) scope.names cl) C X.env
 outer:=X.stack
 stack:=X.stack
 ex:=fp
 fn:=fun x=>scope.names.lookup x == some .cell
 calm:=X.calm
 pn:=[]
 xe:=fun _ _=>False
structure LcO (X:Cx) (scope:Scope) (cl:List (Str×Addr)) (N:List Str) (fr:List (Option Nat)):Prop where
 clos:closureFor scope X.env=pure cl
 sub:∀ x c,cl.lookup x=some c→X.env.cells.lookup x=some c
 has:∀ x,((relabel scope X.env).names.lookup x=some .cell∨(relabel scope X.env).names.lookup x=some .free)→scope.names.lookup x=some .cell∨∃ c,cl.lookup x=some c
 kind:scope.kind=.function
 names:∀ y∈scope.names,y.2=.local→scope.names.lookup y.1=some .local
 len:fr.length=N.length
 from':∀ (i j:Nat),fr[i]? = some (some j)→∃ x,N[i]? = some x∧X.N[j]? = some x∧(X.env.scope.names.lookup x=some .cell∨X.env.scope.names.lookup x=some .free)∧((relabel scope X.env).names.lookup x=some .cell∨(relabel scope X.env).names.lookup x=some .free)∧(∃ c,cl.lookup x=some c)∧(x,NameKind.cell)∉scope.names
def Zap (fr:List (Option Nat)) (σ:St):St:=fr.map fun o=>match o with
 | some j=>match σ[j]? with
   | some v=>v
   | none=>none
 | none=>none
theorem pgB {H3:Hp} (i:Nat) (hN:N.Nodup:=by decide) (hi:N[i]? = some x:=by rfl) (hf:(blk X scope cl C N s3 H3 fp).env.scope.names.lookup x=some .local:=by rfl):PG (blk X scope cl C N s3 H3 fp) (.Name x pos) (Y2 i):=Zm hN hi (.inl hf) (.inr hf)
theorem Zsx (ok:HOk P w H h) (hfree:H a=none) (hs:Heap.SameBut a h h'):HOk P w H h':=fun b ob e=>by
 refine (ok b ob e).stay (fun c w' hc q=>(hs.2 c ?_).trans q) (fun _ q=>q) fun _ _ q=>q;rintro rfl
 rcases hc with rfl|hc
 · rw [hfree] at e;cases e
 · rw [hfree] at hc;cases hc
theorem Zmb {h1:Heap} (L:LcO X scope cl N fr) (I:Inv X pins σ H s3) (co:CellsOk h1 (s3.z+1) (cellsFrom (s3.z+1) scope.names []))
 (hf:∀ b∈fp,FpOk X pins H b) (hlt:∀ b∈fp,b<s3.z):(blk X scope cl s3.z N s3 H fp).Ok where
 mod:=I.ok.mod
 kind:=L.kind
 glob:=I.ok.glob
 blt:=I.ok.blt
 above:=n14_ _
 inj:=fun x y c h1 h2=>by
  have old:∀ z,cl.lookup z=some c→c<s3.z:=fun z e=>let ⟨_,k⟩:=I.cell z c (L.sub z c e);k.lt;have new:∀ z,(cellsFrom (s3.z+1) scope.names []).lookup z=some c→s3.z+1≤c:=fun z e=>(co.empty z c (n41_ e)).2
  rcases Zby h1 with a|a<;>rcases Zby h2 with b|b
  · exact name_of_addr co.apart (n41_ a) (n41_ b)
  · exact absurd (n25_ (old y b) (Nat.le_of_succ_le (new x a))) (n78_ _)
  · exact absurd (n25_ (old x a) (Nat.le_of_succ_le (new y b))) (n78_ _)
  · exact I.ok.inj x y c (L.sub x c a) (L.sub y c b)
 has:=fun x h=>by
  refine Option.isSome_iff_exists.mp (PySem.W.cellsFrom_some scope.names (s3.z+1) cl ?_)
  rcases L.has x h with z|⟨c,z⟩
  · exact .inl z
  · exact .inr (by rw [z];rfl)
 cab:=fun x c h e=>by
  obtain ⟨c',e'⟩:=Zr (sc:=scope) (n:=s3.z+1) (beq_iff_eq.mp (show (scope.names.lookup x == some .cell)=true from h));have e2:(cellsFrom (s3.z+1) scope.names cl).lookup x=some c:=e;rw [Z8,List.lookup_append,e'] at e2;have e3:c'=c:=Option.some.inj e2;subst e3;exact Nat.le_of_succ_le (co.empty x c' (n41_ e')).2
 hd:=I.ok.hd
 frames:=I.ok.frames
 stk:=.inl rfl
 exf:=fun b hb=>⟨n17_ (hlt b hb),fun x c h=>by
  rcases Zby h with a|a
  · exact n60_ (n25_ (hlt b hb) (Nat.le_of_succ_le (co.empty x c (n41_ a)).2))
  · exact (hf b hb).2.2.2.2.1 x c (L.sub x c a)⟩
 bs:=I.bs
 bsz:=n74_ I.ok.bsz I.sz
 noex:=fun b o e hb=>by
  rcases (hf b hb).2.2.2.1 with z|z
  · exact I.ok.noex b o e z
  · exact absurd (n25_ (n11_ e) (n74_ I.ok.bsz z)) (n78_ _)
 exfs:=fun b hb z=>by
  rcases n12_.mp (I.stkSub b z) with e|e
  · exact (hf b hb).2.1 e
  · exact (hf b hb).2.2.1 e
 funs:=I.stack
 frf:=I.stkFree
theorem Zmh {h1:Heap} {t:Nat} (L:LcO X scope cl N fr) (I:Inv X pins σ H s3) (co:CellsOk h1 (s3.z+1) (cellsFrom (s3.z+1) scope.names []))
 (hf:∀ b∈fp,FpOk X pins H b) (hlt:∀ b∈fp,b<s3.z) {m0:Str→Option Value} (hns:h1.Ns s3.z m0) (hk:∀ b o,s3.heap.get? b=some o→h1.get? b=some o) :
 Inv (blk X scope cl s3.z N s3 H fp) [] (Zap fr σ) H { s3 with heap:=h1,toks:=t } where
 ok:=Zmb L I co hf hlt
 os:=rfl
 bare:=I.bare
 base:=Un.kept hk
 loc:=⟨m0,hns,fun i x v e1 e2 e3=>by
  unfold Zap at e2;rw [n6_] at e2;cases q:fr[i]? with
  | none=>rw [q] at e2;cases e2
  | some o =>
    rw [q] at e2;cases o with
    | none=>cases e2
    | some j =>
      obtain ⟨y,n1,n2,n3,n4,⟨c,hc⟩,n6⟩:=L.from' i j q;have e1':N[i]? = some x:=e1;rw [n1] at e1';cases e1'
      have e2':(match σ[j]? with|some v=>v|none=>none)=some v:=Option.some.inj e2
      have e2'':σ[j]? = some (some v):=by
       cases z:σ[j]? with
       | none=>rw [z] at e2';cases e2'
       | some w'=>rw [z] at e2';rw [show w'=some v from e2']
      obtain ⟨m,_,hl⟩:=I.loc;obtain ⟨u,r,lk⟩:=hl j x v n2 e2'' (.inr n3);refine ⟨u,r,.inr ⟨n4,c,?_,?_⟩⟩
      · show (cellsFrom (s3.z+1) scope.names cl).lookup x=some c
        rw [Z8,List.lookup_append];cases z:(cellsFrom (s3.z+1) scope.names []).lookup x with
        | none=>exact hc
        | some c'=>exact absurd (Zae _ _ (n41_ z)) n6
      rcases lk with ⟨k,_⟩|⟨k,c',hc',z⟩
      · exfalso
        have k':X.env.scope.names.lookup x=some .local:=k
        rcases n3 with z|z<;>rw [k'] at z<;>cases z
      · rw [L.sub x c hc] at hc';cases hc'
        obtain ⟨o,ho,hd⟩:=z;exact ⟨o,hk _ _ ho,hd⟩⟩
 cell:=fun x c e=>by
  rcases Zby e with a|a
  · exact ⟨none,(co.empty x c (n41_ a)).1⟩
  · obtain ⟨v,o,ho,hd⟩:=I.cell x c (L.sub x c a);exact ⟨v,o,hk _ _ ho,hd⟩
 free:=I.hok.fresh (n14_ _)
 freeC:=fun x c e=>by
  rcases Zby e with a|a
  · exact .inl (I.hok.fresh (Nat.le_of_succ_le (co.empty x c (n41_ a)).2))
  · refine (I.freeC x c (L.sub x c a)).imp id fun ⟨_,z⟩=>⟨Bool.eq_false_iff.mpr fun q=>?_,z⟩;obtain ⟨v,oc,hoc,_⟩:=I.cell x c (L.sub x c a);obtain ⟨c',e'⟩:=Zr (sc:=scope) (n:=s3.z+1) (beq_iff_eq.mp (show (scope.names.lookup x == some .cell)=true from q));have e2:(cellsFrom (s3.z+1) scope.names cl).lookup x=some c:=e;rw [Z8,List.lookup_append,e'] at e2;cases e2
    exact absurd (n25_ (n11_ hoc) (Nat.le_of_succ_le (co.empty x c (n41_ e')).2)) (n78_ _)
 pin:=fun p hp=>absurd (show p∈([]:List (Addr×Obj)) from hp) (by simp)
 hok:=I.hok.kept hk
 len:=by
  unfold Zap;rw [n5_];exact L.len
def PIfs (X:Cx) (ifs:List Expr) (t:TT):Prop :=
 ∀ (pins:List (Addr×Obj)) (s:Shared) (σ:St) (H:Hp) (Q:Bool→Hp→Prop),Inv X pins σ H s→t σ H Q →
   wpAny (model X.prog X.w) X.A (forIn ifs true fun c r=>if r=true then do let ok ← isTrue c X.env (eval c X.env);pure (ForInStep.yield ok) else pure (ForInStep.yield r)) (TP X pins σ Q) X.xe s
def tYes:TT:=fun _ H Q=>Q true H
theorem Zp:PIfs X [] tYes:=fun _ _ _ H _ I h=>wpAny_tests_nil ⟨H,I,h⟩
theorem Zc2 {c:Expr} {t:TT} (h:PT X c t):PIfs X [c] t:=fun pins s σ H Q I hw=>wpAny_tests_one (h pins s σ H Q I hw)
def LcGo (J:It) (g:TG) (tt:TT) (te:TE) (σ0:St) (H1:Hp) (D:Addr) (Q:VK):Prop:=∃ W:Nat→Nat→St→Hp→Prop,(∃ m,W 0 m σ0 (upd H1 D (.lst []))) ∧
 ∀ i m σ2 H2,W i m σ2 H2→(J.stop i H2∧Q (.ref D) H2)∨(J.go i H2∧∀ x H3,J.yld i H2 x H3→g x σ2 H3 fun σ4 H4=>tt σ4 H4 fun b H5=>if b=true then te σ4 H5 fun y H6=>∃ ys,H6 D=some (.lst ys)∧ys.length<sizeLine ∧
   ∃ m',m'<m∧W (i+1) m' σ4 (upd H6 D (.lst (ys++[y]))) else ∃ m',m'<m∧W (i+1) m' σ4 H5)
def tLC (wi:TI) (g:TG) (tt:TT) (te:TE) (fr:List (Option Nat)):TE:=fun σ H Q=>wi σ H fun J H1=>∀ D,H1 D=none→LcGo J g tt te (Zap fr σ) H1 D Q
abbrev NoX:Value→Shared→Prop:=fun _ _=>False
theorem Zml {σ7:St} {H3 H7:Hp} {s7:Shared} (I3:Inv X pins σ H3 s3) (f3:∀ b∈fp,FpOk X pins H3 b) (I7:Inv (blk X scope cl s3.z N s3 H3 fp) [] σ7 H7 s7) :
 ∃ m7,s7.heap.Ns s3.z m7∧∀ h8,Heap.SameBut s3.z s7.heap h8→Inv X pins σ H7 { s7 with heap:=h8 }:=by
 obtain ⟨m7,hn7,_⟩:=I7.loc;refine ⟨m7,hn7,fun h8 sb8=>?_⟩;have un:=I7.base;have neC:∀ b o,s3.heap.get? b=some o→b≠s3.z:=fun b o e=>n17_ (n11_ e);refine I3.call' (s':={ s7 with heap:=h8 }) (ch:=fp) I7.os ?_ (Zsx I7.hok I7.free sb8) I7.bare (fun b hb=>⟨(f3 b hb).2.2.2.1,(f3 b hb).2.1,(f3 b hb).2.2.2.2.1,(f3 b hb).2.2.2.2.2⟩);refine ⟨fun b o e n' hb hx=>?_,fun b o e n' hb hx=>?_,un.free,fun b o e hx=>?_,un.tups,un.frzs,un.tbls⟩
 · exact sb8.extBut b o (neC b o e) (un.keep b o e n' hb hx)
 · obtain ⟨sl,q⟩:=un.slot b o e n' hb hx;exact ⟨sl,sb8.extBut b _ (neC b o e) q⟩
 · obtain ⟨o',q⟩:=un.there b o e hx;exact ⟨o',sb8.extBut b _ (neC b o e) q⟩
def Zk6 (M:Model) (A:Around) (tg:Expr) (it:Value) (env:Env) (R:Result→Shared→Prop) (B:Nat→Shared→Prop) (n:Nat) (s:Shared):Prop :=
 wpAny M A (pyNext it) (fun r s1=>match r with
  | none=>R (.ok .next) s1
  | some v=>wpAny M A (letOwnedTupleGo tg it v) (fun _ s0=>wpAny M A (assign tg env v) (fun _ s2=>B n s2) NoX s0) NoX s1) NoX s
theorem Zc3 {s2:Shared} {g:TG} {J:It} {tn:Nat→Heap→Prop} {ac:HO} {o0:Obj} {W:Nat→Nat→St→Hp→Prop} {m0:Nat} {Qn:Hp→Prop} {Kn:Nat→Nat→St→Hp→Prop} {c:Expr} {R:Addr→Result→Shared→Prop} {B:(Nat→Shared→Prop)→Nat→Shared→Prop}
 (hs3:s3={ s2 with heap:=s2.heap.push o0 }) (hc:X.calm=true) (L:LcO X scope cl N fr) (hg:∀ C s3 H3 fp,PG (blk X scope cl C N s3 H3 fp) tg g)
 (I2:Inv X pins σ H2 s2) (T:Turn X.prog X.w X.K tg J fp it tn) (st2:tn 0 s2.heap) (f2:∀ b∈fp,FpOk X pins H2 b)
 (ok0:ObjOk X.prog X.w (upd H2 s2.z ac) (s2.heap.push o0) s2.z ac) (w0:W 0 m0 (Zap fr σ) (upd H2 s2.z ac))
 (turn:∀ i m σ2 H2,W i m σ2 H2→(J.stop i H2∧Qn H2)∨(J.go i H2∧∀ x H3,J.yld i H2 x H3→g x σ2 H3 (Kn i m)))
 (start:∀ env s4,codeAny (model X.prog X.w) X.A (.compLoop c 0 (.ref it) (.ref s2.z) env) (R s3.z) s4→(∀ E,wpAny (model X.prog X.w) X.A (pyIter (.ref it)) (fun it' s'=>codeAny (model X.prog X.w) X.A (.compLoop c 0 it' (.ref s2.z) env) (R s3.z) s') E s4)→codeAny (model X.prog X.w) X.A (.compStart c 0 (.ref it) (.ref s2.z) env) (R s3.z) s4)
 (loop:∀ (LI:Nat→Shared→Prop) s4,(∀ n s,LI n s→Zk6 (model X.prog X.w) X.A tg (.ref it) (blk X scope cl s3.z N s3 (upd H2 s2.z ac) fp).env (R s3.z) (B LI) n s)→∀ n,LI n s4→codeAny (model X.prog X.w) X.A (.compLoop c 0 (.ref it) (.ref s2.z) (blk X scope cl s3.z N s3 (upd H2 s2.z ac) fp).env) (R s3.z) s4)
 (stop:∀ H7 s7,Qn H7→Inv X pins σ (upd H2 s2.z ac) s3→H7 s3.z=none→(∃ m7,s7.heap.Ns s3.z m7∧∀ h8,Heap.SameBut s3.z s7.heap h8→Inv X pins σ H7 { s7 with heap:=h8 })→R s3.z (.ok .next) s7)
 (body:∀ (LI:Nat→Shared→Prop) n i σ9 H9 s9 ps,Inv (blk X scope cl s3.z N s3 (upd H2 s2.z ac) fp) ps σ9 H9 s9→Kn i n σ9 H9→(∀ {s11:Shared} {σ11:St} {H11:Hp} {m':Nat},Inv (blk X scope cl s3.z N s3 (upd H2 s2.z ac) fp) ps σ11 H11 s11→m'<n→W (i+1) m' σ11 H11→∃ m,m<n∧LI m s11)→B LI n s9) :
 wpAny (model X.prog X.w) X.A (newFunctionEnv scope X.env.globals cl [] X.env.qual none .none (some X.env)) (fun cenv s4=>codeAny (model X.prog X.w) X.A (.compStart c 0 (.ref it) (.ref s2.z) { cenv with scope:=relabel scope X.env }) (R cenv.locals) s4) X.xe s3:=by
 have fplt:∀ b∈fp,b<s2.z:=fun b hb=>by
  obtain ⟨o,q,_⟩:=T.obj _ _ st2 b hb;exact n11_ q
 have k3:∀ b o,s2.heap.get? b=some o→s3.heap.get? b=some o:=fun b o e=>by rw [hs3];exact n3_ _ e
 have I3:Inv X pins σ (upd H2 s2.z ac) s3:=by rw [hs3];exact I2.laid (t':=s2.toks) (fun b o e=>n3_ _ e) (n14_ _) ok0
 have f3:∀ b∈fp,FpOk X pins (upd H2 s2.z ac) b:=fun b hb=>⟨by rw [Zh (n17_ (fplt b hb))];exact (f2 b hb).1,(f2 b hb).2⟩;have st3:tn 0 s3.heap:=T.keep _ _ _ st2 fun b hb o e=>k3 b o e
 have fplt3:∀ b∈fp,b<s3.z:=fun b hb=>by
  obtain ⟨o,q,_⟩:=T.obj _ _ st2 b hb;exact n11_ (k3 _ _ q)
 generalize upd H2 s2.z ac=H3 at *;refine Zlw fun h1 hns1 k4 ok3=>?_;have I4:=Zmh (t:=s3.toks) L I3 ok3 f3 fplt3 hns1 k4;have st4:tn 0 h1:=T.keep _ _ _ st3 fun b hb o e=>k4 b o e
 have fpB:∀ {H':Hp} (b:Addr),b∈fp→H' b=none→FpOk (blk X scope cl s3.z N s3 H3 fp) [] H' b:=fun b hb hn =>
  ⟨hn,n17_ (fplt3 b hb),fun z=>(Zmb L I3 ok3 f3 fplt3).exfs b hb z,.inl hb,fun x c e=>((Zmb L I3 ok3 f3 fplt3).exf b hb).2 x c e,fun p hp=>absurd (show p∈([]:List (Addr×Obj)) from hp) (by simp)⟩
 have lp:=loop (fun n s'=>∃ i σ' H',Inv (blk X scope cl s3.z N s3 H3 fp) [] σ' H' s'∧tn i s'.heap∧(∀ b∈fp,H' b=none)∧W i n σ' H') { s3 with heap:=h1 } (fun n s6=>?_) m0 ⟨0,_,_,I4,st4,fun b hb=>(f3 b hb).1,w0⟩
 · exact start _ _ lp fun E=>T.self _ 0 _ _ _ st4 lp
 · rintro ⟨i,σ6,H6,I6,st6,fr6,w6⟩
   unfold Zk6
   rcases turn i n σ6 H6 w6 with ⟨sp,qn⟩|⟨go,step⟩
   · refine thn (T.done (blk X scope cl s3.z N s3 H3 fp) rfl rfl rfl hc i [] s6 σ6 H6 (fun _ _=>False) I6 (fun b hb=>fpB b hb (fr6 b hb)) st6 sp) fun r s7 ⟨hr,I7⟩=>?_;subst hr;exact stop _ _ qn I3 I7.free (Zml I3 f3 I7)
   · refine thn (T.item (blk X scope cl s3.z N s3 H3 fp) rfl rfl rfl hc i [] s6 σ6 H6 (fun _ _=>False) I6 (fun b hb=>fpB b hb (fr6 b hb)) st6 go) fun r s7 ⟨u,hr,h7⟩=>?_;subst hr;refine thn h7 fun _ s8 ⟨x,H8,I8,r8,y8,st8,fr8⟩=>?_;have I8':=I8.pinned (fun b hb=>fpB b hb (fr8 b hb)) (T.obj _ _ st8);refine thn (hg _ _ _ _ _ s8 σ6 H8 x u _ I8' r8 (step x H8 y8)) fun _ s9 ⟨σ9,H9,I9,q9⟩=>?_;refine body _ n i σ9 H9 s9 _ I9 q9 fun {s11 σ11 H11 m'} I11 hm w11=>?_;refine ⟨m',hm,i+1,σ11,H11,I11.unpinned,T.keep _ _ _ st8 fun b hb o e=>(I11.pin (b,o) (n35_ _ (n35_ _ (Y9 hb e)))).1,fun b hb=>?_,w11⟩;obtain ⟨o,e,d⟩:=T.obj _ _ st8 b hb;exact (I11.pin (b,o) (n35_ _ (n35_ _ (Y9 hb e)))).2.1
theorem Znz {W:Nat→Nat→St→Hp→Prop} {C0:Addr} {s30:Shared} {H30:Hp} {fp0:List Addr}
 (ht:∀ C s3 H3 fp,PIfs (blk X scope cl C N s3 H3 fp) ifs tt) (he:∀ C s3 H3 fp,PE (blk X scope cl C N s3 H3 fp) elt te) (LI:Nat→Shared→Prop) (n i:Nat) (σ9:St) (H9:Hp) (s9:Shared) (ps:List (Addr×Obj)) (I9:Inv (blk X scope cl C0 N s30 H30 fp0) ps σ9 H9 s9)
 (q9:tt σ9 H9 fun b H5=>if b=true then te σ9 H5 fun y H6=>∃ ys,H6 D=some (.lst ys)∧ys.length<sizeLine∧∃ m',m'<n∧W (i+1) m' σ9 (upd H6 D (.lst (ys++[y]))) else ∃ m',m'<n∧W (i+1) m' σ9 H5)
 (again:∀ {s11:Shared} {σ11:St} {H11:Hp} {m':Nat},Inv (blk X scope cl C0 N s30 H30 fp0) ps σ11 H11 s11→m'<n→W (i+1) m' σ11 H11→∃ m,m<n∧LI m s11) :
 wpAny (model X.prog X.w) X.A (forIn ifs true fun c r=>if r=true then do let ok ← isTrue c (blk X scope cl C0 N s30 H30 fp0).env (eval c (blk X scope cl C0 N s30 H30 fp0).env);pure (ForInStep.yield ok) else pure (ForInStep.yield r)) (fun ok s₃ =>
  if ok=true then wpAny (model X.prog X.w) X.A (eval elt (blk X scope cl C0 N s30 H30 fp0).env) (fun x s₄ =>
   wpAny (model X.prog X.w) X.A (call (.builtin "list.append") [.ref D,x]) (fun _ s₅=>∃ m,m<n∧LI m s₅) (fun _ _=>False) s₄) (fun _ _=>False) s₃
  else ∃ m,m<n∧LI m s₃) (fun _ _=>False) s9:=by
 refine thn (ht _ _ _ _ ps s9 σ9 H9 _ I9 q9) fun b s10 ⟨H10,I10,q10⟩=>?_;cases b with
 | false =>
   obtain ⟨m',hm,w11⟩:=q10;exact again I10 hm w11
 | true =>
   refine thn (he _ _ _ _ ps s10 σ9 H10 _ I10 q10) fun y s11 ⟨yv,H11,I11,r11,ys,hys,hz,m',hm,w11⟩=>?_
   have ap:=Zbz (X:=blk X scope cl C0 N s30 H30 fp0) _ s11 σ9 H11 (.ref D) [yv] (.ref D) [y] (fun _ H'=>W (i+1) m' σ9 H') I11 rfl (.cons r11 .nil)
    ⟨_,ys,yv,rfl,rfl,hys,hz,w11⟩
   exact thn ap fun _ s12 ⟨_,H12,I12,_,q12⟩=>again I12 hm q12
theorem Zit {Q:VK} {H7:Hp} {s7:Shared} (qn:Q (.ref D) H7) (c:∃ m7,s7.heap.Ns C m7∧∀ h8,Heap.SameBut C s7.heap h8→Inv X pins σ H7 { s7 with heap:=h8 }):compPost (model X.prog X.w) X.A X.xe none (EP X pins σ Q) (.ref D) C (.ok .next) s7 :=
 let ⟨m7,hn7,c7⟩:=c
 ⟨m7,hn7,fun h8 sb8=>⟨.ref _,H7,c7 h8 sb8,rfl,qn⟩⟩
theorem Yq {g:TG}
 (hc:X.calm=true) (L:LcO X scope cl N fr) (hi:PI X tg iter wi) (hg:∀ C s3 H3 fp,PG (blk X scope cl C N s3 H3 fp) tg g)
 (ht:∀ C s3 H3 fp,PIfs (blk X scope cl C N s3 H3 fp) ifs tt) (he:∀ C s3 H3 fp,PE (blk X scope cl C N s3 H3 fp) elt te)
 (hs:∀ x,foldedSetIterable iter X.env x=pure x:=by intro _;rfl):PE X (.ListComp elt [⟨tg,iter,ifs,0⟩] scope pos) (tLC wi g tt te fr):=by
 intro pins s σ H Q I h;rw [eval_ListComp];refine wpAny_comprehension_free (use:=none) rfl hs L.clos L.kind L.names (thn (hi pins s σ H _ I h) fun v s1 h1=>thn h1 fun itv s2 h2=>?_);obtain ⟨it,fp,tn,J,H2,e,I2,T,st2,f2,h⟩:=h2;subst e;obtain ⟨W,⟨m0,w0⟩,turn⟩:=h s2.z (I2.hok.fresh (n14_ _));refine wpAny_newObj_type ?_;refine Zc3 (ac:=.lst []) rfl hc L hg I2 T st2 f2 ⟨n55_ _,[],_,.nil,n8_ _ rfl⟩ w0 turn (fun _ _ a b=>codeAny_compStart_list a (b _)) (fun LI s4 t n h=>Zcj LI t n h) (fun H7 s7 qn _ _ c=>Zit qn c) (Znz ht he)
def LcN (n:Nat) (Pv:Nat→St→Hp→Prop) (i m:Nat) (σ:St) (H:Hp):Prop:=i≤n∧m=n-i∧Pv i σ H
section
variable {X:Cx}
def Zwj (i j:Int):Prop:=j≠0∧j.natAbs<2^8999
theorem Zq7 {a:Nat} (h:a<2^n) (hn:0<n):a.log2<n:=by
 rcases Nat.eq_zero_or_pos a with rfl|hp
 · simpa using hn
 · exact (Nat.log2_lt (n60_ hp)).mpr h
theorem Zkk:OpR X (binaryOp .FloorDiv) (rI Zwj fun i j=>.int (i.fdiv j)):=opI fun _ _ _ _ _ _ _ hc q=>floordiv_int hc.1 q (.inl (PyProof.noPylong_of_log2 (Nat.lt_trans (Zq7 hc.2 (by decide)) (by decide))))
def CMulB (i j:Int):Prop:=i.natAbs<2^1000000∧j.natAbs<2^1000000
theorem Zoa {i:Int} (h:i.natAbs<2^n) (hn:0<n):Builtin.Int.intBits i≤n:=by
 unfold Builtin.Int.intBits;split
 · exact n55_ _
 · exact Zq7 h hn
theorem CMulB.ok {i j:Int} (h:CMulB i j):IntMulOk i j:=by
 unfold IntMulOk;have h1:=Zoa h.1 (by decide);have h2:=Zoa h.2 (by decide)
 have:Builtin.Int.intTooBig (Builtin.Int.intBits i+Builtin.Int.intBits j:Nat)=false:=by
  unfold Builtin.Int.intTooBig bitsLine;refine n33_ ?_;omega
 intro z;rw [n47_] at z;rw [show ((Builtin.Int.intBits i:Int)+(Builtin.Int.intBits j:Int))=((Builtin.Int.intBits i+Builtin.Int.intBits j:Nat):Int) by omega,this] at z;exact absurd z.2 (by decide)
theorem Yl:OpR X (binaryOp .Mult) (rI CMulB fun i j=>.int (i*j)):=opI fun _ _ _ _ _ _ _ hc q=>mul_int q hc.ok
theorem Zfe:Yy X (.builtin "isinstance") (fun xs H Q=>∃ x T t b,xs=[x,.ty T]∧TyOf X.K H x t∧PySem.W.kitOne X.K t (.type T)=some b∧Q (.bl b) H):=by
 intro pins s σ H xs us Q I r h;obtain ⟨x,T,t,b,rfl,ty,e,q⟩:=h;cases r with
 | cons rx r =>
   cases r with
   | cons ry r =>
     cases r
     cases (show _=Value.type T from ry)
     exact Zm6 I rx ty e fun tk=>⟨.bl b,H,I.tok _,rfl,q⟩
theorem Zcc:∀ {bs:List Bool} {us:List Value} {i:Nat} {v:Value},Vals (bs.map V.bl) us→us[i]? = some v→∃ b,bs[i]? = some b∧v=Value.bool b
 | [],_,i,v,.nil,e=>by simp at e
 | b :: bs,u :: us,0,v,.cons r t,e=>by
   simp at e;subst e;exact ⟨b,rfl,r⟩
 | b :: bs,u :: us,i+1,v,.cons r t,e=>by
   obtain ⟨c,h1,h2⟩:=Zcc t (by simpa using e);exact ⟨c,by simpa using h1,h2⟩
theorem Ze7:∀ (bs:List Bool),((List.range bs.length).all fun i=>(bs[i]?).getD true)=bs.all id
 | []=>rfl
 | b :: bs=>by
   rw [n26_,List.range_succ_eq_map,List.all_cons,List.all_map,List.all_cons,← Ze7 bs];rfl
theorem Zin (hk:∀ b x,b∉[s.z]→(s.heap.push o).get? b=some x→h'.get? b=some x):∀ b x,s.heap.get? b=some x→h'.get? b=some x :=
 fun b x e=>hk b x (fun hm=>by rw [n22_.mp hm] at e;exact n78_ _ (n11_ e)) (n3_ _ e)
theorem Yv (hc:X.calm=true):Yy X (.builtin "all") (fun xs H Q=>∃ (p:Addr) (bs:List Bool),xs=[.ref p]∧SqL X.K H p (bs.map V.bl)∧Q (.bl (bs.all id)) H):=by
 intro pins s σ H xs us Q I r h;obtain ⟨p,bs,rfl,hq,q⟩:=h;cases r with
 | cons rx r =>
   cases r
   cases (show _=Value.ref p from rx)
   obtain ⟨its,rv,pl,hz⟩:=I.list hq;have hl:=pl.isList;have hlt:p<s.z:=by obtain ⟨_,e,_⟩:=hl;exact n11_ e
   have hh:X.A.handled=none:=I.ok.hd hc;refine call_all_walk (wpAny_pyIter_list hl ?_)
   refine ⟨s.z,[s.z,p],[s.z],its.toArray.size,_,_,fun i=>(bs[i]?).getD true,rfl,Walks.list (A:=X.A.in1) hh _ p (n17_ hlt) its.toArray,
    ⟨⟨_,n8_ _ rfl,rfl,rfl⟩,hl.push _⟩,fun i v s' Q' E' hP hQ=>?_,fun h' tk hk=>?_⟩
   · obtain ⟨b,e,rfl⟩:=Zcc rv (show its[i]? = some v by simpa using hP);simp only [e,Option.getD_some] at hQ;exact wpAny_truthy_bool hQ
   · have e:((List.range its.toArray.size).all fun i=>(bs[i]?).getD true)=bs.all id:=by
      rw [n13_,← rv.length,n5_];exact Ze7 bs
     rw [e];exact ⟨.bl _,H,I.kept (Zin hk),rfl,q⟩
end
structure Cal (P:Program) (w:World) (K:PySem.W.Frag) (mg:Str→Option Value) (base:Heap) (x:Str) (k:Nat) (ps:List Str) (sp:Sp):Prop where
 ex:∃ (f:Addr) (fd:FuncData),FnOk P w K mg base CX0 k f fd ps sp∧mg x=some (.ref f)∧PySem.W.keepIn K (.ref f)=true∧Binds K fd ps []
theorem Zk {ps:List Str} {sp:Sp} {p:Pos} {es:List Expr} {t:TA} (C:Cal X.prog X.w X.K X.mg X.base x k ps sp) (hr:Room j X.A) (hj:k≤j) (hg:Gl X x) (ha:PA X (e :: es) t)
 (hdb:(x == ("__debug__" : Str))=false:=by decide) (he:starEach (e :: es) X.env=(false,eval e X.env) :: starEach es X.env:=by rfl) (hpl:(backTo pos (starEach es X.env)).any (·.1)=false:=by rfl) :
 PE X (.Call (.Name x p) (e :: es) [] pos) (fun σ H Q=>t σ H fun vs H1=>sp vs H1 Q E0):=by
 obtain ⟨f,fd,F,hm,hk,hb⟩:=C.ex;have h:=Ztd (dvs:=[]) (E:=E0) (p:=p) F (hr.mono hj) hg hm hk hb .nil Zuv ha hdb he hpl;intro pins s σ H Q I hw;refine h pins s σ H Q I ?_;unfold Zte
 simpa only [List.append_nil] using hw
section
variable {P:Program} {w:World} {K:PySem.W.Frag} {mg:Str→Option Value} {base:Heap}
end
def Keep (l:Addr) (H H':Hp):Prop:=∀ b o,b≠l→H b=some o→H' b=some o
theorem Keep.refl (l:Addr) (H:Hp):Keep l H H:=fun _ _ _ h=>h
theorem Keep.trans {H1:Hp} (a:Keep l H H1) (b:Keep l H1 H2):Keep l H H2:=fun c o n h=>b c o n (a c o n h)
theorem Keep.new {p:Addr} {o:HO} (h:H p=none):Keep l H (upd H p o):=fun b u _ e=>by rw [Zh (Zg e h)];exact e
theorem Keep.upd {o:HO}:Keep l H (upd H l o):=fun b u n e=>by rw [Zh n];exact e
theorem Same.new {p:Addr} {o:HO} (h:H p=none):Same H (upd H p o):=fun b u e=>by rw [Zh (Zg e h)];exact e
theorem Same.keep (s:Same H H'):Keep l H H':=fun b o _ e=>s b o e
def Zwa (i j k:Nat) (ta:TA):TS:=fun D σ H=>ta σ H fun vs H1=>∃ v w x,vs=[v,w,x]∧D.nx (((σ.set i (some v)).set j (some w)).set k (some x)) H1
theorem Zng {y z:Str} {a b c:Expr} {px py pz pt:Pos} {kt k2 pt2} (hc:X.calm=true) (hN:X.N.Nodup) (hi:X.N[i]? = some x) (hj:X.N[j]? = some y) (hk:X.N[k]? = some z) (hij:i≠j) (hik:i≠k) (hjk:j≠k)
 (hx:X.env.scope.names.lookup x=some .local) (hy:X.env.scope.names.lookup y=some .local) (hz:X.env.scope.names.lookup z=some .local) (ha:PA X [a,b,c] ta)
 (hw:swappedStores [.Tuple [.Name x px,.Name y py,.Name z pz] kt pt] (.Tuple [a,b,c] k2 pt2) X.env=pure (some [x,y,z]))
 (hs:swapsWithSole [.Tuple [.Name x px,.Name y py,.Name z pz] kt pt] (.Tuple [a,b,c] k2 pt2) pos.line X.env=pure false:=by rfl) :
 PS X (.Assign [.Tuple [.Name x px,.Name y py,.Name z pz] kt pt] (.Tuple [a,b,c] k2 pt2) pos) (Zwa i j k ta):=by
 intro pins s σ H D I h;rw [exec_Assign_arm];refine n0_ (wpAny_standAt ?_);rw [hs];refine n0_ (n4_ ?_);rw [if_neg (by decide)];refine n0_ (Tuple_ (thn (ha _ pins s σ H _ I h) fun us s1 ⟨vs,H1,I1,r1,q1⟩=>?_));obtain ⟨v,w,x',e1,q1⟩:=q1;subst e1
 obtain ⟨u1,u2,u3,rfl,rv,rw',rx⟩:∃ u1 u2 u3,us=[u1,u2,u3]∧RelV v u1∧RelV w u2∧RelV x' u3:=by
  cases r1 with
  | cons p q =>
    cases q with
    | cons p' q' =>
      cases q' with
      | cons p'' q'' =>
        cases q''
        exact ⟨_,_,_,rfl,p,p',p''⟩
 refine wpAny_newObj_type ?_ (z3_);have I2:Inv X pins σ H1 { s1 with heap:=s1.heap.push { cls:=.type "tuple",data:=.seq [u1,u2,u3].toArray } }:=I1.kept (t':=s1.toks) fun b o e=>n3_ _ e;rw [hw];refine n0_ (n4_ ?_);show wpAny (model X.prog X.w) X.A (do rule "assign.swapped-stores";let items ← unpackItems (.ref s1.z) 3 none;assignInOrder [fun v=>bindName X.env z v,fun v=>bindName X.env y v,fun v=>bindName X.env x v] items.reverse;pure Flow.next) _ _ _
 refine n0_ (wpAny_rule (n0_ (unpackItems_tuple (items:=#[u1,u2,u3]) (I.ok.hd hc) (IsTup.new s1.heap _) fun h' hx'=>?_)));have I3:=I2.kept (h':=h') (t':=s1.toks) fun b o e=>hx' b o (n17_ (n11_ e)) e;show wpAny _ _ (assignInOrder [fun v=>bindName X.env z v,fun v=>bindName X.env y v,fun v=>bindName X.env x v] [u3,u2,u1] >>= fun _=>pure Flow.next) _ _ _
 refine n0_ (assignInOrder_cons (wpAny_bindName (Zad I3 hN hk (.inl hz) rx (fun s2 I4=>?_) (.inr hz))));refine assignInOrder_cons (wpAny_bindName (Zad I4 hN hj (.inl hy) rw' (fun s3 I5=>?_) (.inr hy)));refine assignInOrder_cons (wpAny_bindName (Zad I5 hN hi (.inl hx) rv (fun s4 I6=>assignInOrder_nil (n4_ ?_)) (.inr hx)))
 have e:(((σ.set k (some x')).set j (some w)).set i (some v))=(((σ.set i (some v)).set j (some w)).set k (some x')):=by
  rw [List.set_comm _ _ (Ne.symm hij),List.set_comm _ _ (Ne.symm hik),List.set_comm _ _ (Ne.symm hjk)]
 rw [e] at I6;exact ⟨_,H1,I6,q1⟩
section
variable {X:Cx}
end
end L2
namespace HT
open PySem PyProof.Rows
section
variable {prog:Program} {w:World} {A:Around} {E:Value→Shared→Prop} {s:Shared}
theorem getItem_tuple_whole {t sl:Addr} {items:Array Value} {vl vu:Value} {lo hi:Option Int} {Q:Value→Shared→Prop} (ht:IsTup s.heap t items) (hs:s.heap.IsSliceOf sl vl vu .none) (pl:IsPart vl lo) (pu:IsPart vu hi)
 (hw:sIx items.size 0 lo=0∧sIx items.size items.size hi=items.size)
 (h:Q (.ref t) s):wpAny (model prog w) A (getItem (.ref t) (.ref sl)) Q E s:=by
 obtain ⟨os,hos,hcs,hds⟩:=id hs;have hTs:s.TypeIs (.ref sl) "slice" := ⟨os,hos,hcs⟩;unfold getItem
 try with_reducible refine n30_ ?_
 first|refine n0_ (n4_ ?_)|skip
 refine n0_ (wpAny_sequenceKey ht.typeIs (by decide) ?_)
 refine n0_ (wpAny_callSpecial?_slot (name:=Str.ofString "__getitem__") ht.typeIs PyProof.Rows.slot_tuple_getitem
  (wpAny_call_entry PyProof.Rows.slot_tuple_getitem ht.typeIs entry_tuple_getitem ?_ (args_tuple_getitem _ _)))
 show wpAny _ _ (Builtin.Tuple.tupleItemsOf (.ref t) >>= _) _ _ s
 refine n0_ (tupleItemsOf_ ht ?_);refine n0_ (wpAny_typeOf hTs ?_);rw [if_pos (by decide)];refine n0_ (Zaj hs pl pu ?_);rw [hw.1,hw.2];have hyes:(((0:Nat):Int) == 0&&(1:Int) == 1&&(items.size-0) == items.size)=true:=by simp
 show wpAny _ _ (if (((0:Nat):Int) == 0&&(1:Int) == 1&&(items.size-0) == items.size)=true then _ else _) _ _ s
 rw [if_pos hyes];have hx:(Builtin.Tuple.tupleIsExact (.ref t))=(do pure ((← typeOf (.ref t)) == .type "tuple")):=by first|rfl|(unfold Builtin.Tuple.tupleIsExact;rfl)
 rw [hx];refine n0_ (n0_ (wpAny_typeOf ht.typeIs (n4_ ?_)));rw [if_pos (by decide)];exact n0_ (wpAny_rule (n4_ ⟨_,rfl,n4_ h⟩))
end
end HT
namespace L2
open PySem PySem.Spec PyProof.Rows
variable {D a b it t z:Addr} {A:Around} {ys:Array Value} {X:Cx} {env:Env} {h h':Heap} {H:Hp} {pins:List (Addr×Obj)} {ch fp:List Addr} {xs:List V} {i m n t':Nat} {pos:Pos} {P prog:Program} {scope:Scope} {s:Shared} {σ:St} {x:Str} {ta:TA} {te:TE} {tt:TT} {c d:Value} {Q:Value→Shared→Prop} {w:World}
section
variable {X:Cx} {e:Expr} {es:List Expr} {te:TE} {t:TA} {pos p2:Pos}
def rSlU:V→Option Int→Option Int→Hp→VK→Prop:=fun x lo hi H Q=>∃ a xs,x=.ref a∧H a=some (.tup xs)∧∀ p H',Same H H'→H' p=some (.tup (cutV xs lo hi))→Q (.ref p) H'
theorem Zmx:SlR X rSlU:=by
 intro pins s σ H x v vl vu lo hi sl Q I rx hs pl pu h;obtain ⟨a,xs,rfl,hx,q⟩:=h
 by_cases hw:HT.sIx xs.length 0 lo=0∧HT.sIx xs.length xs.length hi=xs.length
 · cases rx
   obtain ⟨its,r,ht,hz⟩:=I.tuple (SqT.of hx);have hlen:its.toArray.size=xs.length:=by rw [n13_];exact r.length.symm
   refine ⟨"tuple",_,PyProof.Rows.slot_tuple_getitem.lookup,ht.typeIs,?_⟩;refine HT.getItem_tuple_whole ht hs pl pu (by rw [hlen];exact hw) ⟨.ref a,H,I,rfl,q a H (Same.refl H) ?_⟩;unfold cutV;rw [hw.1,hw.2,List.drop_zero,Nat.sub_zero,List.take_length];exact hx
 · exact Zus pins s σ H _ _ vl vu lo hi sl Q I rx hs pl pu ⟨a,xs,rfl,SqT.of hx,hw,fun p hp=>q p _ (Same.new hp) Zc⟩
theorem Ztm (I:Inv X pins σ H s):sysModules<s.z:=by
 have h:mainGlobals<s.z:=(I.mod.glob.keeps I.bk).lt;exact Nat.lt_trans (by decide) h
theorem Zlg:Yy X (.type "list") (fun xs H Q=>∃ p ys,xs=[.ref p]∧(SqL X.K H p ys∨SqT X.K H p ys)∧∀ l,H l=none→l≠sysModules→Q (.ref l) (upd H l (.lst ys))):=by
 intro pins s σ H xs us Q I r h;obtain ⟨p,ys,rfl,hq,q⟩:=h;obtain ⟨u,rfl,rx⟩:=Zp3 r;cases rx
 have fin:∀ (its:List Value),Vals ys its→ys.length≤sizeLine→∀ (h':Heap) (c':Nat),(∀ b o',s.heap.get? b=some o'→h'.get? b=some o') →
  h'.get? s.z=some { cls:=.type "list",dict:=none,data:=.seq its.toArray c',slots:=#[] }→EP X pins σ Q (.ref s.z) { s with heap:=h' }:=fun its r' hz h' c' kp e =>
  ⟨.ref s.z,_,I.laid (t':=s.toks) kp (n14_ _) (show ObjOk X.prog X.w _ h' _ (.lst ys) from ⟨hz,its,c',r',e⟩),rfl,q _ (I.hok.fresh (n14_ _)) (n60_ (Ztm I))⟩
 rcases hq with hq|hq
 · obtain ⟨its,r',pl,hz⟩:=I.list hq;have hlen:=r'.length;obtain ⟨o,ho,hc,n,hd⟩:=pl.isList;exact call_list_seq p (.inl rfl) ho hc hd (fun h' c' kp e=>fin its r' hz h' c' kp e) (by simp only [n13_]<;>omega)
 · obtain ⟨its,r',pl,hz⟩:=I.tuple hq;have hlen:=r'.length;obtain ⟨o,ho,hc,n,hd⟩:=pl;exact call_list_seq p (.inr rfl) ho hc hd (fun h' c' kp e=>fin its r' hz h' c' kp e) (by simp only [n13_]<;>omega)
end
def Yz (cells:List (Str×Addr)) (names:List (Str×NameKind)):List (Str×Addr):=((names.filter (fun y=>y.2 == .free)).map fun y=>(y.1,(cells.lookup y.1).getD 0)).reverse
theorem Zch:∀ (names:List (Str×NameKind)) (acc:List (Str×Addr)),(∀ y∈names,y.2=.free→∃ c,env.cells.lookup y.1=some c) →
 (forIn names acc (fun (x:Str×NameKind) (r:List (Str×Addr))=>do
   if x.2 == .free then do
    let a ← cellOf env x.1
    pure (ForInStep.yield ((x.1,a) :: r))
   else pure (ForInStep.yield r)):Sem (List (Str×Addr)))=pure (Yz env.cells names++acc)
 | [],acc,_=>rfl
 | (n,k) :: rest,acc,h=>by
   have ih:=fun acc=>Zch rest acc fun y hy=>h y (n19_ _ hy);rw [List.forIn_cons]
   by_cases hk:k=.free
   · subst hk;obtain ⟨c,hc⟩:=h (n,.free) n27_ rfl;have e:cellOf env n=pure c:=by unfold cellOf;rw [hc]
     have e2:Yz env.cells ((n,.free) :: rest)=Yz env.cells rest++[(n,c)]:=by
      unfold Yz;rw [List.filter_cons_of_pos (by rfl),n31_,List.reverse_cons,hc];rfl
     simp only [beq_self_eq_true,if_true,e,pure_bind];rw [ih,e2,n57_];rfl
   · have b:(k == NameKind.free)=false:=by simpa using hk
     have e2:Yz env.cells ((n,k) :: rest)=Yz env.cells rest:=by
      unfold Yz;rw [List.filter_cons_of_neg (by simpa using hk)]
     simp only [b,n15_,if_false,pure_bind];rw [ih,e2]
theorem Zcx (h:∀ y∈scope.names,y.2=.free→∃ c,env.cells.lookup y.1=some c):closureFor scope env=pure (Yz env.cells scope.names):=by
 have e:=Zch scope.names [] h;rw [List.append_nil] at e;unfold closureFor
 first
  | (rw [← e];rfl)
  | (simp only [bind_pure];exact e)
  | simpa using e
section
variable {X:Cx}
theorem Zaq {i:Int} (h:∃ t,X.mg x=some (.int i t)) (hg:Gl X x) (hd:(x == ("__debug__" : Str))=false:=by decide):PE X (.Name x pos) (tC (.int i)):=by
 obtain ⟨t,h⟩:=h;exact Zsy hg h ⟨t,rfl⟩ hd
end
section
variable {X:Cx} {pins:List (Addr×Obj)} {σ:List (Option V)} {H:Hp} {s:Shared} {h':Heap}
theorem Inv.turnNew {o:HO} (I:Inv X pins σ H s) (k:∀ b u,b∉ch→s.heap.get? b=some u→h'.get? b=some u) (hf:∀ b∈ch,FpOk X pins H b)
 (ha:s.z≤a) (new:ObjOk X.prog X.w (upd H a o) h' a o):Inv X pins σ (upd H a o) { s with heap:=h',toks:=t' }:=by
 have fa:H a=none:=I.hok.fresh ha;have na:∀ b u,H b=some u→b≠a:=fun b u e=>Zg e fa;have nc:∀ b u,H b=some u→b∉ch:=fun b u e z=>by rw [(hf b z).1] at e;cases e
 have la:∀ b u,s.heap.get? b=some u→b≠a:=fun b u e=>n17_ (n25_ (n11_ e) ha)
 refine I.step (g':=s.gens) (d':=s.drawn) (ch:=ch) (fun b hb=>?_) (fun b u _ _ hc e _=>k b u hc e) (fun b u _ _ hc e _=>⟨u.slots,k b u hc e⟩) (fun b u _ e n=>by rw [Zh (la b u e)];exact n)
  (fun b u hc e=>⟨u,k b u hc e⟩) (fun b xs e=>by rw [Zh (na b _ e)];exact e) (fun b u v e=>by rw [Zh (na b _ e)];exact e) (fun b ps e=>⟨#[],by rw [Zh (na b _ e),e];simp⟩) (fun m hm=>?_) (fun b u e=>?_) I.bare
 · obtain ⟨f0,f1,f2,f3,f4,f5⟩:=hf b hb;exact ⟨f3,f1,f4,f5⟩
 · obtain ⟨u,es,ep,hu,r⟩:=hm;exact ⟨u,es,ep,k _ u (fun z=>(hf _ z).2.1 rfl) hu,r⟩
 · by_cases hb:b=a
   · subst hb;rw [Zc] at e;cases e;exact new
   · rw [Zh hb] at e;refine (I.hok b u e).stay (fun c v hc q=>k c v ?_ q) (fun c q=>by rw [Zh (na c _ q)];exact q) fun c xs q=>by rw [Zh (na c _ q)];exact q
     rcases hc with z|z
     · rw [z];exact nc b u e
     · exact nc c _ z
theorem Inv.turnOnly (I:Inv X pins σ H s) (k:∀ b u,b∉ch→s.heap.get? b=some u→h'.get? b=some u) (hf:∀ b∈ch,FpOk X pins H b):Inv X pins σ H { s with heap:=h',toks:=t' }:=by
 have nc:∀ b u,H b=some u→b∉ch:=fun b u e z=>by rw [(hf b z).1] at e;cases e
 refine I.step (g':=s.gens) (d':=s.drawn) (ch:=ch) (fun b hb=>?_) (fun b u _ _ hc e _=>k b u hc e) (fun b u _ _ hc e _=>⟨u.slots,k b u hc e⟩) (fun _ _ _ _ n=>n)
  (fun b u hc e=>⟨u,k b u hc e⟩) (fun _ _ e=>e) (fun _ _ _ e=>e) (fun b ps e=>⟨#[],by rw [e];simp⟩) (fun m hm=>?_) (fun b u e=>?_) I.bare
 · obtain ⟨f0,f1,f2,f3,f4,f5⟩:=hf b hb;exact ⟨f3,f1,f4,f5⟩
 · obtain ⟨u,es,ep,hu,r⟩:=hm;exact ⟨u,es,ep,k _ u (fun z=>(hf _ z).2.1 rfl) hu,r⟩
 · refine (I.hok b u e).stay (fun c v hc q=>k c v ?_ q) (fun _ q=>q) fun _ _ q=>q
   rcases hc with z|z
   · rw [z];exact nc b u e
   · exact nc c _ z
end
inductive SK where
 | l
 | t
def SK.Sq (K:PySem.W.Frag) (H:Hp) (a:Addr) (xs:List V):SK→Prop
 | .l=>SqL K H a xs
 | .t=>SqT K H a xs
def SK.Is (h:Heap) (a:Addr) (vs:Array Value):SK→Prop
 | .l=>h.IsList a vs
 | .t=>h.IsTuple a vs
def SK.It (h:Heap) (it a:Addr) (i:Nat):SK→Prop
 | .l=>h.IsListIter it a i
 | .t=>h.IsTupleIter it a i
def SK.name:SK→String
 | .l => "list_iterator"
 | .t => "tuple_iterator"
abbrev SK.obj (k:SK) (a:Addr):Obj:={ cls:=.type k.name,data:=.fields #[.ref a,.int 0 0] }
theorem SK.It.ex {k:SK} (x:k.It h it a i):∃ o,h.get? it=some o∧o.cls=.type k.name∧o.data=.fields #[.ref a,.int i 0]:=by
 cases k<;>exact x
theorem SK.It.of {k:SK} (x:∃ o,h.get? it=some o∧o.cls=.type k.name∧o.data=.fields #[.ref a,.int i 0]):k.It h it a i:=by
 cases k<;>exact x
theorem SK.It.at {k:SK} (x:k.It h it a i) (f:∀ o,h.get? it=some o→h'.get? it=some o):k.It h' it a i:=by
 obtain ⟨o,e,r⟩:=x.ex;exact .of ⟨o,f o e,r⟩
theorem SK.Is.ex {k:SK} {vs:Array Value} (x:k.Is h a vs):∃ o n,h.get? a=some o∧o.data=.seq vs n:=by
 cases k with
 | l=>obtain ⟨o,e,_,n,d⟩:=(show h.IsList a vs from x);exact ⟨o,n,e,d⟩
 | t=>obtain ⟨o,e,_,n,d⟩:=(show h.IsTuple a vs from x);exact ⟨o,n,e,d⟩
theorem SK.Is.at {k:SK} {vs:Array Value} (x:k.Is h a vs) (f:∀ o,h.get? a=some o→h'.get? a=some o):k.Is h' a vs:=by
 cases k with
 | l=>obtain ⟨o,e,r⟩:=(show h.IsList a vs from x);exact (⟨o,f o e,r⟩:h'.IsList a vs)
 | t=>obtain ⟨o,e,r⟩:=(show h.IsTuple a vs from x);exact (⟨o,f o e,r⟩:h'.IsTuple a vs)
theorem SK.Sq.is {k:SK} (q:k.Sq X.K H a xs) (I:Inv X pins σ H s):∃ its,Vals xs its∧k.Is s.heap a its.toArray:=by
 cases k with
 | l=>obtain ⟨its,rv,p,_⟩:=I.list (show SqL X.K H a xs from q);exact ⟨its,rv,p.isList⟩
 | t=>obtain ⟨its,rv,p,_⟩:=I.tuple (show SqT X.K H a xs from q);exact ⟨its,rv,p⟩
theorem SK.Sq.inj {k:SK} {ys:List V} (q:k.Sq X.K H a xs) (r:k.Sq X.K H a ys) (I:Inv X pins σ H s):xs=ys:=by
 cases k with
 | l=>exact I.list_inj q r
 | t=>exact I.tuple_inj q r
section
variable {prog:Program} {w:World} {A:Around} {E:Value→Shared→Prop} {s:Shared}
theorem SK.draw {k:SK} {vs:Array Value} {x:Value} (hi:k.It s.heap it a i) (ha:k.Is s.heap a vs) (hx:vs[i]? = some x)
 (q:∀ h1,k.It h1 it a (i+1)→Heap.SameBut it s.heap h1→Q x { s with heap:=h1 }):wpAny (model prog w) A (n23_ (.ref it)) Q E s:=by
 cases k with
 | l=>exact wpAny_nextOf_list_item hi ha hx q
 | t =>
   have hi':s.heap.IsTupleIter it a i:=hi;obtain ⟨o,e,c,d⟩:=id hi';obtain ⟨oa,ea,_,n,da⟩:=(show s.heap.IsTuple a vs from ha);unfold n23_;refine n0_ (wpAny_callSpecial?_slot (name:=Str.ofString "__next__") hi'.typeIs F.slot_tuple_iterator_next (wpAny_call_entry F.slot_tuple_iterator_next hi'.typeIs F.entry_tuple_iterator_next ?_ (F.args_tuple_iterator_next_1 _)));refine n0_ (m:=field (.ref it) 0) (wpAny_field e d (x:=.ref a) rfl ?_);show wpAny _ _ (if (Value.ref a == Value.none)=true then _ else _) _ _ s
   rw [if_neg (show ¬ ((Value.ref a == Value.none)=true) from n21_)];refine n0_ (m:=field (.ref it) 1) (wpAny_field e d (x:=.int i 0) rfl ?_);refine n0_ (m:=seqItems? (.ref a)) (wpAny_seqItems ea da ?_);simp only [n62_,hx];refine n0_ (wpAny_setField e d (by simp) (n4_ ⟨x,rfl,n4_ (q _ (SK.It.of ?_) (Heap.SameBut.update ..))⟩));exact ⟨_,n40_ _ e (Obj.isFreed_of_fields (Obj.data_mapFields d _)),(Obj.cls_mapFields ..).trans c,by rw [Obj.data_mapFields d];simp [rawInt]⟩
theorem SK.dry {k:SK} {vs:Array Value} (hh:A.handled=none) (hi:k.It s.heap it a i) (ha:k.Is s.heap a vs) (hx:vs[i]? = none)
 (q:∀ h1 e,Heap.ExtBut it s.heap h1→(∃ o,h1.get? e=some o∧o.cls=.type "StopIteration")→E (.ref e) { s with heap:=h1 }):wpAny (model prog w) A (n23_ (.ref it)) Q E s:=by
 cases k with
 | l=>exact wpAny_nextOf_list_end hh hi ha hx q
 | t =>
   have hi':s.heap.IsTupleIter it a i:=hi;obtain ⟨o,e,c,d⟩:=id hi';obtain ⟨oa,ea,_,n,da⟩:=(show s.heap.IsTuple a vs from ha);unfold n23_;refine n0_ (wpAny_callSpecial?_slot (name:=Str.ofString "__next__") hi'.typeIs F.slot_tuple_iterator_next (wpAny_call_entry F.slot_tuple_iterator_next hi'.typeIs F.entry_tuple_iterator_next ?_ (F.args_tuple_iterator_next_1 _)));refine n0_ (m:=field (.ref it) 0) (wpAny_field e d (x:=.ref a) rfl ?_);show wpAny _ _ (if (Value.ref a == Value.none)=true then _ else _) _ _ s
   rw [if_neg (show ¬ ((Value.ref a == Value.none)=true) from n21_)];refine n0_ (m:=field (.ref it) 1) (wpAny_field e d (x:=.int i 0) rfl ?_);refine n0_ (m:=seqItems? (.ref a)) (wpAny_seqItems ea da ?_);simp only [n62_,hx];refine n0_ (wpAny_rule (n0_ (wpAny_setField e d (by simp) ?_)));refine n0_ (m:=newExc (.type "StopIteration") []) ?_;simp only [newExc,newTuple];refine n0_ (wpAny_newObj_type (n0_ (m:=firstArgMember _ _) (wpAny_of_eq (a:=Value.none) (by first|rfl|(simp only [firstArgMember];rfl)) (wpAny_newObj_type ?_ (by size_fits)))) (by size_fits));simp only [raiseNew];refine n0_ (wpAny_handled ?_)
   first|rw [show A.in1.handled=none from hh]|rw [hh]
   refine n0_ (n4_ (wpAny_throw (q _ _ (((Heap.SameBut.update ..).extBut.push _).push _) ⟨_,n8_ _ rfl,rfl⟩)))
theorem SK.iter {k:SK} {vs:Array Value} (ha:k.Is s.heap a vs) (q:Q (.ref s.z) { s with heap:=s.heap.push (k.obj a) }):wpAny (model prog w) A (pyIter (.ref a)) Q E s:=by
 cases k with
 | l=>exact wpAny_pyIter_list ha q
 | t=>exact wpAny_pyIter_tuple ha q
end
structure ZP (z t o i j a b:Addr):Prop where
 tz:t≠z
 oz:o≠z
 iz:i≠z
 jz:j≠z
 to:t≠o
 ti:t≠i
 tj:t≠j
 oi:o≠i
 oj:o≠j
 ij:i≠j
 az:a≠z
 ao:a≠o
 ai:a≠i
 aj:a≠j
 bz:b≠z
 bo:b≠o
 bi:b≠i
 bj:b≠j
section
variable {prog:Program} {w:World} {A:Around} {E:Value→Shared→Prop} {s:Shared} {k l:SK}
theorem Zpc {o i j:Addr} {xs:Array Value} {x y:Value} (D:ZP z t o i j a b)
 (hz:IsZip s.heap z t o .none) (ht:IsPair s.heap t (.ref i) (.ref j)) (ho:IsPair s.heap o c d)
 (hi:k.It s.heap i a m) (hj:l.It s.heap j b n) (ha:k.Is s.heap a xs) (hb:l.Is s.heap b ys) (hx:xs[m]? = some x) (hy:ys[n]? = some y)
 (q:∀ h1,IsZip h1 z t o (rawInt s.z)→IsPair h1 o x y→k.It h1 i a (m+1)→l.It h1 j b (n+1)→IsPair h1 s.z x y→h1.objs.size=s.z+1 →
   (∀ e u,e≠z→e≠o→e≠i→e≠j→s.heap.get? e=some u→h1.get? e=some u)→Q (.ref s.z) { s with heap:=h1 }) :
 wpAny (model prog w) A (Builtin.«zip.__next__» ⟨[.ref z],[]⟩) (fun fin s'=>∃ v,fin=.done (.ret v)∧Q v s') E s:=by
 refine n0_ (m:=field (.ref z) 2) (wpAny_field hz rfl (x:=.bool false) rfl ?_);refine n0_ (m:=field (.ref z) 3) (wpAny_field hz rfl (x:=.ref t) rfl (n0_ (wpAny_seqItems ht rfl ?_)));refine n0_ (m:=n32_ (.ref z)) ?_;unfold n32_;refine n0_ (wpAny_field hz rfl (x:=.none) rfl (n4_ ?_));simp only [if_true];refine n0_ (wpAny_rule (n0_ (wpAny_field hz rfl (x:=.ref o) rfl (n0_ (wpAny_setField_rec hz (by simp) fun h1 z1 s1=>?_)))));replace z1:IsZip h1 z t o .ellipsis:=z1;refine n0_ ?_;simp only [List.zipIdx_cons,List.zipIdx_nil,List.forIn_cons,List.forIn_nil];refine n0_ (n0_ (wpAny_onRaise (n0_ (m:=n23_ (.ref i)) ?_)));refine SK.draw (hi.at fun u e=>s1.extBut _ _ D.iz e) (ha.at fun u e=>s1.extBut _ _ D.az e) hx fun h2 i2 s2=>n4_ ?_;have o2:IsPair h2 o c d:=s2.extBut _ _ D.oi (s1.extBut _ _ D.oz ho);refine n0_ (wpAny_seqItems o2 rfl (n0_ (wpAny_updateSeq_pair o2 fun h3 o3 s3=>?_)));replace o3:IsPair h3 o x d:=o3;refine n0_ (wpAny_letGo (n4_ (n0_ (n0_ (wpAny_onRaise (n0_ (m:=n23_ (.ref j)) ?_))))));refine SK.draw (hj.at fun u e=>s3.extBut _ _ D.oj.symm (s2.extBut _ _ D.ij.symm (s1.extBut _ _ D.jz e))) (hb.at fun u e=>s3.extBut _ _ D.bo (s2.extBut _ _ D.bi (s1.extBut _ _ D.bz e))) hy fun h4 j4 s4=>n4_ ?_;have o4:IsPair h4 o x d:=s4.extBut _ _ D.oj o3;refine n0_ (wpAny_seqItems o4 rfl (n0_ (wpAny_updateSeq_pair o4 fun h5 o5 s5=>?_)));replace o5:IsPair h5 o x y:=o5;refine n0_ (wpAny_letGo (n4_ (n4_ (n0_ (wpAny_seqItems o5 rfl (n0_ (wpAny_newTuple ?_)))))));have sz:h5.objs.size=s.z:=by rw [s5.1,s4.1,s3.1,s2.1,s1.1]
 have z5:IsZip h5 z t o .ellipsis:=s5.extBut _ _ D.oz.symm (s4.extBut _ _ D.jz.symm (s3.extBut _ _ D.oz.symm (s2.extBut _ _ D.iz.symm z1)));have k5:∀ e u,e≠z→e≠o→e≠i→e≠j→s.heap.get? e=some u→h5.get? e=some u:=fun e u e1 e2 e3 e4 g=>s5.extBut _ _ e2 (s4.extBut _ _ e4 (s3.extBut _ _ e2 (s2.extBut _ _ e3 (s1.extBut _ _ e1 g))));have i5:k.It h5 i a (m+1):=i2.at fun u e=>s5.extBut _ _ D.oi.symm (s4.extBut _ _ D.ij (s3.extBut _ _ D.oi.symm e));have j5:l.It h5 j b (n+1):=j4.at fun u e=>s5.extBut _ _ D.oj.symm e;have zl:z<h5.objs.size:=n11_ z5;refine n0_ (m:=Builtin.SmallTypes.ownedTupleHandOut (.ref z) (.ref h5.objs.size)) ?_;unfold Builtin.SmallTypes.ownedTupleHandOut;have z6:IsZip (h5.push { cls:=.type "tuple",data:=.seq #[x,y] }) z t o .ellipsis:=n3_ _ z5;refine n0_ (wpAny_setField_rec z6 (by simp) fun h7 z7 s7=>?_);replace z7:IsZip h7 z t o (rawInt h5.objs.size):=z7;refine wpAny_setField_rec z7 (by simp) fun h8 z8 s8=>?_;replace z8:IsZip h8 z t o (rawInt h5.objs.size):=z8;have up:∀ e u,e≠z→h5.get? e=some u→h8.get? e=some u:=fun e u e1 g=>s8.extBut _ _ e1 (s7.extBut _ _ e1 (n3_ _ g));have T8:IsPair h8 h5.objs.size x y:=s8.extBut _ _ (n60_ zl) (s7.extBut _ _ (n60_ zl) (n8_ _ rfl));have l8:h8.objs.size=h5.objs.size+1:=by rw [s8.1,s7.1,n36_]
 rw [sz] at z8 T8 l8;refine n4_ ⟨_,rfl,?_⟩;show Q (.ref h5.objs.size) _
 rw [sz];exact q h8 z8 (up _ _ D.oz o5) (i5.at fun u e=>up _ u D.iz e) (j5.at fun u e=>up _ u D.jz e) T8 l8 fun e u e1 e2 e3 e4 g=>up e u e1 (k5 e u e1 e2 e3 e4 g)
theorem Zr2 {o i j:Addr} {xs:Array Value} {Q:Fin→Shared→Prop} (hh:A.handled=none) (D:ZP z t o i j a b)
 (hz:IsZip s.heap z t o .none) (ht:IsPair s.heap t (.ref i) (.ref j)) (ho:IsPair s.heap o c d)
 (hi:k.It s.heap i a m) (hj:l.It s.heap j b n) (ha:k.Is s.heap a xs) (hb:l.Is s.heap b ys) (hx:xs[m]? = none∨ys[n]? = none)
 (q:∀ h1 e,(∀ e u,e≠z→e≠o→e≠i→e≠j→s.heap.get? e=some u→h1.get? e=some u)→(∃ u,h1.get? e=some u∧u.cls=.type "StopIteration")→E (.ref e) { s with heap:=h1 }) :
 wpAny (model prog w) A (Builtin.«zip.__next__» ⟨[.ref z],[]⟩) Q E s:=by
 refine n0_ (m:=field (.ref z) 2) (wpAny_field hz rfl (x:=.bool false) rfl ?_);refine n0_ (m:=field (.ref z) 3) (wpAny_field hz rfl (x:=.ref t) rfl (n0_ (wpAny_seqItems ht rfl ?_)));refine n0_ (m:=n32_ (.ref z)) ?_;unfold n32_;refine n0_ (wpAny_field hz rfl (x:=.none) rfl (n4_ ?_));simp only [if_true];refine n0_ (wpAny_rule (n0_ (wpAny_field hz rfl (x:=.ref o) rfl (n0_ (wpAny_setField_rec hz (by simp) fun h1 z1 s1=>?_)))));replace z1:IsZip h1 z t o .ellipsis:=z1;refine n0_ ?_;simp only [List.zipIdx_cons,List.zipIdx_nil,List.forIn_cons,List.forIn_nil];refine n0_ (n0_ (wpAny_onRaise (n0_ (m:=n23_ (.ref i)) ?_)));cases hm:xs[m]? with
 | none =>
   refine SK.dry hh (hi.at fun u e=>s1.extBut _ _ D.iz e) (ha.at fun u e=>s1.extBut _ _ D.az e) hm fun h2 e s2 ⟨u,g,cu⟩=>?_;have z2:IsZip h2 z t o .ellipsis:=s2 _ _ D.iz.symm z1;have ez:e≠z:=fun r=>by subst r;rw [z2] at g;cases g;simp at cu
   exact wpAny_setField_rec z2 (by simp) fun h3 _ s3=>q h3 e (fun e' u' e1 _ e3 _ r=>s3.extBut _ _ e1 (s2 _ _ e3 (s1.extBut _ _ e1 r))) ⟨u,s3.extBut _ _ ez g,cu⟩
 | some x =>
   have hn:ys[n]? = none:=by rcases hx with r|r;(rw [hm] at r;cases r);exact r
   refine SK.draw (hi.at fun u e=>s1.extBut _ _ D.iz e) (ha.at fun u e=>s1.extBut _ _ D.az e) hm fun h2 i2 s2=>n4_ ?_;have o2:IsPair h2 o c d:=s2.extBut _ _ D.oi (s1.extBut _ _ D.oz ho);refine n0_ (wpAny_seqItems o2 rfl (n0_ (wpAny_updateSeq_pair o2 fun h3 o3 s3=>?_)));refine n0_ (wpAny_letGo (n4_ (n0_ (n0_ (wpAny_onRaise (n0_ (m:=n23_ (.ref j)) ?_))))));refine SK.dry hh (hj.at fun u e=>s3.extBut _ _ D.oj.symm (s2.extBut _ _ D.ij.symm (s1.extBut _ _ D.jz e))) (hb.at fun u e=>s3.extBut _ _ D.bo (s2.extBut _ _ D.bi (s1.extBut _ _ D.bz e))) hn fun h4 e s4 ⟨u,g,cu⟩=>?_;have z4:IsZip h4 z t o .ellipsis:=s4 _ _ D.jz.symm (s3.extBut _ _ D.oz.symm (s2.extBut _ _ D.iz.symm z1));have ez:e≠z:=fun r=>by subst r;rw [z4] at g;cases g;simp at cu
   exact wpAny_setField_rec z4 (by simp) fun h5 _ s5=>q h5 e (fun e' u' e1 e2 e3 e4 r=>s5.extBut _ _ e1 (s4 _ _ e4 (s3.extBut _ _ e2 (s2.extBut _ _ e3 (s1.extBut _ _ e1 r))))) ⟨u,s5.extBut _ _ ez g,cu⟩
theorem Zfm {o i j:Addr} {xs:Array Value} {x y:Value} {Q:Option Value→Shared→Prop} (D:ZP z t o i j a b)
 (hz:IsZip s.heap z t o .none) (ht:IsPair s.heap t (.ref i) (.ref j)) (ho:IsPair s.heap o c d)
 (hi:k.It s.heap i a m) (hj:l.It s.heap j b n) (ha:k.Is s.heap a xs) (hb:l.Is s.heap b ys) (hx:xs[m]? = some x) (hy:ys[n]? = some y)
 (q:∀ h1,IsZip h1 z t o (rawInt s.z)→IsPair h1 o x y→k.It h1 i a (m+1)→l.It h1 j b (n+1)→IsPair h1 s.z x y→h1.objs.size=s.z+1 →
   (∀ e u,e≠z→e≠o→e≠i→e≠j→s.heap.get? e=some u→h1.get? e=some u)→Q (some (.ref s.z)) { s with heap:=h1 }) :
 wpAny (model prog w) A (pyNext (.ref z)) Q E s:=by
 have hT:s.TypeIs (.ref z) "zip" := ⟨_,hz,rfl⟩;unfold pyNext
 exact n0_ (wpAny_attempt (wpAny_callSpecial?_slot (name:=Str.ofString "__next__") hT F.slot_zip_next (wpAny_call_entry F.slot_zip_next hT F.entry_zip_next
  (Zpc D hz ht ho hi hj ha hb hx hy fun h1 r1 r2 r3 r4 r5 r6 r7=>n4_ (q h1 r1 r2 r3 r4 r5 r6 r7)) (F.args_zip_next_1 _))))
theorem Zg7 {o i j:Addr} {xs:Array Value} {Q:Option Value→Shared→Prop} (hh:A.handled=none) (D:ZP z t o i j a b)
 (hz:IsZip s.heap z t o .none) (ht:IsPair s.heap t (.ref i) (.ref j)) (ho:IsPair s.heap o c d)
 (hi:k.It s.heap i a m) (hj:l.It s.heap j b n) (ha:k.Is s.heap a xs) (hb:l.Is s.heap b ys) (hx:xs[m]? = none∨ys[n]? = none)
 (q:∀ h1,(∀ e u,e≠z→e≠o→e≠i→e≠j→s.heap.get? e=some u→h1.get? e=some u)→Q none { s with heap:=h1 }) :
 wpAny (model prog w) A (pyNext (.ref z)) Q E s:=by
 have hT:s.TypeIs (.ref z) "zip" := ⟨_,hz,rfl⟩;unfold pyNext
 refine n0_ (wpAny_attempt (wpAny_callSpecial?_slot (name:=Str.ofString "__next__") hT F.slot_zip_next (wpAny_call_entry F.slot_zip_next hT F.entry_zip_next
  (Zr2 hh D hz ht ho hi hj ha hb hx fun h1 e r1 ⟨u,g,cu⟩=>?_) (F.args_zip_next_1 _))))
 exact n0_ (wpAny_isInstance (T := "StopIteration") (b:=true) ⟨u,g,cu⟩ isSubtype_stop (n4_ (q _ r1)))
abbrev zp1 (k:SK) (h:Heap) (a:Addr):Heap:=h.push (k.obj a)
abbrev zp2 (k l:SK) (h:Heap) (a b:Addr):Heap:=(zp1 k h a).push (l.obj b)
abbrev zp3 (k l:SK) (h:Heap) (a b:Addr):Heap:=(zp2 k l h a b).push { cls:=.type "tuple",data:=.seq #[.ref h.objs.size,.ref (zp1 k h a).objs.size] }
abbrev zp4 (k l:SK) (h:Heap) (a b:Addr):Heap:=(zp3 k l h a b).push { cls:=.type "tuple",data:=.seq #[.none,.none] }
abbrev zp5 (k l:SK) (h:Heap) (a b:Addr):Heap:=(zp4 k l h a b).push { cls:=.type "zip",data:=.fields #[.none,.bool false,.bool false,.ref (zp2 k l h a b).objs.size,.ref (zp3 k l h a b).objs.size] }
theorem Zny (k l:SK) (a b:Addr) (xs ys:Array Value):Meets (Builtin.«zip.__new__» ⟨[.type "zip",.ref a,.ref b],[]⟩) (fun _ R s=>k.Is s.heap a xs∧l.Is s.heap b ys∧R (.ok (.ret (.ref (zp4 k l s.heap a b).objs.size))) { s with heap:=zp5 k l s.heap a b }) :=
 .of_wp fun prog w A R s h=>by
  obtain ⟨hp,g,d,tk,os⟩:=s;obtain ⟨h1,h2,h⟩:=h;have hsub:=sub_zip;have r1:k.Is (Shared.heap ⟨hp,g,d,tk,os⟩) a xs:=h1;have r2:l.Is (Shared.heap ⟨hp.push (k.obj a),g,d,tk,os⟩) b ys:=SK.Is.at h2 fun o e=>n3_ _ e
  wp_walk using SK.iter r1,SK.iter r2
  exact ⟨_,rfl,h⟩
theorem Zkp {xs:Array Value} (ha:k.Is s.heap a xs) (hb:l.Is s.heap b ys)
 (q:∀ h1,IsZip h1 (s.z+4) (s.z+2) (s.z+3) .none→IsPair h1 (s.z+2) (.ref s.z) (.ref (s.z+1)) →
   IsPair h1 (s.z+3) .none .none→k.It h1 s.z a 0→l.It h1 (s.z+1) b 0→h1.objs.size=s.z+5 →
   (∀ c o,s.heap.get? c=some o→h1.get? c=some o)→Q (.ref (s.z+4)) { s with heap:=h1 }) :
 wpAny (model prog w) A (call (.type "zip") [.ref a,.ref b]) Q E s:=by
 refine callType_new F.called_zip (by decide) (F.typeCall_zip_2 _ _) (F.newCall_zip_2 _ _) (fun obj=>F.args_object_init_3 obj _ _) F.entry_zip_new (Zny k l a b xs ys) ⟨ha,hb,?_⟩;have n1:(zp1 k s.heap a).objs.size=s.z+1:=n36_ ..;have n2:(zp2 k l s.heap a b).objs.size=s.z+2:=by rw [n36_,n1]
 have n3:(zp3 k l s.heap a b).objs.size=s.z+3:=by rw [n36_,n2]
 have n4:(zp4 k l s.heap a b).objs.size=s.z+4:=by rw [n36_,n3]
 have n5:(zp5 k l s.heap a b).objs.size=s.z+5:=by rw [n36_,n4]
 have m5:(zp5 k l s.heap a b).get? (zp4 k l s.heap a b).objs.size=some _:=n8_ _ rfl;have m4:(zp5 k l s.heap a b).get? (zp3 k l s.heap a b).objs.size=some _:=n3_ _ (n8_ _ rfl);have m3:(zp5 k l s.heap a b).get? (zp2 k l s.heap a b).objs.size=some _:=n3_ _ (n3_ _ (n8_ _ rfl));have m2:(zp5 k l s.heap a b).get? (zp1 k s.heap a).objs.size=some _:=n3_ _ (n3_ _ (n3_ _ (n8_ _ rfl)));have m1:(zp5 k l s.heap a b).get? s.z=some _:=n3_ _ (n3_ _ (n3_ _ (n3_ _ (n8_ _ rfl))));show _∧_
 rw [n2,n3,n4] at m5;rw [n1,n2] at m3;rw [n3] at m4;rw [n1] at m2;rw [n4];exact ⟨⟨_,m5,rfl⟩,q _ m5 m3 m4 (.of ⟨_,m1,rfl,rfl⟩) (.of ⟨_,m2,rfl,rfl⟩) n5 fun c o e=>n3_ _ (n3_ _ (n3_ _ (n3_ _ (n3_ _ e))))⟩
end
def Itz (k l:SK) (K:PySem.W.Frag) (a b:Addr):It :=
 ⟨fun i H=>∃ xs ys x y,k.Sq K H a xs∧l.Sq K H b ys∧xs[i]? = some x∧ys[i]? = some y,
  fun i H v H'=>∃ p x y,v=.ref p∧H p=none∧H'=upd H p (.tup [x,y])∧(∀ xs,k.Sq K H a xs→xs[i]? = some x)∧∀ ys,l.Sq K H b ys→ys[i]? = some y,
  fun i H=>∃ xs ys,k.Sq K H a xs∧l.Sq K H b ys∧(xs.length≤i∨ys.length≤i)⟩
theorem Zpj {K:PySem.W.Frag} {es:List Expr} {x1:Nat} {tp:Pos} {k l:SK} {o i j:Addr} (D:ZP z t o i j a b) :
 Turn P w K (.Tuple es x1 tp) (Itz k l K a b) [z,t,o,i,j] z (fun n h=>IsZip h z t o .none∧IsPair h t (.ref i) (.ref j)∧(∃ c d,IsPair h o c d)∧k.It h i a n∧l.It h j b n) where
 mem:=by simp
 obj:=fun n h st e he=>by
  obtain ⟨h1,h2,⟨c,d,h3⟩,h4,h5⟩:=st;simp only [n12_,n16_,or_false] at he
  rcases he with rfl|rfl|rfl|rfl|rfl
  · exact ⟨_,h1,fun v q=>by cases (show Data.fields _=Data.cell v from q)⟩
  · exact ⟨_,h2,fun v q=>by cases (show Data.seq _ _=Data.cell v from q)⟩
  · exact ⟨_,h3,fun v q=>by cases (show Data.seq _ _=Data.cell v from q)⟩
  · obtain ⟨u,e,_,q⟩:=h4.ex;exact ⟨u,e,fun v r=>by rw [q] at r;cases r⟩
  · obtain ⟨u,e,_,q⟩:=h5.ex;exact ⟨u,e,fun v r=>by rw [q] at r;cases r⟩
 keep:=fun n h h' st f=>by
  obtain ⟨h1,h2,⟨c,d,h3⟩,h4,h5⟩:=st;exact ⟨f z (by simp) _ h1,f t (by simp) _ h2,⟨c,d,f o (by simp) _ h3⟩,h4.at fun u e=>f i (by simp) u e,h5.at fun u e=>f j (by simp) u e⟩
 item:=by
  intro X hP hw hK hc n pins s σ H E I hf st hg;subst hP hw hK;obtain ⟨h1,h2,⟨c,d,h3⟩,h4,h5⟩:=st;obtain ⟨xs,ys,x,y,q1,q2,hx,hy⟩:=hg;obtain ⟨us,ru,pu⟩:=q1.is I;obtain ⟨vs,rv,pv⟩:=q2.is I;obtain ⟨u,hu,ux⟩:=ru.get hx;obtain ⟨v,hv,vy⟩:=rv.get hy;have lt:∀ {e o'},s.heap.get? e=some o'→e≠s.z:=fun e=>n17_ (n11_ e);refine Zfm D h1 h2 h3 h4 h5 pu pv (x:=u) (y:=v) (by simpa using hu) (by simpa using hv) fun g r1 r2 r3 r4 r5 r6 r7=>?_;refine ⟨_,rfl,wpAny_letOwnedTupleGo_zip r1 fun g2 z2 s2=>?_⟩;have hp:H s.z=none:=I.hok.fresh (n14_ _);have T2:IsPair g2 s.z u v:=s2.extBut _ _ (Ne.symm (lt h1)) r5
  have I2:Inv X pins σ (upd H s.z (.tup [x,y])) { s with heap:=g2,toks:=s.toks }:=by
   refine I.turnNew (ch:=[z,o,i,j]) (fun e o' ne q=>?_) (fun e he=>hf e ?_) (n14_ _) ⟨z2_,[u,v],.cons ux (.cons vy .nil),⟨_,T2,⟨rfl,rfl⟩,_,rfl⟩⟩
   · simp only [n12_,n16_,or_false,not_or] at ne;exact s2.extBut _ _ ne.1 (r7 e o' ne.1 ne.2.1 ne.2.2.1 ne.2.2.2 q)
   · simp only [n12_,n16_,or_false] at he ⊢
     rcases he with q|q|q|q<;>simp [q]
  refine ⟨.ref s.z,_,I2,rfl,⟨_,x,y,rfl,hp,rfl,fun xs' q=>by rw [q.inj q1 I];exact hx,fun ys' q=>by rw [q.inj q2 I];exact hy⟩,⟨z2,?_,⟨u,v,s2.extBut _ _ D.oz r2⟩,r3.at fun u' e=>s2.extBut _ _ D.iz e,r4.at fun u' e=>s2.extBut _ _ D.jz e⟩,fun e he=>?_⟩
  · exact s2.extBut _ _ D.tz (r7 _ _ D.tz D.to D.ti D.tj h2)
  · have ne:e≠s.z:=by
     simp only [n12_,n16_,or_false] at he
     rcases he with rfl|rfl|rfl|rfl|rfl
     · exact lt h1
     · exact lt h2
     · exact lt h3
     · obtain ⟨_,q,_⟩:=h4.ex;exact lt q
     · obtain ⟨_,q,_⟩:=h5.ex;exact lt q
    rw [Zh ne];exact (hf e he).1
 done:=by
  intro X hP hw hK hc n pins s σ H E I hf st hg;subst hP hw hK;obtain ⟨h1,h2,⟨c,d,h3⟩,h4,h5⟩:=st;obtain ⟨xs,ys,q1,q2,hl⟩:=hg;obtain ⟨us,ru,pu⟩:=q1.is I;obtain ⟨vs,rv,pv⟩:=q2.is I;have e1:=ru.length;have e2:=rv.length;refine Zg7 (I.ok.hd hc) D h1 h2 h3 h4 h5 pu pv ?_ fun g r=>⟨rfl,?_⟩
  · rcases hl with q|q
    · left;simp;omega
    · right;simp;omega
  · refine I.turnOnly (t':=s.toks) (ch:=[z,o,i,j]) (fun e o' ne q=>?_) (fun e he=>hf e ?_)
    · simp only [n12_,n16_,or_false,not_or] at ne;exact r e o' ne.1 ne.2.1 ne.2.2.1 ne.2.2.2 q
    · simp only [n12_,n16_,or_false] at he ⊢
      rcases he with q|q|q|q<;>simp [q]
 self:=fun _ _ _ _ _ st h=>wpAny_pyIter_zip st.1 h
theorem Zrn {n:Addr} (la:a<n) (lb:b<n):ZP (n+4) (n+2) (n+3) n (n+1) a b:=by
 constructor<;>(intro h;have h':@Eq Nat _ _:=h;have la':@LT.lt Nat _ _ _:=la;have lb':@LT.lt Nat _ _ _:=lb;clear h la lb;omega)
theorem Zhq:bootBuiltins "zip" = some (.type "zip"):=by decide +kernel
section
variable {X:Cx} {es:List Expr} {x1:Nat} {tp:Pos}
def iZip (k l:SK) (K:PySem.W.Frag) (ta:TA):TI:=fun σ H R=>ta σ H fun vs H1=>∃ a b,vs=[.ref a,.ref b]∧(∃ xs,k.Sq K H1 a xs)∧(∃ ys,l.Sq K H1 b ys)∧R (Itz k l K a b) H1
theorem Inv.fps (I:Inv X pins σ H s) (h:∀ b∈fp,s.z≤b):∀ b∈fp,FpOk X pins H b:=fun b hb=>I.fpOk (h b hb) (I.hok.fresh (h b hb))
theorem Zow (k l:SK) {a b:Expr} {p:Pos} (hg:Gl X "zip") (hm:X.mg "zip" = none) (ha:PA X [a,b] ta) (hs:starEach [a,b] X.env=[(false,eval a X.env),(false,eval b X.env)]:=by rfl) (hs2:starEach [b] X.env=[(false,eval b X.env)]:=by rfl) :
 PI X (.Tuple es x1 tp) (.Call (.Name "zip" p) [a,b] [] pos) (iZip k l X.K ta):=by
 intro pins s σ H R I h;refine Call_ (Zbh I hg hm Zhq (n64_ (thn (ha pos pins s σ H _ I h) fun us s1 ⟨vs,H1,I1,r1,q1⟩=>?_) (by rw [hs,hs2]) (by rw [hs2];rfl)));obtain ⟨a,b,e,⟨xs,hx⟩,⟨ys,hy⟩,q⟩:=q1;subst e;cases r1 with
 | cons r rr =>
   cases rr with
   | cons r' rr =>
     cases rr
     cases r
     cases r'
     obtain ⟨us,ru,pu⟩:=hx.is I1;obtain ⟨ws,rw',pw⟩:=hy.is I1;have la:a<s1.z:=by obtain ⟨_,_,e,_⟩:=pu.ex;exact n11_ e
     have lb:b<s1.z:=by obtain ⟨_,_,e,_⟩:=pw.ex;exact n11_ e
     refine Zkp pu pw fun h1 m1 m2 m3 m4 m5 m6 m7=>wpAny_pyIter_zip m1 ?_;have I2:Inv X pins σ H1 { s1 with heap:=h1,toks:=s1.toks }:=I1.kept m7;refine ⟨_,_,_,_,H1,rfl,I2,Zpj (z:=s1.z+4) (t:=s1.z+2) (o:=s1.z+3) (i:=s1.z) (j:=s1.z+1) (k:=k) (l:=l) (a:=a) (b:=b) ?_,⟨m1,m2,⟨_,_,m3⟩,m4,m5⟩,?_,q⟩
     · exact Zrn la lb
     · have f1:=I1.fps (fp:=[s1.z+4,s1.z+2,s1.z+3,s1.z,s1.z+1]) (by
        intro e he;simp only [n12_,n16_,or_false] at he
        rcases he with rfl|rfl|rfl|rfl|rfl<;>omega)
       exact f1
end
def Ite (k:SK) (K:PySem.W.Frag) (a:Addr):It :=
 ⟨fun i H=>∃ xs x,k.Sq K H a xs∧xs[i]? = some x,
  fun i H v H'=>∃ p x,v=.ref p∧H p=none∧H'=upd H p (.tup [.int i,x])∧∀ xs,k.Sq K H a xs→xs[i]? = some x,
  fun i H=>∃ xs,k.Sq K H a xs∧xs.length=i⟩
theorem SK.draws {k:SK} (hh:A.handled=none) (it a:Addr) (ne:a≠it) (vs:Array Value):Draws prog w A it [it,a] vs.size (fun i v=>vs[i]? = some v) (fun i h=>k.It h it a i∧k.Is h a vs) where
 live:=fun _ _ st=>let ⟨o,e,_⟩:=st.1.ex;⟨o,e⟩
 frame:=fun _ _ _ st f=>⟨st.1.at fun o e=>f it (by simp) o e,st.2.at fun o e=>f a (by simp) o e⟩
 item:=fun i s Q E hi st q=>SK.draw st.1 st.2 (x:=vs[i]) (by simp [hi]) fun h1 r1 r2=>q _ h1 s.toks (by simp [hi]) ⟨r1,st.2.at fun o e=>r2.extBut _ _ ne e⟩ r2
 done:=fun s Q E st q=>SK.dry hh st.1 st.2 (by simp) q
theorem Zn3 {K:PySem.W.Frag} {es:List Expr} {x1:Nat} {tp:Pos} {k:SK} {e:Addr} (n1:e≠it) (n2:a≠e) (n3:a≠it) :
 Turn P w K (.Tuple es x1 tp) (Ite k K a) [e,it] e (fun n h=>(∃ old,IsEnum h e it n old)∧k.It h it a n) where
 mem:=by simp
 obj:=fun n h st b hb=>by
  obtain ⟨⟨old,h1⟩,h2⟩:=st;simp only [n12_,n16_,or_false] at hb
  rcases hb with rfl|rfl
  · exact ⟨_,h1,fun v q=>by cases (show Data.fields _=Data.cell v from q)⟩
  · obtain ⟨u,e,_,q⟩:=h2.ex;exact ⟨u,e,fun v r=>by rw [q] at r;cases r⟩
 keep:=fun n h h' st f=>by
  obtain ⟨⟨old,h1⟩,h2⟩:=st;exact ⟨⟨old,f e (by simp) _ h1⟩,h2.at fun u q=>f it (by simp) u q⟩
 item:=by
  intro X hP hw hK hc n pins s σ H E I hf st hg;subst hP hw hK;obtain ⟨⟨old,h1⟩,h2⟩:=st;obtain ⟨xs,x,q1,hx⟩:=hg;obtain ⟨us,ru,pu⟩:=q1.is I;obtain ⟨u,hu,ux⟩:=ru.get hx;have lt:∀ {b o'},s.heap.get? b=some o'→b≠s.z:=fun e=>n17_ (n11_ e);have hlen:n<us.toArray.size:=by have:=(n9_.mp hu).1;simpa using this
  refine wpAny_pyNext_enum_itemD (SK.draws (k:=k) (show X.A.in1.handled=none from I.ok.hd hc) it a n3 us.toArray) h1 ⟨h2,pu⟩ hlen n1 (by simp [n1,n2.symm]) fun v g tk hv r1 r2 r3 r4 r5=>?_
  have ev:v=u:=by
   have:us[n]? = some v:=by simpa using hv
   rw [hu] at this;exact (Option.some.inj this).symm
  subst ev;refine ⟨_,rfl,wpAny_letOwnedTupleGo_enum r1 fun g2 z2 s2=>?_⟩;have hp:H s.z=none:=I.hok.fresh (n14_ _);have T2:g2.get? s.z=some { cls:=.type "tuple",data:=.seq #[.int n tk,v] }:=s2.extBut _ _ (Ne.symm (lt h1)) r3
  have I2:Inv X pins σ (upd H s.z (.tup [.int n,x])) { s with heap:=g2,toks:=tk+1 }:=by
   refine I.turnNew (ch:=[e,it]) (fun b o' ne q=>?_) (fun b hb=>hf b hb) (n14_ _) ⟨z2_,[.int n tk,v],.cons ⟨tk,rfl⟩ (.cons ux .nil),⟨_,T2,⟨rfl,rfl⟩,_,rfl⟩⟩;simp only [n12_,n16_,or_false,not_or] at ne;exact s2.extBut _ _ ne.1 (r5 b o' ne.1 ne.2 q)
  refine ⟨.ref s.z,_,I2,rfl,⟨_,x,rfl,hp,rfl,fun xs' q=>by rw [q.inj q1 I];exact hx⟩,⟨⟨v,by simpa using z2⟩,r2.1.at fun u' q=>s2.extBut _ _ n1.symm q⟩,fun b hb=>?_⟩
  have ne:b≠s.z:=by
   simp only [n12_,n16_,or_false] at hb
   rcases hb with rfl|rfl
   · exact lt h1
   · obtain ⟨_,q,_⟩:=h2.ex;exact lt q
  rw [Zh ne];exact (hf b hb).1
 done:=by
  intro X hP hw hK hc n pins s σ H E I hf st hg;subst hP hw hK;obtain ⟨⟨old,h1⟩,h2⟩:=st;obtain ⟨xs,q1,hl⟩:=hg;obtain ⟨us,ru,pu⟩:=q1.is I;have e1:=ru.length;have en:us.toArray.size=n:=by rw [n13_];omega
  subst en;have D:=SK.draws (prog:=X.prog) (w:=X.w) (k:=k) (show X.A.in1.handled=none from I.ok.hd hc) it a n3 us.toArray;refine wpAny_pyNext_enum_endD D h1 ⟨h2,pu⟩ fun g r=>⟨rfl,?_⟩;exact I.turnOnly (t':=s.toks) (ch:=[it]) (fun b o' ne q=>r b o' (by simpa using ne) q) (fun b hb=>hf b (by simp at hb;simp [hb]))
 self:=fun _ _ _ _ _ st h=>by obtain ⟨⟨old,h1⟩,_⟩:=st;exact wpAny_pyIter_enum h1 h
open AutoSeq1 (wpAny_loadPart')
abbrev Zac (it:Addr):Obj:={ cls:=.type "enumerate",data:=.fields #[.none,.bool false,.ref it,rawInt 0,.none,.none] }
theorem Zk5 (k:SK) (a:Addr) (vs:Array Value) (o:Obj):Meets (Builtin.«enumerate.__new__» ⟨[.type "enumerate",.ref a],[]⟩) (fun _ R s=>s.heap.get? a=some o∧k.Is s.heap a vs ∧
 R (.ok (.ret (.ref (s.heap.push (k.obj a)).objs.size))) { s with heap:=(s.heap.push (k.obj a)).push (Zac s.z) }) :=
 .of_wp fun prog w A R s h=>by
  obtain ⟨hp,g,d,tk,os⟩:=s;obtain ⟨ho,hk,h⟩:=h;have hsub:=sub_enumerate;have r1:k.Is (Shared.heap ⟨hp,g,d,tk,os⟩) a vs:=hk
  wp_walk using wpAny_loadPart' ho
  refine wpAny_stack_any fun st=>n4_ ?_;split
  · rename_i c _ _ _ _ _
    cases (c == Value.type "enumerate")
    · (wp_walk using wpAny_loadPart' ho,SK.iter r1);exact ⟨_,rfl,h⟩
    · (wp_walk using wpAny_loadPart' ho,SK.iter r1);exact ⟨_,rfl,h⟩
  · (wp_walk using wpAny_loadPart' ho,SK.iter r1);exact ⟨_,rfl,h⟩
section
variable {prog:Program} {w:World} {A:Around} {E:Value→Shared→Prop} {s:Shared} {k:SK}
theorem Znn {vs:Array Value} (ha:k.Is s.heap a vs)
 (q:∀ h1,IsEnum h1 (s.z+1) s.z 0 .none→k.It h1 s.z a 0→(∀ b o,s.heap.get? b=some o→h1.get? b=some o)→Q (.ref (s.z+1)) { s with heap:=h1 }) :
 wpAny (model prog w) A (call (.type "enumerate") [.ref a]) Q E s:=by
 obtain ⟨o,n,e,d⟩:=ha.ex;refine callType_new F.called_enumerate (by decide) (F.typeCall_enumerate_1 _) (F.newCall_enumerate_1 _) (fun obj=>F.args_object_init_2 obj _) F.entry_enumerate_new (Zk5 k a vs o) ⟨e,ha,?_⟩;have n1:(s.heap.push (k.obj a)).objs.size=s.z+1:=n36_ ..;have m2:((s.heap.push (k.obj a)).push (Zac s.z)).get? (s.heap.push (k.obj a)).objs.size=some (Zac s.z):=n8_ _ rfl;have m1:((s.heap.push (k.obj a)).push (Zac s.z)).get? s.z=some (k.obj a):=n3_ _ (n8_ _ rfl);show _∧_
 rw [n1] at m2;rw [n1];exact ⟨⟨_,m2,rfl⟩,q _ m2 (.of ⟨_,m1,rfl,rfl⟩) fun b o' r=>n3_ _ (n3_ _ r)⟩
end
theorem Zee:bootBuiltins "enumerate" = some (.type "enumerate"):=by decide +kernel
section
variable {X:Cx} {es:List Expr} {x1:Nat} {tp:Pos}
def Zwe (k:SK) (K:PySem.W.Frag) (ta:TA):TI:=fun σ H R=>ta σ H fun vs H1=>∃ a,vs=[.ref a]∧(∃ xs,k.Sq K H1 a xs)∧R (Ite k K a) H1
theorem ne3 {n:Addr} (la:a<n):n+1≠n∧a≠n+1∧a≠n:=by
 have la':@LT.lt Nat _ a n:=la;refine ⟨fun h=>?_,fun h=>?_,fun h=>?_⟩<;>(have h':@Eq Nat _ _:=h;clear h la;omega)
theorem Zfn (k:SK) {a:Expr} {p:Pos} (hg:Gl X "enumerate") (hm:X.mg "enumerate" = none) (ha:PA X [a] ta) (hs:starEach [a] X.env=[(false,eval a X.env)]:=by rfl) :
 PI X (.Tuple es x1 tp) (.Call (.Name "enumerate" p) [a] [] pos) (Zwe k X.K ta):=by
 intro pins s σ H R I h;refine Call_ (Zbh I hg hm Zee (n64_ (thn (ha pos pins s σ H _ I h) fun us s1 ⟨vs,H1,I1,r1,q1⟩=>?_) hs rfl));obtain ⟨a,e,⟨xs,hx⟩,q⟩:=q1;subst e;cases r1 with
 | cons r rr =>
   cases rr
   cases r
   obtain ⟨us,ru,pu⟩:=hx.is I1;have la:a<s1.z:=by obtain ⟨_,_,e,_⟩:=pu.ex;exact n11_ e
   refine Znn pu fun h1 m1 m4 m7=>wpAny_pyIter_enum m1 ?_;have I2:Inv X pins σ H1 { s1 with heap:=h1,toks:=s1.toks }:=I1.kept m7;obtain ⟨z1,z2,z3⟩:=ne3 la;refine ⟨_,_,_,_,H1,rfl,I2,Zn3 (e:=s1.z+1) (it:=s1.z) (k:=k) (a:=a) z1 z2 z3,⟨⟨_,m1⟩,m4⟩,?_,q⟩
   exact I1.fps (fp:=[s1.z+1,s1.z]) (by
    intro e he;simp only [n12_,n16_,or_false] at he
    rcases he with rfl|rfl
    · exact Nat.le_succ _
    · exact n14_ _)
end
theorem Zez {J:It} {g:TG} {σ0:St} {Q:VK} (Pv:Nat→St→Hp→Prop) (h0:Pv 0 σ0 (upd H D (.lst [])))
 (hx:∀ i σ H,i<n→Pv i σ H→J.go i H) (hz:∀ σ H,Pv n σ H→J.stop n H)
 (hs:∀ i x σ2 H2 H3,i<n→J.yld i H2 x H3→Pv i σ2 H2→g x σ2 H3 fun σ4 H4=>tt σ4 H4 fun b H5=>if b=true then te σ4 H5 fun y H6=>∃ ys,H6 D=some (.lst ys)∧ys.length<sizeLine ∧
   ∃ m',m'<n-i∧LcN n Pv (i+1) m' σ4 (upd H6 D (.lst (ys++[y]))) else ∃ m',m'<n-i∧LcN n Pv (i+1) m' σ4 H5)
 (hd:∀ σ2 H2,Pv n σ2 H2→Q (.ref D) H2):LcGo J g tt te σ0 H D Q:=by
 refine ⟨LcN n Pv,⟨_,n55_ _,rfl,h0⟩,?_⟩;rintro i m σ2 H2 ⟨hi,rfl,p⟩
 by_cases hlt:i<n
 · exact .inr ⟨hx i σ2 H2 hlt p,fun x H3 y=>hs i x σ2 H2 H3 hlt y p⟩
 · have e:i=n:=by omega
   subst e;exact .inl ⟨hz σ2 H2 p,hd σ2 H2 p⟩
theorem Zb0 {J:It} {g:TG} {tb:TS} {D:Ends} (Pv:Nat→St→Hp→Prop) (h0:Pv 0 σ H)
 (hx:∀ i σ H,i<n→Pv i σ H→J.go i H) (hz:∀ σ H,Pv n σ H→J.stop n H)
 (hs:∀ i x σ H H',i<n→J.yld i H x H'→Pv i σ H→g x σ H' fun σ2 H2=>tb { D with nx:=Pv (i+1),ct:=Pv (i+1),bk:=D.nx } σ2 H2) (hd:∀ σ H,Pv n σ H→D.nx σ H) :
 ∃ W:Nat→Nat→St→Hp→Prop,(∃ m,W 0 m σ H)∧∀ i m σ H,W i m σ H →
   (J.stop i H∧D.nx σ H)∨(J.go i H∧∃ N:St→Hp→Prop,(∀ σ' H',N σ' H'→∃ m',m'<m∧W (i+1) m' σ' H')∧∀ x H',J.yld i H x H'→g x σ H' fun σ2 H2=>tb { D with nx:=N,ct:=N,bk:=D.nx } σ2 H2):=by
 refine ⟨fun i m σ H=>m=n-i∧i≤n∧Pv i σ H,⟨n,by simp,n55_ _,h0⟩,?_⟩;rintro i m σ H ⟨rfl,hi,p⟩
 by_cases hlt:i<n
 · exact .inr ⟨hx i σ H hlt p,Pv (i+1),fun σ' H' p'=>⟨n-(i+1),by omega,rfl,hlt,p'⟩,fun x H' y=>hs i x σ H H' hlt y p⟩
 · have e:i=n:=by omega
   subst e;exact .inl ⟨hz σ H p,hd σ H p⟩
end L2
namespace STb
open PySem
def step (M:Nat) (q:Nat×Nat):Nat×Nat:=SetTable.leap M q.1 q.2
def nth (M:Nat):Nat→Nat×Nat→Nat×Nat
 | 0,q=>q
 | n+1,q=>nth M n (step M q)
theorem Zpg (M n:Nat) (q:Nat×Nat):nth M (n+1) q=step M (nth M n q):=by
 induction n generalizing q with
 | zero=>rfl
 | succ n ih=>exact ih (step M q)
theorem Ztb (M a b:Nat) (q:Nat×Nat):nth M (a+b) q=nth M b (nth M a q):=by
 induction a generalizing q with
 | zero=>rw [Nat.zero_add];rfl
 | succ a ih=>rw [Nat.succ_add];exact ih (step M q)
theorem Zsj (M n:Nat) (q:Nat×Nat):(nth M n q).2=q.2/32^n:=by
 induction n generalizing q with
 | zero=>simp [nth]
 | succ n ih =>
   show (nth M n (step M q)).2=_
   rw [ih];show q.2/32/32^n=_
   rw [Nat.div_div_eq_div_mul,Nat.pow_succ,Nat.mul_comm]
def fz (M:Nat) (i:Nat):Nat:=(i*5+1) % (M+1)
def fzn (M:Nat):Nat→Nat→Nat
 | 0,i=>i
 | n+1,i=>fzn M n (fz M i)
theorem Zvg (M n:Nat) (i:Nat):nth M n (i,0)=(fzn M n i,0):=by
 induction n generalizing i with
 | zero=>rfl
 | succ n ih =>
   show nth M n (step M (i,0))=_
   have e:step M (i,0)=(fz M i,0):=by
    unfold step SetTable.leap fz
    simp
   rw [e,ih];rfl
def masks (M:Nat):Prop:=M=7∨M=31∨M=127
def orb (M:Nat):List Nat:=(List.range (M+1)).map fun n=>fzn M n 0
theorem Zjn (M a b i:Nat):fzn M (a+b) i=fzn M b (fzn M a i):=by
 induction a generalizing i with
 | zero=>rw [Nat.zero_add];rfl
 | succ a ih=>rw [Nat.succ_add];exact ih (fz M i)
def good (M:Nat):Bool:=(List.range (M+1)).all (fun j=>(orb M).contains j)&&fzn M (M+1) 0 == 0
theorem Zv6:good 7=true:=by decide +kernel
theorem Zt2:good 31=true:=by decide +kernel
theorem Zr3:good 127=true:=by decide +kernel
theorem Ztt {M:Nat} (h:masks M):good M=true:=by
 rcases h with rfl|rfl|rfl
 · exact Zv6
 · exact Zt2
 · exact Zr3
theorem Zwl {M i j:Nat} (h:masks M) (hi:i≤M) (hj:j≤M):∃ n,n≤M∧fzn M n i=j:=by
 have g:=Ztt h;unfold good at g;rw [n47_,n61_] at g;obtain ⟨g1,g2⟩:=g;have g2':fzn M (M+1) 0=0:=by simpa using g2
 have mem:∀ j,j≤M→∃ a,a≤M∧fzn M a 0=j:=fun j hj=>by
  have:=g1 j (by simpa using Nat.lt_succ_of_le hj)
  have:j∈orb M:=by simpa using this
  unfold orb at this;obtain ⟨a,ha,e⟩:=n18_.mp this;exact ⟨a,Nat.le_of_lt_succ (n24_.mp ha),e⟩
 obtain ⟨a,ha,ea⟩:=mem i hi;obtain ⟨b,hb,eb⟩:=mem j hj
 by_cases hab:a≤b
 · refine ⟨b-a,by omega,?_⟩;rw [← ea,← Zjn,show a+(b-a)=b by omega];exact eb
 · refine ⟨M+1-a+b,by omega,?_⟩;rw [← ea,← Zjn,show a+(M+1-a+b)=(M+1)+b by omega,Zjn,g2'];exact eb
theorem Zr1 (M:Nat) (q:Nat×Nat):(step M q).1≤M:=Nat.le_of_lt_succ (Nat.mod_lt _ (Nat.succ_pos _))
theorem Zui {M n:Nat} {q:Nat×Nat} (h:q.1≤M):(nth M n q).1≤M:=by
 cases n with
 | zero=>exact h
 | succ n=>rw [Zpg];exact Zr1 M _
theorem Zuo {M i p j:Nat} (h:masks M) (hi:i≤M) (hp:p<2^64) (hj:j≤M):∃ n,n≤M+13∧(nth M n (i,p)).1=j:=by
 have z:(nth M 13 (i,p)).2=0:=by
  rw [Zsj];refine Nat.div_eq_of_lt (n25_ hp ?_);decide
 have e:nth M 13 (i,p)=((nth M 13 (i,p)).1,0):=by rw [← z]
 obtain ⟨n,hn,en⟩:=Zwl h (Zui (n:=13) (q:=(i,p)) hi) hj;refine ⟨13+n,by omega,?_⟩;rw [Ztb,e,Zvg];exact en
theorem Zop (h:Int):SetTable.bits h<2^64:=by
 unfold SetTable.bits;have h1:(0:Int)≤h % 2^64:=Int.emod_nonneg _ (by decide);have h2:h % 2^64<2^64:=Int.emod_lt_of_pos _ (by decide);omega
theorem Zk8 {t:SetTable} {j:Nat} (hd:t.dummies=#[]) (hj:j∉t.place.toList):t.slot j=.empty:=by
 unfold SetTable.slot
 have h1:(t.place[SetTable.below t.place j]? == some j)=false:=by
  rw [beq_eq_false_iff_ne];intro e;exact hj (by simpa using Array.mem_of_getElem? e)
 have h2:SetTable.has t.dummies j=false:=by
  rw [hd];unfold SetTable.has
  simp
 simp only [h1,h2];rfl
theorem Zb8 {t:SetTable} {j:Nat} (hd:t.dummies=#[]):t.slot j=.empty∨∃ i,t.slot j=.live i∧t.place[i]? = some j:=by
 by_cases h:t.place[SetTable.below t.place j]? = some j
 · refine .inr ⟨_,?_,h⟩;unfold SetTable.slot;simp only [h,beq_self_eq_true,if_true]
 · left
   have h1:(t.place[SetTable.below t.place j]? == some j)=false:=beq_eq_false_iff_ne.mpr h
   have h2:SetTable.has t.dummies j=false:=by
    rw [hd];unfold SetTable.has
    simp
   unfold SetTable.slot;simp only [h1,h2];rfl
theorem Zjc (l:List Nat) (n:Nat) (h:l.length<n):∃ j,j<n∧j∉l:=by
 induction n generalizing l with
 | zero=>omega
 | succ n ih =>
   by_cases hm:n∈l
   · obtain ⟨j,hj,hl⟩:=ih (l.filter (·≠n)) (by
      have:(l.filter (·≠n)).length<l.length:=by
       refine List.length_filter_lt_length_iff_exists.mpr ⟨n,hm,by simp⟩
      omega)
     refine ⟨j,by omega,fun z=>hl ?_⟩;rw [n71_];exact ⟨z,by simp;omega⟩
   · exact ⟨n,n68_ n,hm⟩
def adv (t:SetTable):Nat→SetTable.Probe→SetTable.Probe
 | 0,p=>p
 | n+1,p=>adv t n (t.advance p)
theorem Zfz (t:SetTable) (a b:Nat) (p:SetTable.Probe):adv t (a+b) p=adv t b (adv t a p):=by
 induction a generalizing p with
 | zero=>rw [Nat.zero_add];rfl
 | succ a ih=>rw [Nat.succ_add];exact ih (t.advance p)
def start (t:SetTable) (q:Nat×Nat) (d:Option Nat):SetTable.Probe:={ j:=q.1,more:=SetTable.runEnd t.mask q.1-q.1,i:=q.1,perturb:=q.2,dummy:=d }
theorem Zqx (M i:Nat):SetTable.runEnd M i-i≤9:=by
 unfold SetTable.runEnd;split<;>omega
theorem Ziy (t:SetTable):∀ (k:Nat) (p:SetTable.Probe),p.more=k→adv t (k+1) p=start t (step t.mask (p.i,p.perturb)) p.dummy
 | 0,p,h=>by
   show t.advance p=_
   unfold SetTable.advance;rw [if_neg (by omega)];rfl
 | k+1,p,h=>by
   show adv t (k+1) (t.advance p)=_
   have e:t.advance p={ p with j:=p.j+1,more:=p.more-1 }:=by
    unfold SetTable.advance;rw [if_pos (by omega)]
   rw [e]
   have:=Ziy t k { p with j:=p.j+1,more:=p.more-1 } (by show p.more-1=k;omega)
   rw [this]
theorem Znx (t:SetTable) (n:Nat) (q:Nat×Nat) (d:Option Nat):∃ m,m≤10*n∧adv t m (start t q d)=start t (nth t.mask n q) d:=by
 induction n generalizing q with
 | zero=>exact ⟨0,n14_ _,rfl⟩
 | succ n ih =>
   obtain ⟨m,hm,e⟩:=ih (step t.mask q);refine ⟨(SetTable.runEnd t.mask q.1-q.1)+1+m,?_,?_⟩
   · have:=Zqx t.mask q.1;omega
   · rw [Zfz,Ziy t (SetTable.runEnd t.mask q.1-q.1) (start t q d) rfl];exact e
def Near (t:SetTable) (n:Nat) (p:SetTable.Probe):Prop:=∃ m,m≤n∧t.slot (adv t m p).j=.empty
theorem near_start {t:SetTable} {h:Int} (hm:masks t.mask) (hd:t.dummies=#[]) (hl:t.place.size<t.mask+1):Near t (10*(t.mask+13)) (t.probeStart h):=by
 obtain ⟨j,hj,hn⟩:=Zjc t.place.toList (t.mask+1) (by simpa using hl);have hi:SetTable.bits h % (t.mask+1)≤t.mask:=Nat.le_of_lt_succ (Nat.mod_lt _ (Nat.succ_pos _));obtain ⟨n,hn2,e⟩:=Zuo hm hi (Zop h) (Nat.le_of_lt_succ hj);obtain ⟨m,hm2,e2⟩:=Znx t n (SetTable.bits h % (t.mask+1),SetTable.bits h) none;refine ⟨m,by omega,?_⟩
 have:t.probeStart h=start t (SetTable.bits h % (t.mask+1),SetTable.bits h) none:=rfl
 rw [this,e2];show t.slot (nth t.mask n _).1=.empty
 rw [e];exact Zk8 hd hn
theorem Zdm (t:SetTable):∀ (n:Nat) (p:SetTable.Probe),(adv t n p).dummy=p.dummy
 | 0,_=>rfl
 | n+1,p=>by
   show (adv t n (t.advance p)).dummy=_
   rw [Zdm t n];unfold SetTable.advance;split<;>rfl
theorem Zl5 {t:SetTable} {f:Nat→Int} {h:Int} (hd:t.dummies=#[]):∀ (n:Nat) (fuel:Nat) (p:SetTable.Probe),p.dummy=none→Near t n p→n<fuel →
 (∃ j,SetTable.probe.go t f h fuel p=some (.empty j none)∧t.slot j=.empty) ∨
 (∃ j i q,SetTable.probe.go t f h fuel p=some (.candidate j i q)∧t.slot j=.live i∧t.place[i]? = some j∧q.dummy=none∧∃ n',n'<n∧Near t n' q)
 | n,0,p,_,_,hf=>by omega
 | n,fuel+1,p,hp,⟨m,hm,e⟩,hf=>by
   rcases Zb8 (j:=p.j) hd with hs|⟨i,hs,hi⟩
   · left
     refine ⟨p.j,?_,hs⟩;unfold SetTable.probe.go;rw [hs,hp]
   · have hm0:m≠0:=by
      rintro rfl
      have:t.slot p.j=.empty:=e
      rw [hs] at this;cases this
     obtain ⟨k,rfl⟩:∃ k,m=k+1:=⟨m-1,by omega⟩;have e':t.slot (adv t k (t.advance p)).j=.empty:=e
     have hp':(t.advance p).dummy=none:=by
      have:=Zdm t 1 p
      exact this.trans hp
     by_cases hc:(f i == h)=true
     · right
       refine ⟨p.j,i,t.advance p,?_,hs,hi,hp',n-1,by omega,k,by omega,e'⟩;unfold SetTable.probe.go;rw [hs];simp only [hc,if_true]
     · have:=Zl5 (f:=f) (h:=h) hd (n-1) fuel (t.advance p) hp' ⟨k,by omega,e'⟩ (by omega)
       have eq:SetTable.probe.go t f h (fuel+1) p=SetTable.probe.go t f h fuel (t.advance p):=by
        conv=>lhs;unfold SetTable.probe.go
        rw [hs];simp only [hc,if_false];rfl
       rw [eq]
       rcases this with r|⟨j,i',q,r1,r2,r3,r4,n',r5,r6⟩
       · exact .inl r
       · exact .inr ⟨j,i',q,r1,r2,r3,r4,n',by omega,r6⟩
theorem Zg0 {M:Nat} {owner:Array (Option Nat)}:∀ (n fuel:Nat) (q:Nat×Nat),(∃ m,m≤n∧(owner.getD (nth M m q).1 (some 0)).isNone=true)→n<fuel →
 ∃ j,SetTable.layClean.free M owner fuel q.1 q.2=some j∧(owner.getD j (some 0)).isNone=true
 | n,0,_,_,hf=>by omega
 | n,fuel+1,q,⟨m,hm,e⟩,hf=>by
   unfold SetTable.layClean.free;cases hfi:(List.range (SetTable.runEnd M q.1+1-q.1)).find? fun k=>(owner.getD (q.1+k) (some 0)).isNone with
   | some k =>
     refine ⟨q.1+k,rfl,?_⟩;exact (List.find?_some (p:=fun k=>(owner.getD (q.1+k) (some 0)).isNone) hfi)
   | none =>
     have hm0:m≠0:=by
      rintro rfl
      have e0:(owner.getD q.1 (some 0)).isNone=true:=e
      have:=List.find?_eq_none.mp hfi 0 (by
       rw [n24_];unfold SetTable.runEnd;split<;>omega)
      rw [Nat.add_zero] at this;exact this e0
     obtain ⟨k,rfl⟩:∃ k,m=k+1:=⟨m-1,by omega⟩;exact Zg0 (n-1) fuel (step M q) ⟨k,by omega,e⟩ (by omega)
def cnt (owner:Array (Option Nat)):Nat:=owner.toList.countP (·.isSome)
structure Own (M n:Nat) (owner:Array (Option Nat)):Prop where
 size:owner.size=M+1
 cnt:cnt owner=n
 lt:∀ (j k:Nat),owner[j]? = some (some k)→k<n
theorem Zak {α:Type} (p:α→Bool):∀ (l:List α),l.countP p<l.length→∃ (j:Nat) (x:α),l[j]? = some x∧p x=false
 | [],h=>by simp at h
 | x :: l,h=>by
   by_cases hx:p x=true
   · rw [List.countP_cons,if_pos hx,n26_] at h;obtain ⟨j,y,e,hy⟩:=Zak p l (by omega);exact ⟨j+1,y,by simpa using e,hy⟩
   · exact ⟨0,x,rfl,by simpa using hx⟩
theorem Zem {α:Type} (p:α→Bool):∀ (l:List α) (j:Nat) (x y:α),l[j]? = some x→p x=false→p y=true→(l.set j y).countP p=l.countP p+1
 | [],j,x,y,h,_,_=>by simp at h
 | z :: l,0,x,y,h,hx,hy=>by
   have:z=x:=by simpa using h
   subst this;simp [List.countP_cons,hx,hy]
 | z :: l,j+1,x,y,h,hx,hy=>by
   have:=Zem p l j x y (by simpa using h) hx hy
   simp only [List.set_cons_succ,List.countP_cons,this];omega
theorem Own.free {M n:Nat} {owner:Array (Option Nat)} (o:Own M n owner) (hm:masks M) (hn:n<M+1) (h:Int):∃ j,SetTable.layClean.free M owner (SetTable.turns M) (SetTable.bits h % (M+1)) (SetTable.bits h)=some j∧owner[j]? = some none:=by
 obtain ⟨j,x,e,hx⟩:=Zak (fun x:Option Nat=>x.isSome) owner.toList (by
  have:owner.toList.countP (fun x:Option Nat=>x.isSome)=n:=o.cnt
  rw [this,Array.length_toList,o.size];exact hn)
 have hj:j≤M:=by
  have:=(n9_.mp e).1
  rw [Array.length_toList,o.size] at this;omega
 have e':owner[j]? = some x:=by simpa using e
 obtain ⟨m,hm2,em⟩:=Zuo hm (Nat.le_of_lt_succ (Nat.mod_lt (SetTable.bits h) (Nat.succ_pos M))) (Zop h) hj
 obtain ⟨j',r1,r2⟩:=Zg0 (M:=M) (owner:=owner) (M+13) (SetTable.turns M) (SetTable.bits h % (M+1),SetTable.bits h) ⟨m,hm2,by
  rw [em,Array.getD_eq_getD_getElem?,e'];cases x with
  | none=>rfl
  | some _=>cases hx⟩ (by unfold SetTable.turns;omega)
 refine ⟨j',r1,?_⟩;rw [Array.getD_eq_getD_getElem?] at r2;cases q:owner[j']? with
 | none=>rw [q] at r2;cases r2
 | some y =>
   rw [q] at r2;cases y with
   | none=>rfl
   | some _=>cases r2
theorem Own.put {M n:Nat} {owner:Array (Option Nat)} (o:Own M n owner) {j:Nat} (hj:owner[j]? = some none):Own M (n+1) (owner.setIfInBounds j (some n)) where
 size:=by rw [Array.size_setIfInBounds];exact o.size
 cnt:=by
  unfold STb.cnt;rw [Array.toList_setIfInBounds];rw [Zem (fun x:Option Nat=>x.isSome) owner.toList j none (some n) (by simpa using hj) rfl rfl]
  have:owner.toList.countP (fun x:Option Nat=>x.isSome)=n:=o.cnt
  rw [this]
 lt:=fun i k e=>by
  rw [Array.getElem?_setIfInBounds] at e;split at e
  · split at e
    · have:n=k:=by simpa using e
      omega
    · cases e
  · have:=o.lt i k e;omega
def Y4 (M:Nat) (acc:Option (Array (Option Nat)×Nat)) (h:Int):Option (Array (Option Nat)×Nat):=do
 let (owner,k) ← acc
 let j ← SetTable.layClean.free M owner (SetTable.turns M) (SetTable.bits h % (M+1)) (SetTable.bits h)
 pure (owner.setIfInBounds j (some k),k+1)
theorem Zf6 {M:Nat} (hm:masks M):∀ (hs:List Int) (n:Nat) (owner:Array (Option Nat)),Own M n owner→n+hs.length<M+1→∃ owner',hs.foldl (Y4 M) (some (owner,n))=some (owner',n+hs.length)∧Own M (n+hs.length) owner'
 | [],n,owner,o,_=>⟨owner,rfl,o⟩
 | h :: hs,n,owner,o,hl=>by
   rw [n26_] at hl;obtain ⟨j,r1,r2⟩:=o.free hm (by omega) h
   have e:Y4 M (some (owner,n)) h=some (owner.setIfInBounds j (some n),n+1):=by
    unfold Y4;show (SetTable.layClean.free M owner (SetTable.turns M) (SetTable.bits h % (M+1)) (SetTable.bits h)).bind _=_
    rw [r1];rfl
   obtain ⟨owner',e2,o2⟩:=Zf6 hm hs (n+1) _ (o.put r2) (by omega);refine ⟨owner',?_,?_⟩
   · rw [n67_,e,e2,n26_];congr 2;omega
   · rw [n26_,show n+(hs.length+1)=n+1+hs.length by omega];exact o2
theorem own0 (M:Nat):Own M 0 (Array.replicate (M+1) none) where
 size:=by simp
 cnt:=by
  unfold STb.cnt;rw [Array.toList_replicate,List.countP_replicate];rfl
 lt:=fun j k e=>by
  rw [Array.getElem?_replicate] at e;split at e<;>cases e
theorem Zi9 {M:Nat} (hm:masks M) (hs:Array Int) (hl:hs.size<M+1):∃ owner,SetTable.layClean M hs=some owner∧Own M hs.size owner:=by
 obtain ⟨owner,e,o⟩:=Zf6 hm hs.toList 0 _ (own0 M) (by simpa using hl);refine ⟨owner,?_,by simpa using o⟩;unfold SetTable.layClean;rw [← Array.foldl_toList]
 have:(hs.toList.foldl (Y4 M) (some (Array.replicate (M+1) none,0)))=some (owner,0+hs.toList.length):=e
 show (List.foldl (Y4 M) (some (Array.replicate (M+1) none,0)) hs.toList).map (·.1)=some owner
 rw [this];rfl
theorem Xi {α β:Type} (f:α→Option β):∀ l:List α,(l.filterMap f).length=l.countP (fun x=>(f x).isSome)
 | []=>rfl
 | x :: l=>by
   rw [List.countP_cons];cases h:f x with
   | none=>rw [List.filterMap_cons_none h,Xi f l];simp
   | some y=>rw [List.filterMap_cons_some h,n26_,Xi f l];simp
theorem Zpp {M n:Nat} {owner:Array (Option Nat)} (o:Own M n owner):((List.range (M+1)).filterMap fun j=>(owner.getD j none).map (j,·)).length=n:=by
 rw [Xi]
 have e:(List.range (M+1)).countP (fun j=>((owner.getD j none).map (j,·)).isSome)=(List.range owner.size).countP (fun j=>(owner.getD j none).isSome):=by
  rw [o.size];refine List.countP_congr fun j _=>?_;cases owner.getD j none<;>simp
 rw [e]
 have e2:owner.toList=(List.range owner.size).map (fun j=>owner.getD j none):=by
  refine n46_ (by simp) fun i h1 h2=>?_;have hi:i<owner.size:=by simpa using h1
  simp [Array.getD,hi]
 have:=o.cnt
 unfold STb.cnt at this;rw [e2,List.countP_map] at this;exact this
theorem pick_size {α:Type} {es:Array α} {order:Array Nat} (h1:order.size=es.size) (h2:∀ k∈order.toList,k<es.size):(order.filterMap (es[·]?)).size=es.size∧∀ x∈(order.filterMap (es[·]?)).toList,x∈es.toList:=by
 constructor
 · rw [← Array.length_toList,Array.toList_filterMap,Xi,← h1,← Array.length_toList];rw [List.countP_eq_length];intro k hk
   have:k<es.size:=h2 k hk
   simp [this]
 · intro x hx;rw [Array.toList_filterMap] at hx;obtain ⟨k,_,e⟩:=List.mem_filterMap.mp hx;exact by simpa using Array.mem_of_getElem? e
theorem insertAt_size {α:Type} (xs:Array α) (p:Nat) (x:α):(SetTable.insertAt xs p x).size=xs.size+1:=by
 unfold SetTable.insertAt;simp only [Array.size_append,Array.size_push,Array.size_extract];omega
end STb
namespace L2
open PySem PySem.Spec PyProof.Rows
variable {a it l:Addr} {items:Array Value} {X:Cx} {env:Env} {elt:Expr} {H2:Hp} {pins:List (Addr×Obj)} {fr:List (Option Nat)} {cl:List (Str×Addr)} {fp:List Addr} {N:List Str} {k n:Nat} {pos:Pos} {prog:Program} {scope:Scope} {s3:Shared} {σ:St} {ta:TA} {te:TE} {wi:TI} {w:World}
section
variable {prog:Program} {w:World} {A:Around} {E:Value→Shared→Prop} {s:Shared} {K:Type} [DecidableEq K] {knd:KeyKind prog w K}
theorem Zdo {ks:List K} {Q:Bool→Shared→Prop} (hk:IsTupleKey knd s.heap ks a) (h:Q false s):wpAny (model prog w) A (ofAClassStatement (n+1) (.ref a)) Q E s:=by
 have hT:=hk.typeIs;obtain ⟨o,items,m,ho,_,hd,hi⟩:=hk;unfold ofAClassStatement;refine n0_ (wpAny_typeOf hT ?_);simp only [beq_self_eq_true,if_true];refine n0_ (n4_ ?_);simp only [Bool.not_true,n15_,if_false];refine n0_ (wpAny_seqItems ho hd ?_);refine n0_ ?_;show wpAny _ _ (forIn items _ _) _ _ s
 rw [← Array.forIn_toList];refine wpAny_forIn_list _ (fun rest r s'=>r.1=none∧s'=s∧∀ v∈rest,carriedByValue v=true) _ ?_ ?_ _ _ ⟨rfl,rfl,hi.byValue⟩
 · rintro v rest r s' ⟨hr,rfl,hall⟩
   have hv:=hall v n27_
   have e:ofAClassStatement n v=pure false:=by
    cases v<;>first|(unfold ofAClassStatement;rfl)|(cases hv)
   rw [e];refine n0_ (n4_ ?_);simp only [n15_,if_false];exact n4_ ⟨rfl,rfl,fun u hu'=>hall u (n19_ _ hu')⟩
 · rintro ⟨r1,r2⟩ s' ⟨hr,rfl,_⟩
   simp only at hr;subst hr;exact n4_ h
theorem Zue {k:List K} {Q:Bool→Shared→Prop} (hk:IsTupleKey knd s.heap k a) (l:List Value) (hl:∀ y∈l,∃ b k',y=.ref b∧IsTupleKey knd s.heap k' b) (h:Q false s) :
 wpAny (model prog w) A (searchCouldBeSeen (.ref a) l) Q E s:=by
 unfold searchCouldBeSeen;refine n0_ ?_;refine wpAny_forIn_list _ (fun rest r s'=>r.1=none∧s'=s∧∀ y∈rest,∃ b k',y=.ref b∧IsTupleKey knd s.heap k' b) _ ?_ ?_ _ _ ⟨rfl,rfl,hl⟩
 · rintro y rest r s' ⟨hr,rfl,hall⟩
   obtain ⟨b,k',rfl,hb⟩:=hall y n27_;have rest':∀ y∈rest,∃ b k',y=.ref b∧IsTupleKey knd s'.heap k' b:=fun u hu=>hall u (n19_ _ hu);dsimp only;split
   · exact n4_ ⟨rfl,rfl,rest'⟩
   · refine n0_ (wpAny_eqIsQuiet_tuple hk ?_);simp only [Bool.not_true,n15_,if_false];refine n0_ (wpAny_eqIsQuiet_tuple hb ?_);simp only [Bool.not_true,n15_,if_false];refine n0_ (Zdo hk ?_);simp only [n15_,if_false];refine n0_ (Zdo hb ?_);simp only [n15_,if_false];exact n4_ ⟨rfl,rfl,rest'⟩
 · rintro ⟨r1,r2⟩ s' ⟨hr,rfl,_⟩
   simp only at hr;subst hr;exact n4_ h
end
section
variable {prog:Program} {w:World} {A:Around} {E:Value→Shared→Prop} {s:Shared} {K:Type} [DecidableEq K] {knd:KeyKind prog w K}
theorem Ztn {M:Nat} (hn:n≤30) (hm:STb.masks M) (h:n*5 ≥ M*3) (h2:(n-1)*5<M*3):STb.masks (SetTable.sizeAbove (SetTable.grown n)-1)∧n<SetTable.sizeAbove (SetTable.grown n)-1+1∧n*5<(SetTable.sizeAbove (SetTable.grown n)-1)*3∧¬ SetTable.sizeAbove (SetTable.grown n)>sizeLine:=by
 rcases hm with rfl|rfl|rfl
 · have:n=5:=by omega
   subst this;exact ⟨.inr (.inl (by decide +kernel)),by decide +kernel,by decide +kernel,by decide +kernel⟩
 · have:n=19:=by omega
   subst this;exact ⟨.inr (.inr (by decide +kernel)),by decide +kernel,by decide +kernel,by decide +kernel⟩
 · omega
theorem Zhn (t:SetTable) (j:Nat):(t.put j).1.place.size=t.place.size+1∧(t.dummies=#[]→(t.put j).1.dummies=#[])∧(t.put j).1.mask=t.mask:=by
 unfold SetTable.put;refine ⟨STb.insertAt_size _ _ _,fun hd=>?_,rfl⟩
 have h2:SetTable.has t.dummies j=false:=by
  rw [hd];unfold SetTable.has
  simp
 simp only [h2];exact hd
end
section
variable {X:Cx}
theorem items_int:∀ {ns:List Int} {us:List Value},Vals (ns.map V.int) us→ItemsAre (PySem.intKind prog w) ns us
 | [],_,.nil=>.nil
 | n :: ns,_,.cons r rs=>by
   obtain ⟨t,rfl⟩:=r;exact .cons (intKind_is _ _ _ _) (items_int rs)
theorem Zen:∀ (bs:List Bool),((List.range bs.length).any fun i=>(bs[i]?).getD true)=bs.any id
 | []=>rfl
 | b :: bs=>by
   rw [n26_,List.range_succ_eq_map,List.any_cons,List.any_map,List.any_cons,← Zen bs];rfl
theorem Zl6 (hc:X.calm=true):Yy X (.builtin "any") (fun xs H Q=>∃ (p:Addr) (bs:List Bool),xs=[.ref p]∧SqL X.K H p (bs.map V.bl)∧Q (.bl (bs.any id)) H):=by
 intro pins s σ H xs us Q I r h;obtain ⟨p,bs,rfl,hq,q⟩:=h;cases r with
 | cons rx r =>
   cases r
   cases (show _=Value.ref p from rx)
   obtain ⟨its,rv,pl,hz⟩:=I.list hq;have hl:=pl.isList;have hlt:p<s.z:=by obtain ⟨_,e,_⟩:=hl;exact n11_ e
   have hh:X.A.handled=none:=I.ok.hd hc;refine call_any_walk (wpAny_pyIter_list hl ⟨s.z,[s.z,p],[s.z],its.toArray.size,_,_,fun i=>(bs[i]?).getD true,rfl,Walks.list (A:=X.A.in1) hh _ p (n17_ hlt) its.toArray,⟨⟨_,n8_ _ rfl,rfl,rfl⟩,hl.push _⟩,fun i v s' Q' E' hP hQ=>?_,fun h' tk hk=>?_⟩)
   · obtain ⟨b,e,rfl⟩:=Zcc rv (show its[i]? = some v by simpa using hP);simp only [e,Option.getD_some] at hQ;exact wpAny_truthy_bool hQ
   · have e:((List.range its.toArray.size).any fun i=>(bs[i]?).getD true)=bs.any id:=by
      rw [n13_,← rv.length,n5_];exact Zen bs
     rw [e];exact ⟨.bl _,H,I.kept (Zin hk),rfl,q⟩
theorem Zhm:∀ {ns:List Int} {us:List Value} {i:Nat} {v:Value},Vals (ns.map V.int) us→us[i]? = some v→∃ t,v=.int (ns.getD i 0) t
 | [],_,i,v,.nil,e=>by simp at e
 | n :: ns,_,0,v,.cons r t,e=>by
   obtain ⟨k,rfl⟩:=r
   have:v=.int n k:=by simpa using e.symm
   exact ⟨k,this⟩
 | n :: ns,_,i+1,v,.cons r t,e=>by
   obtain ⟨k,h⟩:=Zhm t (by simpa using e);exact ⟨k,by simpa using h⟩
theorem Ze3:∀ (ns:List Int) (acc:List Int),preSum (fun i=>(acc++ns).getD i 0) (acc.length+ns.length)=preSum (fun i=>(acc++ns).getD i 0) acc.length+ns.sum
 | [],acc=>by simp
 | n :: ns,acc=>by
   have:=Ze3 ns (acc++[n])
   rw [n57_] at this;simp only [n28_,n26_,List.length_nil,List.singleton_append] at this ⊢;rw [show acc.length+(ns.length+1)=acc.length+(0+1)+ns.length by omega,this]
   have e:preSum (fun i=>(acc++n :: ns).getD i 0) (acc.length+(0+1))=preSum (fun i=>(acc++n :: ns).getD i 0) acc.length+n:=by
    show preSum (fun i=>(acc++n :: ns).getD i 0) acc.length+(acc++n :: ns).getD acc.length 0=_
    congr 1
    simp
   rw [e,List.sum_cons,Int.add_assoc]
theorem Zoe (hc:X.calm=true):Yy X (.builtin "sum") (fun xs H Q=>∃ (p:Addr) (ns:List Int),xs=[.ref p]∧SqL X.K H p (ns.map V.int)∧Q (.int ns.sum) H):=by
 intro pins s σ H xs us Q I r h;obtain ⟨p,ns,rfl,hq,q⟩:=h;cases r with
 | cons rx r =>
   cases r
   cases (show _=Value.ref p from rx)
   obtain ⟨its,rv,pl,hz⟩:=I.list hq;have hl:=pl.isList;have hlt:p<s.z:=by obtain ⟨_,e,_⟩:=hl;exact n11_ e
   have hh:X.A.handled=none:=I.ok.hd hc;refine call_sum_walkG (wpAny_pyIter_list hl ⟨s.z,[s.z,p],[s.z],its.toArray.size,_,_,fun i=>ns.getD i 0,rfl,Walks.list (A:=X.A.in1) hh _ p (n17_ hlt) its.toArray,⟨⟨_,n8_ _ rfl,rfl,rfl⟩,hl.push _⟩,fun b hb=>?_,fun i v hP=>Zhm rv (by simpa using hP),fun h' tk t' hk=>?_⟩)
   · simp only [n12_,n16_,or_false] at hb;show b<(s.heap.push _).objs.size
     rw [n36_]
     rcases hb with rfl|rfl
     · exact n68_ _
     · exact n38_ hlt
   · have e:preSum (fun i=>ns.getD i 0) its.toArray.size=ns.sum:=by
      have:=Ze3 ns []
      simp only [List.nil_append,List.length_nil,Nat.zero_add] at this;rw [n13_,← rv.length,n5_,this];show preSum _ 0+_=_
      simp [preSum]
     rw [e];exact ⟨.int _,H,I.kept (Zin hk),⟨_,rfl⟩,q⟩
end
section
variable {prog:Program} {w:World} {A:Around} {E:Value→Shared→Prop} {s:Shared}
theorem Zre (ne:l≠it):∀ (n i:Nat) (s:Shared) (Q:List Value→Shared→Prop),s.heap.IsListIter it l i→s.heap.IsList l items→i+n≤items.size →
 (∀ h',h'.IsListIter it l (i+n)→Heap.SameBut it s.heap h'→Q ((items.toList.drop i).take n) { s with heap:=h' })→wpAny (model prog w) A (draw (.ref it) n) Q E s
 | 0,i,s,Q,hit,_,_,q=>by
   show wpAny _ _ (pure []) Q E s
   exact n4_ (by simpa using q s.heap hit (Heap.SameBut.refl ..))
 | n+1,i,s,Q,hit,hl,hle,q=>by
   have hlt:i<items.size:=by omega
   refine n0_ (m:=pyNext (.ref it)) (wpAny_pyNext_list_item hit hl (x:=items[i]) (by simp [hlt]) fun h1 it1 s1=>?_);refine n0_ (n30_ (Zre ne n (i+1) _ _ it1 (hl.extBut s1.extBut ne) (by omega) fun h2 it2 s2=>n4_ ?_));have e:items.toList.drop i=items[i] :: items.toList.drop (i+1):=by simp [List.drop_eq_getElem_cons,hlt]
   have z:=q h2 (by rw [show i+(n+1)=i+1+n by omega];exact it2) (s1.trans s2);rw [e,List.take_succ_cons] at z;exact z
theorem Zgb {Q:List Value→Shared→Prop} (hh:A.handled=none) (hl:s.heap.IsList l items)
 (q:∀ h',Heap.ExtBut s.z s.heap h'→Q items.toList { s with heap:=h' }):wpAny (model prog w) A (unpackItems (.ref l) items.size none) Q E s:=by
 have ne:l≠s.z:=by obtain ⟨o,ho,_⟩:=hl;exact n17_ (n11_ ho)
 unfold unpackItems;refine n0_ ?_
 · unfold notIterableAtAll;refine n0_ (wpAny_specialOf hl.typeIs F.slot_list_iter.lookup (n4_ ?_));simp only [n15_,if_false];refine n0_ (n30_ (wpAny_pyIter_list hl ?_));refine n0_ (n30_ (Zre ne items.size 0 _ _ ⟨_,n8_ _ rfl,rfl,rfl⟩ (hl.push _) (by omega) fun h1 it1 s1=>?_));rw [show List.take items.size (List.drop 0 items.toList)=items.toList by rw [List.drop_zero];exact n72_ (by simp),if_neg (by simp)];refine n0_ (n30_ (wpAny_pyNext_list_end hh it1 ((hl.push _).extBut s1.extBut ne) (by simp) fun h2 e2=>?_));simp only [Option.isSome_none,n15_,if_false];refine n4_ (q h2 fun b o hb e=>e2 b o hb (s1.extBut b o hb (n3_ _ e)))
theorem Zql {elts:List Expr} {x1} {Q:Unit→Shared→Prop} (hh:A.handled=none) (hl:s.heap.IsList l items)
 (hn:(assignEach elts env).length=items.size) (hs:(assignEach elts env).findIdx? (·.1)=none)
 (h:∀ h',Heap.ExtBut s.z s.heap h'→wpAny (model prog w) A (assignInOrder ((assignEach elts env).map (·.2)) items.toList) Q E { s with heap:=h' }) :
 wpAny (model prog w) A (assign (.Tuple elts x1 pos) env (.ref l)) Q E s:=by
 rw [assign_Tuple];refine n0_ (wpAny_standAt ?_);unfold unpack;rw [hn,hs];exact n0_ (n30_ (Zgb hh hl h))
end
section
variable {X:Cx} {pos:Pos}
def gLst (K:PySem.W.Frag) (n:Nat) (t:TGs):TG:=fun v σ H Q=>∃ a xs,v=.ref a∧SqL K H a xs∧xs.length=n∧t xs σ H Q
theorem Zut {es:List Expr} {t:TGs} (hc:X.calm=true) (h:PGs X es t) (hn:(assignEach es X.env).length=n:=by rfl) (hst:(assignEach es X.env).findIdx? (·.1)=none:=by rfl):PG X (.Tuple es k pos) (gLst X.K n t):=by
 intro pins s σ H v u Q I r hw;obtain ⟨a,xs,e1,hq,hl,hw⟩:=hw;subst e1;cases r
 obtain ⟨its,rv,pl,hz⟩:=I.list hq;refine Zql (I.ok.hd hc) pl.isList (by simp [hn,← hl,rv.length]) hst fun h' hx=>?_;have I1:Inv X pins σ H { s with heap:=h' }:=I.kept (t':=s.toks) fun b o e=>hx b o (n17_ (n11_ e)) e;exact h pins _ σ H xs _ Q I1 (by simpa using rv) hw
theorem Xx:∀ {us:List Value} {ns:List Int},IntsAre us ns→Vals (ns.map V.int) us
 | _,_,.nil=>.nil
 | _,_,.cons n t r=>.cons ⟨t,rfl⟩ (Xx r)
theorem Zcg:Yy X (.builtin "sorted") (fun xs H Q=>∃ (p:Addr) (ns:List Int),xs=[.ref p]∧SqL X.K H p (ns.map V.int)∧ns.length<64∧∀ (l:Addr) (ns':List Int),H l=none→ns'.Perm ns→ns'.Pairwise (·≤·)→Q (.ref l) (upd H l (.lst (ns'.map V.int)))):=by
 intro pins s σ H xs us Q I r h;obtain ⟨p,ns,rfl,hq,h64,q⟩:=h;cases r with
 | cons rx r =>
   cases r
   cases (show _=Value.ref p from rx)
   obtain ⟨its,rv,pl,hz⟩:=I.list hq;have hlen:=rv.length;rw [n5_] at hlen;refine sorted_ints pl.isList (Xj rv) (by omega) fun out ns' a1 a2 a3=>?_;obtain ⟨e,he⟩:=sortedAll_at s.heap its out;have fr:H (s.z+1)=none:=I.hok.fresh (Nat.le_succ _);refine ⟨.ref (s.z+1),_,I.laid (o:=.lst (ns'.map V.int)) (t':=s.toks) (fun b u e=>sortedAll_old e) (Nat.le_succ _) ⟨?_,out.toList,e,Xx a1,by simpa using he⟩,rfl,q _ ns' fr a2 a3⟩;rw [n5_,a2.length_eq,sizeLine_eq];omega
theorem Zdt:∀ {l:List Value} (k:Nat),l.length=n→(∀ (j:Nat) (v:Value),l[j]? = some v→∃ t,v=.int ((k:Int)+j) t)→Vals ((List.range' k n).map fun i:Nat=>V.int i) l:=by
 induction n with
 | zero=>intro l k hl _;cases l with
   | nil=>exact .nil
   | cons _ _=>simp at hl
 | succ n ih =>
   intro l k hl h;cases l with
   | nil=>simp at hl
   | cons x l =>
     obtain ⟨t,rfl⟩:=h 0 x rfl;refine .cons ⟨t,by simp⟩ (ih (k+1) (by simpa using hl) fun j v e=>?_);obtain ⟨t',e'⟩:=h (j+1) v (by simpa using e);exact ⟨t',by rw [e'];congr 1;omega⟩
theorem Zmw {a:Expr} {p2 q2:Pos} (hg2:Gl X "range") (hm2:X.mg "range" = none) (ha:PA X [a] ta) (he:starEach [a] X.env=[(false,eval a X.env)]:=by rfl) :
 PE X (.Call (.Name "range" p2) [a] [] q2) (fun σ H Q=>ta σ H fun vs H1=>∃ n:Nat,vs=[.int n]∧∀ r,H1 r=none→Q (.ref r) (upd H1 r (.rng 0 n))):=by
 intro pins s σ H Q I h;refine Call_ (Zbh I hg2 hm2 boot_range (n64_ (thn (ha q2 pins s σ H _ I h) fun us s1 ⟨vs,H1,I1,r1,q1⟩=>?_) he rfl));obtain ⟨n,rfl,q⟩:=q1;cases r1 with
 | cons r rr =>
   cases rr
   obtain ⟨t,rfl⟩:=r;refine call_range_1 ?_;have fr:H1 s1.z=none:=I1.hok.fresh (n14_ _);exact ⟨.ref s1.z,_,I1.laid (o:=.rng 0 n) (fun b o e=>n3_ _ e) (n14_ _) ⟨_,_,_,n8_ _ rfl⟩,rfl,q _ fr⟩
theorem Zeb (hc:X.calm=true):Yy X (.type "list") (fun xs H Q=>∃ (r:Addr) (n:Nat),xs=[.ref r]∧H r=some (.rng 0 n)∧n≤1000∧∀ l,H l=none→Q (.ref l) (upd H l (.lst ((List.range n).map fun i:Nat=>V.int i)))):=by
 intro pins s σ H xs us Q I r h;obtain ⟨a,n,rfl,hr,hn,q⟩:=h;cases r with
 | cons rx r =>
   cases r
   cases (show _=Value.ref a from rx)
   obtain ⟨t,u,v,e⟩:=(show ObjOk X.prog X.w H s.heap a (.rng 0 n) from I.hok a _ hr);have fr:H s.z=none:=I.hok.fresh (n14_ _);refine call_list_range (n:=n) (I.ok.hd hc) e (small_one (by omega) (by omega) (by omega) (by omega)) (by rw [rangeSize_one];split<;>omega) (by omega) fun h' tk acc c k hS it=>?_;refine ⟨.ref s.z,_,I.laid (o:=.lst ((List.range n).map fun i:Nat=>V.int i)) (t':=tk) k (n14_ _) ⟨?_,acc.toList,c,?_,by simpa using hS⟩,rfl,q _ fr⟩
   · rw [n5_,n69_,sizeLine_eq];omega
   · rw [List.range_eq_range'];refine Zdt 0 (by rw [Array.length_toList];exact it.1) fun j v e=>?_;obtain ⟨t',e'⟩:=it.2 j v (by simpa using e);exact ⟨t',by rw [e'];congr 1;omega⟩
end
def Zvn (c t0 i0 i1:Expr) (it acc:Value) (env:Env):Sem Fin:=do
 standAt i0.pos
 match ← pyNext it with
 | none=>pure (.done .next)
 | some v =>
   letOwnedTupleGo t0 it v
   assign t0 env v
   let mut ok:=true
   for c in ([]:List Expr) do
    if ok then ok ← isTrue c env (eval c env)
   if ok then do
    let x ← eval i1 env
    standAt i1.pos
    let x ← foldedSetIterable i1 env x
    let _ ← runOwn (.compStart c 1 (← holding [x] (pyIter x)) acc env) env
    again (.compLoop c 0 it acc env)
   else again (.compLoop c 0 it acc env)
def Zuq (c t1 i1 elt:Expr) (add:Value→Sem PUnit) (it acc:Value) (env:Env):Sem Fin:=do
 standAt i1.pos
 match ← pyNext it with
 | none=>pure (.done .next)
 | some v =>
   letOwnedTupleGo t1 it v
   assign t1 env v
   let mut ok:=true
   for c in ([]:List Expr) do
    if ok then ok ← isTrue c env (eval c env)
   if ok then
    (do let v ← eval elt env;add v)
   again (.compLoop c 1 it acc env)
structure C2Ok (prog:Program) (w:World) (c t0 i0 t1 i1 elt:Expr) (id:String) (add:Value→Value→Sem PUnit):Prop where
 un:∀ (A:Around) (k:Nat) (it acc:Value) (env:Env),A.under (.compLoop c k it acc env)=A
 den:∀ (k:Nat) (it acc:Value) (env:Env),(model prog w).den (.compLoop c k it acc env)=(compTurn c k it acc env).onRaise (fun x=>do noteFrame x env;theTreesLotGoes x)
 qu:∀ (k:Nat) (it acc:Value) (env:Env),(Code.compLoop c k it acc env).quiet=true
 e0:∀ it acc env,compTurn c 0 it acc env=Zvn c t0 i0 i1 it acc env
 e1:∀ it acc env,compTurn c 1 it acc env=Zuq c t1 i1 elt (add acc) it acc env
 ha:∀ (A:Around) acc x s (P:Shared→Prop) E,wpAny (model prog w) A (call (.builtin id) [acc,x]) (fun _ s5=>P s5) NoX s→wpAny (model prog w) A (add acc x) (fun _ s5=>P s5) E s
 start:∀ (A:Around) k,k<2→∀ it acc env R s4,codeAny (model prog w) A (.compLoop c k it acc env) R s4→(∀ E,wpAny (model prog w) A (pyIter it) (fun it' s'=>codeAny (model prog w) A (.compLoop c k it' acc env) R s') E s4)→codeAny (model prog w) A (.compStart c k it acc env) R s4
section
variable {prog:Program} {w:World} {A:Around} {R:Result→Shared→Prop} {s:Shared} {c elt t0 i0 t1 i1:Expr} {it acc:Value} {env:Env} {add:Value→Value→Sem PUnit} {id:String} (c2:C2Ok prog w c t0 i0 t1 i1 elt id add)
include c2
theorem Zpe (I:Nat→Shared→Prop)
 (turn:∀ n s,I n s→Zk6 (model prog w) A t1 it env R (fun n s3=>wpAny (model prog w) A (eval elt env) (fun x s4=>wpAny (model prog w) A (call (.builtin id) [acc,x]) (fun _ s5=>∃ m,m<n∧I m s5) NoX s4) NoX s3) n s)
 (n:Nat) (h:I n s):codeAny (model prog w) A (.compLoop c 1 it acc env) R s:=by
 refine codeAny_loop (c2.qu _ _ _ _) I (fun n s hI=>?_) n h;rw [c2.un,c2.den];refine wpAny_noted ?_;rw [c2.e1];unfold Zuq;refine n0_ (wpAny_standAt (n0_ (n45_ (turn n s hI) (fun r s1 h1=>?_) fun _ _ h'=>h'.elim)));cases r with
 | none=>exact n4_ h1
 | some v =>
   refine n0_ (n45_ h1 (fun _ s2 h2=>n0_ (n45_ h2 (fun _ s3 h3=>n0_ (n4_ ?_)) fun _ _ h'=>h'.elim)) fun _ _ h'=>h'.elim);simp only [if_true];exact n0_ (n0_ (n45_ h3 (fun x s4 h4=>n45_ (c2.ha _ _ x s4 _ _ h4) (fun _ s5 h5=>n4_ ⟨rfl,h5⟩) fun _ _ h'=>h') fun _ _ h'=>h'.elim))
theorem Zqs (hs1:∀ x,foldedSetIterable i1 env x=pure x) (I:Nat→Shared→Prop)
 (turn:∀ n s,I n s→Zk6 (model prog w) A t0 it env R (fun n s3=>wpAny (model prog w) A (eval i1 env) (fun x s4=>wpAny (model prog w) A (pyIter x) (fun itv s5 =>
   codeAny (model prog w) A (.compStart c 1 itv acc env) (fun r s6=>match r with|.ok _=>∃ m,m<n∧I m s6|.error _=>False) s5) NoX s4) NoX s3) n s)
 (n:Nat) (h:I n s):codeAny (model prog w) A (.compLoop c 0 it acc env) R s:=by
 refine codeAny_loop (c2.qu _ _ _ _) I (fun n s hI=>?_) n h;rw [c2.un,c2.den];refine wpAny_noted ?_;rw [c2.e0];unfold Zvn;refine n0_ (wpAny_standAt (n0_ (n45_ (turn n s hI) (fun r s1 h1=>?_) fun _ _ h'=>h'.elim)));cases r with
 | none=>exact n4_ h1
 | some v =>
   refine n0_ (n45_ h1 (fun _ s2 h2=>n0_ (n45_ h2 (fun _ s3 h3=>n0_ (n4_ ?_)) fun _ _ h'=>h'.elim)) fun _ _ h'=>h'.elim);simp only [if_true];refine n0_ (n45_ h3 (fun x s4 h4=>n0_ (wpAny_standAt (n0_ (wpAny_of_eq (hs1 x) (n0_ (n30_ (n45_ h4 (fun itv s5 h5=>n0_ (wpAny_runOwn ?_)) fun _ _ h'=>h'.elim))))))) fun _ _ h'=>h'.elim);refine codeAny_mono h5 fun r s6 h6=>?_;cases r with
   | ok f=>exact n4_ ⟨rfl,h6⟩
   | error e=>exact h6.elim
end
abbrev TAd:=V→Addr→Hp→(Hp→Prop)→Prop
abbrev adS:TAd:=fun v D H C=>∃ (k:Int) (S:Int→Bool) (n:Nat),v=.int k∧H D=some (.set S n)∧n+1<scanBound∧C (upd H D (.set (fun k'=>S k'||decide (k'=k)) (if S k then n else n+1)))
def PAd (id:String) (ad:TAd):Prop:=∀ (X:Cx) (pins:List (Addr×Obj)) (s:Shared) (σ:St) (H:Hp) (v:V) (u:Value) (D:Addr) (C:Hp→Prop),Inv X pins σ H s→RelV v u→ad v D H C→wpAny (model X.prog X.w) X.A (call (.builtin id) [.ref D,u]) (fun _ s'=>∃ H',Inv X pins σ H' s'∧C H') X.xe s
def C2In (ad:TAd) (J1:It) (g1:TG) (te:TE) (D:Addr) (σ4:St) (H5:Hp) (fin:St→Hp→Prop):Prop:=∃ W1:Nat→Nat→St→Hp→Prop,(∃ m1,W1 0 m1 σ4 H5)∧∀ i1 m1 σ6 H6,W1 i1 m1 σ6 H6 →
 (J1.stop i1 H6∧fin σ6 H6)∨(J1.go i1 H6∧∀ y H7,J1.yld i1 H6 y H7→g1 y σ6 H7 fun σ8 H8=>te σ8 H8 fun v H9=>ad v D H9 fun Hn=>∃ m1',m1'<m1∧W1 (i1+1) m1' σ8 Hn)
def C2Go (ad:TAd) (ac:HO) (J:It) (g0:TG) (wi1:TI) (g1:TG) (te:TE) (σ0:St) (H1:Hp) (D:Addr) (Q:VK):Prop:=∃ W:Nat→Nat→St→Hp→Prop,(∃ m,W 0 m σ0 (upd H1 D ac)) ∧
 ∀ i m σ2 H2,W i m σ2 H2→(J.stop i H2∧Q (.ref D) H2)∨(J.go i H2∧∀ x H3,J.yld i H2 x H3→g0 x σ2 H3 fun σ4 H4=>wi1 σ4 H4 fun J1 H5=>C2In ad J1 g1 te D σ4 H5 fun σ6 H6=>∃ m',m'<m∧W (i+1) m' σ6 H6)
theorem Zs7 {s2:Shared} {t0 i0 t1 i1:Expr} {g0 g1:TG} {wi1:TI} {J:It} {tn:Nat→Heap→Prop} {ac:HO} {ad:TAd} {id:String} {o0:Obj} {c:Expr} {Q:VK} {add:Value→Value→Sem PUnit}
 (hs3:s3={ s2 with heap:=s2.heap.push o0 }) (hc:X.calm=true) (L:LcO X scope cl N fr) (hg:∀ C s3 H3 fp,PG (blk X scope cl C N s3 H3 fp) t0 g0) (hi1:∀ C s3 H3 fp,PI (blk X scope cl C N s3 H3 fp) t1 i1 wi1) (hg1:∀ C s3 H3 fp,PG (blk X scope cl C N s3 H3 fp) t1 g1) (he:∀ C s3 H3 fp,PE (blk X scope cl C N s3 H3 fp) elt te) (hA:PAd id ad)
 (I2:Inv X pins σ H2 s2) (T:Turn X.prog X.w X.K t0 J fp it tn) (st2:tn 0 s2.heap) (f2:∀ b∈fp,FpOk X pins H2 b)
 (ok0:ObjOk X.prog X.w (upd H2 s2.z ac) (s2.heap.push o0) s2.z ac) (h:C2Go ad ac J g0 wi1 g1 te (Zap fr σ) H2 s2.z Q) (hs1:∀ env x,foldedSetIterable i1 env x=pure x)
 (c2:C2Ok X.prog X.w c t0 i0 t1 i1 elt id add) :
 wpAny (model X.prog X.w) X.A (newFunctionEnv scope X.env.globals cl [] X.env.qual none .none (some X.env)) (fun cenv s4=>codeAny (model X.prog X.w) X.A (.compStart c 0 (.ref it) (.ref s2.z) { cenv with scope:=relabel scope X.env }) (compPost (model X.prog X.w) X.A X.xe none (EP X pins σ Q) (.ref s2.z) cenv.locals) s4) X.xe s3:=by
 obtain ⟨W,⟨m0,w0⟩,turn⟩:=h;refine Zc3 (R:=fun C=>compPost (model X.prog X.w) X.A X.xe none (EP X pins σ Q) (.ref s2.z) C) hs3 hc L hg I2 T st2 f2 ok0 w0 turn (fun env s4 a b=>c2.start _ 0 (by decide) _ _ _ _ _ a b) (fun LI s4 t n h=>Zqs c2 (hs1 _) LI t n h) (fun H7 s7 qn _ _ c=>Zit qn c) fun LI n i σ9 H9 s9 ps I9 q9 again=>?_;refine thn (hi1 _ _ _ _ ps s9 σ9 H9 _ I9 q9) fun xv s10 h10=>thn h10 fun itv s11 h11=>?_;obtain ⟨it1,fp1,tn1,J1,H11,e,I11,T1,st11,f11,W1,⟨m1,w1⟩,turn1⟩:=h11;subst e;have fpC:∀ {H':Hp} (b:Addr),b∈fp1→H' b=none→FpOk (blk X scope cl s3.z N s3 (upd H2 s2.z ac) fp) ps H' b:=fun b hb hn=>⟨hn,(f11 b hb).2⟩
 have lp:codeAny (model X.prog X.w) X.A (.compLoop c 1 (.ref it1) (.ref s2.z) (blk X scope cl s3.z N s3 (upd H2 s2.z ac) fp).env) (fun r s6=>match r with|.ok _=>∃ m,m<n∧LI m s6|.error _=>False) s11:=by
  refine Zpe c2 (fun n1 s'=>∃ j σ' H',Inv (blk X scope cl s3.z N s3 (upd H2 s2.z ac) fp) ps σ' H' s'∧tn1 j s'.heap∧(∀ b∈fp1,H' b=none)∧W1 j n1 σ' H') ?_ m1 ⟨0,_,_,I11,st11,fun b hb=>(f11 b hb).1,w1⟩;rintro n1 s13 ⟨j,σ13,H13,I13,st13,fr13,w13⟩
  unfold Zk6
  rcases turn1 j n1 σ13 H13 w13 with ⟨stop,m',hm',qn⟩|⟨go1,step1⟩
  · refine thn (T1.done (blk X scope cl s3.z N s3 (upd H2 s2.z ac) fp) rfl rfl rfl hc j _ s13 σ13 H13 (fun _ _=>False) I13 (fun b hb=>fpC b hb (fr13 b hb)) st13 stop) fun r s14 ⟨hr,I14⟩=>?_;subst hr;exact again I14 hm' qn
  · refine thn (T1.item (blk X scope cl s3.z N s3 (upd H2 s2.z ac) fp) rfl rfl rfl hc j _ s13 σ13 H13 (fun _ _=>False) I13 (fun b hb=>fpC b hb (fr13 b hb)) st13 go1) fun r s14 ⟨u1,hr,h14⟩=>?_;subst hr;refine thn h14 fun _ s15 ⟨y,H15,I15,r15,y15,st15,fr15⟩=>?_;have I15':=I15.pinned (fun b hb=>fpC b hb (fr15 b hb)) (T1.obj _ _ st15);refine thn (hg1 _ _ _ _ _ s15 σ13 H15 y u1 _ I15' r15 (step1 y H15 y15)) fun _ s16 ⟨σ16,H16,I16,q16⟩=>?_;refine thn (he _ _ _ _ _ s16 σ16 H16 _ I16 q16) fun vv s17 ⟨vk,H17,I17,r17,q17⟩=>?_;refine thn (hA _ _ s17 σ16 H17 vk vv _ _ I17 r17 q17) fun _ s18 ⟨H18,I18,m',hm',w18⟩=>?_;refine ⟨m',hm',j+1,σ16,_,I18.unpinned,T1.keep _ _ _ st15 fun b hb o e=>(I18.pin (b,o) (n35_ _ (n35_ _ (Y9 hb e)))).1,fun b hb=>?_,w18⟩;obtain ⟨o,e,d⟩:=T1.obj _ _ st15 b hb;exact (I18.pin (b,o) (n35_ _ (n35_ _ (Y9 hb e)))).2.1
 exact c2.start _ 1 (by decide) _ _ _ _ _ lp fun E=>T1.self _ 0 _ _ _ st11 lp
abbrev sc2 (elt t0 i0 t1 i1:Expr) (scope:Scope) (pos:Pos):Expr:=.SetComp elt [⟨t0,i0,[],0⟩,⟨t1,i1,[],0⟩] scope pos
theorem Zt7 {t0 i0 t1 i1:Expr}:C2Ok prog w (sc2 elt t0 i0 t1 i1 scope pos) t0 i0 t1 i1 elt "set.add" (fun acc v=>do standAt elt.pos;let _ ← call (.builtin "set.add") [acc,v]):=by
 refine ⟨fun _ _ _ _ _=>rfl,fun _ _ _ _=>rfl,fun _ _ _ _=>rfl,fun _ _ _=>rfl,fun _ _ _=>rfl,fun A acc x s P E h=>n0_ (wpAny_standAt (n0_ (n45_ h (fun _ s5 h5=>n4_ h5) fun _ _ h'=>h'.elim))),fun A k hk it acc env R s4 h0 h=>?_⟩;refine codeAny_of_tree ?_;show wpAny _ _ ((compStart (sc2 elt t0 i0 t1 i1 scope pos) k it acc env).onRaise (fun x=>do noteFrame x env;standAt theWindowsPlace)) _ _ s4
 refine wpAny_notedAt ?_;have hk':k=0∨k=1:=by omega
 rcases hk' with rfl|rfl <;>
 · unfold compStart;show wpAny _ _ (ask >>= _) _ _ s4
   refine n0_ (wpAny_askSetting (wpAny_ite ?_));split
   · first
      | exact n0_ (n4_ (n4_ (And.intro rfl h0)))
      | exact n4_ (And.intro rfl h0)
   · first
      | exact n0_ (wpAny_rule (n0_ (wpAny_standAt (n0_ (n45_ (h NoX) (fun it' s' h'=>n4_ (And.intro rfl h')) fun _ _ x=>x.elim)))))
      | (refine n0_ (wpAny_rule ?_);show wpAny _ _ (standAt _ >>= _) _ _ s4;exact n0_ (wpAny_standAt (n0_ (n45_ (h NoX) (fun it' s' h'=>n4_ (And.intro rfl h')) fun _ _ x=>x.elim))))
theorem Zwc:PAd "set.add" adS:=fun X pins s σ H v u D C I r ⟨k,S,nn,e,hS,hroom,q⟩=>by
 subst e;obtain ⟨tk,rfl⟩:=r;have hset:s.heap.SetOf (PySem.intKind X.prog X.w) D S nn:=I.hok _ _ hS;refine call_set_add (knd:=PySem.intKind X.prog X.w) (k:=k) (intKind_is _ _ _ _) rfl hset hroom fun h18 sb18 hset'=>⟨_,?_,q⟩;refine I.write (e:=D) (by rw [hS];trivial) (.inl rfl) (fun b o hb e=>(sb18.2 b hb).trans e) ?_ hset';obtain ⟨o,_,_,_,e,_⟩:=hset';exact ⟨o,e⟩
abbrev ScGo:=C2Go adS (.set (fun _=>false) 0)
def tSC (wi:TI) (g0:TG) (wi1:TI) (g1:TG) (te:TE) (fr:List (Option Nat)):TE:=fun σ H Q=>wi σ H fun J H1=>∀ D,H1 D=none→ScGo J g0 wi1 g1 te (Zap fr σ) H1 D Q
theorem Zuw {t0 i0 t1 i1:Expr} {wi1:TI} {g0 g1:TG}
 (hc:X.calm=true) (L:LcO X scope cl N fr) (hi:PI X t0 i0 wi) (hg:∀ C s3 H3 fp,PG (blk X scope cl C N s3 H3 fp) t0 g0) (hi1:∀ C s3 H3 fp,PI (blk X scope cl C N s3 H3 fp) t1 i1 wi1) (hg1:∀ C s3 H3 fp,PG (blk X scope cl C N s3 H3 fp) t1 g1)
 (he:∀ C s3 H3 fp,PE (blk X scope cl C N s3 H3 fp) elt te)
 (hs:∀ x,foldedSetIterable i0 X.env x=pure x:=by intro _;rfl) (hs1:∀ env x,foldedSetIterable i1 env x=pure x:=by intro _ _;rfl):PE X (sc2 elt t0 i0 t1 i1 scope pos) (tSC wi g0 wi1 g1 te fr):=by
 intro pins s σ H Q I h;rw [arm_eval_SetComp];dsimp only;refine wpAny_comprehension_free (use:=none) rfl hs L.clos L.kind L.names (thn (hi pins s σ H _ I h) fun v s1 h1=>thn h1 fun itv s2 h2=>?_);obtain ⟨it,fp,tn,J,H2,e,I2,T,st2,f2,h⟩:=h2;subst e;refine wpAny_newSet_of (knd:=PySem.intKind X.prog X.w) fun led setOf=>?_;exact Zs7 (ac:=.set (fun _=>false) 0) rfl hc L hg hi1 hg1 he Zwc I2 T st2 f2 setOf (h _ (I2.hok.fresh (n14_ _))) hs1 Zt7
end L2
namespace L2
open PySem PySem.Spec PyProof.Rows PySem.W
def krun {α:Type} (f:Nat→Nat→Bool):KasT α→α
 | .ret a=>a
 | .ask i j k=>krun f (k (f i j))
def kin {α:Type} (n:Nat) (f:Nat→Nat→Bool):KasT α→Bool
 | .ret _=>true
 | .ask i j k=>decide (i<n)&&decide (j<n)&&kin n f (k (f i j))
variable {α:Type} {a l:Addr} {n:Nat} {s:Shared} {Q:Value→Shared→Prop}
theorem Zir {f:Nat→Nat→Bool} {cmp:Nat→Nat→(Bool→Shared→Prop)→Shared→Prop} {Q:α→Shared→Prop} (hc:∀ i j C,i<n→j<n→C (f i j) s→cmp i j C s) :
 ∀ (t:KasT α),kin n f t=true→Q (krun f t) s→t.kasWp cmp Q s
 | .ret a,_,h=>h
 | .ask i j k,hk,h=>by
   unfold kin at hk;rw [n47_,n47_] at hk;exact hc i j _ (n51_ hk.1.1) (n51_ hk.1.2) (Zir hc (k (f i j)) hk.2 h)
structure Ord (n:Nat) (f:Nat→Nat→Bool):Prop where
 irr:∀ i,i<n→f i i=false
 ant:∀ i j,i<n→j<n→i≠j→f j i = !f i j
 tr:∀ i j k,i<n→j<n→k<n→f i j=true→f j k=true→f i k=true
section
variable {prog:Program} {w:World} {A:Around} {E:Value→Shared→Prop} {s:Shared}
theorem Zn7 {vs:List Value} {P:PySem.Fin→Shared→Prop} (good:List Nat→Prop) (g1:vs.length<2→good (List.range vs.length)) (ho:s.heap.get? a=some (seqObj "list" vs.toArray n)) (h64:vs.length<64)
 (ask:2≤vs.length→∀ h1,(∀ b u,b≠a→s.heap.get? b=some u→h1.get? b=some u)→wpAny (model prog w) A (keyKind' vs.toArray) (fun κ s1=>s1={ s with heap:=h1 }∧(kas_sort vs.length).kasWp (kas_ask prog w A κ vs) (fun p s2=>s2={ s with heap:=h1 }∧good p.toList) s1) (fun _ _=>False) { s with heap:=h1 })
 (h:∀ p:List Nat,good p→P (.done (.ret .none)) { s with heap:=sortedHeap s.heap a vs (p.map fun i=>vs.getD i Value.none).toArray }) :
 wpAny (model prog w) A (Builtin.«list.sort» ⟨[.ref a],[]⟩) P E s:=by
 have ha:a<s.z:=n11_ ho;obtain ⟨e1,o1⟩:∃ e1,(s.heap.update a (Obj.mapSeq fun _=>(#[]:Array Value))).get? a=some (seqObj "list" #[] e1):=⟨_,get?_update_seq ho fun _=>#[]⟩;have s1:=Heap.SameBut.update s.heap a (Obj.mapSeq fun _=>(#[]:Array Value));have k6:∀ b u,b≠a→s.heap.get? b=some u→(((s.heap.update a (Obj.mapSeq fun _=>#[])).push (seqObj "tuple" vs.toArray 0)).push (seqObj "list" #[] 0)).get? b=some u:=fun b u nb e=>n3_ _ (n3_ _ ((s1.2 b nb).trans e));have o6:(((s.heap.update a (Obj.mapSeq fun _=>#[])).push (seqObj "tuple" vs.toArray 0)).push (seqObj "list" #[] 0)).get? a=some (seqObj "list" #[] e1):=n3_ _ (n3_ _ o1);rw [list_sort_plain];refine n0_ (listItems_at ho rfl (n0_ (listUpdate_at ho rfl (n0_ (seqEpoch_at o1 rfl (n0_ (wpAny_newTuple (n0_ (wpAny_newList (n30_ ?_) (n55_ _))) (by show vs.length≤_;rw [sizeLine_eq];omega))))) (by rw [n13_,sizeLine_eq];omega) (n55_ _))));show wpAny (model prog w) A _ P E { s with heap:=((s.heap.update a (Obj.mapSeq fun _=>#[])).push (seqObj "tuple" vs.toArray 0)).push (seqObj "list" #[] 0) }
 dsimp only
 by_cases h2:vs.toArray.size<2
 · rw [if_pos h2,if_pos h2];refine n0_ (n4_ ?_);rw [StateT.run_pure];refine n0_ (n4_ ?_);dsimp only;have z:=h _ (g1 (by simpa using h2))
   have ev:((List.range vs.length).map fun i=>vs.getD i Value.none)=vs:=by
    refine n46_ (by simp) fun i a1 a2=>?_;simp [n2_,a2]
   rw [ev] at z;refine n0_ (seqEpoch_at o6 rfl (n0_ (listUpdate_at o6 rfl ?_ (hsz2:=by rw [Array.size_map];show (vs.toArray.zip vs.toArray).size≤_;rw [Array.size_zip,n13_,sizeLine_eq];omega))));simp only [bne_self_eq_false,n15_,if_false];refine n4_ ?_
   have em:((vs.toArray.zip vs.toArray).map (·.2))=vs.toArray:=by
    apply Array.ext (by simp)
    intro i a1 a2
    simp
   unfold sortedHeap at z;show P _ { s with heap:=(((s.heap.update a (Obj.mapSeq fun _=>#[])).push (seqObj "tuple" vs.toArray 0)).push (seqObj "list" #[] 0)).update a (Obj.mapSeq fun _=>(vs.toArray.zip vs.toArray).map (·.2)) }
   rw [em];exact z
 · have hn:2≤vs.length:=by simp at h2;omega
   rw [if_neg h2,if_neg h2];refine n0_ (n45_ (ask hn _ k6) (fun κ s0 hk=>?_) fun _ _ x=>x.elim);obtain ⟨rfl,hk⟩:=hk
   refine n0_ (n45_ (kat_run (Q:=fun st' s2=>∃ p:Array Nat,arrOf st'=p.map (kas_item (vs.toArray.zip vs.toArray))∧failedOf st'=none∧p.size=vs.length∧s2={ s with heap:=((s.heap.update a (Obj.mapSeq fun _=>#[])).push (seqObj "tuple" vs.toArray 0)).push (seqObj "list" #[] 0) }∧good p.toList)
    rfl hn h64 (fun p st' s2 a1 a2 a3 a4=>⟨p,a2,a3,a1,a4.1,a4.2⟩) hk) ?_ fun _ _ e=>e)
   rintro ⟨⟨⟩,st'⟩ s2 ⟨p,har,hf,hp,rfl,gp⟩
   dsimp only;rw [kat_snds rfl har];refine n0_ (seqEpoch_at o6 rfl (n0_ (listUpdate_at o6 rfl ?_ (n55_ _) (by rw [n13_,n5_,Array.length_toList,hp,sizeLine_eq];omega))));rw [hf];simp only [bne_self_eq_false,n15_,if_false];exact n4_ (h p.toList gp)
theorem Zl2 {vs:List Value} (good:List Nat→Prop) (g1:vs.length<2→good (List.range vs.length)) (hl:s.heap.IsList l vs.toArray) (h64:vs.length<64)
 (ask:2≤vs.length→∀ h1,(∀ b u,s.heap.get? b=some u→h1.get? b=some u)→wpAny (model prog w) A.in1.in1 (keyKind' vs.toArray) (fun κ s1=>s1={ s with heap:=h1 }∧(kas_sort vs.length).kasWp (kas_ask prog w A.in1.in1 κ vs) (fun p s2=>s2={ s with heap:=h1 }∧good p.toList) s1) (fun _ _=>False) { s with heap:=h1 })
 (h:∀ p:List Nat,good p→Q (.ref (s.z+1)) { s with heap:=sortedAll s.heap vs (p.map fun i=>vs.getD i Value.none).toArray }) :
 wpAny (model prog w) A (call (.builtin "sorted") [.ref l]) Q E s:=by
 refine Calls.call_function_entry kind_sorted plain_sorted entry_sorted (args_sorted1 _) ?_;unfold Builtin.«sorted»;refine n0_ (m:=checkCount "sorted" 1 1 _) (n4_ (n0_ (collect_list hl (n0_ (wpAny_newList ?_ (by rw [sizeLine_eq];omega))) (by rw [sizeLine_eq];omega))));have n1:((s.heap.push (seqObj "list" #[] 0)).update s.z (Obj.mapSeq (·++vs.toArray))).objs.size=s.z+1:=by rw [Heap.size_update,size_push']
 have oL:(((s.heap.push (seqObj "list" #[] 0)).update s.z (Obj.mapSeq (·++vs.toArray))).push (seqObj "list" vs.toArray 0)).get? (s.z+1)=some (seqObj "list" vs.toArray 0):=by rw [← n1];exact n8_ _ rfl
 have kL:∀ b u,s.heap.get? b=some u→(((s.heap.push (seqObj "list" #[] 0)).update s.z (Obj.mapSeq (·++vs.toArray))).push (seqObj "list" vs.toArray 0)).get? b=some u:=fun b u e=>by
  have lt:b<s.z:=n11_ e;refine n3_ _ ?_;rw [Heap.get?_update_ne _ _ _ _ (n17_ lt)];exact n3_ _ e
 show wpAny _ _ _ _ _ { s with heap:=((s.heap.push (seqObj "list" #[] 0)).update s.z (Obj.mapSeq (·++vs.toArray))).push (seqObj "list" vs.toArray 0) }
 rw [n1];refine n0_ (n30_ (wpAny_call_entry slot_list_sort ⟨_,oL,rfl⟩ entry_list_sort (Zn7 (s:={ s with heap:=((s.heap.push (seqObj "list" #[] 0)).update s.z (Obj.mapSeq (·++vs.toArray))).push (seqObj "list" vs.toArray 0) }) good g1 oL h64 (fun h2 h1 k1=>ask h2 h1 fun b u e=>k1 b u (n17_ (n38_ (n11_ e))) (kL b u e)) fun p gp=>⟨_,rfl,?_⟩) (args_list_sort _)));exact n4_ ⟨_,rfl,h p gp⟩
end
end L2
namespace L2
open PySem PySem.Spec PyProof.Rows PySem.W
section
variable {prog:Program} {w:World} {A:Around} {E:Value→Shared→Prop} {s:Shared}
theorem Zug {b:Bool} {x y:Int} {t u:Tok} {Q:Bool→Shared→Prop} (h:Q (decide (x<y)) s):wpAny (model prog w) A (oneLt' b (.int x t) (.int y u)) Q E s:=by
 cases b
 · refine kat_one _ _ (lt_int ?_);exact h
 · exact kat_lt_int h
end
theorem Xy:∀ (a:List Int),HT.lexLt a a=false
 | []=>rfl
 | x :: a=>by rw [HT.lexLt_cons,if_pos rfl];exact Xy a
theorem Zrj:∀ (a b c:List Int),a.length=b.length→b.length=c.length→HT.lexLt a b=true→HT.lexLt b c=true→HT.lexLt a c=true
 | [],[],_,_,_,h,_=>by cases h
 | [],_ :: _,_,h,_,_,_=>by simp at h
 | _ :: _,[],_,h,_,_,_=>by simp at h
 | _ :: _,_ :: _,[],_,h,_,_=>by simp at h
 | x :: a,y :: b,z :: c,h1,h2,h3,h4=>by
   rw [HT.lexLt_cons] at h3 h4 ⊢
   by_cases e1:x=y
   · subst e1;rw [if_pos rfl] at h3
     by_cases e2:x=z
     · subst e2;rw [if_pos rfl] at h4 ⊢;exact Zrj a b c (by simpa using h1) (by simpa using h2) h3 h4
     · rw [if_neg e2] at h4 ⊢;exact h4
   · rw [if_neg e1] at h3;have l1:x<y:=n51_ h3
     by_cases e2:y=z
     · subst e2;rw [if_neg e1];exact h3
     · rw [if_neg e2] at h4;have l2:y<z:=n51_ h4;rw [if_neg (by omega)];exact n29_ (by omega)
variable {α:Type} {D a b l t z:Addr} {A:Around} {ys:Array Value} {X:Cx} {env:Env} {e elt iter tg:Expr} {h h':Heap} {H H' H2:Hp} {pins:List (Addr×Obj)} {ps:List (List Int)} {kvs:List (List Key×V)} {fr:List (Option Nat)} {cl:List (Str×Addr)} {ch:List Addr} {ifs:List Expr} {ns:List Int} {N:List Str} {vs:List V} {M:Model} {i j k m n t':Nat} {u0 u1:Option V} {pos:Pos} {P prog:Program} {scope:Scope} {s:Shared} {rest σ:St} {x:Str} {ta:TA} {te:TE} {wi:TI} {tt:TT} {v y:V} {c d u:Value} {E Q:Value→Shared→Prop} {w:World}
section
variable {X:Cx}
theorem Zdw:∀ {vs:List Value} {kl:List (List Int)},Paired (fun v k=>∃ b o its n,v=Value.ref b∧h.get? b=some o∧o.cls=.type "tuple" ∧ o.data=.seq its n∧IntsAre its.toList k∧0<k.length) vs kl→∃ fs:List Value,KatTups h vs fs∧fs.length=vs.length∧∀ v∈fs,∃ x t,v=Value.int x t
 | [],[],.nil=>⟨[],.nil,rfl,fun v hv=>by simp at hv⟩
 | v :: vs,k :: kl,.cons r rs=>by
   obtain ⟨fs,h1,h2,h3⟩:=Zdw rs;obtain ⟨b,o,its,n,rfl,g,c,d,hi,hk⟩:=r;cases k with
   | nil=>simp at hk
   | cons x k =>
     have:∃ t,its[0]? = some (Value.int x t):=by
      cases hi':its.toList with
      | nil=>rw [hi'] at hi;cases hi
      | cons u us =>
        rw [hi'] at hi;cases hi with
        | cons _ t _=>exact ⟨t,by rw [← Array.getElem?_toList,hi'];rfl⟩
     obtain ⟨t,e⟩:=this;refine ⟨_ :: fs,.cons g c d e h1,by rw [n26_,n26_,h2],fun v hv=>?_⟩
     rcases n12_.mp hv with rfl|hv
     · exact ⟨_,_,rfl⟩
     · exact h3 v hv
end
abbrev ZR (h:Heap) (z t o:Addr) (f0:Value) (f1:Bool):Prop:=h.get? z=some { cls:=.type "zip",dict:=none,data:=.fields #[f0,.bool f1,.bool false,.ref t,.ref o],slots:=#[] }
def ZSt (h:Heap) (z t o:Addr):Prop:=∃ f0 f1,ZR h z t o f0 f1∧(f0=.none∨∃ T,f0=rawInt T)
section
variable {prog:Program} {w:World} {A:Around} {E:Value→Shared→Prop} {s:Shared} {k l:SK}
theorem Ziq {Q:Option Obj→Shared→Prop} (h:Q (s.heap.get? a) s):wpAny M A (loadIfAlive a) Q E s:=fun _ _ _=>h
theorem Zj7 {o:Addr} {Q:Bool→Shared→Prop} (hz:ZSt s.heap z t o) (q:∀ (b:Bool) (h1:Heap),ZSt h1 z t o→Heap.SameBut z s.heap h1→Q b { s with heap:=h1 }):wpAny (model prog w) A (n32_ (.ref z)) Q E s:=by
 obtain ⟨f0,f1,hz,hf⟩:=hz;unfold n32_;refine n0_ (wpAny_field hz rfl (x:=f0) rfl ?_)
 rcases hf with rfl|⟨T,rfl⟩
 · exact n4_ (q true s.heap ⟨_,_,hz,.inl rfl⟩ (Heap.SameBut.refl ..))
 · show wpAny _ _ (loadIfAlive _ >>= _) _ _ s
   refine n0_ (Ziq ?_);split
   · exact n4_ (q true s.heap ⟨_,_,hz,.inr ⟨T,rfl⟩⟩ (Heap.SameBut.refl ..))
   · refine n0_ (wpAny_field hz rfl (x:=.bool f1) rfl ?_);split
     · refine n0_ (wpAny_setField_rec hz (by simp) fun h1 z1 s1=>n4_ (q false h1 ⟨_,true,z1,.inr ⟨T,rfl⟩⟩ s1))
     · exact n4_ (q false s.heap ⟨_,_,hz,.inr ⟨T,rfl⟩⟩ (Heap.SameBut.refl ..))
theorem Zol {o i j:Addr} {xs:Array Value} {x y:Value} (D:ZP z t o i j a b)
 (hz:ZSt s.heap z t o) (ht:IsPair s.heap t (.ref i) (.ref j)) (ho:IsPair s.heap o c d)
 (hi:k.It s.heap i a m) (hj:l.It s.heap j b n) (ha:k.Is s.heap a xs) (hb:l.Is s.heap b ys) (hx:xs[m]? = some x) (hy:ys[n]? = some y)
 (q:∀ h1,ZSt h1 z t o→(∃ c d,IsPair h1 o c d)→k.It h1 i a (m+1)→l.It h1 j b (n+1)→IsPair h1 s.z x y→h1.objs.size=s.z+1 →
   (∀ e u,e≠z→e≠o→e≠i→e≠j→s.heap.get? e=some u→h1.get? e=some u)→Q (.ref s.z) { s with heap:=h1 }) :
 wpAny (model prog w) A (Builtin.«zip.__next__» ⟨[.ref z],[]⟩) (fun fin s'=>∃ v,fin=.done (.ret v)∧Q v s') E s:=by
 obtain ⟨f0,f1,hz0,hf⟩:=id hz;refine n0_ (m:=field (.ref z) 2) (wpAny_field hz0 rfl (x:=.bool false) rfl ?_);refine n0_ (m:=field (.ref z) 3) (wpAny_field hz0 rfl (x:=.ref t) rfl (n0_ (wpAny_seqItems ht rfl ?_)));refine n0_ (m:=n32_ (.ref z)) (Zj7 hz fun fr h0 hz' s0=>?_);have ho0:IsPair h0 o c d:=s0.extBut _ _ D.oz ho;have hi0:k.It h0 i a m:=hi.at fun u e=>s0.extBut _ _ D.iz e;have hj0:l.It h0 j b n:=hj.at fun u e=>s0.extBut _ _ D.jz e;have ha0:k.Is h0 a xs:=ha.at fun u e=>s0.extBut _ _ D.az e;have hb0:l.Is h0 b ys:=hb.at fun u e=>s0.extBut _ _ D.bz e;have n0:h0.objs.size=s.z:=s0.1;obtain ⟨g0,g1,hz0,hg⟩:=hz';cases fr with
 | true =>
   simp only [if_true];refine n0_ (wpAny_rule (n0_ (wpAny_field hz0 rfl (x:=.ref o) rfl (n0_ (wpAny_setField_rec hz0 (by simp) fun h1 z1 s1=>?_)))));replace z1:ZR h1 z t o .ellipsis g1:=z1;refine n0_ ?_;simp only [List.zipIdx_cons,List.zipIdx_nil,List.forIn_cons,List.forIn_nil];refine n0_ (n0_ (wpAny_onRaise (n0_ (m:=n23_ (.ref i)) ?_)));refine SK.draw (hi0.at fun u e=>s1.extBut _ _ D.iz e) (ha0.at fun u e=>s1.extBut _ _ D.az e) hx fun h2 i2 s2=>n4_ ?_;have o2:IsPair h2 o c d:=s2.extBut _ _ D.oi (s1.extBut _ _ D.oz ho0);refine n0_ (wpAny_seqItems o2 rfl (n0_ (wpAny_updateSeq_pair o2 fun h3 o3 s3=>?_)));replace o3:IsPair h3 o x d:=o3;refine n0_ (wpAny_letGo (n4_ (n0_ (n0_ (wpAny_onRaise (n0_ (m:=n23_ (.ref j)) ?_))))));refine SK.draw (hj0.at fun u e=>s3.extBut _ _ D.oj.symm (s2.extBut _ _ D.ij.symm (s1.extBut _ _ D.jz e))) (hb0.at fun u e=>s3.extBut _ _ D.bo (s2.extBut _ _ D.bi (s1.extBut _ _ D.bz e))) hy fun h4 j4 s4=>n4_ ?_;have o4:IsPair h4 o x d:=s4.extBut _ _ D.oj o3;refine n0_ (wpAny_seqItems o4 rfl (n0_ (wpAny_updateSeq_pair o4 fun h5 o5 s5=>?_)));replace o5:IsPair h5 o x y:=o5;refine n0_ (wpAny_letGo (n4_ (n4_ (n0_ (wpAny_seqItems o5 rfl (n0_ (wpAny_newTuple ?_)))))));have sz:h5.objs.size=s.z:=by rw [s5.1,s4.1,s3.1,s2.1,s1.1,n0]
   have z5:ZR h5 z t o .ellipsis g1:=s5.extBut _ _ D.oz.symm (s4.extBut _ _ D.jz.symm (s3.extBut _ _ D.oz.symm (s2.extBut _ _ D.iz.symm z1)));have k5:∀ e u,e≠z→e≠o→e≠i→e≠j→s.heap.get? e=some u→h5.get? e=some u:=fun e u e1 e2 e3 e4 g=>s5.extBut _ _ e2 (s4.extBut _ _ e4 (s3.extBut _ _ e2 (s2.extBut _ _ e3 (s1.extBut _ _ e1 (s0.extBut _ _ e1 g)))));have i5:k.It h5 i a (m+1):=i2.at fun u e=>s5.extBut _ _ D.oi.symm (s4.extBut _ _ D.ij (s3.extBut _ _ D.oi.symm e));have j5:l.It h5 j b (n+1):=j4.at fun u e=>s5.extBut _ _ D.oj.symm e;have zl:z<h5.objs.size:=n11_ z5;refine n0_ (m:=Builtin.SmallTypes.ownedTupleHandOut (.ref z) (.ref h5.objs.size)) ?_;unfold Builtin.SmallTypes.ownedTupleHandOut;have z6:ZR (h5.push { cls:=.type "tuple",data:=.seq #[x,y] }) z t o .ellipsis g1:=n3_ _ z5;refine n0_ (wpAny_setField_rec z6 (by simp) fun h7 z7 s7=>?_);replace z7:ZR h7 z t o (rawInt h5.objs.size) g1:=z7;refine wpAny_setField_rec z7 (by simp) fun h8 z8 s8=>?_;replace z8:ZR h8 z t o (rawInt h5.objs.size) false:=z8;have up:∀ e u,e≠z→h5.get? e=some u→h8.get? e=some u:=fun e u e1 g=>s8.extBut _ _ e1 (s7.extBut _ _ e1 (n3_ _ g));have T8:IsPair h8 h5.objs.size x y:=s8.extBut _ _ (n60_ zl) (s7.extBut _ _ (n60_ zl) (n8_ _ rfl));have l8:h8.objs.size=h5.objs.size+1:=by rw [s8.1,s7.1,n36_]
   rw [sz] at T8 l8;refine n4_ ⟨_,rfl,?_⟩;show Q (.ref h5.objs.size) _
   rw [sz];exact q h8 ⟨_,_,z8,.inr ⟨_,rfl⟩⟩ ⟨x,y,up _ _ D.oz o5⟩ (i5.at fun u e=>up _ u D.iz e) (j5.at fun u e=>up _ u D.jz e) T8 l8 fun e u e1 e2 e3 e4 g=>up e u e1 (k5 e u e1 e2 e3 e4 g)
 | false =>
   simp only [n15_,if_false];refine n0_ ?_;rw [← Array.forIn_toList];simp only [List.forIn_cons,List.forIn_nil];refine n0_ (n0_ (n30_ (n0_ (m:=n23_ (.ref i)) (SK.draw hi0 ha0 hx fun h2 i2 s2=>n4_ (n4_ ?_)))));refine n0_ (n0_ (n30_ (n0_ (m:=n23_ (.ref j)) (SK.draw (hj0.at fun u e=>s2.extBut _ _ D.ij.symm e) (hb0.at fun u e=>s2.extBut _ _ D.bi e) hy fun h4 j4 s4=>n4_ (n4_ ?_)))));refine n4_ ?_;have sz:h4.objs.size=s.z:=by rw [s4.1,s2.1,n0]
   have z4:ZR h4 z t o g0 g1:=s4.extBut _ _ D.jz.symm (s2.extBut _ _ D.iz.symm hz0);refine n0_ (wpAny_newTuple (n4_ ⟨_,rfl,?_⟩) (z2_));show Q (.ref h4.objs.size) _
   have up:∀ e u,h4.get? e=some u→(h4.push { cls:=.type "tuple",data:=.seq #[x,y] }).get? e=some u:=fun e u g=>n3_ _ g;have T4:IsPair (h4.push { cls:=.type "tuple",data:=.seq #[x,y] }) h4.objs.size x y:=n8_ _ rfl;rw [sz] at T4 ⊢;refine q _ ⟨_,_,up _ _ z4,hg⟩ ⟨c,d,up _ _ (s4.extBut _ _ D.oj (s2.extBut _ _ D.oi ho0))⟩ (i2.at fun u e=>up _ u (s4.extBut _ _ D.ij e)) (j4.at fun u e=>up _ u e) T4 (by rw [n36_,sz]) fun e u e1 e2 e3 e4 g=>up e u (s4.extBut _ _ e4 (s2.extBut _ _ e3 (s0.extBut _ _ e1 g)))
theorem Zp7 {o i j:Addr} {xs:Array Value} {Q:Fin→Shared→Prop} (hh:A.handled=none) (D:ZP z t o i j a b)
 (hz:ZSt s.heap z t o) (ht:IsPair s.heap t (.ref i) (.ref j)) (ho:IsPair s.heap o c d)
 (hi:k.It s.heap i a m) (hj:l.It s.heap j b n) (ha:k.Is s.heap a xs) (hb:l.Is s.heap b ys) (hx:xs[m]? = none∨ys[n]? = none)
 (q:∀ h1 e,(∀ e u,e≠z→e≠o→e≠i→e≠j→s.heap.get? e=some u→h1.get? e=some u)→(∃ u,h1.get? e=some u∧u.cls=.type "StopIteration")→E (.ref e) { s with heap:=h1 }) :
 wpAny (model prog w) A (Builtin.«zip.__next__» ⟨[.ref z],[]⟩) Q E s:=by
 obtain ⟨f0,f1,hz0,hf⟩:=id hz;refine n0_ (m:=field (.ref z) 2) (wpAny_field hz0 rfl (x:=.bool false) rfl ?_);refine n0_ (m:=field (.ref z) 3) (wpAny_field hz0 rfl (x:=.ref t) rfl (n0_ (wpAny_seqItems ht rfl ?_)));refine n0_ (m:=n32_ (.ref z)) (Zj7 hz fun fr h0 hz' s0=>?_);have ho0:IsPair h0 o c d:=s0.extBut _ _ D.oz ho;have hi0:k.It h0 i a m:=hi.at fun u e=>s0.extBut _ _ D.iz e;have hj0:l.It h0 j b n:=hj.at fun u e=>s0.extBut _ _ D.jz e;have ha0:k.Is h0 a xs:=ha.at fun u e=>s0.extBut _ _ D.az e;have hb0:l.Is h0 b ys:=hb.at fun u e=>s0.extBut _ _ D.bz e;obtain ⟨g0,g1,hz0,hg⟩:=hz';cases fr with
 | true =>
   simp only [if_true];refine n0_ (wpAny_rule (n0_ (wpAny_field hz0 rfl (x:=.ref o) rfl (n0_ (wpAny_setField_rec hz0 (by simp) fun h1 z1 s1=>?_)))));replace z1:ZR h1 z t o .ellipsis g1:=z1;refine n0_ ?_;simp only [List.zipIdx_cons,List.zipIdx_nil,List.forIn_cons,List.forIn_nil];refine n0_ (n0_ (wpAny_onRaise (n0_ (m:=n23_ (.ref i)) ?_)));cases hm:xs[m]? with
   | none =>
     refine SK.dry hh (hi0.at fun u e=>s1.extBut _ _ D.iz e) (ha0.at fun u e=>s1.extBut _ _ D.az e) hm fun h2 e s2 ⟨u,g,cu⟩=>?_;have z2:ZR h2 z t o .ellipsis g1:=s2 _ _ D.iz.symm z1;have ez:e≠z:=fun r=>by subst r;rw [z2] at g;cases g;simp at cu
     exact wpAny_setField_rec z2 (by simp) fun h3 _ s3=>q h3 e (fun e' u' e1 _ e3 _ r=>s3.extBut _ _ e1 (s2 _ _ e3 (s1.extBut _ _ e1 (s0.extBut _ _ e1 r)))) ⟨u,s3.extBut _ _ ez g,cu⟩
   | some x =>
     have hn:ys[n]? = none:=by rcases hx with r|r;(rw [hm] at r;cases r);exact r
     refine SK.draw (hi0.at fun u e=>s1.extBut _ _ D.iz e) (ha0.at fun u e=>s1.extBut _ _ D.az e) hm fun h2 i2 s2=>n4_ ?_;have o2:IsPair h2 o c d:=s2.extBut _ _ D.oi (s1.extBut _ _ D.oz ho0);refine n0_ (wpAny_seqItems o2 rfl (n0_ (wpAny_updateSeq_pair o2 fun h3 o3 s3=>?_)));refine n0_ (wpAny_letGo (n4_ (n0_ (n0_ (wpAny_onRaise (n0_ (m:=n23_ (.ref j)) ?_))))));refine SK.dry hh (hj0.at fun u e=>s3.extBut _ _ D.oj.symm (s2.extBut _ _ D.ij.symm (s1.extBut _ _ D.jz e))) (hb0.at fun u e=>s3.extBut _ _ D.bo (s2.extBut _ _ D.bi (s1.extBut _ _ D.bz e))) hn fun h4 e s4 ⟨u,g,cu⟩=>?_;have z4:ZR h4 z t o .ellipsis g1:=s4 _ _ D.jz.symm (s3.extBut _ _ D.oz.symm (s2.extBut _ _ D.iz.symm z1));have ez:e≠z:=fun r=>by subst r;rw [z4] at g;cases g;simp at cu
     exact wpAny_setField_rec z4 (by simp) fun h5 _ s5=>q h5 e (fun e' u' e1 e2 e3 e4 r=>s5.extBut _ _ e1 (s4 _ _ e4 (s3.extBut _ _ e2 (s2.extBut _ _ e3 (s1.extBut _ _ e1 (s0.extBut _ _ e1 r)))))) ⟨u,s5.extBut _ _ ez g,cu⟩
 | false =>
   simp only [n15_,if_false];refine n0_ ?_;rw [← Array.forIn_toList];simp only [List.forIn_cons,List.forIn_nil];refine n0_ (n0_ (n30_ (n0_ (m:=n23_ (.ref i)) ?_)));cases hm:xs[m]? with
   | none=>exact SK.dry hh hi0 ha0 hm fun h2 e s2 hu=>q h2 e (fun e' u' e1 _ e3 _ r=>s2 _ _ e3 (s0.extBut _ _ e1 r)) hu
   | some x =>
     have hn:ys[n]? = none:=by rcases hx with r|r;(rw [hm] at r;cases r);exact r
     refine SK.draw hi0 ha0 hm fun h2 i2 s2=>n4_ (n4_ ?_);refine n0_ (n0_ (n30_ (n0_ (m:=n23_ (.ref j)) ?_)));exact SK.dry hh (hj0.at fun u e=>s2.extBut _ _ D.ij.symm e) (hb0.at fun u e=>s2.extBut _ _ D.bi e) hn fun h4 e s4 hu=>q h4 e (fun e' u' e1 _ e3 e4 r=>s4 _ _ e4 (s2.extBut _ _ e3 (s0.extBut _ _ e1 r))) hu
theorem Zla {e o i j:Addr} {xs:Array Value} {x y old:Value} {Q:Option Value→Shared→Prop} (D:ZP z t o i j a b) (ne:e≠z∧e≠t∧e≠o∧e≠i∧e≠j∧a≠e∧b≠e)
 (he:IsEnum s.heap e z n old) (hz:ZSt s.heap z t o) (ht:IsPair s.heap t (.ref i) (.ref j)) (ho:IsPair s.heap o c d)
 (hi:k.It s.heap i a n) (hj:l.It s.heap j b n) (ha:k.Is s.heap a xs) (hb:l.Is s.heap b ys) (hx:xs[n]? = some x) (hy:ys[n]? = some y)
 (q:∀ h1 tk,IsEnumOut h1 e z ((n:Int)+1) (.ref s.z) (s.z+1)→ZSt h1 z t o→IsPair h1 t (.ref i) (.ref j)→(∃ c d,IsPair h1 o c d)→k.It h1 i a (n+1)→l.It h1 j b (n+1)→IsPair h1 s.z x y→IsPair h1 (s.z+1) (.int n tk) (.ref s.z) →
   (∀ f u,f≠e→f≠z→f≠o→f≠i→f≠j→s.heap.get? f=some u→h1.get? f=some u)→Q (some (.ref (s.z+1))) { s with heap:=h1,toks:=tk+1 }) :
 wpAny (model prog w) A (pyNext (.ref e)) Q E s:=by
 have hT:s.TypeIs (.ref e) "enumerate" := ⟨_,he,rfl⟩;obtain ⟨n1,n2,n3,n4,n5,n6,n7⟩:=ne;unfold pyNext;refine n0_ (wpAny_attempt (wpAny_callSpecial?_slot (name:=Str.ofString "__next__") hT F.slot_enumerate_next (wpAny_call_entry F.slot_enumerate_next hT F.entry_enumerate_next ?_ (F.args_enumerate_next_1 _))));refine n0_ (m:=field (.ref e) 2) (wpAny_field he rfl (x:=.ref z) rfl ?_);obtain ⟨f0,f1,hz0,hf⟩:=id hz;have hTz:s.TypeIs (.ref z) "zip" := ⟨_,hz0,rfl⟩;refine n0_ (m:=n23_ (.ref z)) ?_;unfold n23_;refine n0_ (wpAny_callSpecial?_slot (name:=Str.ofString "__next__") hTz F.slot_zip_next (wpAny_call_entry F.slot_zip_next hTz F.entry_zip_next (Zol D hz ht ho hi hj ha hb hx hy fun h1 r1 r2 r3 r4 r5 r6 r7=>n4_ ?_) (F.args_zip_next_1 _)));have he1:IsEnum h1 e z n old:=r7 _ _ n1 n3 n4 n5 he;have el:e<s.z:=n11_ he;refine n0_ (m:=field (.ref e) 3) (wpAny_field he1 rfl (x:=rawInt n) rfl ?_);refine n0_ (m:=field (.ref e) 4) (wpAny_field he1 rfl (x:=.none) rfl ?_);refine n0_ (m:=mkInt n) (wpAny_mkInt ?_);refine n0_ (m:=setField (.ref e) 3 (rawInt ((n:Int)+1))) (wpAny_setField_rec he1 (by simp) fun h2 e2 s2=>?_);replace e2:IsEnum h2 e z ((n:Int)+1) old:=e2;refine n0_ (m:=setField (.ref e) 4 .none) (wpAny_setField_rec e2 (by simp) fun h3 e3 s3=>?_);replace e3:IsEnum h3 e z ((n:Int)+1) old:=e3;refine n0_ (m:=newTuple _) (wpAny_newTuple ?_);have sz:h3.objs.size=s.z+1:=by rw [s3.1,s2.1];exact r6
 have e4:IsEnum (h3.push { cls:=.type "tuple",data:=.seq #[.int n s.toks,.ref s.z] }) e z ((n:Int)+1) old:=n3_ _ e3;have T4:(h3.push { cls:=.type "tuple",data:=.seq #[.int n s.toks,.ref s.z] }).get? (s.z+1)=some { cls:=.type "tuple",data:=.seq #[.int n s.toks,.ref s.z] }:=by rw [← sz];exact n8_ _ rfl
 have k4:∀ f u,f≠e→h1.get? f=some u→(h3.push { cls:=.type "tuple",data:=.seq #[.int n s.toks,.ref s.z] }).get? f=some u:=fun f u fe g=>n3_ _ (s3.extBut _ _ fe (s2.extBut _ _ fe g));generalize h3.push { cls:=.type "tuple",data:=.seq #[.int n s.toks,.ref s.z] }=h4 at e4 T4 k4;refine n0_ (m:=n32_ (.ref e)) ?_;unfold n32_;refine n0_ (wpAny_field e4 rfl (x:=.none) rfl (n4_ ?_));simp only [if_true];refine n0_ (wpAny_rule (n0_ (wpAny_field e4 rfl (x:=old) rfl (n0_ (wpAny_setField_rec e4 (by simp) fun h5 e5 s5=>?_)))));replace e5:IsEnum h5 e z ((n:Int)+1) (.ref s.z):=e5;refine n0_ ?_;unfold Builtin.SmallTypes.ownedTupleHandOut;refine n0_ (wpAny_setField_rec e5 (by simp) fun h6 e6 s6=>?_);refine wpAny_setField_rec e6 (by simp) fun h7 e7 s7=>?_;rw [sz] at e7;replace e7:IsEnumOut h7 e z ((n:Int)+1) (.ref s.z) (s.z+1):=e7;refine n0_ (wpAny_letGo (n4_ ⟨_,rfl,n4_ ?_⟩));rw [sz];have up:∀ f u,f≠e→h1.get? f=some u→h7.get? f=some u:=fun f u fe g=>s7.extBut _ _ fe (s6.extBut _ _ fe (s5.extBut _ _ fe (k4 f u fe g)));obtain ⟨g0,g1,z1,hg⟩:=r1;obtain ⟨c',d',o1⟩:=r2;refine q h7 s.toks e7 ⟨g0,g1,up _ _ n1.symm z1,hg⟩ (up _ _ n2.symm (r7 _ _ D.tz D.to D.ti D.tj ht)) ⟨c',d',up _ _ n3.symm o1⟩ (r3.at fun u g=>up _ u n4.symm g) (r4.at fun u g=>up _ u n5.symm g) (up _ _ (n60_ el) r5) ?_ fun f u f1 f2 f3 f4 f5 g=>up f u f1 (r7 f u f2 f3 f4 f5 g);have ne:s.z+1≠e:=n60_ (n38_ el);exact s7.extBut _ _ ne (s6.extBut _ _ ne (s5.extBut _ _ ne T4))
theorem Zo0 {e o i j:Addr} {xs:Array Value} {old:Value} {Q:Option Value→Shared→Prop} (hh:A.handled=none) (D:ZP z t o i j a b) (ne:e≠z∧e≠t∧e≠o∧e≠i∧e≠j∧a≠e∧b≠e)
 (he:IsEnum s.heap e z n old) (hz:ZSt s.heap z t o) (ht:IsPair s.heap t (.ref i) (.ref j)) (ho:IsPair s.heap o c d)
 (hi:k.It s.heap i a n) (hj:l.It s.heap j b n) (ha:k.Is s.heap a xs) (hb:l.Is s.heap b ys) (hx:xs[n]? = none∨ys[n]? = none)
 (q:∀ h1,(∀ f u,f≠e→f≠z→f≠o→f≠i→f≠j→s.heap.get? f=some u→h1.get? f=some u)→Q none { s with heap:=h1 }) :
 wpAny (model prog w) A (pyNext (.ref e)) Q E s:=by
 have hT:s.TypeIs (.ref e) "enumerate" := ⟨_,he,rfl⟩;unfold pyNext;refine n0_ (wpAny_attempt (wpAny_callSpecial?_slot (name:=Str.ofString "__next__") hT F.slot_enumerate_next (wpAny_call_entry F.slot_enumerate_next hT F.entry_enumerate_next ?_ (F.args_enumerate_next_1 _))));refine n0_ (m:=field (.ref e) 2) (wpAny_field he rfl (x:=.ref z) rfl ?_);obtain ⟨f0,f1,hz0,hf⟩:=id hz;have hTz:s.TypeIs (.ref z) "zip" := ⟨_,hz0,rfl⟩;refine n0_ (m:=n23_ (.ref z)) ?_;unfold n23_;refine n0_ (wpAny_callSpecial?_slot (name:=Str.ofString "__next__") hTz F.slot_zip_next (wpAny_call_entry F.slot_zip_next hTz F.entry_zip_next (Zp7 hh D hz ht ho hi hj ha hb hx fun h1 x r1 ⟨u,g,cu⟩=>?_) (F.args_zip_next_1 _)));exact n0_ (wpAny_isInstance (T := "StopIteration") (b:=true) ⟨u,g,cu⟩ isSubtype_stop (n4_ (q _ fun f u _ f2 f3 f4 f5 r=>r1 f u f2 f3 f4 f5 r)))
end
open AutoSeq1 (wpAny_loadPart')
section
variable {X:Cx} {pins:List (Addr×Obj)} {σ:List (Option V)} {H H':Hp} {s:Shared} {h':Heap}
theorem Inv.turnGen (I:Inv X pins σ H s) (k:∀ b u,b∉ch→s.heap.get? b=some u→h'.get? b=some u) (hf:∀ b∈ch,FpOk X pins H b)
 (old:∀ b u,H b=some u→H' b=some u) (non:∀ b u,s.heap.get? b=some u→H b=none→H' b=none) (new:∀ b u,H b=none→H' b=some u→ObjOk X.prog X.w H' h' b u):Inv X pins σ H' { s with heap:=h',toks:=t' }:=by
 have nc:∀ b u,H b=some u→b∉ch:=fun b u e z=>by rw [(hf b z).1] at e;cases e
 refine I.step (g':=s.gens) (d':=s.drawn) (ch:=ch) (fun b hb=>?_) (fun b u _ _ hc e _=>k b u hc e) (fun b u _ _ hc e _=>⟨u.slots,k b u hc e⟩) (fun b u _ e n=>non b u e n)
  (fun b u hc e=>⟨u,k b u hc e⟩) (fun b xs e=>old b _ e) (fun b u v e=>old b _ e) (fun b ps e=>⟨#[],by rw [old b _ e];simp⟩) (fun m hm=>?_) (fun b u e=>?_) I.bare
 · obtain ⟨f0,f1,f2,f3,f4,f5⟩:=hf b hb;exact ⟨f3,f1,f4,f5⟩
 · obtain ⟨u,es,ep,hu,r⟩:=hm;exact ⟨u,es,ep,k _ u (fun z=>(hf _ z).2.1 rfl) hu,r⟩
 · cases hb:H b with
   | none=>exact new b u hb e
   | some v =>
     rw [old b v hb] at e;cases e
     refine (I.hok b _ hb).stay (fun c w hc q=>k c w ?_ q) (fun c q=>old c _ q) fun c xs q=>old c _ q
     rcases hc with z|z
     · rw [z];exact nc b _ hb
     · exact nc c _ z
end
def Itez (k l:SK) (K:PySem.W.Frag) (a b:Addr):It :=
 ⟨fun i H=>∃ xs ys x y,k.Sq K H a xs∧l.Sq K H b ys∧xs[i]? = some x∧ys[i]? = some y,
  fun i H v H'=>∃ p p' x y,v=.ref p'∧H p=none∧H p'=none∧p≠p'∧H'=upd (upd H p (.tup [x,y])) p' (.tup [.int i,.ref p])∧(∀ xs,k.Sq K H a xs→xs[i]? = some x)∧∀ ys,l.Sq K H b ys→ys[i]? = some y,
  fun i H=>∃ xs ys,k.Sq K H a xs∧l.Sq K H b ys∧(xs.length≤i∨ys.length≤i)⟩
theorem Zgu {K:PySem.W.Frag} {es:List Expr} {x1:Nat} {tp:Pos} {k l:SK} {e o i j:Addr} (D:ZP z t o i j a b) (ne:e≠z∧e≠t∧e≠o∧e≠i∧e≠j∧a≠e∧b≠e) :
 Turn P w K (.Tuple es x1 tp) (Itez k l K a b) [e,z,t,o,i,j] e (fun n h=>(∃ old,IsEnum h e z n old)∧ZSt h z t o∧IsPair h t (.ref i) (.ref j)∧(∃ c d,IsPair h o c d)∧k.It h i a n∧l.It h j b n) where
 mem:=by simp
 obj:=fun n h st f hf=>by
  obtain ⟨⟨old,h0⟩,⟨f0,f1,h1,_⟩,h2,⟨c,d,h3⟩,h4,h5⟩:=st;simp only [n12_,n16_,or_false] at hf
  rcases hf with rfl|rfl|rfl|rfl|rfl|rfl
  · exact ⟨_,h0,fun v q=>by cases (show Data.fields _=Data.cell v from q)⟩
  · exact ⟨_,h1,fun v q=>by cases (show Data.fields _=Data.cell v from q)⟩
  · exact ⟨_,h2,fun v q=>by cases (show Data.seq _ _=Data.cell v from q)⟩
  · exact ⟨_,h3,fun v q=>by cases (show Data.seq _ _=Data.cell v from q)⟩
  · obtain ⟨u,e,_,q⟩:=h4.ex;exact ⟨u,e,fun v r=>by rw [q] at r;cases r⟩
  · obtain ⟨u,e,_,q⟩:=h5.ex;exact ⟨u,e,fun v r=>by rw [q] at r;cases r⟩
 keep:=fun n h h' st f=>by
  obtain ⟨⟨old,h0⟩,⟨f0,f1,h1,hf⟩,h2,⟨c,d,h3⟩,h4,h5⟩:=st;exact ⟨⟨old,f e (by simp) _ h0⟩,⟨f0,f1,f z (by simp) _ h1,hf⟩,f t (by simp) _ h2,⟨c,d,f o (by simp) _ h3⟩,h4.at fun u q=>f i (by simp) u q,h5.at fun u q=>f j (by simp) u q⟩
 item:=by
  intro X hP hw hK hc n pins s σ H E I hf st hg;subst hP hw hK;obtain ⟨⟨old,h0⟩,hz,h2,⟨c,d,h3⟩,h4,h5⟩:=st;obtain ⟨xs,ys,x,y,q1,q2,hx,hy⟩:=hg;obtain ⟨us,ru,pu⟩:=q1.is I;obtain ⟨vs,rv,pv⟩:=q2.is I;obtain ⟨u,hu,ux⟩:=ru.get hx;obtain ⟨v,hv,vy⟩:=rv.get hy;have lt:∀ {b o'},s.heap.get? b=some o'→b≠s.z∧b≠s.z+1:=fun q=>⟨n17_ (n11_ q),n17_ (n38_ (n11_ q))⟩;refine Zla D ne h0 hz h2 h3 h4 h5 pu pv (x:=u) (y:=v) (by simpa using hu) (by simpa using hv) fun g tk r0 r1 r2 r3 r4 r5 r6 r7 r8=>?_;refine ⟨_,rfl,wpAny_letOwnedTupleGo_enum r0 fun g2 z2 s2=>?_⟩;have hp:H s.z=none:=I.hok.fresh (n14_ _);have hp':H (s.z+1)=none:=I.hok.fresh (Nat.le_succ _);have pp:s.z≠s.z+1:=n17_ (n68_ _);have T1:IsPair g2 s.z u v:=s2.extBut _ _ (Ne.symm (lt h0).1) r6;have T2:IsPair g2 (s.z+1) (.int n tk) (.ref s.z):=s2.extBut _ _ (Ne.symm (lt h0).2) r7
  have I2:Inv X pins σ (upd (upd H s.z (.tup [x,y])) (s.z+1) (.tup [.int n,.ref s.z])) { s with heap:=g2,toks:=tk+1 }:=by
   refine I.turnGen (ch:=[e,z,o,i,j]) (fun f o' nf q=>?_) (fun f hf'=>hf f ?_) (fun b u' q=>?_) (fun b u' q n'=>?_) (fun b u' q r=>?_)
   · simp only [n12_,n16_,or_false,not_or] at nf;exact s2.extBut _ _ nf.1 (r8 f o' nf.1 nf.2.1 nf.2.2.1 nf.2.2.2.1 nf.2.2.2.2 q)
   · simp only [n12_,n16_,or_false] at hf' ⊢
     rcases hf' with q|q|q|q|q<;>simp [q]
   · rw [Zh (Zg q hp'),Zh (Zg q hp)];exact q
   · rw [Zh (lt q).2,Zh (lt q).1];exact n'
   · by_cases e1:b=s.z+1
     · subst e1;rw [Zc] at r;cases r;exact ⟨z2_,[.int n tk,.ref s.z],.cons ⟨tk,rfl⟩ (.cons rfl .nil),⟨_,T2,⟨rfl,rfl⟩,_,rfl⟩⟩
     · rw [Zh e1] at r
       by_cases e2:b=s.z
       · subst e2;rw [Zc] at r;cases r;exact ⟨z2_,[u,v],.cons ux (.cons vy .nil),⟨_,T1,⟨rfl,rfl⟩,_,rfl⟩⟩
       · rw [Zh e2,q] at r;cases r
  obtain ⟨n1,n2,n3,n4,n5,n6,n7⟩:=ne;obtain ⟨g0,g1,z1,hg1⟩:=r1;obtain ⟨c',d',o1⟩:=r3;refine ⟨.ref (s.z+1),_,I2,rfl,⟨_,_,x,y,rfl,hp,hp',pp,rfl,fun xs' q=>by rw [q.inj q1 I];exact hx,fun ys' q=>by rw [q.inj q2 I];exact hy⟩,⟨⟨_,by simpa using z2⟩,⟨g0,g1,s2.extBut _ _ n1.symm z1,hg1⟩,s2.extBut _ _ n2.symm r2,⟨c',d',s2.extBut _ _ n3.symm o1⟩,r4.at fun u' q=>s2.extBut _ _ n4.symm q,r5.at fun u' q=>s2.extBut _ _ n5.symm q⟩,fun f hf'=>?_⟩
  have nf:f≠s.z∧f≠s.z+1:=by
   obtain ⟨f0,f1,hz1,_⟩:=hz;simp only [n12_,n16_,or_false] at hf'
   rcases hf' with rfl|rfl|rfl|rfl|rfl|rfl
   · exact lt h0
   · exact lt hz1
   · exact lt h2
   · exact lt h3
   · obtain ⟨_,q,_⟩:=h4.ex;exact lt q
   · obtain ⟨_,q,_⟩:=h5.ex;exact lt q
  rw [Zh nf.2,Zh nf.1];exact (hf f hf').1
 done:=by
  intro X hP hw hK hc n pins s σ H E I hf st hg;subst hP hw hK;obtain ⟨⟨old,h0⟩,hz,h2,⟨c,d,h3⟩,h4,h5⟩:=st;obtain ⟨xs,ys,q1,q2,hl⟩:=hg;obtain ⟨us,ru,pu⟩:=q1.is I;obtain ⟨vs,rv,pv⟩:=q2.is I;have e1:=ru.length;have e2:=rv.length;refine Zo0 (I.ok.hd hc) D ne h0 hz h2 h3 h4 h5 pu pv ?_ fun g r=>⟨rfl,?_⟩
  · rcases hl with q|q
    · left;simp;omega
    · right;simp;omega
  · refine I.turnOnly (t':=s.toks) (ch:=[e,z,o,i,j]) (fun f o' nf q=>?_) (fun f hf'=>hf f ?_)
    · simp only [n12_,n16_,or_false,not_or] at nf;exact r f o' nf.1 nf.2.1 nf.2.2.1 nf.2.2.2.1 nf.2.2.2.2 q
    · simp only [n12_,n16_,or_false] at hf' ⊢
      rcases hf' with q|q|q|q|q<;>simp [q]
 self:=fun _ _ _ _ _ st h=>by obtain ⟨⟨old,h1⟩,_⟩:=st;exact wpAny_pyIter_enum h1 h
theorem Zjb (z:Addr) (t o:Addr):Meets (Builtin.«enumerate.__new__» ⟨[.type "enumerate",.ref z],[]⟩) (fun _ R s=>IsZip s.heap z t o .none ∧
 R (.ok (.ret (.ref s.heap.objs.size))) { s with heap:=s.heap.push (Zac z) }) :=
 .of_wp fun prog w A R s h=>by
  obtain ⟨hp,g,d,tk,os⟩:=s;obtain ⟨hz,h⟩:=h;have hsub:=sub_enumerate;have r1:IsZip (Shared.heap ⟨hp,g,d,tk,os⟩) z t o .none:=hz
  wp_walk using wpAny_loadPart' hz
  refine wpAny_stack_any fun st=>n4_ ?_;split
  · rename_i c _ _ _ _ _
    cases (c == Value.type "enumerate")
    · (wp_walk using wpAny_loadPart' hz,wpAny_pyIter_zip r1);exact ⟨_,rfl,h⟩
    · (wp_walk using wpAny_loadPart' hz,wpAny_pyIter_zip r1);exact ⟨_,rfl,h⟩
  · (wp_walk using wpAny_loadPart' hz,wpAny_pyIter_zip r1);exact ⟨_,rfl,h⟩
section
variable {X:Cx} {es:List Expr} {x1:Nat} {tp:Pos}
def Zpn (k l:SK) (K:PySem.W.Frag) (ta:TA):TI:=fun σ H R=>ta σ H fun vs H1=>∃ a b,vs=[.ref a,.ref b]∧(∃ xs,k.Sq K H1 a xs)∧(∃ ys,l.Sq K H1 b ys)∧R (Itez k l K a b) H1
theorem Zk9 (k l:SK) {a b:Expr} {p p2 pos2:Pos} (hg:Gl X "enumerate") (hm:X.mg "enumerate" = none) (hg2:Gl X "zip") (hm2:X.mg "zip" = none) (ha:PA X [a,b] ta)
 (hs:starEach [a,b] X.env=[(false,eval a X.env),(false,eval b X.env)]:=by rfl) (hs2:starEach [b] X.env=[(false,eval b X.env)]:=by rfl)
 (he:starEach [Expr.Call (.Name "zip" p2) [a,b] [] pos2] X.env=[(false,eval (.Call (.Name "zip" p2) [a,b] [] pos2) X.env)]:=by rfl) :
 PI X (.Tuple es x1 tp) (.Call (.Name "enumerate" p) [.Call (.Name "zip" p2) [a,b] [] pos2] [] pos) (Zpn k l X.K ta):=by
 intro pins s σ H R I h;refine Call_ (Zbh I hg hm Zee (n64_ ?_ he rfl));rw [he];refine Calls.spliced_cons ?_;refine Call_ (Zbh I hg2 hm2 Zhq (n64_ (thn (ha pos2 pins s σ H _ I h) fun us s1 ⟨vs,H1,I1,r1,q1⟩=>?_) (by rw [hs,hs2]) (by rw [hs2];rfl)));obtain ⟨a,b,e,⟨xs,hx⟩,⟨ys,hy⟩,q⟩:=q1;subst e;cases r1 with
 | cons r rr =>
   cases rr with
   | cons r' rr =>
     cases rr
     cases r
     cases r'
     obtain ⟨us,ru,pu⟩:=hx.is I1;obtain ⟨ws,rw',pw⟩:=hy.is I1;have la:a<s1.z:=by obtain ⟨_,_,e,_⟩:=pu.ex;exact n11_ e
     have lb:b<s1.z:=by obtain ⟨_,_,e,_⟩:=pw.ex;exact n11_ e
     refine Zkp pu pw fun h1 m1 m2 m3 m4 m5 m6 m7=>Calls.spliced_nil ?_;refine callType_new F.called_enumerate (by decide) (F.typeCall_enumerate_1 _) (F.newCall_enumerate_1 _) (fun obj=>F.args_object_init_2 obj _) F.entry_enumerate_new (Zjb _ _ _) ⟨m1,?_⟩;have m8:(h1.push (Zac (s1.z+4))).get? h1.objs.size=some (Zac (s1.z+4)):=n8_ _ rfl;have up:∀ c o,h1.get? c=some o→(h1.push (Zac (s1.z+4))).get? c=some o:=fun c o e=>n3_ _ e;rw [m6] at m8;show _∧_
     rw [m6];refine ⟨⟨_,m8,rfl⟩,wpAny_pyIter_enum m8 ?_⟩;have I2:Inv X pins σ H1 { s1 with heap:=h1.push (Zac (s1.z+4)),toks:=s1.toks }:=I1.kept fun c o e=>up c o (m7 c o e);refine ⟨_,_,_,_,H1,rfl,I2,Zgu (e:=s1.z+5) (z:=s1.z+4) (t:=s1.z+2) (o:=s1.z+3) (i:=s1.z) (j:=s1.z+1) (k:=k) (l:=l) (a:=a) (b:=b) (Zrn la lb) ?_,⟨⟨_,m8⟩,⟨_,_,up _ _ m1,.inl rfl⟩,up _ _ m2,⟨_,_,up _ _ m3⟩,m4.at fun u e=>up _ u e,m5.at fun u e=>up _ u e⟩,?_,q⟩
     · have la':@LT.lt Nat _ a s1.z:=la;have lb':@LT.lt Nat _ b s1.z:=lb;refine ⟨?_,?_,?_,?_,?_,?_,?_⟩<;>(intro h;have h':@Eq Nat _ _:=h;clear h;omega)
     · exact I1.fps (fp:=[s1.z+5,s1.z+4,s1.z+2,s1.z+3,s1.z,s1.z+1]) (by
        intro e he;simp only [n12_,n16_,or_false] at he
        rcases he with rfl|rfl|rfl|rfl|rfl|rfl<;>omega)
end
def Tk (H H':Hp):Prop:=∀ a xs,H a=some (.tup xs)→H' a=some (.tup xs)
theorem Tk.trans {H1:Hp} (a:Tk H H1) (b:Tk H1 H2):Tk H H2:=fun p xs e=>b p xs (a p xs e)
theorem Same.tk (s:Same H H'):Tk H H':=fun a xs e=>s a _ e
theorem Tk.of_keep {ys:List V} (k:Keep l H H') (e:H l=some (.lst ys)):Tk H H':=fun a xs q=>k a _ (Zo1 q e (by intro z;cases z)) q
theorem Tk.upd_lst {ys zs:List V} (e:H D=some (.lst ys)):Tk H (upd H D (.lst zs)):=fun a xs q=>by rw [Zh (Zo1 q e (by intro z;cases z))];exact q
def Al {α:Type} (R:V→α→Prop) (vs:List V) (xs:List α):Prop:=vs.length=xs.length∧∀ (i:Nat) (v:V) (x:α),vs[i]? = some v→xs[i]? = some x→R v x
theorem Al.nil {R:V→α→Prop}:Al R [] []:=⟨rfl,fun i v x e=>by simp at e⟩
theorem Al.snoc {R:V→α→Prop} {xs:List α} {x:α} (h:Al R vs xs) (r:R v x):Al R (vs++[v]) (xs++[x]):=by
 refine ⟨by simp [h.1],fun i w y e1 e2=>?_⟩
 by_cases hi:i<vs.length
 · rw [n58_ hi] at e1;rw [n58_ (by rw [← h.1];exact hi)] at e2;exact h.2 i w y e1 e2
 · have:i=vs.length:=by
    have:=(n9_.mp e1).1
    simp at this;omega
   subst this;rw [n49_ (n14_ _)] at e1;rw [h.1,n49_ (n14_ _)] at e2;simp at e1 e2;subst e1;subst e2;exact r
theorem Al.imp {R S:V→α→Prop} {xs:List α} (h:Al R vs xs) (f:∀ v x,R v x→S v x):Al S vs xs:=⟨h.1,fun i v x e1 e2=>f v x (h.2 i v x e1 e2)⟩
theorem Al.get {R:V→α→Prop} {xs:List α} (h:Al R vs xs) (e:vs[i]? = some v):∃ x,xs[i]? = some x∧R v x:=by
 have hi:i<xs.length:=by rw [← h.1];exact (n9_.mp e).1
 exact ⟨xs[i],n1_ hi,h.2 i v _ e (n1_ hi)⟩
theorem Al.got {R:V→α→Prop} {xs:List α} {x:α} (h:Al R vs xs) (e:xs[i]? = some x):∃ v,vs[i]? = some v∧R v x:=by
 have hi:i<vs.length:=by rw [h.1];exact (n9_.mp e).1
 exact ⟨vs[i],n1_ hi,h.2 i _ x (n1_ hi) e⟩
theorem Al.cons {R:V→α→Prop} {x:α} {xs:List α} (r:R v x) (h:Al R vs xs):Al R (v :: vs) (x :: xs):=by
 refine ⟨by simp [h.1],fun i w y e1 e2=>?_⟩;cases i with
 | zero=>simp at e1 e2;subst e1;subst e2;exact r
 | succ i=>exact h.2 i w y (by simpa using e1) (by simpa using e2)
theorem Al.bls {bs:List Bool} (h:Al (fun v b=>v=V.bl b) vs bs):vs=bs.map V.bl:=by
 refine List.ext_getElem? fun i=>?_;rw [n6_];cases e:bs[i]? with
 | none =>
   have:=List.getElem?_eq_none_iff.mp e
   rw [List.getElem?_eq_none (by rw [h.1];exact this)];rfl
 | some b =>
   obtain ⟨v,ev,rfl⟩:=h.got e;rw [ev];rfl
theorem Al.ints (h:Al (fun v n=>v=V.int n) vs ns):vs=ns.map V.int:=by
 refine List.ext_getElem? fun i=>?_;rw [n6_];cases e:ns[i]? with
 | none =>
   have:=List.getElem?_eq_none_iff.mp e
   rw [List.getElem?_eq_none (by rw [h.1];exact this)];rfl
 | some b =>
   obtain ⟨v,ev,rfl⟩:=h.got e;rw [ev];rfl
theorem Al.of_ints (ns:List Int):Al (fun v n=>v=V.int n) (ns.map V.int) ns:=⟨by simp,fun i v n e1 e2=>by rw [n6_,e2] at e1;exact (Option.some.inj e1).symm⟩
theorem Znr {J:It} {g:TG} {σ0:St} {Q:VK} (R:Hp→V→α→Prop) (hR:∀ H1 H2 v x,Tk H1 H2→R H1 v x→R H2 v x) (ys_:List α) (hn:ys_.length=n) (hz:n≤1000) (ok:St→Prop) (h0:ok σ0) (hD:H D=none)
 (hgo:∀ i H2,Same H H2→i<n→J.go i H2) (hstop:∀ H2,Same H H2→J.stop n H2)
 (hs:∀ i x σ2 H2 H3 (C:St→V→Hp→Prop),i<n→Same H H2→J.yld i H2 x H3→ok σ2→(∀ σ4 y H5 z,ok σ4→Same H2 H5→ys_[i]? = some z→R H5 y z→C σ4 y H5)→g x σ2 H3 fun σ4 H4=>te σ4 H4 (C σ4))
 (hd:∀ H2 vs,Same H H2→H2 D=some (.lst vs)→Al (R H2) vs ys_→Q (.ref D) H2):LcGo J g tYes te σ0 H D Q:=by
 refine Zez (n:=n) (fun i σ H2=>Same H H2∧ok σ∧∃ vs,H2 D=some (.lst vs)∧Al (R H2) vs (ys_.take i)) ⟨Same.new hD,h0,[],Zc,by rw [List.take_zero];exact .nil⟩ (fun i σ H2 hi p=>hgo i H2 p.1 hi) (fun σ H2 p=>hstop H2 p.1) (fun i x σ2 H2 H3 hi y p=>?_) (fun σ2 H2 p=>?_)
 · obtain ⟨s2,o2,vs,e2,a2⟩:=p
   have:=hs i x σ2 H2 H3 (fun σ4 y H6=>∃ ys,H6 D=some (.lst ys)∧ys.length<sizeLine∧∃ m',m'<n-i∧LcN n (fun i σ H2=>Same H H2∧ok σ∧∃ vs,H2 D=some (.lst vs)∧Al (R H2) vs (ys_.take i)) (i+1) m' σ4 (upd H6 D (.lst (ys++[y])))) hi s2 y o2 ?_
   · exact this
   · intro σ4 v H5 z o4 s5 ez rz;have e5:H5 D=some (.lst vs):=s5 _ _ e2;refine ⟨vs,e5,?_,n-(i+1),by omega,by omega,rfl,fun b o e=>?_,o4,vs++[v],Zc,?_⟩
     · rw [a2.1,n65_,sizeLine_eq];omega
     · rw [Zh (Zg e hD)];exact s5 _ _ (s2 _ _ e)
     · have tk:Tk H5 (upd H5 D (.lst (vs++[v]))):=Tk.upd_lst e5;have hi':i<ys_.length:=by omega
       rw [n80_ hi'];rw [n1_ hi'] at ez;cases ez
       exact (a2.imp fun v x r=>hR _ _ v x tk (hR _ _ v x s5.tk r)).snoc (hR _ _ _ _ tk rz)
 · obtain ⟨s2,_,vs,e2,a2⟩:=p;rw [n72_ (by omega)] at a2;exact hd H2 vs s2 e2 a2
def SK.At (H:Hp) (a:Addr) (vs:List V):SK→Prop
 | .l=>H a=some (.lst vs)
 | .t=>H a=some (.tup vs)
theorem SK.At.sq {k:SK} {K:PySem.W.Frag} (h:k.At H a vs):k.Sq K H a vs:=by
 cases k with
 | l=>exact SqL.of h
 | t=>exact SqT.of h
theorem SK.At.same {k:SK} (h:k.At H a vs) (s:Same H H'):k.At H' a vs:=by
 cases k with
 | l=>exact s _ _ h
 | t=>exact s _ _ h
def SK.Itk (K:PySem.W.Frag) (a:Addr):SK→L2.It
 | .l=>Itl K a
 | .t=>Itt K a
theorem Zg9 {k:SK} {K:PySem.W.Frag} (h:k.At H a vs) (hi:i<vs.length):(k.Itk K a).go i H:=by
 cases k with
 | l=>exact ⟨vs,vs[i],SqL.of h,n1_ hi⟩
 | t=>exact ⟨vs,vs[i],SqT.of h,n1_ hi⟩
theorem Zbj {k:SK} {K:PySem.W.Frag} (h:k.At H a vs) (hi:vs.length≤i):(k.Itk K a).stop i H:=by
 cases k with
 | l=>exact ⟨vs,SqL.of h,hi⟩
 | t=>exact ⟨vs,SqT.of h,hi⟩
theorem Zdv {k:SK} {K:PySem.W.Frag} {x:V} (h:k.At H a vs) (y:(k.Itk K a).yld i H x H'):H'=H∧vs[i]? = some x:=by
 cases k with
 | l=>exact ⟨y.1,y.2 vs (SqL.of h)⟩
 | t=>exact ⟨y.1,y.2 vs (SqT.of h)⟩
theorem lc_T {k:SK} {K:PySem.W.Frag} {Q:VK} (R:Hp→V→α→Prop) (hR:∀ H1 H2 v x,Tk H1 H2→R H1 v x→R H2 v x) (ys:List α) (hn:ys.length=vs.length) (hz:vs.length≤1000) (hD:H D=none) (ha:k.At H a vs)
 (hs:∀ (i:Nat) (w:V) (H2:Hp) (C:V→Hp→Prop),vs[i]? = some w→Same H H2→(∀ y H5 z,Same H2 H5→ys[i]? = some z→R H5 y z→C y H5)→te (some w :: rest) H2 C)
 (hd:∀ H2 us,Same H H2→H2 D=some (.lst us)→Al (R H2) us ys→Q (.ref D) H2):LcGo (k.Itk K a) (Y2 0) tYes te (u0 :: rest) H D Q:=by
 refine Znr R hR ys hn hz (fun σ=>∃ u,σ=u :: rest) ⟨_,rfl⟩ hD (fun i H2 s hi=>Zg9 (ha.same s) hi) (fun H2 s=>Zbj (ha.same s) (n14_ _)) (fun i x σ2 H2 H3 C hi s y o c=>?_) hd;obtain ⟨u,rfl⟩:=o;obtain ⟨rfl,e⟩:=Zdv (ha.same s) y;exact hs i x H3 (C (some x :: rest)) e s fun y H5 z s5 ez rz=>c _ y H5 z ⟨_,rfl⟩ s5 ez rz
theorem lc_Z {k l:SK} {K:PySem.W.Frag} {ws:List V} {Q:VK} (R:Hp→V→α→Prop) (hR:∀ H1 H2 v x,Tk H1 H2→R H1 v x→R H2 v x) (ys:List α) (hn:ys.length=min vs.length ws.length) (hz:min vs.length ws.length≤1000) (hD:H D=none) (ha:k.At H a vs) (hb:l.At H b ws)
 (hs:∀ (i:Nat) (v w:V) (H2:Hp) (C:V→Hp→Prop),vs[i]? = some v→ws[i]? = some w→Same H H2→(∀ y H5 z,Same H2 H5→ys[i]? = some z→R H5 y z→C y H5)→te (some v :: some w :: rest) H2 C)
 (hd:∀ H2 us,Same H H2→H2 D=some (.lst us)→Al (R H2) us ys→Q (.ref D) H2):LcGo (Itz k l K a b) (gTup K 2 (X0 (Y2 0) (X0 (Y2 1) gNil))) tYes te (u0 :: u1 :: rest) H D Q:=by
 refine Znr R hR ys hn hz (fun σ=>∃ u u',σ=u :: u' :: rest) ⟨_,_,rfl⟩ hD (fun i H2 s hi=>?_) (fun H2 s=>?_) (fun i x σ2 H2 H3 C hi s y o c=>?_) hd
 · have h1:i<vs.length:=by omega
   have h2:i<ws.length:=by omega
   exact ⟨vs,ws,vs[i],ws[i],(ha.same s).sq,(hb.same s).sq,n1_ h1,n1_ h2⟩
 · exact ⟨vs,ws,(ha.same s).sq,(hb.same s).sq,by omega⟩
 · obtain ⟨u,u',rfl⟩:=o;obtain ⟨p,v,w,rfl,hp,rfl,y1,y2⟩:=y;have s3:Same H2 (upd H2 p (.tup [v,w])):=Same.new hp;refine ⟨p,[v,w],rfl,SqT.of Zc,rfl,v,[w],rfl,w,[],rfl,rfl,?_⟩;exact hs i v w _ (C (some v :: some w :: rest)) (y1 vs (ha.same s).sq) (y2 ws (hb.same s).sq) (s.trans s3) fun y H5 z s5 ez rz=>c _ y H5 z ⟨_,_,rfl⟩ (s3.trans s5) ez rz
theorem lc_E {k:SK} {K:PySem.W.Frag} {Q:VK} (R:Hp→V→α→Prop) (hR:∀ H1 H2 v x,Tk H1 H2→R H1 v x→R H2 v x) (f:Nat→Option α) (hz:vs.length≤1000) (hD:H D=none) (ha:k.At H a vs)
 (hs:∀ (i:Nat) (w:V) (H2:Hp) (C:V→Hp→Prop) (N:Hp→Prop),vs[i]? = some w→Same H H2→(∀ y H5 z,Same H2 H5→f i=some z→R H5 y z→C y H5)→(∀ H5,Same H2 H5→f i=none→N H5)→tt (some (.int i) :: some w :: rest) H2 fun b H5=>if b=true then te (some (.int i) :: some w :: rest) H5 C else N H5)
 (hd:∀ H2 us,Same H H2→H2 D=some (.lst us)→Al (R H2) us ((List.range vs.length).filterMap f)→Q (.ref D) H2):LcGo (Ite k K a) (gTup K 2 (X0 (Y2 0) (X0 (Y2 1) gNil))) tt te (u0 :: u1 :: rest) H D Q:=by
 refine Zez (n:=vs.length) (fun i σ H2=>Same H H2∧(∃ u u',σ=u :: u' :: rest)∧∃ us,H2 D=some (.lst us)∧us.length≤i∧Al (R H2) us ((List.range i).filterMap f)) ⟨Same.new hD,⟨_,_,rfl⟩,[],Zc,n14_ _,.nil⟩ (fun i σ H2 hi p=>⟨vs,vs[i],(ha.same p.1).sq,n1_ hi⟩) (fun σ H2 p=>⟨vs,(ha.same p.1).sq,rfl⟩) (fun i x σ2 H2 H3 hi y p=>?_) (fun σ2 H2 p=>?_)
 · obtain ⟨s2,⟨u,u',rfl⟩,us,e2,l2,a2⟩:=p;obtain ⟨q,w,rfl,hq,rfl,y1⟩:=y;have s3:Same H2 (upd H2 q (.tup [.int i,w])):=Same.new hq
   have rg:(List.range (i+1)).filterMap f=(List.range i).filterMap f++(f i).toList:=by
    rw [List.range_succ,List.filterMap_append];cases e:f i<;>simp [e]
   refine ⟨q,[.int i,w],rfl,SqT.of Zc,rfl,_,_,rfl,_,_,rfl,rfl,?_⟩;refine hs i w _ _ _ (y1 vs (ha.same s2).sq) (s2.trans s3) (fun v H5 z s5 ez rz=>?_) (fun H5 s5 ez=>?_)
   · have e5:H5 D=some (.lst us):=s5 _ _ (s3 _ _ e2);refine ⟨us,e5,by rw [sizeLine_eq];omega,vs.length-(i+1),by omega,by omega,rfl,fun b o e=>?_,⟨_,_,rfl⟩,us++[v],Zc,by simp;omega,?_⟩
     · rw [Zh (Zg e hD)];exact s5 _ _ (s3 _ _ (s2 _ _ e))
     · have tk:Tk H5 (upd H5 D (.lst (us++[v]))):=Tk.upd_lst e5;rw [rg,ez];exact (a2.imp fun v x r=>hR _ _ v x tk (hR _ _ v x (s3.trans s5).tk r)).snoc (hR _ _ _ _ tk rz)
   · refine ⟨vs.length-(i+1),by omega,by omega,rfl,s2.trans (s3.trans s5),⟨_,_,rfl⟩,us,s5 _ _ (s3 _ _ e2),by omega,?_⟩;rw [rg,ez];simp only [Option.toList_none,List.append_nil];exact a2.imp fun v x r=>hR _ _ v x (s3.trans s5).tk r
 · obtain ⟨s2,_,us,e2,_,a2⟩:=p;exact hd H2 us s2 e2 a2
abbrev Pnt:=Int×Int
def IsI (H:Hp) (v:V) (ns:List Int):Prop:=∃ a,v=.ref a∧H a=some (.tup (ns.map V.int))
def IsP (H:Hp) (v:V) (p:Pnt):Prop:=IsI H v [p.1,p.2]
theorem IsI.tk (t:Tk H H') (h:IsI H v ns):IsI H' v ns:=let ⟨a,e,q⟩:=h;⟨a,e,t _ _ q⟩
theorem IsP.tk {p:Pnt} (t:Tk H H') (h:IsP H v p):IsP H' v p:=IsI.tk t h
def IsTup' {α:Type} (R:Hp→V→α→Prop) (H:Hp) (v:V) (xs:List α):Prop:=∃ a vs,v=.ref a∧H a=some (.tup vs)∧Al (R H) vs xs
theorem IsTup'.tk {R:Hp→V→α→Prop} (hR:∀ H1 H2 v x,Tk H1 H2→R H1 v x→R H2 v x) {xs:List α} (t:Tk H H') (h:IsTup' R H v xs):IsTup' R H' v xs:=let ⟨a,vs,e,q,r⟩:=h;⟨a,vs,e,t _ _ q,r.imp fun v x=>hR _ _ v x t⟩
structure Pl where
 cs:List Pnt
 ps:List (List Int)
 ts:List Int
 l:Int
 m:Int
def IsCs (H:Hp) (v:V) (cs:List Pnt):Prop:=IsTup' IsP H v cs
def IsPs (H:Hp) (v:V) (ps:List (List Int)):Prop:=IsTup' IsI H v ps
theorem IsCs.tk {cs:List Pnt} (t:Tk H H') (h:IsCs H v cs):IsCs H' v cs:=IsTup'.tk (R:=IsP) (fun _ _ _ _ t r=>IsP.tk t r) t h
theorem IsPs.tk (t:Tk H H') (h:IsPs H v ps):IsPs H' v ps:=IsTup'.tk (R:=IsI) (fun _ _ _ _ t r=>IsI.tk t r) t h
def IsPl (H:Hp) (v:V) (P:Pl):Prop:=∃ a c p t s,v=.ref a∧H a=some (.tup [c,p,t,s])∧IsCs H c P.cs∧IsPs H p P.ps∧IsI H t P.ts∧IsI H s [P.l,P.m]
theorem IsPl.tk {P:Pl} (t:Tk H H') (h:IsPl H v P):IsPl H' v P:=let ⟨a,c,p,q,s,e,h1,h2,h3,h4,h5⟩:=h;⟨a,c,p,q,s,e,t _ _ h1,h2.tk t,h3.tk t,h4.tk t,h5.tk t⟩
def tn (a b c:Pnt):Int:=(b.1-a.1)*(c.2-a.2)-(c.1-a.1)*(b.2-a.2)
structure Tri where
 a:Pnt
 b:Pnt
 c:Pnt
def tri (a b c:Pnt):Tri:=if tn a b c<0 then ⟨a,c,b⟩ else ⟨a,b,c⟩
def Tri.pts (t:Tri):List Pnt:=[t.a,t.b,t.c]
def Tri.edges (t:Tri):List (Pnt×Pnt):=[(t.a,t.b),(t.b,t.c),(t.c,t.a)]
def Zbq (p:Pnt) (t:Tri):Bool:=(t.edges.map fun e=>decide (0≤tn e.1 e.2 p)).all id
def Zdf (e:Pnt×Pnt) (u:Tri):Bool:=(u.pts.map fun q=>decide (tn e.1 e.2 q≤0)).all id
def Y5 (t u:Tri):Bool:=t.edges.any fun e=>Zdf e u
def apart (t u:Tri):Bool:=Y5 t u||Y5 u t
def IsT (H:Hp) (v:V) (t:Tri):Prop:=∃ a x y z,v=.ref a∧H a=some (.tup [x,y,z])∧IsP H x t.a∧IsP H y t.b∧IsP H z t.c
theorem IsT.tk {u:Tri} (t:Tk H H') (h:IsT H v u):IsT H' v u:=let ⟨a,x,y,z,e,h1,h2,h3,h4⟩:=h;⟨a,x,y,z,e,t _ _ h1,h2.tk t,h3.tk t,h4.tk t⟩
def near (p:Pnt):Prop:=(-100≤p.1∧p.1≤100)∧(-100≤p.2∧p.2≤100)
def Tri.near (t:Tri):Prop:=L2.near t.a∧L2.near t.b∧L2.near t.c
def cAt (cs:List Pnt) (i:Int):Pnt:=cs.getD i.toNat (0,0)
def trOf (cs:List Pnt) (p:List Int):Tri:=tri (cAt cs (p.getD 0 0)) (cAt cs (p.getD 1 0)) (cAt cs (p.getD 2 0))
def dOf (cs:List Pnt) (p:List Int):Int:=tn (cAt cs (p.getD 0 0)) (cAt cs (p.getD 1 0)) (cAt cs (p.getD 2 0))
def Za7 (q:(Int→Bool)×Nat) (k:Int):(Int→Bool)×Nat:=(fun k'=>q.1 k'||decide (k'=k),if q.1 k then q.2 else q.2+1)
def cntS (l:List Int):Nat:=(l.foldl Za7 (fun _=>false,0)).2
structure PieceOk (cs:List Pnt) (p:List Int):Prop where
 len:p.length=3
 bd:∀ i∈p,0≤i∧i≤(cs.length:Int)-1
 rise:p.getD 0 0<p.getD 1 0∧p.getD 1 0<p.getD 2 0
 d:dOf cs p≠0
structure PlOk (P:Pl):Prop where
 c3:3≤P.cs.length
 c30:P.cs.length≤30
 nr:∀ p∈P.cs,near p
 nd:P.cs.Nodup
 p1:1≤P.ps.length
 p40:P.ps.length≤40
 pc:∀ p∈P.ps,PieceOk P.cs p
 rise:∀ i:Nat,i+1<P.ps.length→HT.lexLt (P.ps.getD i []) (P.ps.getD (i+1) [])=true
 t1:P.ts.length=P.ps.length
 t9:∀ t∈P.ts,1≤t∧t≤9
 l9:0≤P.l∧P.l≤9
 m9:1≤P.m∧P.m≤9
 used:cntS P.ps.flatten=P.cs.length
 strange:∀ p∈P.ps,∀ j:Nat,j<P.cs.length→(j:Int)∉p→Zbq (P.cs.getD j (0,0)) (trOf P.cs p)=false
 apart:∀ i j:Nat,i<j→j<P.ps.length→L2.apart (trOf P.cs (P.ps.getD j [])) (trOf P.cs (P.ps.getD i []))=true
abbrev Nms:=List (Str×NameKind)
def relN (sc:Nms) (dn:Nms):Nms:=sc.map fun y=>if y.2 == .free&&dn.lookup y.1 == some .cell then (y.1,.cell) else y
def chk (sc dn:Nms) (N XN:List Str) (fr:List (Option Nat)):Bool :=
 sc.all (fun y=>y.2 != .free||dn.lookup y.1 == some .cell)&&sc.all (fun y=>y.2 != .local||sc.lookup y.1 == some .local)&&sc.all (fun y=>y.2 != .cell||sc.lookup y.1 == some .cell)&&(fr.length == N.length) &&
  (List.range fr.length).all fun i=>match fr[i]? with
    | some (some j)=>match N[i]? with
      | some x=>XN[j]? == some x&&dn.lookup x == some .cell&&(relN sc dn).lookup x == some .cell&&sc.all (fun y=>y.1 != x||y.2 != .cell)&&sc.any (fun y=>y.1 == x&&y.2 == .free)
      | none=>false
    | _=>true
theorem Zbf {cells:List (Str×Addr)} {sc:Nms} (key:(x,NameKind.free)∈sc):∃ c,(Yz cells sc).lookup x=some c:=by
 have hm:(x,(cells.lookup x).getD 0)∈Yz cells sc:=by
  unfold Yz;exact List.mem_reverse.mpr (n18_.mpr ⟨(x,.free),n71_.mpr ⟨key,rfl⟩,rfl⟩)
 cases q:(Yz cells sc).lookup x with
 | some c'=>exact ⟨c',rfl⟩
 | none =>
   have z:=(List.lookup_eq_none_iff.mp q) _ hm;simp at z
theorem Zf7 {sc dn:Nms} {k:NameKind} (hk:k=.cell∨k=.free) (h:(relN sc dn).lookup x=some k):(x,NameKind.free)∈sc∨(x,NameKind.cell)∈sc:=by
 have m:=n41_ h;obtain ⟨⟨n,k'⟩,hm,e⟩:=n18_.mp m
 by_cases hf:k'=.free
 · subst hf
   have:n=x:=by
    dsimp only at e;split at e<;>(injection e)
   subst this;exact .inl hm
 · have b:(k' == NameKind.free)=false:=by simpa using hf
   simp only [b,Bool.false_and,n15_,if_false] at e;injection e with e1 e2
   subst e1 e2
   rcases hk with rfl|rfl
   · exact .inr hm
   · exact absurd rfl hf
theorem Zbs {dn:Nms} (hn:env.scope.names=dn) (hk:env.scope.kind=.function):(relabel scope env).names=relN scope.names dn:=by
 unfold relabel relN;show scope.names.map _=scope.names.map _
 refine n52_ fun y _=>?_;obtain ⟨n,k⟩:=y;have e:(env.scope.kind == ScopeKind.function)=true:=by rw [hk];rfl
 have e2:env.kindOf n=dn.lookup n:=by rw [← hn];rfl
 simp only [e,e2,Bool.and_true]
theorem Zv {XN:List Str} (dn:Nms) (hn:X.env.scope.names=dn) (hk:X.env.scope.kind=.function) (hX:X.N=XN) (hc:∀ x,dn.lookup x=some .cell→∃ c,X.env.cells.lookup x=some c)
 (h:chk scope.names dn N XN fr=true) (hs:scope.kind=.function):LcO X scope (Yz X.env.cells scope.names) N fr:=by
 unfold chk at h;simp only [n47_] at h;obtain ⟨⟨⟨⟨h1,h2⟩,h3⟩,h4⟩,h5⟩:=h
 have hf:∀ y∈scope.names,y.2=.free→∃ c,X.env.cells.lookup y.1=some c:=fun y hy e=>by
  have:=n61_.mp h1 y hy
  rw [e] at this;exact hc _ (by simpa using this)
 refine ⟨Zcx hf,fun x c e=>?_,fun x e=>?_,hs,fun y hy e=>?_,by simpa using h4,fun i j e=>?_⟩
 · have m:=n41_ e;unfold Yz at m;obtain ⟨⟨n,k⟩,hm,e2⟩:=n18_.mp (List.mem_reverse.mp m);obtain ⟨h1',h2'⟩:=n71_.mp hm;obtain ⟨c',hc'⟩:=hf _ h1' (by simpa using h2');injection e2 with e3 e4
   subst e3;rw [hc'] at e4;rw [hc',← e4];rfl
 · rw [Zbs hn hk] at e
   have:(x,NameKind.free)∈scope.names∨(x,NameKind.cell)∈scope.names:=e.elim (Zf7 (.inl rfl)) (Zf7 (.inr rfl))
   rcases this with m|m
   · exact .inr (Zbf m)
   · have:=n61_.mp h3 _ m
     exact .inl (by simpa using this)
 · have:=n61_.mp h2 y hy
   rw [e] at this
   simpa using this
 · have hi:i<fr.length:=(n9_.mp e).1
   have:=n61_.mp h5 i (n24_.mpr hi)
   rw [e] at this;cases hx:N[i]? with
   | none=>rw [hx] at this;cases this
   | some x =>
     rw [hx] at this;simp only [n47_,beq_iff_eq] at this;obtain ⟨⟨⟨⟨t1,t2⟩,t3⟩,t4⟩,t5⟩:=this;obtain ⟨⟨z1,z2⟩,m1,m2⟩:=List.any_eq_true.mp t5;simp only [n47_,beq_iff_eq] at m2;obtain ⟨rfl,rfl⟩:=m2;refine ⟨z1,rfl,by rw [hX];exact t1,.inl (by rw [hn];exact t2),.inl (by rw [Zbs hn hk];exact t3),Zbf m1,fun m=>?_⟩
     have:=n61_.mp t4 _ m
     simp at this
theorem Za0 {cells:List (Str×Addr)} {sc dn:Nms} (hc:sc.all (fun y=>y.2 != .cell||sc.lookup y.1 == some .cell)=true) (h:(relN sc dn).lookup x=some .cell):∃ c,(cellsFrom n sc (Yz cells sc)).lookup x=some c:=by
 refine Option.isSome_iff_exists.mp (PySem.W.cellsFrom_some sc n _ ?_)
 rcases Zf7 (.inl rfl) h with m|m
 · obtain ⟨c,e⟩:=Zbf (cells:=cells) m;exact .inr (by rw [e];rfl)
 · have:=n61_.mp hc _ m
   exact .inl (by simpa using this)
theorem Yn (h:scope.names.all (fun y=>y.2 != .cell&&y.2 != .free)=true) (hk:scope.kind=.function)
 (hn:∀ y∈scope.names,y.2=.local→scope.names.lookup y.1=some .local) (hl:fr.length=N.length) (hf:fr.all (·.isNone)=true):LcO X scope [] N fr:=by
 have no:∀ y∈scope.names,y.2≠.cell∧y.2≠.free:=fun y hy=>by
  have:=n61_.mp h y hy
  rw [n47_] at this
  simpa using this
 refine ⟨closureFor_none fun x hx=>(no x hx).2,fun x c e=>by simp at e,fun x e=>?_,hk,hn,hl,fun i j e=>?_⟩
 · exfalso
   have key:∀ k,(relabel scope X.env).names.lookup x=some k→k≠.cell∧k≠.free:=fun k e=>by
    obtain ⟨⟨n,k'⟩,hm,e2⟩:=n18_.mp (n41_ e);have b:(k' == NameKind.free)=false:=by simpa using (no _ hm).2
    simp only [b,Bool.false_and,n15_,if_false] at e2;cases e2
    exact no _ hm
   rcases e with e|e
   · exact (key _ e).1 rfl
   · exact (key _ e).2 rfl
 · have:=n61_.mp hf _ (n7_ e)
   cases this
theorem Zss {sp:Sp} {p:Pos} (C:Cal X.prog X.w X.K X.mg X.base x k [] sp) (hr:Room j X.A) (hj:k≤j) (hg:Gl X x) (hdb:(x == ("__debug__" : Str))=false:=by decide) :
 PE X (.Call (.Name x p) [] [] pos) (fun _ H Q=>sp [] H Q E0):=by
 obtain ⟨f,fd,F,hm,hk,hb⟩:=C.ex;have h:=Zpl (dvs:=[]) (E:=E0) (p:=p) (pos:=pos) F (hr.mono hj) hg hm hk hb .nil Zuv hdb;exact h
def rNeL (K:PySem.W.Frag):R2:=fun x y H Q=>∃ a b xs,x=.ref a∧y=.ref b∧SqL K H a xs∧SqL K H b []∧Q (.bl (!decide (xs=[]))) H
theorem Zvd (hu:X.A.units<cLine):OpR X (compareOp .NotEq) (rNeL X.K):=by
 intro pins s σ H x y v u Q I rx ry h;obtain ⟨a,b,xs,rfl,rfl,h1,h2,q⟩:=h;cases rx;cases ry
 obtain ⟨us,r1,p1,_⟩:=I.list h1;obtain ⟨ws,r2,p2,_⟩:=I.list h2;have l1:=r1.length;have e:ws=[]:=r2.nil_iff.mpr rfl;subst e;cases hx:xs with
 | nil =>
   subst hx;have e:us=[]:=r1.nil_iff.mpr rfl;subst e;exact SeqAt.RcNeAt.lists (e:=fun j=>true) p1.isList p2.isList rfl hu (fun j h1 h2=>absurd h2 (by simp)) _ _ _ _ ⟨.bl _,H,I,rfl,q⟩
 | cons y ys =>
   subst hx;exact SeqAt.RcNeAt.lists_lengths p1.isList p2.isList (by simp at l1;simp [← l1]) hu _ _ _ _ ⟨.bl _,H,I,rfl,q⟩
theorem Xh (K:PySem.W.Frag) (h:X.K=K):IxR X (rIxL K):=h ▸ Ym
theorem Xb (K:PySem.W.Frag) (h:X.K=K):IxR X (rIxT K):=h ▸ Z1
theorem Zf8 (K:PySem.W.Frag) (h:X.K=K):OpR X (compareOp .NotIn) (rIn K true):=h ▸ Zia
theorem Zbv (K:PySem.W.Frag) (h:X.K=K):Yy X (.builtin "len") (fun xs H Q=>∃ p ys,xs=[.ref p]∧(SqL K H p ys∨SqT K H p ys)∧Q (.int ys.length) H):=h ▸ Zq
theorem Yi (K:PySem.W.Frag) (h:X.K=K):Yy X (.type "tuple") (fun xs H Q=>∃ p ys,xs=[.ref p]∧((SqL K H p ys∧∀ l,H l=none→Q (.ref l) (upd H l (.tup ys)))∨(SqT K H p ys∧Q (.ref p) H))):=h ▸ Zx
theorem Y3 (K:PySem.W.Frag) (h:X.K=K):Yy X (.builtin "sorted") (fun xs H Q=>∃ (p:Addr) (ns:List Int),xs=[.ref p]∧SqL K H p (ns.map V.int)∧ns.length<64∧∀ (l:Addr) (ns':List Int),H l=none→ns'.Perm ns→ns'.Pairwise (·≤·)→Q (.ref l) (upd H l (.lst (ns'.map V.int)))):=h ▸ Zcg
theorem Zb9 (K:PySem.W.Frag) {l:Expr} {tl:TE} (h:X.K=K) (hl:PE X l tl):PI X tg l (iTup K tl):=h ▸ Y6 hl
theorem Zsr {k:SK} {K:PySem.W.Frag} {Q:VK} (R:Hp→V→α→Prop) (hR:∀ H1 H2 v x,Tk H1 H2→R H1 v x→R H2 v x) (ys:List α) (hn:ys.length=vs.length) (hz:vs.length≤1000) (hD:H D=none) (ha:k.At H a vs)
 (hp:∀ (i:Nat) (w:V),vs[i]? = some w→∃ p x y,w=.ref p∧H p=some (.tup [x,y]))
 (hs:∀ (i:Nat) (p:Addr) (x y:V) (H2:Hp) (C:V→Hp→Prop),vs[i]? = some (.ref p)→H p=some (.tup [x,y])→Same H H2→(∀ y H5 z,Same H2 H5→ys[i]? = some z→R H5 y z→C y H5)→te (some x :: some y :: rest) H2 C)
 (hd:∀ H2 us,Same H H2→H2 D=some (.lst us)→Al (R H2) us ys→Q (.ref D) H2):LcGo (k.Itk K a) (gTup K 2 (X0 (Y2 0) (X0 (Y2 1) gNil))) tYes te (u0 :: u1 :: rest) H D Q:=by
 refine Znr R hR ys hn hz (fun σ=>∃ u u',σ=u :: u' :: rest) ⟨_,_,rfl⟩ hD (fun i H2 s hi=>Zg9 (ha.same s) hi) (fun H2 s=>Zbj (ha.same s) (n14_ _)) (fun i x σ2 H2 H3 C hi s y o c=>?_) hd;obtain ⟨u,u',rfl⟩:=o;obtain ⟨rfl,e⟩:=Zdv (ha.same s) y;obtain ⟨p,x1,y1,rfl,e2⟩:=hp i x e;exact ⟨p,[x1,y1],rfl,SqT.of (s _ _ e2),rfl,x1,[y1],rfl,y1,[],rfl,rfl,hs i p x1 y1 H3 (C (some x1 :: some y1 :: rest)) e e2 s fun y H5 z s5 ez rz=>c _ y H5 z ⟨_,_,rfl⟩ s5 ez rz⟩
theorem Zsq {K:PySem.W.Frag} {Q:VK} (ha:H a=some (.tup vs)) (al:Al (IsI H) vs ps) (hl:ps.flatten.length<1000) (hD:H D=none)
 (hd:∀ S,Q (.ref D) (upd H D (.set S (cntS ps.flatten)))) :
 ScGo (Itt K a) (Y2 0) (iTup K (tVar 0)) (Y2 1) (tVar 1) (u0 :: u1 :: rest) H D Q:=by
 have hsz:∀ l:List Int,(l.foldl Za7 (fun _=>false,0)).2≤l.length:=by
  intro l
  have:∀ (l:List Int) q,(l.foldl Za7 q).2≤q.2+l.length:=by
   intro l
   induction l with
   | nil=>intro q;simp
   | cons x l ih =>
     intro q
     have:=ih (Za7 q x)
     rw [n67_,n26_];have h2:(Za7 q x).2≤q.2+1:=by unfold Za7;dsimp only;split<;>omega
     omega
  have:=this l (fun _=>false,0)
  simpa using this
 have sb:∀ n,n<1001→n+1<scanBound:=fun n h=>Nat.lt_trans (show n+1<1002 by omega) (by decide)
 let f:List Int→(Int→Bool)×Nat:=fun l=>l.foldl Za7 (fun _=>false,0)
 refine ⟨fun i m σ H2=>m=vs.length-i∧i≤vs.length∧(∃ u u',σ=u :: u' :: rest)∧H2=upd H D (.set (f (ps.take i).flatten).1 (f (ps.take i).flatten).2),⟨_,rfl,n55_ _,⟨_,_,rfl⟩,by simp [f]⟩,?_⟩;rintro i m σ2 H2 ⟨rfl,hi,⟨u,u',rfl⟩,rfl⟩
 have e0:upd H D (.set (f (ps.take i).flatten).1 (f (ps.take i).flatten).2) a=some (.tup vs):=by rw [Zh (Zg ha hD)];exact ha
 by_cases hlt:i<vs.length
 · refine .inr ⟨⟨vs,vs[i],SqT.of e0,n1_ hlt⟩,fun x H3 y=>?_⟩;obtain ⟨rfl,y2⟩:=y;have ex:=y2 vs (SqT.of e0);obtain ⟨p,ep,b,rfl,hb⟩:=al.get ex;have hip:i<ps.length:=(n9_.mp ep).1;have tk:ps.take (i+1)=ps.take i++[p]:=by rw [List.take_succ,ep];rfl
   have fl:(ps.take (i+1)).flatten=(ps.take i).flatten++p:=by rw [tk];simp
   have le1:(ps.take (i+1)).flatten.length≤ps.flatten.length:=by
    have:=congrArg (fun l:List (List Int)=>l.flatten.length) (List.take_append_drop (i+1) ps)
    rw [List.flatten_append,n28_] at this;omega
   have eb:∀ o,upd H D o b=some (.tup (p.map V.int)):=fun o=>by rw [Zh (Zg hb hD)];exact hb
   refine ⟨.ref b,rfl,b,rfl,⟨_,SqT.of (eb _)⟩,?_⟩;refine ⟨fun i1 m1 σ6 H6=>m1=p.length-i1∧i1≤p.length∧(∃ u',σ6=some (.ref b) :: u' :: rest)∧H6=upd H D (.set (f ((ps.take i).flatten++p.take i1)).1 (f ((ps.take i).flatten++p.take i1)).2),⟨_,rfl,n55_ _,⟨_,rfl⟩,by simp⟩,?_⟩;rintro i1 m1 σ6 H6 ⟨rfl,hi1,⟨u2,rfl⟩,rfl⟩
   by_cases hl1:i1<p.length
   · refine .inr ⟨⟨p.map V.int,V.int p[i1],SqT.of (eb _),by simp [hl1]⟩,fun y H7 yy=>?_⟩;obtain ⟨rfl,y3⟩:=yy;have ey:=y3 _ (SqT.of (eb _));rw [n6_,n1_ hl1] at ey;cases ey
     have len:(ps.take i).flatten.length+p.length≤ps.flatten.length:=by rw [fl,n28_] at le1;exact le1
     refine ⟨_,rfl,p[i1],_,_,rfl,Zc,sb _ ?_,_,(by omega:p.length-(i1+1)<_),rfl,by omega,⟨_,rfl⟩,?_⟩
     · have:=hsz ((ps.take i).flatten++p.take i1)
       simp only [f];rw [n28_,n65_] at this;omega
     · have e5:p.take (i1+1)=p.take i1++[p[i1]]:=n80_ hl1;rw [Zsa,e5,← n57_];simp only [f,List.foldl_append,n67_,List.foldl_nil];rfl
   · refine .inl ⟨⟨_,SqT.of (eb _),by simp;omega⟩,_,(by omega:vs.length-(i+1)<_),rfl,by omega,⟨_,_,rfl⟩,?_⟩;rw [fl,show p.take i1=p from n72_ (by omega)]
 · have e:i=vs.length:=by omega
   subst e;refine .inl ⟨⟨vs,SqT.of e0,n14_ _⟩,?_⟩;rw [n72_ (by rw [al.1];exact n14_ _)];exact hd _
theorem Znb:Yy X (.builtin "len") (fun xs H Q=>∃ D S n,xs=[.ref D]∧H D=some (.set S n)∧Q (.int n) H):=by
 intro pins s σ H xs us Q I r h;obtain ⟨D,S,n,rfl,hS,q⟩:=h;cases r with
 | cons rx r =>
   cases r
   cases (show _=Value.ref D from rx)
   obtain ⟨o,es,ep,t,e,ex,d,_,_,sz,f,en⟩:=(show ObjOk X.prog X.w H s.heap D (.set S n) from I.hok D _ hS);have hl:=Zds
   have:(4096:Nat)=scanBound:=rfl
   refine call_len_set e ex d f (by omega) ⟨.int n,H,I.tok _,⟨_,by rw [en]⟩,q⟩
theorem Ze5 {pos' spos:Pos} {g g':TG}
 (hw:swapsWith (.ListComp elt [⟨tg,iter,ifs,0⟩] scope pos) (some (.Name x pos')) spos.line X.env=pure true)
 (hc:X.calm=true) (hg':PG X (.Name x pos') g') (L:LcO X scope cl N fr) (hi:PI X tg iter wi) (hg:∀ C s3 H3 fp,PG (blk X scope cl C N s3 H3 fp) tg g)
 (ht:∀ C s3 H3 fp,PIfs (blk X scope cl C N s3 H3 fp) ifs tt) (he:∀ C s3 H3 fp,PE (blk X scope cl C N s3 H3 fp) elt te)
 (hs:∀ x,foldedSetIterable iter X.env x=pure x:=by intro _;rfl):PS X (.Assign [.Name x pos'] (.ListComp elt [⟨tg,iter,ifs,0⟩] scope pos) spos) (tAsg (tLC wi g tt te fr) g'):=by
 intro pins s σ H D I h;rw [exec_Assign_Name_used _ _ _ _ hw];refine n0_ (wpAny_standAt (n0_ ?_));rw [arm_evalThenUse_ListComp];refine n0_ (wpAny_comprehension_free (Q:=fun _ s'=>wpAny (model X.prog X.w) X.A (pure ()) (fun _ s''=>wpAny (model X.prog X.w) X.A (pure Flow.next) (SP X pins D) X.xe s'') X.xe s') (use:=some (assign (.Name x pos') X.env)) rfl hs L.clos L.kind L.names (thn (hi pins s σ H _ I h) fun v s1 h1=>thn h1 fun itv s2 h2=>?_));obtain ⟨it,fp,tn,J,H2,e,I2,T,st2,f2,h⟩:=h2;subst e;obtain ⟨W,⟨m0,w0⟩,turn⟩:=h s2.z (I2.hok.fresh (n14_ _));refine wpAny_newObj_type ?_;generalize hs3:({ s2 with heap:=s2.heap.push { cls:=.type "list",dict:=none,data:=.seq ([]:List Value).toArray } }:Shared)=s3;refine Zc3 (ac:=.lst []) hs3.symm hc L hg I2 T st2 f2 ⟨n55_ _,[],_,.nil,n8_ _ rfl⟩ w0 turn (fun _ _ a b=>codeAny_compStart_list a (b _)) (fun LI s4 t n h=>Zcj LI t n h) (fun H6 s7 qn I3 fr7 c=>?_) (Znz ht he);obtain ⟨m7,hn7,c7⟩:=c;have I8:Inv X pins σ H6 s7:=c7 s7.heap (Heap.SameBut.refl ..)
 have fpC:∀ {H6:Hp},H6 s3.z=none→∀ b∈[s3.z],FpOk X pins H6 b:=fun fr b hb=>by
  rw [n22_] at hb;subst hb;exact I3.fpOk (n14_ _) fr
 obtain ⟨oC,esC,epC,geC,dC,skC,nfC⟩:=hn7
 have I9:=I8.pinned (fpC fr7) (fun b hb=>by
  rw [n22_] at hb;subst hb;exact ⟨oC,geC,fun v z=>by rw [dC] at z;cases z⟩)
 refine thn (hg' _ s7 σ H6 (.ref s2.z) (.ref s2.z) _ I9 rfl qn) fun _ s9 ⟨σ9,H9,I10,q9⟩=>?_;have pC:=I10.pin (s3.z,oC) (n35_ _ (n35_ _ (Y9 (n22_.mpr rfl) geC)));refine ⟨m7,⟨oC,esC,epC,pC.1,dC,skC,nfC⟩,fun h' sb=>?_⟩;refine n4_ (n4_ ?_);exact ⟨σ9,H9,I10.unpinned.turnGen (t':=s9.toks) (ch:=[s3.z]) (fun b u nb e=>(sb.2 b (fun z=>nb (by rw [z];exact n22_.mpr rfl))).trans e) (fpC pC.2.1) (fun _ _ e=>e) (fun _ _ _ e=>e) (fun b u e1 e2=>by rw [e1] at e2;cases e2),q9⟩
def tD (a b c x y q:Pnt):Int:=tn a b c*tn x y q
def inS (a b c q:Pnt):Prop:=0≤tD a b c a b q∧0≤tD a b c b c q∧0≤tD a b c c a q
def bey (a b c x y u v w:Pnt):Prop:=tD a b c x y u≤0∧tD a b c x y v≤0∧tD a b c x y w≤0
def sepS (a b c u v w:Pnt):Prop:=bey a b c a b u v w∨bey a b c b c u v w∨bey a b c c a u v w
instance {a b c q:Pnt}:Decidable (inS a b c q):=by unfold inS;infer_instance
instance {a b c x y u v w:Pnt}:Decidable (bey a b c x y u v w):=by unfold bey;infer_instance
instance {a b c u v w:Pnt}:Decidable (sepS a b c u v w):=by unfold sepS;infer_instance
theorem Za2 (a b q:Pnt):tn b a q =-tn a b q:=by unfold tn;grind
theorem Znl (a b c:Pnt):tn b c a=tn a b c:=by unfold tn;grind
theorem Ztg (a b c x y q:Pnt):tD b a c x y q=tD a b c y x q:=by
 unfold tD;rw [Za2 a b c,Za2 x y q];grind
theorem Zrq (a b c x y q:Pnt):tD b c a x y q=tD a b c x y q:=by unfold tD;rw [Znl]
theorem Zob (a b c x y q:Pnt):tD b a c y x q=tD a b c x y q:=Ztg a b c y x q
theorem Zsl {a b c q:Pnt} (h:inS a b c q):inS b c a q:=by
 unfold inS at *;simp only [Zrq];exact ⟨h.2.1,h.2.2,h.1⟩
theorem Zt1 {a b c q:Pnt} (h:inS a b c q):inS b a c q:=by
 unfold inS at *;simp only [Zob];exact ⟨h.1,h.2.2,h.2.1⟩
theorem Zsz {a b c x y u v w:Pnt}:bey b c a x y u v w=bey a b c x y u v w:=by unfold bey;simp only [Zrq]
theorem Zuy {a b c x y u v w:Pnt}:bey b a c y x u v w=bey a b c x y u v w:=by unfold bey;simp only [Zob]
theorem Zst {a b c u v w:Pnt} (h:sepS a b c u v w):sepS b c a u v w:=by
 unfold sepS at *;simp only [Zsz];rcases h with h|h|h
 · exact .inr (.inr h)
 · exact .inl h
 · exact .inr (.inl h)
theorem Zvi {a b c u v w:Pnt} (h:sepS a b c u v w):sepS b a c u v w:=by
 unfold sepS at *;simp only [Zuy];rcases h with h|h|h
 · exact .inl h
 · exact .inr (.inr h)
 · exact .inr (.inl h)
theorem Zqc {a b c u v w:Pnt} (h:sepS a b c u v w):sepS a b c v w u:=by
 unfold sepS bey at *;rcases h with ⟨h1,h2,h3⟩|⟨h1,h2,h3⟩|⟨h1,h2,h3⟩
 · exact .inl ⟨h2,h3,h1⟩
 · exact .inr (.inl ⟨h2,h3,h1⟩)
 · exact .inr (.inr ⟨h2,h3,h1⟩)
theorem Zsc {a b c u v w:Pnt} (h:sepS a b c u v w):sepS a b c v u w:=by
 unfold sepS bey at *;rcases h with ⟨h1,h2,h3⟩|⟨h1,h2,h3⟩|⟨h1,h2,h3⟩
 · exact .inl ⟨h2,h1,h3⟩
 · exact .inr (.inl ⟨h2,h1,h3⟩)
 · exact .inr (.inr ⟨h2,h1,h3⟩)
theorem Zn1 [DecidableEq α] {x y z a b c:α} (h:[x,y,z].Perm [a,b,c]) (P:α→α→α→Prop) (rot:∀ a b c,P a b c→P b c a) (sw:∀ a b c,P a b c→P b a c) (p:P a b c):P x y z:=by
 have hx:x∈[a,b,c]:=h.mem_iff.mp (by simp);simp only [n12_,n16_,or_false] at hx
 have two:∀ {y z b c:α},[y,z].Perm [b,c]→(y=b∧z=c)∨(y=c∧z=b):=by
  intro y z b c h;have hy:y∈[b,c]:=h.mem_iff.mp (by simp);simp only [n12_,n16_,or_false] at hy
  rcases hy with rfl|rfl
  · have:=List.perm_cons y |>.mp h
    exact .inl ⟨rfl,by simpa using this⟩
  · have:=List.perm_cons y |>.mp (h.trans (List.Perm.swap y b []))
    exact .inr ⟨rfl,by simpa using this⟩
 rcases hx with rfl|rfl|rfl
 · rcases two ((List.perm_cons x).mp h) with ⟨rfl,rfl⟩|⟨rfl,rfl⟩
   · exact p
   · exact sw _ _ _ (rot _ _ _ (rot _ _ _ p))
 · rcases two ((List.perm_cons x).mp (h.trans (List.Perm.swap x a [c]))) with ⟨rfl,rfl⟩|⟨rfl,rfl⟩
   · exact sw _ _ _ p
   · exact rot _ _ _ p
 · have h2:[x,y,z].Perm [x,a,b]:=h.trans (((List.Perm.swap x b []).cons a).trans (List.Perm.swap x a [b]))
   rcases two ((List.perm_cons x).mp h2) with ⟨rfl,rfl⟩|⟨rfl,rfl⟩
   · exact rot _ _ _ (rot _ _ _ p)
   · exact sw _ _ _ (rot _ _ _ p)
theorem Zlr {a b c q:Pnt} (hd:tn a b c≠0):Zbq q (tri a b c)=true↔inS a b c q:=by
 unfold Zbq tri inS tD
 by_cases h:tn a b c<0
 · rw [if_pos h];have e1:tn a c q =-tn c a q:=Za2 c a q;have e2:tn c b q =-tn b c q:=Za2 b c q;have e3:tn b a q =-tn a b q:=Za2 a b q;simp only [Tri.edges,n31_,List.map_nil,List.all_cons,List.all_nil,id,Bool.and_true,n47_,decide_eq_true_eq,e1,e2,e3]
   have k:∀ t:Int,(0≤tn a b c*t↔0≤-t):=fun t=>by
    constructor
    · intro g
      by_cases ht:0<t
      · have:=Int.mul_neg_of_neg_of_pos h ht
        omega
      · omega
    · intro g;exact Int.mul_nonneg_of_nonpos_of_nonpos (by omega) (by omega)
   rw [k,k,k];constructor
   · rintro ⟨h1,h2,h3⟩;exact ⟨h3,h2,h1⟩
   · rintro ⟨h1,h2,h3⟩;exact ⟨h3,h2,h1⟩
 · rw [if_neg h];have hp:0<tn a b c:=by omega
   simp only [Tri.edges,n31_,List.map_nil,List.all_cons,List.all_nil,id,Bool.and_true,n47_,decide_eq_true_eq]
   have k:∀ t:Int,(0≤tn a b c*t↔0≤t):=fun t=>by
    constructor
    · intro g
      by_cases ht:t<0
      · have:=Int.mul_neg_of_pos_of_neg hp ht
        omega
      · omega
    · intro g;exact Int.mul_nonneg (by omega) g
   rw [k,k,k]
theorem Ze6 {e:Pnt×Pnt} {u v w:Pnt} {t:Tri} (ht:t=tri u v w):Zdf e t=true↔tn e.1 e.2 u≤0∧tn e.1 e.2 v≤0∧tn e.1 e.2 w≤0:=by
 subst ht;unfold Zdf tri;split
 · simp only [Tri.pts,n31_,List.map_nil,List.all_cons,List.all_nil,id,Bool.and_true,n47_,decide_eq_true_eq];constructor
   · rintro ⟨h1,h2,h3⟩;exact ⟨h1,h3,h2⟩
   · rintro ⟨h1,h2,h3⟩;exact ⟨h1,h3,h2⟩
 · simp only [Tri.pts,n31_,List.map_nil,List.all_cons,List.all_nil,id,Bool.and_true,n47_,decide_eq_true_eq]
theorem Zct {a b c u v w:Pnt} (hd:tn a b c≠0) (h:sepS a b c u v w):Y5 (tri a b c) (tri u v w)=true:=by
 unfold Y5
 have k:∀ x y:Pnt,bey a b c x y u v w→(tn a b c<0→Zdf (y,x) (tri u v w)=true)∧(¬ tn a b c<0→Zdf (x,y) (tri u v w)=true):=by
  intro x y g;unfold bey tD at g;refine ⟨fun hn=>(Ze6 rfl).mpr ?_,fun hn=>(Ze6 rfl).mpr ?_⟩
  · have kk:∀ q:Pnt,tn a b c*tn x y q≤0→tn y x q≤0:=fun q hq=>by
     rw [Za2 x y q]
     by_cases ht:tn x y q<0
     · have:=Int.mul_pos_of_neg_of_neg hn ht
       omega
     · omega
    exact ⟨kk _ g.1,kk _ g.2.1,kk _ g.2.2⟩
  · have hp:0<tn a b c:=by omega
    have kk:∀ q:Pnt,tn a b c*tn x y q≤0→tn x y q≤0:=fun q hq=>by
     by_cases ht:0<tn x y q
     · have:=Int.mul_pos hp ht
       omega
     · omega
    exact ⟨kk _ g.1,kk _ g.2.1,kk _ g.2.2⟩
 rw [List.any_eq_true];generalize tri u v w=T at k ⊢;unfold tri
 by_cases hn:tn a b c<0
 · rw [if_pos hn]
   rcases h with h|h|h
   · exact ⟨(b,a),by simp [Tri.edges],(k _ _ h).1 hn⟩
   · exact ⟨(c,b),by simp [Tri.edges],(k _ _ h).1 hn⟩
   · exact ⟨(a,c),by simp [Tri.edges],(k _ _ h).1 hn⟩
 · rw [if_neg hn]
   rcases h with h|h|h
   · exact ⟨(a,b),by simp [Tri.edges],(k _ _ h).2 hn⟩
   · exact ⟨(b,c),by simp [Tri.edges],(k _ _ h).2 hn⟩
   · exact ⟨(c,a),by simp [Tri.edges],(k _ _ h).2 hn⟩
structure Aff where
 a:Int
 b:Int
 c:Int
 d:Int
 s:Int
 t:Int
def Aff.at (A:Aff) (p:Pnt):Pnt:=(A.a*p.1+A.b*p.2+A.s,A.c*p.1+A.d*p.2+A.t)
def Aff.det (A:Aff):Int:=A.a*A.d-A.b*A.c
theorem Aff.tn (A:Aff) (p q r:Pnt):L2.tn (A.at p) (A.at q) (A.at r)=A.det*L2.tn p q r:=by
 unfold L2.tn Aff.at Aff.det;dsimp only
 grind
theorem Aff.tD (A:Aff) (a b c x y q:Pnt):L2.tD (A.at a) (A.at b) (A.at c) (A.at x) (A.at y) (A.at q)=A.det*A.det*L2.tD a b c x y q:=by
 unfold L2.tD;rw [A.tn,A.tn]
 grind
theorem Aff.sq {A:Aff} (h:A.det≠0):0<A.det*A.det:=by
 by_cases g:0<A.det
 · exact Int.mul_pos g g
 · exact Int.mul_pos_of_neg_of_neg (by omega) (by omega)
theorem Aff.nn {A:Aff} (h:A.det≠0) (t:Int):0≤A.det*A.det*t↔0≤t:=by
 have hp:=A.sq h;constructor
 · intro g
   by_cases ht:t<0
   · have:=Int.mul_neg_of_pos_of_neg hp ht
     omega
   · omega
 · intro g;exact Int.mul_nonneg (by omega) g
theorem Aff.np {A:Aff} (h:A.det≠0) (t:Int):A.det*A.det*t≤0↔t≤0:=by
 have hp:=A.sq h;constructor
 · intro g
   by_cases ht:0<t
   · have:=Int.mul_pos hp ht
     omega
   · omega
 · intro g
   have:=Int.mul_nonneg (a:=A.det*A.det) (b:=-t) (by omega) (by omega)
   rw [Int.mul_neg] at this;omega
theorem Aff.inS {A:Aff} (h:A.det≠0) {a b c q:Pnt}:L2.inS (A.at a) (A.at b) (A.at c) (A.at q)↔L2.inS a b c q:=by
 unfold L2.inS;rw [A.tD,A.tD,A.tD,A.nn h,A.nn h,A.nn h]
theorem Aff.bey {A:Aff} (h:A.det≠0) {a b c x y u v w:Pnt}:L2.bey (A.at a) (A.at b) (A.at c) (A.at x) (A.at y) (A.at u) (A.at v) (A.at w)↔L2.bey a b c x y u v w:=by
 unfold L2.bey;rw [A.tD,A.tD,A.tD,A.np h,A.np h,A.np h]
theorem Aff.sep {A:Aff} (h:A.det≠0) {a b c u v w:Pnt}:L2.sepS (A.at a) (A.at b) (A.at c) (A.at u) (A.at v) (A.at w)↔L2.sepS a b c u v w:=by
 unfold L2.sepS;rw [A.bey h,A.bey h,A.bey h]
theorem Aff.inj {A:Aff} (h:A.det≠0) {p q:Pnt} (e:A.at p=A.at q):p=q:=by
 unfold Aff.at at e;have e1:=congrArg Prod.fst e;have e2:=congrArg Prod.snd e;dsimp only at e1 e2;unfold Aff.det at h;have f1:(A.a*A.d-A.b*A.c)*(p.1-q.1)=0:=by grind
 have f2:(A.a*A.d-A.b*A.c)*(p.2-q.2)=0:=by grind
 have g1:=(Int.mul_eq_zero.mp f1).resolve_left h;have g2:=(Int.mul_eq_zero.mp f2).resolve_left h;exact Prod.ext (by omega) (by omega)
def Zjz (pts:List Pnt):List Int→Bool
 | [i,j,k]=>decide (0≤i∧i<(pts.length:Int))&&decide (0≤j∧j<(pts.length:Int))&&decide (0≤k∧k<(pts.length:Int))&&decide (i≠j∧i≠k∧j≠k)&&decide (tn (cAt pts i) (cAt pts j) (cAt pts k)≠0) &&
    (List.range pts.length).all fun x=>decide ((x:Int)=i∨(x:Int)=j∨(x:Int)=k)||!decide (inS (cAt pts i) (cAt pts j) (cAt pts k) (cAt pts x))
 | _=>false
def sepB (pts:List Pnt):List Int→List Int→Bool
 | [i,j,k],[u,v,w]=>decide (sepS (cAt pts i) (cAt pts j) (cAt pts k) (cAt pts u) (cAt pts v) (cAt pts w))||decide (sepS (cAt pts u) (cAt pts v) (cAt pts w) (cAt pts i) (cAt pts j) (cAt pts k))
 | _,_=>false
def Zr5 (pts:List Pnt) (pcs:List (List Int)):Bool :=
 decide (3≤pts.length∧pts.length≤6)&&decide (1≤pcs.length∧pcs.length≤4)&&pts.all (fun p=>decide (p.1.natAbs≤6∧p.2.natAbs≤6))&&decide pts.Nodup&&pcs.all (Zjz pts) &&
  ((List.range pts.length).all fun k=>pcs.any fun p=>decide ((k:Int)∈p)) &&
  (List.range pcs.length).all fun i=>(List.range pcs.length).all fun j=>decide (i=j)||(sepB pts (pcs.getD i []) (pcs.getD j [])&&(pcs.getD i []).any fun x=>decide (x∉pcs.getD j []))
structure Base (pts:List Pnt) (pcs:List (List Int)):Prop where
 n3:3≤pts.length
 n6:pts.length≤6
 p1:1≤pcs.length
 p4:pcs.length≤4
 bd:∀ p∈pts,p.1.natAbs≤6∧p.2.natAbs≤6
 nd:pts.Nodup
 pc:∀ p∈pcs,Zjz pts p=true
 us:∀ k:Nat,k<pts.length→∃ p∈pcs,(k:Int)∈p
 sep:∀ i j:Nat,i<pcs.length→j<pcs.length→i≠j→sepB pts (pcs.getD i []) (pcs.getD j [])=true∧∃ x∈pcs.getD i [],x∉pcs.getD j []
theorem Zdb {pts:List Pnt} {pcs:List (List Int)} (h:Zr5 pts pcs=true):Base pts pcs:=by
 unfold Zr5 at h;simp only [n47_,decide_eq_true_eq,n61_,List.any_eq_true,n24_,Bool.or_eq_true] at h;obtain ⟨⟨⟨⟨⟨⟨⟨h1,h2⟩,h3,h4⟩,h5⟩,h6⟩,h7⟩,h8⟩,h9⟩:=h;exact ⟨h1,h2,h3,h4,h5,h6,h7,h8,fun i j hi hj ne=>(h9 i hi j hj).resolve_left ne⟩
structure CoOrd (n:Nat) (o:List Int):Prop where
 len:o.length=n
 bd:∀ j:Nat,j<n→0≤o.getD j 0∧o.getD j 0<n
 inj:∀ i j:Nat,i<n→j<n→o.getD i 0=o.getD j 0→i=j
 sur:∀ k:Nat,k<n→∃ j:Nat,j<n∧o.getD j 0=k
theorem Zrg {o:List Int} (h:o.Perm ((List.range n).map fun i:Nat=>(i:Int))):CoOrd n o:=by
 have hl:o.length=n:=by rw [h.length_eq];simp
 have nd:o.Nodup:=h.symm.nodup (List.Pairwise.map _ (fun a b ne e=>ne (Int.ofNat.inj e)) List.nodup_range);have g:∀ j:Nat,(hj:j<n)→o.getD j 0=o[j]'(by omega):=fun j hj=>by rw [n2_,n1_ (by omega)];rfl
 refine ⟨hl,fun j hj=>?_,fun i j hi hj e=>?_,fun k hk=>?_⟩
 · rw [g j hj]
   have:o[j]'(by omega)∈(List.range n).map fun i:Nat=>(i:Int):=h.mem_iff.mp (n37_ _)
   obtain ⟨k,hk,e⟩:=n18_.mp this
   have:=n24_.mp hk
   omega
 · rw [g i hi,g j hj] at e;exact (n53_ nd).mp e
 · have:(k:Int)∈o:=h.mem_iff.mpr (n18_.mpr ⟨k,n24_.mpr hk,rfl⟩)
   obtain ⟨j,hj,e⟩:=n50_ this;exact ⟨j,by omega,by rw [g j (by omega)];exact e⟩
def oAt (o:List Int) (i:Int):Int:=o.getD i.toNat 0
theorem Zqw {pts:List Pnt} {p:List Int} (h:Zjz pts p=true):∃ i j k,p=[i,j,k]∧(0≤i∧i<(pts.length:Int))∧(0≤j∧j<(pts.length:Int))∧(0≤k∧k<(pts.length:Int))∧(i≠j∧i≠k∧j≠k)∧tn (cAt pts i) (cAt pts j) (cAt pts k)≠0 ∧
 ∀ x:Nat,x<pts.length→(x:Int)∉p→¬ inS (cAt pts i) (cAt pts j) (cAt pts k) (cAt pts x):=by
 unfold Zjz at h;split at h
 · rename_i i j k
   simp only [n47_,decide_eq_true_eq,n61_,n24_,Bool.or_eq_true,Bool.not_eq_true',decide_eq_false_iff_not] at h;obtain ⟨⟨⟨⟨⟨h1,h2⟩,h3⟩,h4⟩,h5⟩,h6⟩:=h;refine ⟨i,j,k,rfl,h1,h2,h3,h4,h5,fun x hx nm=>(h6 x hx).resolve_left fun z=>nm ?_⟩
   simpa using z
 · cases h
theorem Zh0 (l:List Int) (hb:∀ x∈l,0≤x∧x<n) (hs:∀ k:Nat,k<n→(k:Int)∈l):cntS l=n:=by
 have key:∀ (l:List Int),(∀ x∈l,0≤x∧x<n)→∀ q:(Int→Bool)×Nat,q.2=(List.range n).countP (fun k:Nat=>q.1 k)→(l.foldl Za7 q).2=(List.range n).countP (fun k:Nat=>(l.foldl Za7 q).1 k)∧∀ x,(l.foldl Za7 q).1 x=(q.1 x||decide (x∈l)):=by
  intro l
  induction l with
  | nil=>intro _ q h;exact ⟨h,fun x=>by simp⟩
  | cons y l ih =>
    intro hb q h;rw [n67_];have hy:=hb y n27_
    have step:(Za7 q y).2=(List.range n).countP (fun k:Nat=>(Za7 q y).1 k):=by
     unfold Za7;dsimp only
     by_cases g:q.1 y=true
     · rw [if_pos g,h];refine congrArg (fun f=>List.countP f (List.range n)) (funext fun k=>?_)
       by_cases e:(k:Int)=y
       · rw [e,g];rfl
       · simp [e]
     · rw [if_neg g,h];have g':q.1 y=false:=by simpa using g
       obtain ⟨m,rfl⟩:∃ m:Nat,y=m:=⟨y.toNat,by omega⟩;have hm:m<n:=by omega
       have:∀ r:Nat,(List.range r).countP (fun k:Nat=>q.1 k||decide ((k:Int)=(m:Int)))=(List.range r).countP (fun k:Nat=>q.1 k)+(if m<r then 1 else 0):=by
        intro r
        induction r with
        | zero=>rfl
        | succ r ihr =>
          rw [List.range_succ,List.countP_append,List.countP_append,ihr];simp only [List.countP_singleton]
          by_cases e:r=m
          · subst e;rw [g']
            simp
          · have e2:¬ (r:Int)=(m:Int):=by omega
            simp only [e2,decide_false,Bool.or_false];have e3:(m<r+1)↔(m<r):=by omega
            simp only [e3];omega
       rw [this n,if_pos hm]
    obtain ⟨i1,i2⟩:=ih (fun x hx=>hb x (n19_ _ hx)) (Za7 q y) step;refine ⟨i1,fun x=>?_⟩;rw [i2];unfold Za7;dsimp only
    by_cases e:x=y
    · subst e;simp
    · simp [e]
 obtain ⟨k1,k2⟩:=key l hb (fun _=>false,0) (by simp);unfold cntS;rw [k1]
 have:(List.range n).countP (fun k:Nat=>(l.foldl Za7 (fun _=>false,0)).1 k)=(List.range n).length:=by
  rw [List.countP_eq_length];intro k hk;rw [k2];simp [hs k (n24_.mp hk)]
 rw [this,n69_]
structure Small (A:Aff):Prop where
 a:A.a.natAbs≤3
 b:A.b.natAbs≤3
 c:A.c.natAbs≤3
 d:A.d.natAbs≤3
 s:A.s.natAbs≤30
 t:A.t.natAbs≤30
theorem Ztj {A:Aff} (S:Small A) {p:Pnt} (h:p.1.natAbs≤6∧p.2.natAbs≤6):near (A.at p):=by
 have h1:(A.a*p.1).natAbs≤3*6:=by rw [Int.natAbs_mul];exact Nat.mul_le_mul S.a h.1
 have h2:(A.b*p.2).natAbs≤3*6:=by rw [Int.natAbs_mul];exact Nat.mul_le_mul S.b h.2
 have h3:(A.c*p.1).natAbs≤3*6:=by rw [Int.natAbs_mul];exact Nat.mul_le_mul S.c h.1
 have h4:(A.d*p.2).natAbs≤3*6:=by rw [Int.natAbs_mul];exact Nat.mul_le_mul S.d h.2
 have h5:=S.s;have h6:=S.t;unfold near Aff.at;dsimp only;omega
structure Drawn (pts:List Pnt) (pcs:List (List Int)) (A:Aff) (o:List Int) (cs:List Pnt) (kl:List (List Int)) (q:List Nat):Prop where
 base:Base pts pcs
 det:A.det≠0
 small:Small A
 ord:CoOrd pts.length o
 len:cs.length=pts.length
 at_:∀ j:Nat,j<pts.length→cs[(o.getD j 0).toNat]? = some (A.at (pts.getD j (0,0)))
 klen:kl.length=pcs.length
 key:∀ i:Nat,i<pcs.length→(kl.getD i []).Perm ((pcs.getD i []).map (oAt o))∧(kl.getD i []).Pairwise (·≤·)
 perm:q.Perm (List.range pcs.length)
section
variable {pts:List Pnt} {pcs:List (List Int)} {A:Aff} {o:List Int} {cs:List Pnt} {kl:List (List Int)} {q:List Nat}
theorem Drawn.corner (D:Drawn pts pcs A o cs kl q) {i:Int} (h:0≤i∧i<pts.length):cAt cs (oAt o i)=A.at (cAt pts i):=by
 obtain ⟨n,rfl⟩:∃ n:Nat,i=n:=⟨i.toNat,by omega⟩
 have:=D.at_ n (by omega)
 unfold cAt oAt;rw [show ((n:Int)).toNat=n from rfl,n2_ (i:=(o.getD n 0).toNat),this];rfl
theorem Drawn.piece (D:Drawn pts pcs A o cs kl q) (hn:n<pcs.length):∃ i j k x y z,pcs.getD n []=[i,j,k]∧kl.getD n []=[x,y,z]∧[x,y,z].Perm [oAt o i,oAt o j,oAt o k]∧(x<y∧y<z)∧(0≤i∧i<(pts.length:Int))∧(0≤j∧j<(pts.length:Int))∧(0≤k∧k<(pts.length:Int))∧tn (cAt pts i) (cAt pts j) (cAt pts k)≠0 ∧
 ∀ x:Nat,x<pts.length→(x:Int)∉[i,j,k]→¬ inS (cAt pts i) (cAt pts j) (cAt pts k) (cAt pts x):=by
 have hm:pcs.getD n []∈pcs:=by rw [n2_,n1_ hn];exact n37_ hn
 obtain ⟨i,j,k,e,hi,hj,hk,⟨n1,n2,n3⟩,hd,hs⟩:=Zqw (D.base.pc _ hm);obtain ⟨pm,so⟩:=D.key n hn;rw [e] at pm hs;have l3:(kl.getD n []).length=3:=by rw [pm.length_eq];rfl
 generalize hr:kl.getD n []=r at *
 match r,l3 with
 | [x,y,z],_ =>
   have io:∀ {a b:Int},(0≤a∧a<(pts.length:Int))→(0≤b∧b<(pts.length:Int))→a≠b→oAt o a≠oAt o b:=fun {a b} ha hb ne z=>ne (by
    have:=D.ord.inj a.toNat b.toNat (by omega) (by omega) z
    omega)
   have nd:[x,y,z].Nodup:=pm.symm.nodup (by simp [io hi hj n1,io hi hk n2,io hj hk n3]);simp only [List.nodup_cons,n12_,n16_,or_false,not_or,List.pairwise_cons] at nd so;have s1:=so.1 y (by simp);have s2:=so.2.1 z (by simp);exact ⟨i,j,k,x,y,z,e,rfl,pm,⟨by omega,by omega⟩,hi,hj,hk,hd,hs⟩
theorem Drawn.knd (D:Drawn pts pcs A o cs kl q):kl.Nodup:=by
 rw [n20_,n63_];intro i j hi hj lt e;rw [D.klen] at hi hj;obtain ⟨_,x,hx,nx⟩:=D.base.sep i j hi hj (by omega);have g:∀ n,(h:n<pcs.length)→kl.getD n []=kl[n]'(by rw [D.klen];exact h):=fun n h=>by rw [n2_,n1_ (by rw [D.klen];exact h)];rfl
 have m1:oAt o x∈kl.getD i []:=(D.key i hi).1.mem_iff.mpr (n18_.mpr ⟨x,hx,rfl⟩);rw [g i hi,e,← g j hj] at m1;obtain ⟨y,hy,ey⟩:=n18_.mp ((D.key j hj).1.mem_iff.mp m1)
 have bdm:∀ n,n<pcs.length→∀ x∈pcs.getD n [],0≤x∧x<(pts.length:Int):=fun n hn x hx=>by
  obtain ⟨i,j,k,_,_,_,e,_,_,_,hi,hj,hk,_⟩:=D.piece hn;rw [e] at hx;simp only [n12_,n16_,or_false] at hx
  rcases hx with rfl|rfl|rfl<;>assumption
 have b1:=bdm i hi x hx;have b2:=bdm j hj y hy
 have:=D.ord.inj y.toNat x.toNat (by omega) (by omega) ey
 have:x=y:=by omega
 exact nx (this ▸ hy)
theorem Drawn.ok (D:Drawn pts pcs A o cs kl q) {ts:List Int} {l m:Int} (rise:(q.map fun i=>kl.getD i []).Pairwise fun a b=>HT.lexLt a b=true) (tl:ts.length=pcs.length) (t9:∀ t∈ts,1≤t∧t≤9) (l9:0≤l∧l≤9) (m9:1≤m∧m≤9) :
 PlOk ⟨cs,q.map fun i=>kl.getD i [],ts,l,m⟩:=by
 have n3:=D.base.n3;have n6:=D.base.n6;have p1:=D.base.p1;have p4:=D.base.p4;have hl:=D.len;have qlen:q.length=pcs.length:=by rw [D.perm.length_eq,n69_]
 have qlt:∀ i∈q,i<pcs.length:=fun i hi=>n24_.mp (D.perm.mem_iff.mp hi);have qnd:q.Nodup:=D.perm.symm.nodup List.nodup_range
 have whence:∀ k:Nat,k<cs.length→∃ j:Nat,j<pts.length∧o.getD j 0=k∧cs[k]? = some (A.at (pts.getD j (0,0))):=fun k hk=>by
  obtain ⟨j,hj,e⟩:=D.ord.sur k (by omega)
  have:=D.at_ j hj
  rw [e] at this;exact ⟨j,hj,e,this⟩
 have ptm:∀ j:Nat,j<pts.length→pts.getD j (0,0)∈pts:=fun j hj=>by rw [n2_,n1_ hj];exact n37_ hj
 have pieceOk:∀ n,n<pcs.length→PieceOk cs (kl.getD n []):=fun n hn=>by
  obtain ⟨i,j,k,x,y,z,e,e2,pm,lt,hi,hj,hk,hd,hs⟩:=D.piece hn;rw [e2]
  have bo:∀ a∈[oAt o i,oAt o j,oAt o k],0≤a∧a≤(cs.length:Int)-1:=fun a ha=>by
   simp only [n12_,n16_,or_false] at ha;have b1:=D.ord.bd i.toNat (by omega);have b2:=D.ord.bd j.toNat (by omega);have b3:=D.ord.bd k.toNat (by omega);unfold oAt at ha
   rcases ha with rfl|rfl|rfl<;>omega
  refine ⟨rfl,fun a ha=>bo a (pm.mem_iff.mp ha),lt,?_⟩;refine Zn1 pm (fun x y z=>tn (cAt cs x) (cAt cs y) (cAt cs z)≠0) (fun a b c h=>by rw [Znl];exact h) (fun a b c h=>by rw [Za2];omega) ?_;rw [D.corner hi,D.corner hj,D.corner hk,A.tn];exact Int.mul_ne_zero D.det hd
 have strange:∀ n,n<pcs.length→∀ j:Nat,j<cs.length→(j:Int)∉kl.getD n []→Zbq (cs.getD j (0,0)) (trOf cs (kl.getD n []))=false:=fun n hn jj hjj nm=>by
  have ok:=pieceOk n hn;obtain ⟨i,j,k,x,y,z,e,e2,pm,lt,hi,hj,hk,hd,hs⟩:=D.piece hn;rw [e2] at nm ok ⊢;have hne:=ok.d;refine Bool.eq_false_iff.mpr fun h=>?_;have h2:inS (cAt cs x) (cAt cs y) (cAt cs z) (cs.getD jj (0,0)):=(Zlr hne).mp h;have h3:inS (cAt cs (oAt o i)) (cAt cs (oAt o j)) (cAt cs (oAt o k)) (cs.getD jj (0,0)):=Zn1 pm.symm (fun x y z=>inS (cAt cs x) (cAt cs y) (cAt cs z) (cs.getD jj (0,0))) (fun a b c h=>Zsl h) (fun a b c h=>Zt1 h) h2;obtain ⟨j0,hj0,ej,ec⟩:=whence jj hjj;rw [D.corner hi,D.corner hj,D.corner hk,n2_,ec] at h3;have h4:=(A.inS D.det).mp h3;refine hs j0 hj0 (fun z=>nm (pm.mem_iff.mpr ?_)) (by unfold cAt at h4 ⊢;exact h4)
  have:oAt o (j0:Int)=jj:=ej
  rw [← this];have m2:oAt o (j0:Int)∈[i,j,k].map (oAt o):=n18_.mpr ⟨_,z,rfl⟩;exact m2
 refine ⟨by show 3≤cs.length;omega,by show cs.length≤30;omega,fun p hp=>?_,?_,by simp;omega,by simp;omega,fun p hp=>?_,fun i hi=>?_,by simp [tl,qlen],t9,l9,m9,?_,fun p hp=>?_,fun i j hij hj=>?_⟩
 · obtain ⟨k,hk,e⟩:=n50_ (show p∈cs from hp);obtain ⟨j,hj,_,ec⟩:=whence k hk;rw [n1_ hk,e] at ec;cases ec
   exact Ztj D.small (D.base.bd _ (ptm j hj))
 · show cs.Nodup
   rw [n20_,n63_];intro k1 k2 h1 h2 lt e;obtain ⟨j1,hj1,e1,c1⟩:=whence k1 h1;obtain ⟨j2,hj2,e2,c2⟩:=whence k2 h2;rw [n1_ h1,e] at c1;rw [n1_ h2] at c2;rw [c1] at c2
   have:=A.inj D.det (Option.some.inj c2)
   have gd:∀ j,(h:j<pts.length)→pts.getD j (0,0)=pts[j]:=fun j h=>by rw [n2_,n1_ h];rfl
   rw [gd j1 hj1,gd j2 hj2] at this;have e3:=(n53_ D.base.nd).mp this;subst e3;omega
 · obtain ⟨n,hn,rfl⟩:=n18_.mp (show p∈q.map _ from hp);exact pieceOk n (qlt n hn)
 · have hi':i+1<(q.map fun i=>kl.getD i []).length:=hi
   have:=n63_.mp rise i (i+1) (by omega) hi' (by omega)
   show HT.lexLt ((q.map fun i=>kl.getD i []).getD i []) ((q.map fun i=>kl.getD i []).getD (i+1) [])=true
   rw [n2_,n2_,n1_ (by omega),n1_ hi'];exact this
 · show cntS (q.map fun i=>kl.getD i []).flatten=cs.length
   refine Zh0 _ (fun x hx=>?_) (fun k hk=>?_)
   · obtain ⟨r,hr,hxr⟩:=n75_.mp hx;obtain ⟨n,hn,rfl⟩:=n18_.mp hr
     have:=(pieceOk n (qlt n hn)).bd x hxr
     omega
   · obtain ⟨j,hj,e⟩:=D.ord.sur k (by omega);obtain ⟨p,hp,hjp⟩:=D.base.us j hj;obtain ⟨n,hn,rfl⟩:=n50_ hp;have g:pcs.getD n []=pcs[n]:=by rw [n2_,n1_ hn];rfl
     refine n75_.mpr ⟨kl.getD n [],n18_.mpr ⟨n,D.perm.mem_iff.mpr (n24_.mpr hn),rfl⟩,(D.key n hn).1.mem_iff.mpr ?_⟩;rw [g,← e];exact n18_.mpr ⟨_,hjp,rfl⟩
 · obtain ⟨n,hn,rfl⟩:=n18_.mp (show p∈q.map _ from hp);exact strange n (qlt n hn)
 · have hj':j<(q.map fun i=>kl.getD i []).length:=hj;have hjq:j<q.length:=by simpa using hj'
   have hiq:i<q.length:=by omega
   show apart (trOf cs ((q.map fun i=>kl.getD i []).getD j [])) (trOf cs ((q.map fun i=>kl.getD i []).getD i []))=true
   have gq:∀ i,(h:i<q.length)→(q.map fun i=>kl.getD i []).getD i []=kl.getD q[i] []:=fun i h=>by
    rw [n2_,n6_,n1_ h];rfl
   rw [gq j hjq,gq i hiq];have h1:=qlt q[j] (n37_ _);have h2:=qlt q[i] (n37_ _);have ne:q[j]≠q[i]:=fun z=>by have:=(n53_ qnd).mp z;omega
   generalize q[j]=n1 at *;generalize q[i]=n2 at *;have sb:=(D.base.sep n1 n2 h1 h2 ne).1;have ok1:=pieceOk n1 h1;have ok2:=pieceOk n2 h2;obtain ⟨i1,j1,k1,x1,y1,z1,e1,f1,pm1,lt1,hi1,hj1,hk1,hd1,hs1⟩:=D.piece h1;obtain ⟨i2,j2,k2,x2,y2,z2,e2,f2,pm2,lt2,hi2,hj2,hk2,hd2,hs2⟩:=D.piece h2;rw [f1] at ok1 ⊢;rw [f2] at ok2 ⊢;rw [e1,e2] at sb;unfold sepB at sb;simp only [Bool.or_eq_true,decide_eq_true_eq] at sb
   have tr:∀ {i1 j1 k1 x1 y1 z1 i2 j2 k2 x2 y2 z2:Int},[x1,y1,z1].Perm [oAt o i1,oAt o j1,oAt o k1]→[x2,y2,z2].Perm [oAt o i2,oAt o j2,oAt o k2]→(0≤i1∧i1<(pts.length:Int))→(0≤j1∧j1<(pts.length:Int))→(0≤k1∧k1<(pts.length:Int))→(0≤i2∧i2<(pts.length:Int))→(0≤j2∧j2<(pts.length:Int))→(0≤k2∧k2<(pts.length:Int)) →
    sepS (cAt pts i1) (cAt pts j1) (cAt pts k1) (cAt pts i2) (cAt pts j2) (cAt pts k2)→sepS (cAt cs x1) (cAt cs y1) (cAt cs z1) (cAt cs x2) (cAt cs y2) (cAt cs z2):=by
    intro i1 j1 k1 x1 y1 z1 i2 j2 k2 x2 y2 z2 pm1 pm2 a1 a2 a3 b1 b2 b3 h;refine Zn1 pm1 (fun x y z=>sepS (cAt cs x) (cAt cs y) (cAt cs z) (cAt cs x2) (cAt cs y2) (cAt cs z2)) (fun a b c h=>Zst h) (fun a b c h=>Zvi h) ?_;refine Zn1 pm2 (fun x y z=>sepS (cAt cs (oAt o i1)) (cAt cs (oAt o j1)) (cAt cs (oAt o k1)) (cAt cs x) (cAt cs y) (cAt cs z)) (fun a b c h=>Zqc h) (fun a b c h=>Zsc h) ?_;rw [D.corner a1,D.corner a2,D.corner a3,D.corner b1,D.corner b2,D.corner b3];exact (A.sep D.det).mpr h
   unfold apart;rw [Bool.or_eq_true]
   rcases sb with sb|sb
   · exact .inl (Zct ok1.d (tr pm1 pm2 hi1 hj1 hk1 hi2 hj2 hk2 sb))
   · exact .inr (Zct ok2.d (tr pm2 pm1 hi2 hj2 hk2 hi1 hj1 hk1 sb))
end
def Zdg:List (List Pnt×List (List Int)) :=
 [([(0,0),(2,0),(0,3)],[[0,1,2]]),
  ([(0,0),(3,0),(3,2),(0,2)],[[0,1,2],[0,2,3]]),
  ([(0,0),(2,1),(2,-1),(-2,1),(-3,-1)],[[0,1,2],[0,3,4]]),
  ([(0,0),(2,0),(0,2),(4,0),(6,1),(4,3)],[[0,1,2],[3,4,5]]),
  ([(0,0),(6,0),(0,6),(2,1)],[[0,1,3],[0,2,3],[1,2,3]]),
  ([(0,0),(0,2),(2,0),(3,2),(5,0)],[[0,1,2],[1,2,3],[2,3,4]]),
  ([(0,0),(1,2),(2,0),(3,2),(4,0),(5,3)],[[0,1,2],[2,3,4],[3,4,5]]),
  ([(0,0),(2,0),(0,3),(-2,0),(0,-1)],[[0,1,2],[0,2,3],[0,3,4],[0,1,4]])]
theorem Znf:Zdg.all (fun s=>Zr5 s.1 s.2)=true:=by decide +kernel
theorem Zll {s:List Pnt×List (List Int)} (h:s∈Zdg):Base s.1 s.2:=Zdb (n61_.mp Znf s h)
theorem PE.weak {t t':TE} (h:PE X e t) (w:∀ σ H Q,t' σ H Q→t σ H Q):PE X e t':=fun pins s σ H Q I q=>h pins s σ H Q I (w σ H Q q)
theorem PA.weak {es:List Expr} {t t':TA} (h:PA X es t) (w:∀ σ H Q,t' σ H Q→t σ H Q):PA X es t':=fun pos pins s σ H Q I q=>h pos pins s σ H Q I (w σ H Q q)
def Zsf:Expr→Option Int
 | .Constant (.int i) _ _=>some i
 | .UnaryOp .USub (.Constant (.int i) _ _) _=>some (-i)
 | _=>none
theorem Zsk {i:Int} (h:Zsf e=some i):PE X e (fun _ H Q=>Q (.int i) H)∧∀ es env,starEach (e :: es) env=(false,eval e env) :: starEach es env:=by
 unfold Zsf at h;split at h
 · cases h;exact ⟨Ze,fun _ _=>rfl⟩
 · cases h
   exact ⟨PE.weak (Zly Zea Ze) fun σ H Q q=>⟨_,rfl,q⟩,fun _ _=>rfl⟩
 · cases h
def Zkq:List Expr→Option (List Int)
 | []=>some []
 | e :: es=>match Zsf e,Zkq es with
   | some i,some is=>some (i :: is)
   | _,_=>none
theorem Zkd:∀ (es:List Expr) (is:List Int),Zkq es=some is→PA X es (fun _ H Q=>Q (is.map V.int) H)
 | [],is,h=>by
   cases h
   exact PA.weak Zb fun σ H Q q=>q
 | e :: es,is,h=>by
   unfold Zkq at h;split at h
   · rename_i i js h1 h2
     cases h
     obtain ⟨p1,p2⟩:=Zsk (X:=X) h1;exact PA.weak (Za p1 (Zkd es js h2) (p2 _ _)) fun σ H Q q=>q
   · cases h
def Zrw:Expr→Option (List Int)
 | .Tuple es _ _=>Zkq es
 | _=>none
theorem Zry {is:List Int} (h:Zrw e=some is) (hz:is.length≤1000):PE X e (fun _ H Q=>∀ H' v,Same H H'→IsI H' v is→Q v H')∧∀ es env,starEach (e :: es) env=(false,eval e env) :: starEach es env:=by
 unfold Zrw at h;split at h
 · exact ⟨PE.weak (Yb (Zkd _ _ h)) fun σ H Q q=>⟨by rw [n5_,sizeLine_eq];omega,fun p np=>q _ _ (Same.new np) ⟨p,rfl,Zc⟩⟩,fun _ _=>rfl⟩
 · cases h
def Zkx:List Expr→Option (List (List Int))
 | []=>some []
 | e :: es=>match Zrw e,Zkx es with
   | some i,some is=>if i.length≤1000 then some (i :: is) else none
   | _,_=>none
theorem Zkn:∀ (es:List Expr) (is:List (List Int)),Zkx es=some is→PA X es (fun _ H Q=>∀ H' vs,Same H H'→Al (IsI H') vs is→Q vs H')
 | [],is,h=>by
   cases h
   exact PA.weak Zb fun σ H Q q=>q _ _ (Same.refl _) .nil
 | e :: es,is,h=>by
   unfold Zkx at h;split at h
   · rename_i i js h1 h2
     split at h
     · rename_i hz
       cases h
       obtain ⟨p1,p2⟩:=Zry (X:=X) h1 hz;exact PA.weak (Za p1 (Zkn es js h2) (p2 _ _)) fun σ H Q q H1 v s1 i1 H2 vs s2 i2=>q _ _ (s1.trans s2) (.cons (i1.tk s2.tk) i2)
     · cases h
   · cases h
def Zqt:Expr→Option (List (List Int))
 | .Tuple es _ _=>match Zkx es with
   | some is=>if is.length≤1000 then some is else none
   | none=>none
 | _=>none
theorem Zoq {is:List (List Int)} (h:Zqt e=some is):PE X e (fun _ H Q=>∀ H' v,Same H H'→IsPs H' v is→Q v H')∧∀ es env,starEach (e :: es) env=(false,eval e env) :: starEach es env:=by
 unfold Zqt at h;split at h
 · split at h
   · rename_i js h1
     split at h
     · rename_i hz
       cases h
       refine ⟨PE.weak (Yb (Zkn _ _ h1)) fun σ H Q q H1 vs s1 a1=>⟨by rw [a1.1,sizeLine_eq];omega,fun p np=>?_⟩,fun _ _=>rfl⟩;have s2:Same H1 (upd H1 p (.tup vs)):=Same.new np;exact q _ _ (s1.trans s2) ⟨p,vs,rfl,Zc,a1.imp fun v x r=>r.tk s2.tk⟩
     · cases h
   · cases h
 · cases h
def IsSh (H:Hp) (v:V) (s:List Pnt×List (List Int)):Prop:=∃ a c p,v=.ref a∧H a=some (.tup [c,p])∧IsCs H c s.1∧IsPs H p s.2
theorem IsSh.tk {s:List Pnt×List (List Int)} (t:Tk H H') (h:IsSh H v s):IsSh H' v s:=let ⟨a,c,p,e,h1,h2,h3⟩:=h;⟨a,c,p,e,t _ _ h1,h2.tk t,h3.tk t⟩
def shOf:Expr→Option (List (List Int)×List (List Int))
 | .Tuple [c,p] _ _=>match Zqt c,Zqt p with
   | some a,some b=>some (a,b)
   | _,_=>none
 | _=>none
theorem Zp4 {cs:List Pnt} (h:IsPs H v (cs.map fun p=>[p.1,p.2])):IsCs H v cs:=by
 obtain ⟨a,vs,e,q,al⟩:=h;refine ⟨a,vs,e,q,by rw [al.1,n5_],fun i w p e1 e2=>?_⟩;exact al.2 i w _ e1 (by rw [n6_,e2];rfl)
theorem Xv {X:Cx} {e:Expr} {s:List Pnt×List (List Int)} (h:shOf e=some (s.1.map (fun p=>[p.1,p.2]),s.2)):PE X e (fun _ H Q=>∀ H' v,Same H H'→IsSh H' v s→Q v H'):=by
 unfold shOf at h;split at h
 · split at h
   · rename_i h1 h2
     cases h
     obtain ⟨p1,s1⟩:=Zoq (X:=X) h1;obtain ⟨p2,s2⟩:=Zoq (X:=X) h2;refine PE.weak (Yb (Za p1 (Za p2 Zb (s2 _ _)) (s1 _ _))) fun σ H Q q H1 v s1 i1 H2 w s2 i2=>⟨z2_,fun p np=>?_⟩;have s3:Same H2 (upd H2 p (.tup [v,w])):=Same.new np;exact q _ _ (s1.trans (s2.trans s3)) ⟨p,v,w,rfl,Zc,Zp4 (i1.tk (s2.trans s3).tk),i2.tk s3.tk⟩
   · cases h
 · cases h
theorem Zuz {c:TT} {ta tb rest:TS} {D:Ends} (R:St→Hp→Prop) (h:c σ H fun k H1=>if k=true then ta { D with nx:=R } σ H1 else tb { D with nx:=R } σ H1)
 (mc:∀ Q Q':Bool→Hp→Prop,(∀ b H1,Q b H1→Q' b H1)→c σ H Q→c σ H Q') (ma:(∀ σ H,R σ H→rest D σ H)→∀ H1,ta { D with nx:=R } σ H1→ta { D with nx:=rest D } σ H1) (mb:(∀ σ H,R σ H→rest D σ H)→∀ H1,tb { D with nx:=R } σ H1→tb { D with nx:=rest D } σ H1)
 (key:∀ σ H,R σ H→rest D σ H):tSeq (tIfS c ta tb) rest D σ H:=mc _ _ (fun b H1 q=>by
 cases b with
 | true=>exact ma key H1 q
 | false=>exact mb key H1 q) h
open AutoSeq1 (wpAny_loadPart')
section
variable {X:Cx}
def EqT {α:Type} [DecidableEq α] (X:Cx) (d:Nat) (R:Hp→V→α→Prop):Prop:=∀ (A:Around) (pins:List (Addr×Obj)) (σ:St) (H:Hp) (s:Shared) (v u:V) (a b:Value) (x y:α),A.units+d<cLine→Inv X pins σ H s→R H v x→R H u y→RelV v a→RelV u b→SeqAt.EqAt A s a b (decide (x=y))
theorem Zjl:EqT X 0 (fun _ v (i:Int)=>v=.int i):=by
 intro A pins σ H s v u a b x y hu I h1 h2 r1 r2;subst h1 h2;obtain ⟨t,rfl⟩:=r1;obtain ⟨t',rfl⟩:=r2
 have:=SeqAt.EqAt.int_int (A:=A) (s:=s) x t y t'
 rw [show decide (x=y)=(x == y) by rw [n79_];simp];exact this
theorem Zik [DecidableEq α] [Inhabited α] (xs ys:List α):((List.range (min xs.length ys.length)).all (fun j=>decide (xs.getD j default=ys.getD j default))&&xs.length == ys.length)=decide (xs=ys):=by
 by_cases h:xs=ys
 · subst h
   simp
 · rw [n33_ h,Bool.and_eq_false_iff]
   by_cases hl:xs.length=ys.length
   · left
     rw [Bool.eq_false_iff];intro z;rw [n61_] at z;apply h
     apply n46_ hl
     intro i h1 h2
     have:=z i (by simp;omega)
     simpa [h1,h2] using this
   · right
     simpa using hl
theorem Zj5 [DecidableEq α] [Inhabited α] {d:Nat} {R:Hp→V→α→Prop} (E:EqT X d R) (hu:A.units+d<cLine) (I:Inv X pins σ H s) {us:List V} {xs ys:List α} (h1:Al (R H) vs xs) (h2:Al (R H) us ys) {as bs:List Value} (r1:Vals vs as) (r2:Vals us bs) (j:Nat) (z1:j<as.toArray.size) (z2:j<bs.toArray.size):SeqAt.EqAt A s as.toArray[j] bs.toArray[j] (decide (xs.getD j default=ys.getD j default)):=by
 simp only [n13_] at z1 z2;simp only [List.getElem_toArray];have l1:=r1.length;have l2:=r2.length;have g1:vs[j]? = some vs[j]:=n1_ (by omega);have g2:us[j]? = some us[j]:=n1_ (by omega);obtain ⟨a,e1,ra⟩:=r1.get g1;obtain ⟨b,e2,rb⟩:=r2.get g2;obtain ⟨x,ex,rx⟩:=h1.get g1;obtain ⟨y,ey,ry⟩:=h2.get g2;rw [n1_ z1] at e1;rw [n1_ z2] at e2;cases e1
 cases e2
 rw [n2_,n2_,ex,ey];exact E A pins σ H s _ _ _ _ x y hu I rx ry ra rb
theorem Zr7 [DecidableEq α] [Inhabited α] {d:Nat} {R:Hp→V→α→Prop} (E:EqT X d R) (inj:∀ H v x y,R H v x→R H v y→x=y):EqT X (d+1) (IsTup' R):=by
 intro A pins σ H s v u a b xs ys hu I h1 h2 r1 r2;obtain ⟨p,vs,rfl,e1,a1⟩:=h1;obtain ⟨q,us,rfl,e2,a2⟩:=h2;cases r1
 cases r2
 by_cases hpq:p=q
 · subst hpq;rw [e1] at e2;cases e2
   have:xs=ys:=by
    apply n46_ (by rw [← a1.1,← a2.1])
    intro i z1 z2;obtain ⟨v,ev,rv⟩:=a1.got (n1_ z1);exact inj H v _ _ rv (a2.2 i v _ ev (n1_ z2))
   rw [n29_ this];exact SeqAt.EqAt.same _
 · obtain ⟨as,q1,p1,_⟩:=I.tuple (SqT.of e1);obtain ⟨bs,q2,p2,_⟩:=I.tuple (SqT.of e2);have l1:=q1.length;have l2:=q2.length;have h:=SeqAt.RcAt.tuples (A:=A) (e:=fun j=>decide (xs.getD j default=ys.getD j default)) p1 p2 (by omega) fun j z1 z2=>Zj5 E (A:=A.in1) (by rw [Around.in1_units];omega) I a1 a2 q1 q2 j z1 z2;rw [n13_,n13_,← l1,← l2,a1.1,a2.1,Zik] at h;exact SeqAt.EqAt.of_refs hpq h
def Zv5 {α:Type} [DecidableEq α] (R:Hp→V→α→Prop) (neg:Bool):R2:=fun x y H Q=>∃ (a b:Addr) (vs us:List V) (xs ys:List α),x=.ref a∧y=.ref b∧H a=some (.lst vs)∧H b=some (.lst us)∧Al (R H) vs xs∧Al (R H) us ys∧Q (.bl (if neg then !decide (xs=ys) else decide (xs=ys))) H
theorem Zpf [DecidableEq α] [Inhabited α] (xs ys:List α) (hl:xs.length=ys.length):((List.range xs.length).all (fun j=>decide (xs.getD j default=ys.getD j default)))=decide (xs=ys):=by
 rw [← Zik xs ys,← hl,Nat.min_self,beq_self_eq_true,Bool.and_true]
theorem Zbb [DecidableEq α] [Inhabited α] {d:Nat} {R:Hp→V→α→Prop} (E:EqT X d R) (hu:X.A.units+d+1<cLine):OpR X (compareOp .NotEq) (Zv5 R true):=by
 intro pins s σ H x y v u Q I rx ry h;obtain ⟨p,q,vs,us,xs,ys,rfl,rfl,e1,e2,a1,a2,k⟩:=h;cases rx
 cases ry
 obtain ⟨as,q1,p1,_⟩:=I.list (SqL.of e1);obtain ⟨bs,q2,p2,_⟩:=I.list (SqL.of e2);have l1:=q1.length;have l2:=q2.length
 by_cases hl:xs.length=ys.length
 · refine SeqAt.RcNeAt.lists (e:=fun j=>decide (xs.getD j default=ys.getD j default)) p1.isList p2.isList (by rw [n13_,n13_,← l1,← l2,a1.1,a2.1,hl]) (by omega) (fun j z1 z2=>Zj5 E (A:=X.A.in1) (by rw [Around.in1_units];omega) I a1 a2 q1 q2 j z1 z2) _ _ _ _ ⟨.bl _,H,I,rfl,?_⟩;rw [n13_,← l1,a1.1,Zpf xs ys hl];exact k
 · refine SeqAt.RcNeAt.lists_lengths p1.isList p2.isList (by rw [n13_,n13_,← l1,← l2,a1.1,a2.1];simpa using hl) (by omega) _ _ _ _ ⟨.bl true,H,I,rfl,?_⟩
   have:¬ xs=ys:=fun z=>hl (by rw [z])
   rw [n33_ this] at k;exact k
end
theorem lc_F {k:SK} {K:PySem.W.Frag} {Q:VK} (R:Hp→V→α→Prop) (hR:∀ H1 H2 v x,Tk H1 H2→R H1 v x→R H2 v x) (f:Nat→Option α) (hz:vs.length≤1000) (hD:H D=none) (ha:k.At H a vs)
 (hs:∀ (i:Nat) (w:V) (H2:Hp) (C:V→Hp→Prop) (N:Hp→Prop),vs[i]? = some w→Same H H2→(∀ y H5 z,Same H2 H5→f i=some z→R H5 y z→C y H5)→(∀ H5,Same H2 H5→f i=none→N H5)→tt (some w :: rest) H2 fun b H5=>if b=true then te (some w :: rest) H5 C else N H5)
 (hd:∀ H2 us,Same H H2→H2 D=some (.lst us)→Al (R H2) us ((List.range vs.length).filterMap f)→Q (.ref D) H2):LcGo (k.Itk K a) (Y2 0) tt te (u0 :: rest) H D Q:=by
 refine Zez (n:=vs.length) (fun i σ H2=>Same H H2∧(∃ u,σ=u :: rest)∧∃ us,H2 D=some (.lst us)∧us.length≤i∧Al (R H2) us ((List.range i).filterMap f)) ⟨Same.new hD,⟨_,rfl⟩,[],Zc,n14_ _,.nil⟩ (fun i σ H2 hi p=>Zg9 (ha.same p.1) hi) (fun σ H2 p=>Zbj (ha.same p.1) (n14_ _)) (fun i x σ2 H2 H3 hi y p=>?_) (fun σ2 H2 p=>?_)
 · obtain ⟨s2,⟨u,rfl⟩,us,e2,l2,a2⟩:=p;obtain ⟨rfl,ex⟩:=Zdv (ha.same s2) y
   have rg:(List.range (i+1)).filterMap f=(List.range i).filterMap f++(f i).toList:=by
    rw [List.range_succ,List.filterMap_append];cases h:f i<;>simp [h]
   show tt (some x :: rest) H3 _
   refine hs i x H3 _ _ ex s2 (fun y H5 z s5 ef r=>?_) (fun H5 s5 ef=>?_)
   · have sD:∀ us',Tk H5 (upd H5 D (.lst us')):=fun us'=>Tk.upd_lst (s5 _ _ e2);refine ⟨us,s5 _ _ e2,by rw [sizeLine_eq];omega,_,n25_ (Nat.sub_succ_lt_self _ _ hi) (n14_ _),hi,rfl,fun b o e=>?_,⟨_,rfl⟩,_,Zc,by simp;omega,?_⟩
     · rw [Zh (Zg e hD)];exact s5 _ _ (s2 _ _ e)
     · rw [rg,ef];exact (a2.imp fun v x r=>hR _ _ v x (s5.tk.trans (sD _)) r).snoc (hR _ _ _ _ (sD _) r)
   · refine ⟨_,n25_ (Nat.sub_succ_lt_self _ _ hi) (n14_ _),hi,rfl,s2.trans s5,⟨_,rfl⟩,us,s5 _ _ e2,by omega,?_⟩;rw [rg,ef]
     simpa using a2.imp fun v x r=>hR _ _ v x s5.tk r
 · obtain ⟨s2,⟨u,rfl⟩,us,e2,l2,a2⟩:=p;exact hd H2 us s2 e2 a2
section
variable {κ:Type} [DecidableEq κ]
def valV (kvs:List (κ×V)) (k:κ):Option V:=(kvs.find? fun kv=>decide (kv.1=k)).map (·.2)
def putK (kvs:List (κ×V)) (k:κ) (v:V):List (κ×V) :=
 if (kvs.any fun kv=>decide (kv.1=k))=true then kvs.map (fun kv=>if kv.1=k then (kv.1,v) else kv) else kvs++[(k,v)]
theorem Zft {p:κ×V} {r:List (κ×V)} {k:κ} (e:p.1=k):valV (p :: r) k=some p.2:=by simp [valV,List.find?_cons,e]
theorem Zfp {p:κ×V} {r:List (κ×V)} {k:κ} (e:¬ p.1=k):valV (p :: r) k=valV r k:=by simp [valV,List.find?_cons,e]
theorem Zj4 (k:κ):∀ kvs:List (κ×V),(kvs.any fun kv=>decide (kv.1=k))=(valV kvs k).isSome
 | []=>rfl
 | p :: r=>by
   rw [List.any_cons]
   by_cases e:p.1=k
   · simp only [Zft e,n29_ e,Bool.true_or,Option.isSome_some]
   · rw [Zfp e,n33_ e,Bool.false_or];exact Zj4 k r
theorem X7 (kvs:List (κ×V)) (k:κ) (v:V):(putK kvs k v).length≤kvs.length+1:=by
 unfold putK;split
 · rw [n5_];omega
 · rw [n28_,n26_,List.length_nil];omega
theorem RelO.isSome_eq {o:Option V} {u:Option Value} (r:RelO o u):o.isSome=u.isSome:=by
 cases o with
 | none=>cases u with
   | none=>rfl
   | some _=>exact (show False from r).elim
 | some _=>cases u with
   | none=>exact (show False from r).elim
   | some _=>rfl
theorem KV.val {kvs:List (κ×V)} {vs:List (κ×Value)} (r:KV kvs vs) (k:κ):RelO (valV kvs k) (valueAt vs k):=by
 unfold KV at r
 induction r with
 | nil=>exact True.intro
 | @cons p q ps qs h t ih =>
   obtain ⟨h1,h2⟩:=h
   by_cases e:p.1=k
   · have e':q.1=k:=h1.symm.trans e;have b:valueAt (q :: qs) k=some q.2:=by simp [valueAt,List.find?_cons,e']
     rw [Zft e,b];exact h2
   · have e':¬ q.1=k:=fun z=>e (h1.trans z);have b:valueAt (q :: qs) k=valueAt qs k:=by simp [valueAt,List.find?_cons,e']
     rw [Zfp e,b];exact ih
theorem KV.any {kvs:List (κ×V)} {vs:List (κ×Value)} (r:KV kvs vs) (k:κ):(kvs.any fun kv=>decide (kv.1=k))=vs.any fun kv=>decide (kv.1=k):=by
 unfold KV at r
 induction r with
 | nil=>rfl
 | cons h t ih=>rw [List.any_cons,List.any_cons,ih,h.1]
theorem KV.repl {kvs:List (κ×V)} {vs:List (κ×Value)} (r:KV kvs vs) (k:κ) (ry:RelV y u) :
 KV (kvs.map fun kv=>if kv.1=k then (kv.1,y) else kv) (vs.map fun kv=>if kv.1=k then (kv.1,u) else kv):=by
 unfold KV at r ⊢
 induction r with
 | nil=>exact .nil
 | @cons p q ps qs h t ih =>
   rw [n31_,n31_];refine .cons ?_ ih;obtain ⟨h1,h2⟩:=h
   by_cases e:p.1=k
   · rw [if_pos e,if_pos (h1.symm.trans e)];exact ⟨h1,ry⟩
   · rw [if_neg e,if_neg (fun z=>e (h1.trans z))];exact ⟨h1,h2⟩
theorem KV.put {kvs:List (κ×V)} {vs:List (κ×Value)} (r:KV kvs vs) (k:κ) (ry:RelV y u):KV (putK kvs k y) (stored vs k u):=by
 unfold putK stored;rw [r.any k]
 by_cases e:(vs.any fun kv=>decide (kv.1=k))=true
 · rw [if_pos e,if_pos e];exact r.repl k ry
 · rw [if_neg e,if_neg e];exact Paired.snoc r ⟨rfl,ry⟩
theorem KV.length {kvs:List (κ×V)} {vs:List (κ×Value)} (r:KV kvs vs):kvs.length=vs.length:=Paired.length r
end
theorem Zni {k:Key} (r:RelV (kV k) u):(Yk P w).is k u=true:=by
 cases k with
 | inl i=>obtain ⟨t,e⟩:=(show ∃ t,u=Value.int i t from r);subst e;exact Zim P w i t
 | inr x=>obtain ⟨t,e⟩:=(show ∃ t,u=Value.str x t from r);subst e;exact Zi3 P w x t
theorem Zg1:∀ {ks:List Key} {us:List Value},Vals (ks.map kV) us→ItemsAre (Yk P w) ks us
 | [],_,r=>by rw [List.map_nil] at r;cases r;exact .nil
 | k :: ks,_,r=>by
   rw [n31_] at r;cases r with
   | cons h t=>exact .cons (Zni h) (Zg1 t)
abbrev KT (H:Hp):List (List Key×V)→List (List Key×Addr×Value)→Prop:=Paired fun p q=>p.1=q.1∧H q.2.1=some (.tup (p.1.map kV))∧RelV p.2 q.2.2
theorem KT.val {xs:List (List Key×Addr×Value)} (r:KT H kvs xs) (k:List Key):RelO (valV kvs k) ((atKey xs k).map (·.2)):=by
 induction r with
 | nil=>exact True.intro
 | @cons p q ps qs h t ih =>
   obtain ⟨h1,_,h2⟩:=h
   by_cases e:p.1=k
   · have e':q.1=k:=h1.symm.trans e;have b:atKey (q :: qs) k=some q.2:=by simp [atKey,List.find?_cons,e']
     rw [Zft e,b];exact h2
   · have e':¬ q.1=k:=fun z=>e (h1.trans z);have b:atKey (q :: qs) k=atKey qs k:=by simp [atKey,List.find?_cons,e']
     rw [Zfp e,b];exact ih
theorem KT.repl {xs:List (List Key×Addr×Value)} (r:KT H kvs xs) (k:List Key) (ry:RelV y u) :
 KT H (kvs.map fun kv=>if kv.1=k then (kv.1,y) else kv) (xs.map (putAt k u)):=by
 induction r with
 | nil=>exact .nil
 | @cons p q ps qs h t ih =>
   rw [n31_,n31_];refine .cons ?_ ih;obtain ⟨h1,h2,h3⟩:=h;unfold putAt
   by_cases e:p.1=k
   · rw [if_pos e,if_pos (h1.symm.trans e)];exact ⟨h1,h2,ry⟩
   · rw [if_neg e,if_neg (fun z=>e (h1.trans z))];exact ⟨h1,h2,h3⟩
theorem KT.put {xs:List (List Key×Addr×Value)} (r:KT H kvs xs) (k:List Key) (hb:H b=some (.tup (k.map kV))) (ry:RelV y u) :
 KT H (putK kvs k y) (storedH xs k b u):=by
 have e:(kvs.any fun kv=>decide (kv.1=k))=(atKey xs k).isSome:=by
  rw [Zj4,(r.val k).isSome_eq,Option.isSome_map]
 unfold putK storedH;rw [e]
 by_cases q:(atKey xs k).isSome=true
 · rw [if_pos q,if_pos q];exact r.repl k ry
 · rw [if_neg q,if_neg q];exact Paired.snoc r ⟨rfl,hb,ry⟩
theorem KT.keeps {xs:List (List Key×Addr×Value)} (r:KT H kvs xs) (ht:∀ b ys,H b=some (.tup ys)→H' b=some (.tup ys)):KT H' kvs xs :=
 Paired.mapP r fun _ _ z=>⟨z.1,ht _ _ z.2.1,z.2.2⟩
section
variable {P:Program} {w:World} {H:Hp} {h:Heap} {a:Addr}
theorem Zuc {u:HO} (ok:HOk P w H h) (e:Rd H a u):ObjOk P w H h a u:=e.ok ok
theorem Zn5 {kvs:List (Key×V)} (ok:HOk P w H h) (e:Rd H a (.dK kvs)):kvs.length≤sizeLine∧(a == sysModules)=false∧∃ vs,KV kvs vs∧h.DictOf (Yk P w) a vs :=
 show ObjOk P w H h a (.dK kvs) from Zuc ok e
theorem Zu5 {kvs:List (Key×V)} (ok:HOk P w H h) (e:H a=some (.dK kvs)):kvs.length≤sizeLine∧(a == sysModules)=false∧∃ vs,KV kvs vs∧h.DictOf (Yk P w) a vs:=Zn5 ok (.inl e)
theorem Zh8 {ks:List Key} (ok:HOk P w H h) (e:H a=some (.tup (ks.map kV))):(tupleKind (Yk P w)).is h ks a:=by
 obtain ⟨_,its,r,o,h1,⟨h2,_⟩,n,h3⟩:=(show ObjOk P w H h a (.tup (ks.map kV)) from ok a _ e);exact ⟨o,its.toArray,n,h1,h2,h3,by simpa using Zg1 r⟩
theorem Zmn (ok:HOk P w H h) (e:Rd H a (.dT kvs)):kvs.length≤sizeLine∧(a == sysModules)=false ∧
 ∃ xs,KT H kvs xs∧h.DictOfH (tupleKind (Yk P w)) a xs:=by
 obtain ⟨z,y,xs,r,o,es,ep,h1,h2,h3,h4,h5⟩:=(show ObjOk P w H h a (.dT kvs) from Zuc ok e);refine ⟨z,y,xs,r,o,es,ep,h1,h2,h3,h4,fun x hx=>?_,h5⟩
 have all:∀ {l:List (List Key×V)} {m:List (List Key×Addr×Value)},KT H l m→∀ x∈m,(tupleKind (Yk P w)).is h x.1 x.2.1:=by
  intro l m q
  induction q with
  | nil=>intro x hx;exact nomatch hx
  | @cons p q ps qs hq t ih =>
    intro x hx
    rcases n12_.mp hx with e|hx
    · subst e;exact Zh8 ok (by rw [← hq.1];exact hq.2.1)
    · exact ih x hx
 exact all r x hx
theorem Ztu (ok:HOk P w H h) (e:H a=some (.dT kvs)):kvs.length≤sizeLine∧(a == sysModules)=false ∧
 ∃ xs,KT H kvs xs∧h.DictOfH (tupleKind (Yk P w)) a xs:=Zmn ok (.inl e)
end
def DGet (H:Hp) (a:Addr) (y:V) (r:Option V):Prop :=
 (∃ kvs k,Rd H a (.dK kvs)∧y=kV k∧r=valV kvs k)∨∃ kvs k b,Rd H a (.dT kvs)∧y=.ref b∧H b=some (.tup (k.map kV))∧r=valV kvs k
def DPut (H:Hp) (a:Addr) (y v:V) (H':Hp):Prop :=
 (∃ kvs k,H a=some (.dK kvs)∧y=kV k∧kvs.length<sizeLine∧H'=upd H a (.dK (putK kvs k v))) ∨
 ∃ kvs k b,H a=some (.dT kvs)∧y=.ref b∧H b=some (.tup (k.map kV))∧kvs.length<sizeLine∧H'=upd H a (.dT (putK kvs k v))
theorem DGet.kq {kvs:List (Key×V)} {k:Key} (e:H a=some (.dK kvs)):DGet H a (kV k) (valV kvs k):=.inl ⟨kvs,k,.inl e,rfl,rfl⟩
theorem DGet.tq {k:List Key} (e:H a=some (.dT kvs)) (eb:H b=some (.tup (k.map kV))):DGet H a (.ref b) (valV kvs k):=.inr ⟨kvs,k,b,.inl e,rfl,eb,rfl⟩
theorem DPut.kq {kvs:List (Key×V)} {k:Key} (e:H a=some (.dK kvs)) (hl:kvs.length<sizeLine):DPut H a (kV k) v (upd H a (.dK (putK kvs k v))):=.inl ⟨kvs,k,e,rfl,hl,rfl⟩
section
variable {X:Cx} {pins:List (Addr×Obj)} {σ:St} {H:Hp} {s:Shared} {a:Addr} {y v:V} {u r:Value} {o:Option V} {A:Around} {E:Value→Shared→Prop}
theorem Inv.big (I:Inv X pins σ H s):sysModules<s.z:=by
 have h:mainGlobals<s.z:=(I.mod.glob.keeps I.bk).lt;exact Nat.lt_trans (by decide) h
theorem Zou (hu:A.units+1<cLine) (I:Inv X pins σ H s) (g:DGet H a y (some v)) (ry:RelV y u) (h:∀ w' s',Inv X pins σ H s'→RelV v w'→Q w' s') :
 wpAny (model X.prog X.w) A (getItem (.ref a) u) Q E s:=by
 rcases g with ⟨kvs,k,e,ey,l⟩|⟨kvs,k,b,e,ey,eb,l⟩
 · subst ey;obtain ⟨z,hd,vs,rel,dd⟩:=Zn5 I.hok e;obtain ⟨w',hw,rw'⟩:=RelO.some_of (v:=v) (o:=valueAt vs k) (by rw [l];exact rel.val k);exact wpAny_getItem_of (Zni ry) dd.mapOf hw (h w' _ (I.tok _) rw')
 · subst ey;cases (show u=Value.ref b from ry)
   obtain ⟨z,hd,xs,rel,dd⟩:=Zmn I.hok e;obtain ⟨w',hw,rw'⟩:=RelO.some_of (v:=v) (o:=(atKey xs k).map (·.2)) (by rw [l];exact rel.val k);obtain ⟨p,hp,hp2⟩:=n10_.mp hw;refine wpAny_getItem_heap (tupleKind_room_in1 hu) (Zh8 I.hok eb) dd hp ?_;rw [hp2];exact h w' _ (I.tok _) rw'
theorem Zrx (hu:A.units+1<cLine) (I:Inv X pins σ H s) (g:DGet H a y o) (ry:RelV y u) (h:∀ s',Inv X pins σ H s'→Q (.bool (!o.isSome)) s') :
 wpAny (model X.prog X.w) A (compareOp .NotIn u (.ref a)) Q E s:=by
 rcases g with ⟨kvs,k,e,ey,l⟩|⟨kvs,k,b,e,ey,eb,l⟩
 · subst ey;obtain ⟨z,hd,vs,rel,dd⟩:=Zn5 I.hok e;refine wpAny_notIn_of (Zni ry) hd dd.mapOf ?_;rw [← (rel.val k).isSome_eq,← l];exact h _ (I.tok _)
 · subst ey;cases (show u=Value.ref b from ry)
   obtain ⟨z,hd,xs,rel,dd⟩:=Zmn I.hok e;refine wpAny_notIn_heap (tupleKind_room_in1 hu) (Zh8 I.hok eb) hd dd ?_;have q:=(rel.val k).isSome_eq;rw [Option.isSome_map] at q;rw [← q,← l];exact h _ (I.tok _)
theorem Zdu {ob:HO} (I:Inv X pins σ H s) (mu:Mut (H a)) (hs:Heap.SameBut a s.heap h') (he:∃ q,h'.get? a=some q) (new:ObjOk X.prog X.w (upd H a ob) h' a ob) :
 Inv X pins σ (upd H a ob) { s with heap:=h',toks:=t' } :=
 I.write (x:=a) (e:=a) mu (.inl rfl) (fun b q hb z=>(hs.2 b hb).trans z) he new
theorem Zrb {kvs:List (Key×V)} {vs:List (Key×Value)} (z:kvs.length≤sizeLine) (hd:(a == sysModules)=false) (rel:KV kvs vs) (dd:h'.DictOf (Yk P w) a vs) :
 ObjOk P w H' h' a (.dK kvs):=⟨z,hd,vs,rel,dd⟩
theorem Zoo {Q:Unit→Shared→Prop} (hu:A.units+1<cLine) (I:Inv X pins σ H s) (g:DPut H a y v H') (ry:RelV y u) (rv:RelV v r) (h:∀ s',Inv X pins σ H' s'→Q () s') :
 wpAny (model X.prog X.w) A (setItem (.ref a) u r) Q E s:=by
 rcases g with ⟨kvs,k,e,ey,l,eH⟩|⟨kvs,k,b,e,ey,eb,l,eH⟩
 · subst ey eH;obtain ⟨z,hd,vs,rel,dd⟩:=Zu5 I.hok e;have hz:vs.length≤sizeLine:=by rw [← rel.length];exact z
   have hl:(putK kvs k v).length≤sizeLine:=by have:=X7 kvs k v;omega
   refine wpAny_setItem_pairs (hsz:=hz) (Zni ry) dd fun h' dd' hs=>h _ ?_;have he:∃ q,h'.get? a=some q:=let ⟨q,_,_,hq,_⟩:=dd';⟨q,hq⟩;exact Zdu I (by rw [e];exact True.intro) hs he (Zrb hl hd (rel.put k rv) dd')
 · subst ey eH;cases (show u=Value.ref b from ry)
   obtain ⟨z,hd,xs,rel,dd⟩:=Ztu I.hok e;have hz:xs.length≤sizeLine:=by rw [← Paired.length rel];exact z
   have hl:(putK kvs k v).length≤sizeLine:=by have:=X7 kvs k v;omega
   refine wpAny_setItem_heap (hsz:=hz) (tupleKind_room_in1 hu) (Zh8 I.hok eb) dd fun h' dd' hs=>h _ ?_;obtain ⟨q,es,ep,hq,h2,h3,h4,_,h5⟩:=dd';refine Zdu I (by rw [e];exact True.intro) hs ⟨q,hq⟩ ⟨hl,hd,_,(rel.put k eb rv).keeps fun c ys ec=>?_,q,es,ep,hq,h2,h3,h4,h5⟩;rw [Zh (Zo1 ec e (fun z=>nomatch z))];exact ec
end
section
variable {X:Cx} {pins:List (Addr×Obj)} {σ:St} {H:Hp} {s:Shared} {a:Addr} {kvs:List (Key×V)} {k:Key} {u:Value} {A:Around} {E:Value→Shared→Prop}
end
def NoSl (i:Expr):Prop:=∀ ov iv,subscripted i false ov iv=operate [ov,iv] (getItem ov iv)
theorem Zti {value slice:Expr} {T id:String}
 (hl:typeLookup (.type T) "__getitem__" = pure (some (.builtin id))) (hs:NoSl slice)
 (h:wpAny (model prog w) A (eval value env) (fun o s₁=>wpAny (model prog w) A (eval slice env) (fun i s₂=>s₂.TypeIs o T∧wpAny (model prog w) A (getItem o i) Q E s₂) E s₁) E s) :
 wpAny (model prog w) A (eval (.Subscript value slice pos) env) Q E s:=by
 refine Subscript_ (n45_ h (fun o s₁ h₁=>n45_ h₁ (fun i s₂ h₂=>?_) fun _ _ x=>x) fun _ _ x=>x);obtain ⟨hT,h₂⟩:=h₂;unfold subscriptTail;refine n0_ ?_;rw [getitemInPython_of_ne hT.not_modules];refine n0_ (wpAny_specialOf hT hl ?_)
 have fin:wpAny (model prog w) A (subscripted slice false o i) (fun r s₃=>wpAny (model prog w) A (letTemporaryGo value o r >>= fun _=>pure r) Q E s₃) E s₂:=by
  rw [hs o i];exact wpAny_operating (n45_ h₂ (fun r s₃ h₃=>n0_ (wpAny_letTemporaryGo (n4_ h₃))) fun _ _ x=>x)
 first
  | exact n4_ (n0_ fin)
  | exact n0_ (n4_ (n0_ fin))
  | exact n0_ fin
theorem Zil {o:Option V} (I:Inv X pins σ H s) (g:DGet H a y o):s.TypeIs (.ref a) "dict" := by
 rcases g with ⟨kvs,k,e,_,_⟩|⟨kvs,k,b,e,_,_,_⟩
 · obtain ⟨_,_,vs,_,dd⟩:=Zn5 I.hok e;exact dd.typeIs
 · obtain ⟨_,_,xs,_,dd⟩:=Zmn I.hok e;exact dd.typeIs
def Zv8 (td ty:TE):TE:=fun σ H Q=>td σ H fun x H1=>ty σ H1 fun y H2=>∃ a v,x=.ref a∧DGet H2 a y (some v)∧Q v H2
def Zsi (ty td:TE):TE:=fun σ H Q=>ty σ H fun y H1=>td σ H1 fun x H2=>∃ a o,x=.ref a∧DGet H2 a y o∧Q (.bl (!o.isSome)) H2
def Zv9 (td ty tv:TE):TS:=fun D σ H=>tv σ H fun v H1=>td σ H1 fun x H2=>ty σ H2 fun y H3=>∃ a H4,x=.ref a∧DPut H3 a y v H4∧D.nx σ H4
section
variable {X:Cx} {o i e value:Expr} {pos pos' tpos:Pos} {td ty tv:TE}
theorem Zs2 (hu:X.A.units+1<cLine) (ho:PE X o td) (hi:PE X i ty) (hs:NoSl i):PE X (.Subscript o i pos) (Zv8 td ty):=by
 intro pins s σ H Q I h;refine Zti PySem.F.slot_dict_getitem.lookup hs (thn (ho pins s σ H _ I h) fun u s1 ⟨x,H1,I1,rx,q1⟩=>thn (hi pins s1 σ H1 _ I1 q1) fun iv s2 ⟨y,H2,I2,ry,a,v,ex,g,q2⟩=>?_);subst ex;obtain rfl:u=Value.ref a:=rx;exact ⟨Zil I2 g,Zou hu I2 g ry fun w' s3 I3 rw'=>⟨v,H2,I3,rw',q2⟩⟩
theorem Znp (hu:X.A.units+1<cLine) (hi:PE X i ty) (ho:PE X o td):PC X .NotIn i o (Zsi ty td):=by
 intro pins s σ H Q I h;refine thn (hi pins s σ H _ I h) fun iv s1 ⟨y,H1,I1,ry,q1⟩=>thn (ho pins s1 σ H1 _ I1 q1) fun u s2 ⟨x,H2,I2,rx,a,ov,ex,g,q2⟩=>?_;subst ex;obtain rfl:u=Value.ref a:=rx;exact Zrx hu I2 g ry fun s3 I3=>⟨.bl (!ov.isSome),H2,I3,rfl,q2⟩
theorem Zs8 (hu:X.A.units+1<cLine) (ho:PE X o td) (hi:PE X i ty) (hv:PE X value tv) (hs:swapsWith value (some (.Subscript o i pos')) pos.line X.env=pure false) :
 PS X (.Assign [.Subscript o i pos'] value pos) (Zv9 td ty tv):=by
 intro pins s σ H D I h;refine wpAny_Assign_Subscript (thn (hv pins s σ H _ I h) fun r s1 ⟨v,H1,I1,rv,q1⟩=>thn (ho pins s1 σ H1 _ I1 q1) fun u s2 ⟨x,H2,I2,rx,q2⟩=>thn (hi pins s2 σ H2 _ I2 q2) fun iv s3 ⟨y,H3,I3,ry,a,H4,ex,g,q3⟩=>?_) hs;subst ex;obtain rfl:u=Value.ref a:=rx;exact Zoo hu I3 g ry rv fun s4 I4=>⟨σ,H4,I4,q3⟩
end
theorem Zqn (h:Heap) (hb:sysModules<h.objs.size):ObjOk P w H (h.push { cls:=.type "dict",data:=.dict #[] }) h.objs.size (.dK []) :=
 ⟨n55_ _,beq_eq_false_iff_ne.mpr (Ne.symm (n17_ hb)),[],.nil,Heap.DictOf.new h⟩
theorem Zpx (h:Heap) (hb:sysModules<h.objs.size):ObjOk P w H (h.push { cls:=.type "dict",data:=.dict #[] }) h.objs.size (.dT []) :=
 ⟨n55_ _,beq_eq_false_iff_ne.mpr (Ne.symm (n17_ hb)),[],.nil,_,#[],0,n8_ _ rfl,⟨rfl,rfl,rfl⟩,rfl,rfl,List.nodup_nil⟩
def Zt9:TE:=fun _ H Q=>∀ p,H p=none→Q (.ref p) (upd H p (.dT []))
section
variable {X:Cx} {pos:Pos}
theorem Zqm:PE X (.Dict [] [] pos) Zt9:=fun pins s σ H Q I h =>
 wpAny_Dict_empty ⟨.ref s.z,_,I.laid (a:=s.z) (o:=.dT []) (t':=s.toks) (fun _ _ q=>n3_ _ q) (n14_ _) (Zpx s.heap I.big),rfl,h _ (I.hok.fresh (n14_ _))⟩
end
def Zm5:List (TE×TE)→St→Hp→(List (V×V)→Hp→Prop)→Prop
 | [],_,H,Q=>Q [] H
 | (tk,tv) :: r,σ,H,Q=>tk σ H fun x H1=>tv σ H1 fun y H2=>Zm5 r σ H2 fun ps H3=>Q ((x,y) :: ps) H3
abbrev VV:List (V×V)→List (Value×Value)→Prop:=Paired fun p q=>RelV p.1 q.1∧RelV p.2 q.2
def PPs (X:Cx) (pos:Pos) (keys:List (Option Expr)) (values:List Expr) (trs:List (TE×TE)):Prop :=
 ∀ (pins:List (Addr×Obj)) (s:Shared) (σ:St) (H:Hp) (Q:List (V×V)→Hp→Prop),Inv X pins σ H s→Zm5 trs σ H Q →
   wpAny (model X.prog X.w) X.A (evalPairs (pairTrees keys values X.env pos)) (fun vs s'=>∃ ps H',Inv X pins σ H' s'∧VV ps vs∧Q ps H') X.xe s
theorem Zs1:PPs X pos [] [] []:=fun pins s σ H Q I h=>pairTrees_nil_walk ⟨[],H,I,.nil,h⟩
theorem Zo6 {k v:Expr} {ks:List (Option Expr)} {vs:List Expr} {tk tv:TE} {trs:List (TE×TE)} (hk:PE X k tk) (hv:PE X v tv) (hr:PPs X pos ks vs trs) :
 PPs X pos (some k :: ks) (v :: vs) ((tk,tv) :: trs):=fun pins s σ H Q I h =>
 pairTrees_cons_walk (thn (hk pins s σ H _ I h) fun u s1 ⟨x,H1,I1,rx,q1⟩=>thn (hv pins s1 σ H1 _ I1 q1) fun w2 s2 ⟨y,H2,I2,ry,q2⟩ =>
  thn (hr pins s2 σ H2 _ I2 q2) fun ws s3 ⟨ps,H3,I3,rel,q3⟩=>⟨(x,y) :: ps,H3,I3,.cons ⟨rx,ry⟩ rel,q3⟩)
def Zco (kvs more:List (Key×V)):List (Key×V):=more.foldl (fun acc kv=>putK acc kv.1 kv.2) kvs
theorem KV.merge:∀ {more:List (Key×V)} {rs:List (Key×Value)} {kvs:List (Key×V)} {vs:List (Key×Value)},KV more rs→KV kvs vs→KV (Zco kvs more) (merged vs rs):=by
 intro more rs kvs vs r;unfold KV at r
 induction r generalizing kvs vs with
 | nil=>intro q;exact q
 | @cons p q ps qs h t ih =>
   intro r0
   have e:KV (putK kvs p.1 p.2) (stored vs q.1 q.2):=by
    have:=r0.put p.1 h.2
    rw [← h.1];exact this
   exact ih e
theorem Zbu:∀ (more kvs:List (Key×V)),(Zco kvs more).length≤kvs.length+more.length
 | [],kvs=>by show kvs.length≤kvs.length+0;omega
 | p :: r,kvs=>by
   have h1:=Zbu r (putK kvs p.1 p.2);have h2:=X7 kvs p.1 p.2;show (Zco (putK kvs p.1 p.2) r).length≤_
   rw [n26_];omega
theorem Zey:∀ {kvs:List (Key×V)} {ws:List (Value×Value)},VV (kvs.map fun kv=>(kV kv.1,kv.2)) ws→∃ rs,Carries (Yk P w) ws rs∧KV kvs rs
 | [],_,r=>by rw [List.map_nil] at r;cases r;exact ⟨[],True.intro,.nil⟩
 | p :: kvs,_,r=>by
   rw [n31_] at r;cases r with
   | @cons a b as bs h t =>
     obtain ⟨rs,c,q⟩:=Zey t;obtain ⟨b1,b2⟩:=b;exact ⟨(p.1,b2) :: rs,⟨Zni h.1,rfl,c⟩,.cons ⟨rfl,h.2⟩ q⟩
def Zwr (trs:List (TE×TE)):TE:=fun σ H Q=>∀ p,H p=none→Zm5 trs σ (upd H p (.dK [])) fun ps H2=>H2 p=some (.dK [])∧∃ kvs:List (Key×V),ps=kvs.map (fun kv=>(kV kv.1,kv.2))∧kvs.length≤15∧Q (.ref p) (upd H2 p (.dK (Zco [] kvs)))
theorem Zsv {keys:List (Option Expr)} {values:List Expr} {trs:List (TE×TE)} (h:PPs X pos keys values trs) (hall:keys.all (·.isSome)=true) (hl:keys.length=values.length) (h0:keys≠[])
 (h15:keys.length≤15):PE X (.Dict keys values pos) (Zwr trs):=by
 intro pins s σ H Q I q;have hn:=I.hok.fresh (n14_ s.z);have I1:=I.laid (a:=s.z) (o:=.dK []) (h':=s.heap.push { cls:=.type "dict",data:=.dict #[] }) (t':=s.toks) (fun _ _ q=>n3_ _ q) (n14_ _) (Zqn s.heap I.big);refine wpAny_Dict_walk (knd:=Yk X.prog X.w) hall hl h0 h15 (thn (h pins _ σ _ _ I1 (q _ hn)) fun ws s2 ⟨ps,H2,I2,rel,e,kvs,ep,lk,q2⟩=>?_);subst ep;obtain ⟨rs,c,rk⟩:=Zey (P:=X.prog) (w:=X.w) rel;obtain ⟨z,hd,vs0,r0,dd⟩:=Zu5 I2.hok e;cases r0
 refine ⟨rs,c,dd,fun h' dd' hs=>⟨.ref s.z,_,?_,rfl,q2⟩⟩
 have hz:(Zco [] kvs).length≤sizeLine:=by
  have h1:=Zbu kvs [];rw [List.length_nil] at h1;rw [sizeLine_eq];omega
 have he:∃ q,h'.get? s.z=some q:=let ⟨q,_,_,hq,_⟩:=dd';⟨q,hq⟩;exact Zdu I2 (by rw [e];exact True.intro) hs he (Zrb hz hd (rk.merge .nil) dd')
def IsD (H:Hp) (a:Addr):Prop:=(∃ kvs,Rd H a (.dK kvs))∨∃ kvs,Rd H a (.dT kvs)
theorem Znd (I:Inv X pins σ H s) (d:IsD H a) :
 s.TypeIs (.ref a) "dict" ∧ (∀ b,Value.ref a=.ref b→∃ ob,s.heap.get? b=some ob∧ob.dict=none)∧(a == sysModules)=false:=by
 rcases d with ⟨kvs,e⟩|⟨kvs,e⟩
 · obtain ⟨_,hd,vs,_,dd⟩:=Zn5 I.hok e;refine ⟨dd.typeIs,fun b q=>?_,hd⟩;cases q
   obtain ⟨ob,_,_,h1,h2,_⟩:=dd;exact ⟨ob,h1,h2.2.1⟩
 · obtain ⟨_,hd,xs,_,dd⟩:=Zmn I.hok e;refine ⟨dd.typeIs,fun b q=>?_,hd⟩;cases q
   obtain ⟨ob,_,_,h1,h2,_⟩:=dd;exact ⟨ob,h1,h2.2.1⟩
section
variable {X:Cx} {pins:List (Addr×Obj)} {σ:St} {H:Hp} {s:Shared} {a:Addr} {y d:V} {u r:Value} {o:Option V} {A:Around} {E:Value→Shared→Prop}
end
section
variable {X:Cx} {o e f:Expr} {apos cpos:Pos} {td ty tx:TE}
end
section
variable {X:Cx} {pins:List (Addr×Obj)} {σ:St} {H:Hp} {s:Shared} {a:Addr} {kvs:List (Key×V)} {A:Around} {E:Value→Shared→Prop}
end
section
variable {X:Cx} {pins:List (Addr×Obj)} {σ:St} {H:Hp} {s:Shared} {a:Addr} {y:V} {u:Value} {A:Around} {E:Value→Shared→Prop}
end
end L2
namespace PySem
section
variable {prog:Program} {w:World} {A:Around} {E:Value→Shared→Prop} {s:Shared} {it d:Addr} {i ep:Nat} {es:Array DictEntry} {ok ov:Value}
def EntAt (h:Heap) (d:Addr) (es:Array DictEntry) (ep:Nat):Prop:=∃ o:Obj,h.get? d=some o∧o.data=.dict es ep
theorem EntAt.at {h h':Heap} (x:EntAt h d es ep) (k:∀ o,h.get? d=some o→h'.get? d=some o):EntAt h' d es ep:=let ⟨o,e,q⟩:=x;⟨o,k o e,q⟩
end
end PySem
namespace L2
open PySem PySem.Spec PyProof.Rows
variable {A:Around} {X:Cx} {h:Heap} {H:Hp} {pins:List (Addr×Obj)} {kvs:List (List Key×V)} {vs:List V} {us:List Value} {ep:Nat} {o:Obj} {P:Program} {s:Shared} {σ:St} {v:V} {u:Value} {w:World}
theorem Zm2 {d:Addr} {es:Array DictEntry} (x:HOk P w H h) (e:H d=some (.frz o (.dT kvs))) (od:o.data=.dict es ep) :
 EntAt h d es ep∧es.size=kvs.length∧∀ (i:Nat) (k:List Key) (y:V),kvs[i]? = some (k,y)→∃ (b:Addr) (u:Value) (t:Int),es[i]? = some ⟨t,.ref b,u⟩∧H b=some (.tup (k.map kV))∧RelV y u:=by
 obtain ⟨g,z,_,xs,rel,o2,es2,ep2,g2,_,d2,q,_⟩:=x d _ e;rw [g] at g2;cases g2
 rw [od] at d2;cases d2
 have l1:es.size=xs.length:=by rw [← Array.length_toList,q,n5_]
 have l2:=Paired.length rel;refine ⟨⟨o,g,od⟩,by omega,fun i k y hi=>?_⟩
 have get:∀ (l1:List (List Key×V)) (l2:List (List Key×Addr×Value)),Paired (fun (p:List Key×V) (q:List Key×Addr×Value)=>p.1=q.1∧H q.2.1=some (.tup (p.1.map kV))∧RelV p.2 q.2.2) l1 l2→∀ i:Nat,l1[i]? = some (k,y)→∃ (b:Addr) (u:Value),l2[i]? = some (k,b,u)∧H b=some (.tup (k.map kV))∧RelV y u:=by
  intro l1 l2 r
  induction r with
  | nil=>intro i h;simp at h
  | cons r t ih =>
    intro i h;cases i with
    | zero =>
      cases h
      rename_i _ b _ _
      obtain ⟨b1,b2,b3⟩:=b;obtain ⟨r1,r2,r3⟩:=r;cases r1
      exact ⟨b2,b3,rfl,r2,r3⟩
    | succ i=>exact ih i h
 obtain ⟨b,u,e1,e2,e3⟩:=get _ _ rel i hi;refine ⟨b,u,(tupleKind (Yk P w)).hash k,?_,e2,e3⟩;rw [← Array.getElem?_toList,q,n6_,e1];rfl
section
variable {X:Cx} {pins:List (Addr×Obj)} {σ:St} {H:Hp} {s:Shared}
theorem Inv.freeze {d:Addr} (I:Inv X pins σ H s) (e:H d=some (.dT kvs)):∃ o es ep,o.data=.dict es ep∧(d == sysModules)=false∧EntAt s.heap d es ep∧Inv X pins σ (upd H d (.frz o (.dT kvs))) s:=by
 have ok:=I.hok d _ e;obtain ⟨z,hd,xs,rel,o,es,ep,g,c,dd,q,nd⟩:=id ok;refine ⟨o,es,ep,dd,hd,⟨o,g,dd⟩,?_⟩;refine Zdu (t':=s.toks) I (by rw [e];exact True.intro) (Heap.SameBut.refl _ _) ⟨o,g⟩ ⟨g,z,hd,xs,Paired.mapP rel fun p r h=>⟨h.1,by rw [Zh (Zo1 h.2.1 e (fun z=>nomatch z))];exact h.2.1,h.2.2⟩,o,es,ep,g,c,dd,q,nd⟩
end
theorem Zko (h:RelV v u):absV u=some v:=by
 cases v<;>simp only [RelV] at h<;>first|(subst h;rfl)|(obtain ⟨_,rfl⟩:=h;rfl)
theorem Zp1 {v':V} (h:RelV v u) (h':RelV v' u):v=v':=Option.some.inj ((Zko h).symm.trans (Zko h'))
section
variable {X:Cx} {α:Type} [DecidableEq α] {R:Hp→V→α→Prop} {d:Nat}
noncomputable def eqOf (R:Hp→V→α→Prop) (H:Hp) (a:α) (y:Value):Bool:=@decide (∃ v,RelV v y∧R H v a) (Classical.propDecidable _)
theorem Zfy {y:Value} {x a:α} (inj:∀ v x y,R H v x→R H v y→x=y) (rv:RelV v y) (r:R H v x):eqOf R H a y=decide (x=a):=by
 unfold eqOf;rw [n79_];simp only [decide_eq_true_iff];refine ⟨fun ⟨v',h1,h2⟩=>?_,fun h=>⟨v,rv,h ▸ r⟩⟩;rw [Zp1 h1 rv] at h2;exact inj v x a r h2
theorem Zky {a:α} (inj:∀ v x y,R H v x→R H v y→x=y):∀ {vs:List V} {us:List Value} {xs:List α},Vals vs us→Al (R H) vs xs→us.any (eqOf R H a)=decide (a∈xs)
 | [],_,xs,.nil,al=>by
   have:xs=[]:=List.length_eq_zero_iff.mp al.1.symm
   subst this;rfl
 | v :: vs,u :: us,xs,.cons r t,al=>by
   match xs,al with
   | [],al=>exact absurd al.1 (by simp)
   | x :: xs,al =>
     have h0:=al.2 0 v x rfl rfl;have tl:Al (R H) vs xs:=⟨by simpa using al.1,fun i v' x' e1 e2=>al.2 (i+1) v' x' e1 e2⟩;rw [List.any_cons,Zky inj t tl,Zfy inj r h0,n79_];simp only [Bool.or_eq_true,decide_eq_true_eq,n12_];exact ⟨fun h=>h.elim (fun e=>.inl e.symm) .inr,fun h=>h.elim (fun e=>.inl e.symm) .inr⟩
def rInG (R:Hp→V→α→Prop) (neg:Bool):R2:=fun x y H Q=>∃ (p:Addr) (vs:List V) (xs:List α) (a:α),y=.ref p∧H p=some (.lst vs)∧Al (R H) vs xs∧R H x a∧Q (.bl (if neg then !decide (a∈xs) else decide (a∈xs))) H
theorem Zm3 (E:EqT X d R) (inj:∀ v x y,R H v x→R H v y→x=y) (hu:A.units+d<cLine) (I:Inv X pins σ H s) {xs:List α} (r:Vals vs us) (al:Al (R H) vs xs) {x:V} {v:Value} {a:α} (rx:RelV x v) (ra:R H x a) :
 ∀ y∈us.toArray,SeqAt.EqAt A s y v (eqOf R H a y):=fun y hy=>by
 obtain ⟨i,hi,e⟩:=n50_ (show y∈us by simpa using hy);have l1:=r.length;obtain ⟨u,eu,ru⟩:=r.get (n1_ (show i<vs.length by omega));rw [n1_ hi,e] at eu;cases eu
 obtain ⟨z,ez,rz⟩:=al.get (n1_ (show i<vs.length by omega));rw [Zfy inj ru rz];exact E A pins σ H s _ _ _ _ z a hu I rz ra ru rx
theorem Zg8 (E:EqT X d R) (inj:∀ H v x y,R H v x→R H v y→x=y) (hu:X.A.units+d+1<cLine):OpR X (compareOp .NotIn) (rInG R true):=by
 intro pins s σ H x y v u Q I rx ry h;obtain ⟨p,vs,xs,a,rfl,e,al,ra,q⟩:=h;cases ry
 obtain ⟨us,r,pl,_⟩:=I.list (SqL.of e);refine SeqAt.notIn_listAt (eqOf R H a) pl.isList (Zm3 E (inj H) (by rw [Around.in1_units];omega) I r al rx ra) ⟨.bl _,H,I,rfl,?_⟩;rw [show us.toArray.any (eqOf R H a)=us.any (eqOf R H a) by simp,Zky (inj H) r al];exact q
theorem Zn2 (E:EqT X d R) (inj:∀ H v x y,R H v x→R H v y→x=y) (hu:X.A.units+d+1<cLine):MtR X "list.index" (fun x xs H Q=>∃ (p:Addr) (vs:List V) (ys:List α) (v:V) (a:α) (j:Nat),x=.ref p∧xs=[v]∧H p=some (.lst vs)∧Al (R H) vs ys∧R H v a∧ys[j]? = some a∧(∀ m,m<j→ys[m]?≠some a)∧ys.length≤1000∧Q (.int j) H):=by
 intro pins s σ H x xs v us Q I rx rv h;obtain ⟨p,vs,ys,y,a,j,rfl,rfl,e,al,ra,ej,hno,hz,q⟩:=h;cases rx
 obtain ⟨u,rfl,ru⟩:=rv.one;obtain ⟨its,r,pl,_⟩:=I.list (SqL.of e);obtain ⟨⟨cls,dd,data,sl⟩,ho,hc,n,hd⟩:=id pl.isList;simp only at hc hd;subst hc hd;have l1:=r.length;have l2:=al.1;have hj:j<ys.length:=(n9_.mp ej).1
 have at_:∀ m (hm:m<its.toArray.size) z,ys[m]? = some z→eqOf R H a its.toArray[m]=decide (z=a):=fun m hm z ez=>by
  have hm':m<its.length:=by simpa using hm
  obtain ⟨w,ew,rw'⟩:=r.get (n1_ (show m<vs.length by omega));rw [n1_ hm'] at ew;cases ew
  simp only [List.getElem_toArray];exact Zfy (inj H) rw' (al.2 m _ z (n1_ (by omega)) ez)
 refine call_meets F.slot_list_index ⟨_,ho,rfl⟩ F.entry_list_index (F.args_list_index_2 _ _) (SeqAt.list_indexAt p its.toArray n dd sl u (eqOf R H a) j (by simp;omega) (by omega) ?_ ?_) ⟨ho,Zm3 E (inj H) (by rw [Around.in1_units];omega) I r al ru ra,?_⟩
 · rw [at_ j (by simp;omega) a ej];exact n29_ rfl
 · intro m hm hlt;have hm':m<ys.length:=by omega
   rw [at_ m hm ys[m] (n1_ hm')];exact n33_ fun z=>hno m hlt (by rw [n1_ hm',z])
 · exact ⟨.int j,H,I.tok _,⟨_,rfl⟩,q⟩
end
theorem Zi4:∀ H v x y,IsI H v x→IsI H v y→x=y:=fun H v x y ⟨a,e1,h1⟩ ⟨b,e2,h2⟩=>by
 subst e1;cases e2
 rw [h1] at h2
 have:=Option.some.inj h2
 injection this with this
 exact (List.map_inj_right (fun _ _ h=>by injection h)).mp this
theorem Zge:EqT X 1 IsI:=by
 intro A pins σ H s v u a b x y hu I h1 h2 r1 r2;obtain ⟨p,rfl,e1⟩:=h1;obtain ⟨q,rfl,e2⟩:=h2;exact Zr7 (X:=X) Zjl (fun H v x y (h1:v=.int x) (h2:v=.int y)=>by rw [h1] at h2;cases h2;rfl) A pins σ H s (.ref p) (.ref q) a b x y hu I ⟨p,_,rfl,e1,Al.of_ints x⟩ ⟨q,_,rfl,e2,Al.of_ints y⟩ r1 r2
end L2
namespace L2
open PySem PySem.Spec PyProof.Rows PySem.W
def kok {α:Type} (n:Nat) (f:Nat→Nat→Bool) (P:α→Prop):KasT α→Prop
 | .ret a=>P a
 | .ask i j k=>i<n∧j<n∧kok n f P (k (f i j))
variable {α:Type} {p:Array Nat} {i j k m n:Nat}
theorem Za3 {β:Type} {f:Nat→Nat→Bool} {P:β→Prop} {g:α→KasT β}:∀ (t:KasT α),kok n f (fun a=>kok n f P (g a)) t→kok n f P (t.bind g)
 | .ret a,h=>h
 | .ask i j k,h=>⟨h.1,h.2.1,Za3 (k (f i j)) h.2.2⟩
theorem Zm0 {f:Nat→Nat→Bool} {P:α→Prop}:∀ (t:KasT α),kok n f P t→kin n f t=true∧P (krun f t)
 | .ret a,h=>⟨rfl,h⟩
 | .ask i j k,h=>by
   obtain ⟨a,b⟩:=Zm0 (k (f i j)) h.2.2;refine ⟨?_,b⟩;unfold kin;rw [n29_ h.1,n29_ h.2.1,a];rfl
section
variable {n:Nat} {f:Nat→Nat→Bool}
def Pm (n:Nat) (p:Array Nat):Prop:=p.toList.Perm (List.range n)
theorem Pm.size (h:Pm n p):p.size=n:=by have:=h.length_eq;simpa using this
theorem Pm.lt (h:Pm n p) (hi:i<n):p.getD i 0<n:=by
 have hs:=h.size
 have:p.getD i 0∈p.toList:=by
  rw [Array.getD_eq_getD_getElem?,Array.getElem?_eq_getElem (show i<p.size by omega)];simp
 exact n24_.mp (h.mem_iff.mp this)
theorem Pm.ne (h:Pm n p) (hi:i<n) (hj:j<n) (ne:i≠j):p.getD i 0≠p.getD j 0:=fun z=>by
 have hs:=h.size;have nd:p.toList.Nodup:=h.nodup_iff.mpr List.nodup_range;rw [Array.getD_eq_getD_getElem?,Array.getElem?_eq_getElem (show i<p.size by omega),Array.getD_eq_getD_getElem?,Array.getElem?_eq_getElem (show j<p.size by omega)] at z;exact ne ((n53_ (xs:=p.toList) (h₀:=by simpa using (show i<p.size by omega)) (h₁:=by simpa using (show j<p.size by omega)) nd).mp (by simpa using z))
theorem Pm.perm {q:Array Nat} (h:Pm n p) (e:q.Perm p):Pm n q:=(Array.perm_iff_toList_perm.mp e).trans h
abbrev at' (p:Array Nat) (i:Nat):Nat:=p.getD i 0
theorem Zcz {q:Array Nat} (h:p[i]? = q[j]?):at' p i=at' q j:=by simp only [at',Array.getD_eq_getD_getElem?,h]
def Asc (f:Nat→Nat→Bool) (p:Array Nat) (k:Nat):Prop:=∀ i j,i<j→j<k→f (at' p i) (at' p j)=true
def Dsc (f:Nat→Nat→Bool) (p:Array Nat) (k:Nat):Prop:=∀ i j,i<j→j<k→f (at' p j) (at' p i)=true
theorem Ord.flip (o:Ord n f) (h:Pm n p) (hi:i<n) (hj:j<n) (ne:i≠j) (z:f (at' p i) (at' p j)=false):f (at' p j) (at' p i)=true:=by
 have:=o.ant _ _ (h.lt hi) (h.lt hj) (h.ne hi hj ne)
 rw [this,show f (p.getD i 0) (p.getD j 0)=false from z];rfl
theorem Zph (o:Ord n f) (h:Pm n p) (k1:1≤k) (hk:k<n) (a:Asc f p k) (z:f (at' p (k-1)) (at' p k)=true):Asc f p (k+1):=fun i j hij hj=>by
 by_cases e:j=k
 · subst e
   by_cases e2:i=j-1
   · rw [e2];exact z
   · exact o.tr _ _ _ (h.lt (by omega)) (h.lt (by omega)) (h.lt hk) (a i (j-1) (by omega) (by omega)) z
 · exact a i j hij (by omega)
theorem Zkh (o:Ord n f) (h:Pm n p) (k1:1≤k) (hk:k<n) (a:Dsc f p k) (z:f (at' p k) (at' p (k-1))=true):Dsc f p (k+1):=fun i j hij hj=>by
 by_cases e:j=k
 · subst e
   by_cases e2:i=j-1
   · rw [e2];exact z
   · exact o.tr _ _ _ (h.lt hk) (h.lt (by omega)) (h.lt (by omega)) z (a i (j-1) (by omega) (by omega))
 · exact a i j hij (by omega)
theorem Zjk (o:Ord n f) (h:Pm n p) {P:Nat→Prop}:∀ (u k:Nat),1≤k→k+u≤n→Asc f p k→(∀ m,k≤m→m≤k+u→Asc f p m→(m<k+u→f (at' p m) (at' p (m-1))=true)→P m)→kok n f P (kas_asc p u k)
 | 0,k,k1,hu,a,q=>q k (n14_ _) (n14_ _) a (by omega)
 | u+1,k,k1,hu,a,q=>by
   refine ⟨h.lt (by omega),h.lt (by omega),?_⟩;cases c:f (p.getD k 0) (p.getD (k-1) 0) with
   | true=>dsimp only;rw [if_pos rfl];exact q k (n14_ _) (by omega) a fun _=>c
   | false =>
     dsimp only;rw [if_neg (by simp)];exact Zjk o h u (k+1) (by omega) (by omega) (Zph o h k1 (by omega) a (o.flip h (by omega) (by omega) (by omega) c)) fun m m1 m2 am z=>q m (by omega) (by omega) am fun hm=>z (by omega)
theorem Zk0 (o:Ord n f) (h:Pm n p) {P:Array Nat×Nat×Nat→Prop}:∀ (u k:Nat),1≤k→k+u≤n→Dsc f p k→(∀ m,k≤m→m≤k+u→Dsc f p m→P (p,m,0))→kok n f P (kas_desc u p k 0)
 | 0,k,k1,hu,a,q=>q k (n14_ _) (n14_ _) a
 | u+1,k,k1,hu,a,q=>by
   refine ⟨h.lt (by omega),h.lt (by omega),?_⟩;cases c:f (p.getD k 0) (p.getD (k-1) 0) with
   | true =>
     dsimp only;rw [if_pos rfl,if_neg (by omega)];exact Zk0 o h u (k+1) (by omega) (by omega) (Zkh o h k1 (by omega) a c) fun m m1 m2 am=>q m (by omega) (by omega) am
   | false =>
     dsimp only;rw [if_neg (by simp)];refine ⟨h.lt (by omega),h.lt (by omega),?_⟩;dsimp only;rw [show f (p.getD (k-1) 0) (p.getD k 0)=true from o.flip h (by omega) (by omega) (by omega) c,if_pos rfl];exact q k (n14_ _) (by omega) a
theorem Zrk (hm:m≤p.size) (k:Nat) (hk:k<m):at' (kas_rev p 0 m) k=at' p (m-1-k):=by
 have e:=getElem?_mirror_all (xs:=p) (i:=0) hm k;rw [if_pos ⟨n55_ _,hk⟩] at e;exact Zcz (e.trans (by rw [Nat.zero_add]))
theorem Zl0 (o:Ord n f) (h:Pm n p) (h2:2≤n) {P:Nat×Array Nat→Prop} (q:∀ m p',1≤m→m≤n→Pm n p'→Asc f p' m→P (m,p')):kok n f P (kas_count n p):=by
 unfold kas_count;refine Za3 _ (Zjk o h (n-1) 1 (n14_ _) (by omega) (fun i j _ _=>by omega) fun m m1 m2 am z=>?_)
 by_cases e:m=n
 · rw [if_pos (by simp [e])];exact q m p m1 (by omega) h am
 rw [if_neg (by simp [e])]
 by_cases g:m>1
 · rw [if_pos g];refine ⟨h.lt (by omega),h.lt (by omega),?_⟩;dsimp only;rw [show f (p.getD 0 0) (p.getD (m-1) 0)=true from am 0 (m-1) (by omega) (by omega),if_pos rfl];exact q m p m1 (by omega) h am
 rw [if_neg g];have em:m=1:=by omega
 subst em;unfold kas_descPart;refine Za3 _ (Zk0 o h (n-2) 2 (by omega) (by omega) (Zkh o h (n14_ _) (by omega) (fun i j _ _=>by omega) (z (by omega))) fun m m1 m2 dm=>?_);show kok n f P (if 0>0 then _ else kas_tail3 m n p)
 rw [if_neg (by omega)];unfold kas_tail3;have hs:=h.size;have hr:Pm n (kas_rev p 0 m):=h.perm (mirror_perm _ _ _ _);refine Za3 _ (Zjk o hr (n-m) m (by omega) (by omega) (fun i j hij hj=>?_) fun m' m1' m2' am' _=>q m' _ (by omega) (by omega) hr am');rw [Zrk (by omega) i (by omega),Zrk (by omega) j hj];exact dm (m-1-j) (m-1-i) (by omega) (by omega)
theorem Zdi (o:Ord n f) (h:Pm n p) (hk:k<n) (a:Asc f p k) {P:Nat→Prop} (q:∀ l,l≤k→(∀ i,i<l→f (at' p i) (at' p k)=true)→(∀ i,l≤i→i<k→f (at' p k) (at' p i)=true)→P l) :
 ∀ (u l r:Nat),l≤r→r≤k→r-l≤u→(∀ i,i<l→f (at' p i) (at' p k)=true)→(∀ i,r≤i→i<k→f (at' p k) (at' p i)=true)→kok n f P (kas_place p k u l r)
 | 0,l,r,lr,rk,hu,b1,b2=>q l (by omega) b1 fun i h1 h2=>b2 i (by omega) h2
 | u+1,l,r,lr,rk,hu,b1,b2=>by
   unfold kas_place
   by_cases g:l ≥ r
   · rw [if_pos g];exact q l (by omega) b1 fun i h1 h2=>b2 i (by omega) h2
   rw [if_neg g];refine ⟨h.lt hk,h.lt (by omega),?_⟩;cases c:f (p.getD k 0) (p.getD ((l+r)/2) 0) with
   | true =>
     dsimp only;rw [if_pos rfl];refine Zdi o h hk a q u l ((l+r)/2) (by omega) (by omega) (by omega) b1 fun i h1 h2=>?_
     by_cases e:i=(l+r)/2
     · rw [e];exact c
     · exact o.tr _ _ _ (h.lt hk) (h.lt (show (l+r)/2<n by omega)) (h.lt (by omega)) c (a _ i (by omega) h2)
   | false =>
     dsimp only;rw [if_neg (by simp)];have c':=o.flip h hk (show (l+r)/2<n by omega) (by omega) c;refine Zdi o h hk a q u ((l+r)/2+1) r (by omega) rk (by omega) (fun i h1=>?_) b2
     by_cases e:i=(l+r)/2
     · rw [e];exact c'
     · exact o.tr _ _ _ (h.lt (by omega)) (h.lt (show (l+r)/2<n by omega)) (h.lt hk) (a i _ (by omega) (by omega)) c'
theorem Zrf {d:Nat} (hk:k<p.size) (hd:d≤k) (j:Nat):at' (bubble p k d) j=if j=k-d then at' p k else if k-d<j∧j≤k then at' p (j-1) else at' p j:=by
 have e:=getElem?_bubble hk d hd j
 by_cases h1:j=k-d
 · rw [if_pos h1] at e ⊢;exact Zcz e
 · rw [if_neg h1] at e ⊢
   by_cases h2:k-d<j∧j≤k
   · rw [if_pos h2] at e ⊢;exact Zcz e
   · rw [if_neg h2] at e ⊢;exact Zcz e
theorem Znj (o:Ord n f) {P:Array Nat→Prop} (q:∀ p,Pm n p→Asc f p n→P p):∀ (u:Nat) (p:Array Nat) (k:Nat),k+u=n→Pm n p→Asc f p k→kok n f P (kas_bin u p k)
 | 0,p,k,e,h,a=>q p h (by rw [← e];exact a)
 | u+1,p,k,e,h,a=>by
   have hk:k<n:=by omega
   have hs:=h.size;unfold kas_bin;refine Za3 _ (Zdi o h hk a (fun l lk b1 b2=>?_) k 0 k (n55_ _) (n14_ _) (by omega) (fun i hi=>by omega) (fun i h1 h2=>by omega));refine Znj o q u _ (k+1) (by omega) (h.perm (bubble_perm _ _ _)) fun i j hij hj=>?_;rw [Zrf (by omega) (by omega) i,Zrf (by omega) (by omega) j];have el:k-(k-l)=l:=by omega
   rw [el]
   by_cases i1:i=l
   · rw [if_pos i1,if_neg (by omega),if_pos (by omega)];exact b2 (j-1) (by omega) (by omega)
   rw [if_neg i1]
   by_cases i2:l<i∧i≤k
   · rw [if_pos i2,if_neg (by omega),if_pos (by omega)];exact a (i-1) (j-1) (by omega) (by omega)
   rw [if_neg i2]
   by_cases j1:j=l
   · rw [if_pos j1];exact b1 i (by omega)
   rw [if_neg j1]
   by_cases j2:l<j∧j≤k
   · rw [if_pos j2]
     by_cases e3:i=j-1
     · omega
     · exact a i (j-1) (by omega) (by omega)
   · rw [if_neg j2];exact a i j hij (by omega)
theorem Zgl (o:Ord n f) (h2:2≤n):kin n f (kas_sort n)=true∧(krun f (kas_sort n)).toList.Perm (List.range n)∧(krun f (kas_sort n)).toList.Pairwise (fun i j=>f i j=true):=by
 have fin:∀ p:Array Nat,Pm n p→Asc f p n→p.toList.Perm (List.range n)∧p.toList.Pairwise (fun i j=>f i j=true):=fun p h a=>by
  refine ⟨h,n63_.mpr fun i j hi hj hij=>?_⟩;have hs:=h.size;have hj':j<p.size:=by simpa using hj
  have:=a i j hij (by omega)
  simp only [at',Array.getD_eq_getD_getElem?] at this;rw [Array.getElem?_eq_getElem (show i<p.size by omega),Array.getElem?_eq_getElem hj'] at this
  simpa using this
 refine Zm0 (P:=fun p:Array Nat=>p.toList.Perm (List.range n)∧p.toList.Pairwise (fun i j=>f i j=true)) (kas_sort n) ?_;unfold kas_sort;have h0:Pm n (List.toArray (List.range n)):=by unfold Pm;simp
 refine Za3 _ (Zl0 o h0 h2 fun m p' m1 m2 h a=>?_)
 by_cases g:m<n
 · rw [if_pos g];refine Znj o fin _ p' _ (by simp only [];omega) h ?_;rw [show max (m,p').1 1=m by simp only [];omega];exact a
 · rw [if_neg g]
   have:m=n:=by omega
   subst this;exact fin p' h a
end
end L2
namespace L2
open PySem PySem.Spec PyProof.Rows PySem.W
variable {b l:Addr} {h:Heap} {ns:List Int}
section
variable {prog:Program} {w:World} {A:Around} {E:Value→Shared→Prop} {s:Shared}
theorem Zm7 {its its2:Array Value} {ms:List Int} (hl:IsTup s.heap l its) (hb:IsTup s.heap b its2) (hi:IntsAre its.toList ns) (hj:IntsAre its2.toList ms) (hu:A.units<cLine):SeqAt.EqAt A s (.ref l) (.ref b) (decide (ns=ms)):=by
 by_cases e:l=b
 · subst e;obtain ⟨o,e1,_,n,d⟩:=hl;obtain ⟨o2,e2,_,n2,d2⟩:=hb;rw [e1] at e2;cases e2
   rw [d] at d2;cases d2
   rw [n29_ (hi.nums.symm.trans hj.nums)];exact SeqAt.EqAt.same _
 · have a1:=IntsAre.length hi;have a2:=IntsAre.length hj;rw [Array.length_toList] at a1 a2;have h:=SeqAt.RcAt.tuples (A:=A) (s:=s) (e:=fun j=>decide (ns.getD j default=ms.getD j default)) hl hb hu fun j z1 z2=>?_
   · rw [a1,a2,Zik] at h;exact SeqAt.EqAt.of_refs e h
   · have key:∀ {vs:List Value} {ns:List Int},IntsAre vs ns→∀ j (h:j<vs.length),∃ t,vs[j]=.int (ns.getD j default) t:=by
      intro vs ns h
      induction h with
      | nil=>intro j h;simp at h
      | cons n t r ih =>
        intro j h;cases j with
        | zero=>exact ⟨t,rfl⟩
        | succ j=>obtain ⟨t',e⟩:=ih j (by simpa using h);exact ⟨t',by simpa using e⟩
     obtain ⟨t1,e1⟩:=key hi j (by simpa using z1);obtain ⟨t2,e2⟩:=key hj j (by simpa using z2);rw [Array.getElem_toList] at e1 e2;rw [e1,e2,show decide (ns.getD j default=ms.getD j default)=(ns.getD j default == ms.getD j default) by rw [n79_];simp];exact SeqAt.EqAt.int_int _ _ _ _
end
section
variable {X:Cx}
theorem Zer:∀ {vs:List Value},(∀ v∈vs,∃ b o its n c o2,v=Value.ref b∧h.get? b=some o∧o.cls=.type "tuple" ∧ o.data=.seq its n∧its[0]? = some (.ref c)∧h.get? c=some o2∧o2.cls=.type "tuple")→∃ fs:List Value,KatTups h vs fs∧fs.length=vs.length∧∀ v∈fs,∃ c o2,v=Value.ref c∧h.get? c=some o2∧o2.cls=.type "tuple"
 | [],_=>⟨[],.nil,rfl,fun v hv=>by simp at hv⟩
 | v :: vs,hh=>by
   obtain ⟨fs,h1,h2,h3⟩:=Zer (vs:=vs) fun u hu=>hh u (n19_ _ hu);obtain ⟨b,o,its,n,c,o2,rfl,g,cl,d,e,g2,c2⟩:=hh v (by simp);refine ⟨_ :: fs,.cons g cl d e h1,by rw [n26_,n26_,h2],fun u hu=>?_⟩
   rcases n12_.mp hu with rfl|hu
   · exact ⟨_,_,rfl,g2,c2⟩
   · exact h3 u hu
end
end L2
namespace PySem
section
variable {prog:Program} {w:World} {A:Around} {E:Value→Shared→Prop} {s:Shared} {it d:Addr} {i ep:Nat} {es:Array DictEntry}
theorem Zpv {x:DictEntry} {Q:Option Value→Shared→Prop} (hit:s.heap.IsKeyIter it d i es.size ep) (hm:EntAt s.heap d es ep) (hx:es[i]? = some x)
 (hQ:∀ h',h'.IsKeyIter it d (i+1) es.size ep→Heap.SameBut it s.heap h'→Q (some x.key) { s with heap:=h' }):wpAny (model prog w) A (pyNext (.ref it)) Q E s:=by
 obtain ⟨o,ho,hc,hd⟩:=id hit;obtain ⟨od,e0,q0⟩:=hm;obtain ⟨li,rfl⟩:=Array.getElem?_eq_some_iff.mp hx;unfold pyNext;refine n0_ <| wpAny_attempt <| wpAny_callSpecial?_slot (name:=Str.ofString "__next__") hit.typeIs F.slot_dict_keyiterator_next <| wpAny_call_entry F.slot_dict_keyiterator_next hit.typeIs F.entry_dict_keyiterator_next ?_ (F.args_dict_keyiterator_next_1 _);refine n0_ <| n4_ <| n0_ <| n0_ <| n0_ <| wpAny_typeNameOfWhole_keyiter hit.typeIs <| n4_ <| n0_ <| wpAny_fieldsOf ho hd ?_;have own:Builtin.Dict_items.ownsTuple "dict_keyiterator" = false:=by decide
 simp only [own,n15_,if_false];show wpAny _ _ (if (Value.ref d == Value.none)=true then _ else _) _ _ _
 rw [if_neg (by intro z;cases z)];refine n0_ <| n4_ <| n0_ <| wpAny_dictEntries e0 q0 ?_;rw [if_neg (by simp)];refine n0_ <| n4_ <| n0_ <| wpAny_dictEpoch e0 q0 ?_;rw [if_neg (by simp)];refine n4_ ?_;have nn:¬ ((i:Int)<0):=by omega
 simp only [nn,if_false,n62_,hx];refine n0_ <| n0_ <| wpAny_typeNameOfWhole_keyiter hit.typeIs <| n4_ <| n0_ <| wpAny_isOneOf_keyiter hit.typeIs ?_;show wpAny _ _ (setField (.ref it) 1 (rawInt ((i:Int)+1)) >>= _) _ _ s
 refine n0_ (wpAny_setField ho hd (by simp) ?_)
 have hit':(s.heap.update it (Obj.mapFields (·.setIfInBounds 1 (rawInt ((i:Int)+1))))).IsKeyIter it d (i+1) es.size ep :=
  ⟨_,n40_ _ ho (Obj.isFreed_of_fields (Obj.data_mapFields hd _)),(Obj.cls_mapFields ..).trans hc,by rw [Obj.data_mapFields hd];simp [rawInt]⟩
 refine n0_ (n30_ ?_);refine n0_ (wpAny_isOneOf_keyiter (s:={ s with heap:=s.heap.update it (Obj.mapFields (·.setIfInBounds 1 (rawInt ((i:Int)+1)))) }) hit'.typeIs ?_);show wpAny _ _ (pure es[i].key) _ _ _
 exact n4_ (n4_ ⟨_,rfl,n4_ (hQ _ hit' (Heap.SameBut.update ..))⟩)
theorem Zr8 {Q:Option Value→Shared→Prop} (hh:A.handled=none) (hit:s.heap.IsKeyIter it d i es.size ep) (hm:EntAt s.heap d es ep) (hx:es[i]? = none)
 (hQ:∀ h',Heap.ExtBut it s.heap h'→Q none { s with heap:=h' }):wpAny (model prog w) A (pyNext (.ref it)) Q E s:=by
 obtain ⟨o,ho,hc,hd⟩:=id hit;obtain ⟨od,e0,q0⟩:=hm;unfold pyNext;refine n0_ <| wpAny_attempt <| wpAny_callSpecial?_slot (name:=Str.ofString "__next__") hit.typeIs F.slot_dict_keyiterator_next <| wpAny_call_entry F.slot_dict_keyiterator_next hit.typeIs F.entry_dict_keyiterator_next ?_ (F.args_dict_keyiterator_next_1 _);refine n0_ <| n4_ <| n0_ <| n0_ <| n0_ <| wpAny_typeNameOfWhole_keyiter hit.typeIs <| n4_ <| n0_ <| wpAny_fieldsOf ho hd ?_;have own:Builtin.Dict_items.ownsTuple "dict_keyiterator" = false:=by decide
 simp only [own,n15_,if_false];show wpAny _ _ (if (Value.ref d == Value.none)=true then _ else _) _ _ _
 rw [if_neg (by intro z;cases z)];refine n0_ <| n4_ <| n0_ <| wpAny_dictEntries e0 q0 ?_;rw [if_neg (by simp)];refine n0_ <| n4_ <| n0_ <| wpAny_dictEpoch e0 q0 ?_;rw [if_neg (by simp)];refine n4_ ?_;have nn:¬ ((i:Int)<0):=by omega
 simp only [nn,if_false,n62_,hx];refine n0_ <| n0_ <| wpAny_typeNameOfWhole_keyiter hit.typeIs <| n4_ ?_;show wpAny _ _ (setField (.ref it) 0 .none >>= _) _ _ s
 refine n0_ (wpAny_setField ho hd (by simp) ?_);show wpAny _ _ (newExc (.type "StopIteration") [] >>= _) _ _ _
 refine n0_ ?_;simp only [newExc,newTuple];refine n0_ (wpAny_newObj_type ?_ (by size_fits));refine n0_ (m:=firstArgMember _ _) (wpAny_of_eq (a:=Value.none) (by first|rfl|(simp only [firstArgMember];rfl)) ?_);refine wpAny_newObj_type ?_ (by size_fits);simp only [raiseNew];refine n0_ (wpAny_handled ?_);rw [show A.in1.handled=none from hh];refine n0_ (n4_ (wpAny_throw ?_));refine n0_ (wpAny_isInstance (T := "StopIteration") (b:=true) ⟨_,n8_ _ rfl,rfl⟩ isSubtype_stop ?_);exact n4_ (hQ _ (((Heap.SameBut.update ..).extBut.push _).push _))
theorem Zk1 {Q:Value→Shared→Prop} (hT:s.TypeIs (.ref d) "dict") (hd:(d == sysModules)=false) (hm:EntAt s.heap d es ep)
 (hQ:Q (.ref s.z) { s with heap:=s.heap.push { cls:=.type "dict_keyiterator",data:=.fields #[.ref d,.int 0 0,.int es.size 0,.int ep 0] } }):wpAny (model prog w) A (pyIter (.ref d)) Q E s:=by
 obtain ⟨o,ho,hdat⟩:=hm;refine wpAny_pyIter_slot hT F.slot_dict_iter (wpAny_call_entry F.slot_dict_iter hT F.entry_dict_iter ?_ (F.args_dict_iter_1 _));unfold Builtin.«dict.__iter__»;refine n0_ ?_;unfold Builtin.Dict.dictSlotNone;refine n0_ (wpAny_notOrdered_dict hT ?_);show wpAny _ _ (pure (Value.ref d)) _ _ s
 refine n4_ ?_;show wpAny _ _ (Builtin.Dict.showsAll d >>= _) _ _ s
 unfold Builtin.Dict.showsAll;rw [if_neg (by rw [hd];exact n21_)];refine n0_ (n4_ ?_);refine n0_ (wpAny_dictEntries ho hdat (n0_ (wpAny_dictEpoch ho hdat ?_)));refine n0_ (wpAny_newObj_type (n4_ ⟨_,rfl,"dict_keyiterator",_,⟨_,n8_ _ rfl,rfl⟩,F.slot_dict_keyiterator_next.lookup,?_⟩))
 simpa [rawInt] using hQ
end
end PySem
namespace L2
open PySem PySem.Spec PyProof.Rows
section
variable {X:Cx} {tg:Expr}
end
end L2
namespace L2
open PySem PySem.Spec PyProof.Rows PySem.W
section
variable {X:Cx}
end
def srtI (ns:List Int):List Int:=ns.mergeSort (fun a b=>decide (a≤b))
theorem Yh (ns:List Int):(srtI ns).Perm ns:=List.mergeSort_perm _ _
theorem Ze9 (ns:List Int):(srtI ns).Pairwise (·≤·):=by
 have:=List.pairwise_mergeSort (le:=fun a b:Int=>decide (a≤b)) (fun a b c h1 h2=>n29_ (Int.le_trans (n51_ h1) (n51_ h2))) (fun a b=>by
  rcases Int.le_total a b with h|h
  · rw [n29_ h];rfl
  · rw [n29_ h];simp) ns
 exact this.imp fun h=>n51_ h
variable {α:Type} {ns:List Int} {m:Nat}
theorem Zay {ms:List Int} (h:ms.Perm ns) (p:ms.Pairwise (·≤·)):ms=srtI ns:=lks_uniq (h.trans (Yh ns).symm) p (Ze9 ns)
theorem Zul {a b:List Int} (h:HT.lexLt a b=true):a≠b:=fun z=>by rw [z,Xy] at h;cases h
theorem Zjq {ks:List (List Int)} (hm:∀ k∈ks,k.length=m) (h:∀ i:Nat,i+1<ks.length→HT.lexLt (ks.getD i []) (ks.getD (i+1) [])=true):∀ (d i:Nat),i+d+1<ks.length→HT.lexLt (ks.getD i []) (ks.getD (i+d+1) [])=true
 | 0,i,hi=>h i hi
 | d+1,i,hi=>by
   have l:∀ j,j<ks.length→(ks.getD j []).length=m:=fun j hj=>by
    have:ks.getD j []=ks[j]:=by simp [n2_,hj]
    rw [this];exact hm _ (n37_ hj)
   exact Zrj _ _ _ (by rw [l i (by omega),l (i+d+1) (by omega)]) (by rw [l (i+d+1) (by omega),l (i+(d+1)+1) hi]) (Zjq hm h d i (by omega)) (h (i+d+1) (by omega))
theorem PlOk.pnd {P:Pl} (ok:PlOk P):P.ps.Nodup:=by
 rw [n20_,n63_];intro i j hi hj hij
 have:=Zjq (m:=3) (fun k hk=>(ok.pc k hk).len) ok.rise (j-i-1) i (by omega)
 rw [show i+(j-i-1)+1=j by omega] at this;have e:∀ n (h:n<P.ps.length),P.ps.getD n []=P.ps[n]:=fun n h=>by simp [n2_,h]
 rw [e i hi,e j hj] at this;exact Zul this
theorem Zdq [DecidableEq α]:∀ (xs ys:List α),xs.Nodup→(∀ x∈xs,x∈ys)→ys.length≤xs.length→xs.Perm ys
 | [],ys,_,_,hl=>by
   have:ys=[]:=List.length_eq_zero_iff.mp (by simpa using hl)
   subst this;exact .nil
 | x :: xs,ys,nd,sub,hl=>by
   have hx:x∈ys:=sub x (by simp);have p:=List.perm_cons_erase hx
   have hl':(ys.erase x).length≤xs.length:=by
    have:=p.length_eq
    simp only [n26_] at this hl;omega
   refine (List.Perm.cons x (Zdq xs (ys.erase x) (List.nodup_cons.mp nd).2 (fun y hy=>?_) hl')).trans p.symm;have ne:y≠x:=fun z=>(List.nodup_cons.mp nd).1 (z ▸ hy);exact (List.mem_erase_of_ne ne).mpr (sub y (n19_ _ hy))
end L2
namespace L2
open PySem PySem.Spec PyProof.Rows PySem.W
variable {k:Nat}
section
variable {X:Cx} {pins:List (Addr×Obj)} {σ:St} {H:Hp} {s:Shared}
end
section
variable {X:Cx}
end
variable {X:Cx} {e:Expr}
theorem Zrr (K:PySem.W.Frag) (hK:X.K=K) {o:Expr} {es:List Expr} {to:TE} {t:TA} {name:Str} {apos cpos:Pos} {T:String} {r:V→List V→Hp→VK→Prop} (h:PE X (.Call (.Attribute o name apos) (e :: es) [] cpos) (tBM X.K T r to t)):PE X (.Call (.Attribute o name apos) (e :: es) [] cpos) (tBM K T r to t):=hK ▸ h
section
variable {N:Addr→Prop} {H:Hp}
end
end L2
namespace L2
open PySem PySem.Spec PyProof.Rows PySem.W
variable {N:List Str}
theorem fsc {P:List Str} {sc:Scope} (h:sc.kind=.function∧sc.isCoroutine=false∧sc.isGenerator=false∧N.Nodup∧N.take P.length=P∧(∀ x∈P,sc.names.lookup x=some .local∨sc.names.lookup x=some .cell)∧∀ y∈sc.names,y.2≠.free):FnScope N P sc:=let ⟨a,b,c,d,e,f,g⟩:=h;⟨a,b,c,d,e,f,g⟩
end L2
namespace STb
open PySem
structure TW (bt:Bool) (t:SetTable):Prop where
 led:t.led = !bt
 ris:t.place.toList.Pairwise (·<·)
 dum:t.dummies=#[]
theorem Zep {l:List Nat} (h:l.Pairwise (·<·)) {i j x y:Nat} (hi:l[i]? = some x) (hj:l[j]? = some y) (hij:i<j):x<y:=by
 obtain ⟨h1,rfl⟩:=n9_.mp hi;obtain ⟨h2,rfl⟩:=n9_.mp hj;exact n63_.mp h i j h1 h2 hij
theorem Zf9 {xs:Array Nat} {j:Nat} (hp:xs.toList.Pairwise (·<·)):∀ (fuel lo hi:Nat),hi-lo≤fuel→lo≤hi→hi≤xs.size→(∀ (i x:Nat),i<lo→xs.toList[i]? = some x→x<j)→(∀ (i x:Nat),hi≤i→xs.toList[i]? = some x→j≤x) →
 (∀ (i x:Nat),i<SetTable.below.go xs j fuel lo hi→xs.toList[i]? = some x→x<j)∧(∀ (i x:Nat),SetTable.below.go xs j fuel lo hi≤i→xs.toList[i]? = some x→j≤x)∧SetTable.below.go xs j fuel lo hi≤xs.size
 | 0,lo,hi,hf,hl,hz,h1,h2=>by
   have:hi=lo:=by omega
   subst this;exact ⟨h1,h2,hz⟩
 | fuel+1,lo,hi,hf,hl,hz,h1,h2=>by
   unfold SetTable.below.go
   by_cases c:lo<hi
   · rw [if_pos c];have m1:(lo+hi)/2<hi:=by omega
     have m2:lo≤(lo+hi)/2:=by omega
     generalize (lo+hi)/2=mid at m1 m2;have hm:mid<xs.size:=by omega
     have em:xs.toList[mid]? = some xs[mid]:=by rw [Array.getElem?_toList];exact Array.getElem?_eq_getElem hm
     have eg:xs.getD mid j=xs[mid]:=by simp [Array.getD,hm]
     dsimp only;rw [eg]
     by_cases c2:xs[mid]<j
     · rw [if_pos c2];refine Zf9 hp fuel (mid+1) hi (by omega) (by omega) hz (fun i x hi' e=>?_) h2
       by_cases ci:i=mid
       · subst ci;rw [em] at e;cases e;exact c2
       · have:=Zep hp e em (by omega);omega
     · rw [if_neg c2];refine Zf9 hp fuel lo mid (by omega) m2 (by omega) h1 (fun i x hi' e=>?_)
       by_cases ci:i=mid
       · subst ci;rw [em] at e;cases e;omega
       · have:=Zep hp em e (by omega);omega
   · rw [if_neg c]
     have:hi=lo:=by omega
     subst this;exact ⟨h1,h2,hz⟩
theorem X4 {xs:Array Nat} (j:Nat) (hp:xs.toList.Pairwise (·<·)):(∀ (i x:Nat),i<SetTable.below xs j→xs.toList[i]? = some x→x<j)∧(∀ (i x:Nat),SetTable.below xs j≤i→xs.toList[i]? = some x→j≤x)∧SetTable.below xs j≤xs.size :=
 Zf9 hp xs.size 0 xs.size (by omega) (by omega) (n14_ _) (fun i x h=>absurd h (by omega)) (fun i x h e=>by
  have:=(n9_.mp e).1
  rw [Array.length_toList] at this;omega)
theorem below_next {xs:Array Nat} (hp:xs.toList.Pairwise (·<·)) {k x:Nat} (e:xs.toList[k]? = some x):SetTable.below xs (x+1)=k+1:=by
 obtain ⟨h1,h2,h3⟩:=X4 (x+1) hp;have lk:=(n9_.mp e).1;rw [Array.length_toList] at lk
 by_cases c:SetTable.below xs (x+1)≤k
 · have:=h2 k x c e;omega
 · by_cases c2:k+1<SetTable.below xs (x+1)
   · have lt:k+1<xs.toList.length:=by rw [Array.length_toList];omega
     have e2:xs.toList[k+1]? = some xs.toList[k+1]:=n1_ lt;have a:=h1 (k+1) _ c2 e2;have b:=Zep hp e e2 (by omega);omega
   · omega
theorem below_zero {xs:Array Nat} (hp:xs.toList.Pairwise (·<·)):SetTable.below xs 0=0:=by
 obtain ⟨h1,h2,h3⟩:=X4 0 hp
 by_cases c:SetTable.below xs 0=0
 · exact c
 · have lt:0<xs.toList.length:=by rw [Array.length_toList];omega
   have:=h1 0 _ (by omega) (n1_ lt)
   omega
theorem Zgx {t:SetTable} {j:Nat} (hp:t.place.toList.Pairwise (·<·)) (h:t.slot j=.empty):j∉t.place.toList:=fun hm=>by
 obtain ⟨i,hi,e⟩:=n50_ hm;have e':t.place.toList[i]? = some j:=by rw [n1_ hi,e]
 obtain ⟨h1,h2,h3⟩:=X4 j hp
 have c1:SetTable.below t.place j≤i:=by
  by_cases c:i<SetTable.below t.place j
  · have:=h1 i j c e';omega
  · omega
 have c2:SetTable.below t.place j=i:=by
  by_cases c:SetTable.below t.place j=i
  · exact c
  · have lt:SetTable.below t.place j<t.place.toList.length:=by omega
    have e2:=n1_ lt;have a:=h2 _ _ (n14_ _) e2;have b:=Zep hp e2 e' (by omega);omega
 have:t.place[SetTable.below t.place j]? = some j:=by rw [c2,← Array.getElem?_toList];exact e'
 unfold SetTable.slot at h;simp only [this,beq_self_eq_true,if_true] at h;cases h
theorem insertAt_list {α:Type} (xs:Array α) (p:Nat) (x:α):(SetTable.insertAt xs p x).toList=xs.toList.take p++x :: xs.toList.drop p:=by
 unfold SetTable.insertAt;simp [Array.toList_extract,List.extract_eq_take_drop];exact n72_ (by simp)
theorem TW.put {bt:Bool} {t:SetTable} {j:Nat} (w:TW bt t) (h:t.slot j=.empty):TW bt (t.put j).1:=by
 obtain ⟨h1,h2,h3⟩:=X4 j w.ris;have nj:=Zgx w.ris h;refine ⟨w.led,?_,?_⟩
 · show (SetTable.insertAt t.place (SetTable.below t.place j) j).toList.Pairwise (·<·)
   rw [insertAt_list,List.pairwise_append];refine ⟨w.ris.sublist (List.take_sublist ..),List.pairwise_cons.mpr ⟨fun y hy=>?_,w.ris.sublist (List.drop_sublist ..)⟩,fun a ha b hb=>?_⟩
   · obtain ⟨i,hi,e⟩:=n50_ hy;rw [List.getElem_drop] at e;have e':t.place.toList[SetTable.below t.place j+i]? = some y:=by rw [← e];exact n1_ _
     have:=h2 _ _ (Nat.le_add_right _ _) e'
     have:y≠j:=fun z=>nj (z ▸ n7_ e')
     omega
   · obtain ⟨i,hi,e⟩:=n50_ ha;rw [n65_] at hi;rw [List.getElem_take] at e;have e':t.place.toList[i]? = some a:=by rw [← e];exact n1_ _
     have aj:=h1 i a (by omega) e'
     rcases n12_.mp hb with rfl|hb
     · exact aj
     · obtain ⟨i2,hi2,e2⟩:=n50_ hb;rw [List.getElem_drop] at e2;have e2':t.place.toList[SetTable.below t.place j+i2]? = some b:=by rw [← e2];exact n1_ _
       have:=h2 _ _ (Nat.le_add_right _ _) e2'
       omega
 · have h2:SetTable.has t.dummies j=false:=by
    rw [w.dum];unfold SetTable.has;simp
   show (if SetTable.has t.dummies j=true then _ else t.dummies)=#[]
   rw [h2];exact w.dum
theorem TW.laid {bt:Bool} {mask finger moves:Nat} {led plain:Bool} {hs:Array Int} {t':SetTable} {order:Array Nat} (hl:led = !bt) (e:SetTable.laid mask finger moves led plain hs=some (t',order)):TW bt t':=by
 unfold SetTable.laid at e;cases q:SetTable.layClean mask hs with
 | none=>rw [q] at e;cases e
 | some owner =>
   rw [q] at e;have e:=Option.some.inj e;have e1:=(Prod.mk.inj e).1;rw [← e1];refine ⟨hl,?_,rfl⟩;show (List.map (·.1) (List.filterMap (fun j=>(owner.getD j none).map (j,·)) (List.range (mask+1)))).Pairwise (·<·)
   rw [List.map_filterMap];refine List.Pairwise.filterMap _ (fun a b hab x hx y hy=>?_) List.pairwise_lt_range
   have ex:x=a:=by
    cases z:owner.getD a none with
    | none=>simp [z] at hx
    | some i=>simp [z] at hx;exact hx.symm
   have ey:y=b:=by
    cases z:owner.getD b none with
    | none=>simp [z] at hy
    | some i=>simp [z] at hy;exact hy.symm
   rw [ex,ey];exact hab
end STb
namespace STb
open PySem
def vals (owner:Array (Option Nat)):List Nat:=owner.toList.filterMap id
theorem Zfh (n:Nat):∀ (l:List (Option Nat)) (j:Nat),l[j]? = some none→((l.set j (some n)).filterMap id).Perm (n :: l.filterMap id)
 | [],j,h=>by simp at h
 | z :: l,0,h=>by
   have:z=none:=by simpa using h
   subst this;exact .refl _
 | none :: l,j+1,h=>Zfh n l j (by simpa using h)
 | some k :: l,j+1,h=>((Zfh n l j (by simpa using h)).cons k).trans (.swap ..)
theorem Zp9 {owner:Array (Option Nat)} {j n:Nat} (h:owner[j]? = some none):(vals (owner.setIfInBounds j (some n))).Perm (n :: vals owner):=by
 unfold vals;rw [Array.toList_setIfInBounds];exact Zfh n _ j (by simpa using h)
theorem Zgs {M:Nat} (hm:masks M):∀ (hs:List Int) (n:Nat) (owner:Array (Option Nat)),Own M n owner→(vals owner).Perm (List.range n)→n+hs.length<M+1→∃ owner',hs.foldl (Y4 M) (some (owner,n))=some (owner',n+hs.length)∧Own M (n+hs.length) owner'∧(vals owner').Perm (List.range (n+hs.length))
 | [],n,owner,o,p,_=>⟨owner,rfl,o,p⟩
 | h :: hs,n,owner,o,p,hl=>by
   rw [n26_] at hl;obtain ⟨j,r1,r2⟩:=o.free hm (by omega) h
   have e:Y4 M (some (owner,n)) h=some (owner.setIfInBounds j (some n),n+1):=by
    unfold Y4;show (SetTable.layClean.free M owner (SetTable.turns M) (SetTable.bits h % (M+1)) (SetTable.bits h)).bind _=_
    rw [r1];rfl
   have p2:(vals (owner.setIfInBounds j (some n))).Perm (List.range (n+1)):=by
    rw [List.range_succ];exact (Zp9 r2).trans ((p.cons n).trans (List.perm_append_singleton n _).symm)
   obtain ⟨owner',e2,o2,p3⟩:=Zgs hm hs (n+1) _ (o.put r2) p2 (by omega);refine ⟨owner',?_,?_,?_⟩
   · rw [n67_,e,e2,n26_];congr 2;omega
   · rw [n26_,show n+(hs.length+1)=n+1+hs.length by omega];exact o2
   · rw [n26_,show n+(hs.length+1)=n+1+hs.length by omega];exact p3
theorem Zgf {M:Nat} (hm:masks M) (hs:Array Int) (hl:hs.size<M+1):∃ owner,SetTable.layClean M hs=some owner∧Own M hs.size owner∧(vals owner).Perm (List.range hs.size):=by
 obtain ⟨owner,e,o,p⟩:=Zgs hm hs.toList 0 _ (own0 M) (by
  unfold vals;rw [Array.toList_replicate,List.filterMap_eq_nil_iff.mpr fun x hx=>by rw [List.eq_of_mem_replicate hx];rfl];exact .refl _) (by simpa using hl)
 refine ⟨owner,?_,by simpa using o,by simpa using p⟩;unfold SetTable.layClean;rw [← Array.foldl_toList]
 have:(hs.toList.foldl (Y4 M) (some (Array.replicate (M+1) none,0)))=some (owner,0+hs.toList.length):=e
 show (List.foldl (Y4 M) (some (Array.replicate (M+1) none,0)) hs.toList).map (·.1)=some owner
 rw [this];rfl
theorem Znk {M n:Nat} {owner:Array (Option Nat)} (o:Own M n owner):(List.map (·.2) ((List.range (M+1)).filterMap fun j=>(owner.getD j none).map (j,·)))=vals owner:=by
 have e2:owner.toList=(List.range owner.size).map (fun j=>owner.getD j none):=by
  refine n46_ (by simp) fun i h1 h2=>?_;have hi:i<owner.size:=by simpa using h1
  simp [Array.getD,hi]
 unfold vals;rw [e2,o.size,List.filterMap_map,List.map_filterMap];refine congrArg (fun f=>List.filterMap f (List.range (M+1))) (funext fun j=>?_);show Option.map (·.2) ((owner.getD j none).map (j,·))=owner.getD j none
 cases owner.getD j none<;>rfl
theorem relaid_perm {t:SetTable} {hs:Array Int} {wanted M:Nat} (hM:SetTable.sizeAbove wanted-1=M) (hm:masks M) (hl:hs.size<M+1):∃ (t':SetTable) (order:Array Nat),t.relaid hs wanted=some (t',order)∧t'.mask=M∧t'.dummies=#[]∧t'.place.size=hs.size∧t'.plain=t.plain∧order.toList.Perm (List.range hs.size):=by
 obtain ⟨owner,e,o,p⟩:=Zgf hm hs hl;unfold SetTable.relaid SetTable.laid;rw [hM,e];refine ⟨_,_,rfl,rfl,rfl,?_,rfl,?_⟩
 · simp only [n13_,n5_];exact Zpp o
 · show (List.map (·.2) ((List.range (M+1)).filterMap fun j=>(owner.getD j none).map (j,·))).Perm _
   rw [Znk o];exact p
structure TP (bt:Bool) (n:Nat) (t:SetTable):Prop where
 tw:TW bt t
 pl:t.plain=true
 msk:masks t.mask
 sz:t.place.size=n
 few:n*5<t.mask*3
theorem fits_of {t:SetTable} {n:Nat} (sz:t.place.size=n) (dum:t.dummies=#[]) (h:n≤t.mask):t.fits n=true:=by
 unfold SetTable.fits SetTable.fill;rw [dum,sz]
 simp
 exact h
theorem TP.fits {bt:Bool} {n:Nat} {t:SetTable} (w:TP bt n t):t.fits n=true:=fits_of w.sz w.tw.dum (by have:=w.few;omega)
theorem TP.fresh (bt:Bool):TP bt 0 (.fresh 0 0 (!bt)):=⟨⟨rfl,.nil,rfl⟩,rfl,.inl rfl,rfl,show 0*5<7*3 by decide⟩
theorem Zef {t:SetTable} {F:Nat→Int} {h:Int} (hF:∀ i,(F i == h)=false) (hd:t.dummies=#[]):∀ (fuel:Nat) (p:SetTable.Probe) {j i:Nat} {q:SetTable.Probe},SetTable.probe.go t F h fuel p≠some (.candidate j i q)
 | 0,p,j,i,q=>by intro e;cases e
 | fuel+1,p,j,i,q=>by
   intro e;unfold SetTable.probe.go at e
   rcases Zb8 (t:=t) (j:=p.j) hd with z|⟨i',z,_⟩
   · rw [z] at e;cases e
   · rw [z] at e;simp only [hF,n15_,if_false] at e;exact Zef hF hd fuel _ e
theorem TP.free {bt:Bool} {n:Nat} {t:SetTable} (w:TP bt n t) (h:Int):∃ j,t.freeSlot h=some (j,false)∧t.slot j=.empty:=by
 have lt:t.place.size<t.mask+1:=by rw [w.sz];have:=w.few;omega
 rcases Zl5 (t:=t) (f:=fun _=>h+1) (h:=h) w.tw.dum (10*(t.mask+13)) (10*SetTable.turns t.mask) (t.probeStart h) rfl (near_start w.msk w.tw.dum lt) (by unfold SetTable.turns;omega) with ⟨j,e,z⟩|⟨j,i,q,e,_⟩
 · refine ⟨j,?_,z⟩;unfold SetTable.freeSlot SetTable.probe;rw [e];rfl
 · exact absurd e (Zef (fun i=>by simp;omega) w.tw.dum _ _)
theorem TP.layNew {bt:Bool} {t:SetTable} {es:Array (Int×Value)} (w:TP bt es.size t) (h:Int) (x:Value):∃ es1 t1,PySem.layNew t es h x=(es1,t1,false,false)∧TW bt t1∧t1.plain=true∧t1.mask=t.mask∧t1.place.size=es.size+1:=by
 obtain ⟨j,e,z⟩:=w.free h;obtain ⟨u1,u2,u3⟩:=L2.Zhn t j;have few:=w.few
 have fit:((t.put j).1).fits (SetTable.insertAt es (t.put j).2 (h,x)).size=true:=by
  rw [insertAt_size];exact fits_of (by rw [u1,w.sz]) (u2 w.tw.dum) (by rw [u3];omega)
 refine ⟨SetTable.insertAt es (t.put j).2 (h,x),(t.put j).1,?_,w.tw.put z,w.pl,u3,by rw [u1,w.sz]⟩;unfold PySem.layNew;rw [e];show (SetTable.insertAt es (t.put j).2 (h,x),SetTable.orStandIn (t.put j).1 (SetTable.insertAt es (t.put j).2 (h,x)).size,false,!((t.put j).1).fits (SetTable.insertAt es (t.put j).2 (h,x)).size)=_
 rw [fit];unfold SetTable.orStandIn;rw [if_pos fit];rfl
theorem relay_TP {bt:Bool} {t:SetTable} {es:Array (Int×Value)} (w:TW bt t) (pl:t.plain=true) (msk:masks t.mask) (sz:t.place.size=es.size) (hn:es.size≤30) (full:es.size*5 ≥ t.mask*3) (h2:(es.size-1)*5<t.mask*3):TP bt es.size (PySem.relayAll t es (SetTable.grown es.size)).2.1:=by
 obtain ⟨g1,g2,g3,_⟩:=L2.Ztn hn msk full h2;have z:(es.map (·.1)).size=es.size:=by simp
 obtain ⟨t',order,e,r1,r2,r3,r4,r5⟩:=relaid_perm (t:=t) (hs:=es.map (·.1)) (wanted:=SetTable.grown es.size) rfl g1 (by rw [z];exact g2);rw [z] at r3 r5;have os:order.size=es.size:=by rw [← Array.length_toList,r5.length_eq,n69_]
 have ok:∀ k∈order.toList,k<es.size:=fun k hk=>n24_.mp (r5.mem_iff.mp hk);have ps:=(pick_size os ok).1
 have cov:coversAll order es.size=true:=by
  unfold coversAll;exact List.isPerm_iff.mpr r5
 have fit:t'.fits (order.filterMap (es[·]?)).size=true:=by
  rw [ps];exact fits_of r3 r2 (by rw [r1];omega)
 unfold PySem.relayAll;rw [e];dsimp only;rw [cov,fit];simp only [Bool.and_self,if_true];refine ⟨?_,by rw [r4,pl],by rw [r1];exact g1,r3,by rw [r1];exact g3⟩;exact TW.laid w.led e
end STb
namespace L2
open PySem PySem.Spec PyProof.Rows
def Yr (w:World):Bool:=w.params.followText "set-order"
structure IsW (bt:Bool) (ks:List Int) (es:Array (Int×Value)) (t:SetTable):Prop where
 el:∀ e∈es.toList,(∃ k,Value.isInt k e.2=true∧e.1=hashInt k)∧e.2.scannable=true
 ns:∃ ns,IntsAre (es.toList.map (·.2)) ns∧ns.Perm ks
 nd:ks.Nodup
 tw:STb.TP bt es.size t
def SetI (bt:Bool) (h:Heap) (a:Addr) (ks:List Int):Prop:=∃ o es ep t,h.get? a=some o∧o.ExactSet∧o.data=.set es ep t∧es.size<scanBound∧IsW bt ks es t
def setI (bt:Bool) (a:Addr) (ks:List Int):HO:=.ext fun h=>SetI bt h a ks
variable {α:Type} {S a:Addr} {es:Array (Int×Value)} {bt:Bool} {h h':Heap} {H:Hp} {ks:List Int} {us:List Value} {ep i n:Nat} {o:Obj} {P:Program} {s:Shared} {Q:Value→Shared→Prop} {w:World}
theorem SetI.stay (h1 h2:Heap) (s:SetI bt h1 a ks) (e:∀ o,h1.get? a=some o→h2.get? a=some o):SetI bt h2 a ks:=let ⟨o,es,ep,t,g,r⟩:=s;⟨o,es,ep,t,e _ g,r⟩
theorem Ztl (s:SetI bt h a ks):ObjOk P w H h a (setI bt a ks):=⟨s,let ⟨o,_,_,_,g,_⟩:=s;⟨o,g⟩,fun h1 h2 x e=>SetI.stay h1 h2 x e⟩
theorem Zta (x:ObjOk P w H h a (setI bt a ks)):SetI bt h a ks:=x.1
theorem Zj8:∀ {vs:List Value} {ns:List Int} {k:Int},IntsAre vs ns→(k∈ns↔∃ v∈vs,Value.isInt k v=true)
 | _,_,k,.nil=>by simp
 | _,_,k,.cons n t r=>by
   rw [n12_,Zj8 r];constructor
   · rintro (rfl|⟨v,hv,e⟩)
     · exact ⟨_,n27_,by simp [Value.isInt]⟩
     · exact ⟨v,n19_ _ hv,e⟩
   · rintro ⟨v,hv,e⟩
     rcases n12_.mp hv with rfl|hv
     · left;exact (show n=k by simpa [Value.isInt] using e).symm
     · exact .inr ⟨v,hv,e⟩
theorem Zj0:∀ {vs us:List Value} {ns ms:List Int},IntsAre vs ns→IntsAre us ms→IntsAre (vs++us) (ns++ms)
 | _,_,_,_,.nil,h=>h
 | _,_,_,_,.cons n t r,h=>.cons n t (Zj0 r h)
theorem Zc0:∀ {vs:List Value} {ns:List Int},IntsAre vs ns→vs.length=ns.length
 | _,_,.nil=>rfl
 | _,_,.cons n t r=>by simp [Zc0 r]
theorem Zdh {vs:List Value} (p:List.Perm us vs):∀ {ns:List Int},IntsAre vs ns→∃ ms,IntsAre us ms∧ms.Perm ns:=by
 induction p with
 | nil=>intro ns h;exact ⟨ns,h,.refl _⟩
 | cons x _ ih=>intro ns h;cases h with|cons n t r=>obtain ⟨ms,a,b⟩:=ih r;exact ⟨n :: ms,.cons n t a,.cons _ b⟩
 | swap x y l=>intro ns h;cases h with|cons n t r=>cases r with|cons m u r=>exact ⟨m :: n :: _,.cons m u (.cons n t r),.swap ..⟩
 | trans p1 p2 ih1 ih2=>intro ns h;obtain ⟨ms,a,b⟩:=ih2 h;obtain ⟨ks,c,d⟩:=ih1 a;exact ⟨ks,c,d.trans b⟩
theorem IsW.len {t:SetTable} (i:IsW bt ks es t):es.size=ks.length:=by
 obtain ⟨ns,a,p⟩:=i.ns
 have:=Zc0 a
 rw [n5_,Array.length_toList] at this;rw [this,p.length_eq]
theorem IsW.mem {t:SetTable} (i:IsW bt ks es t) (k:Int):k∈ks↔∃ e∈es.toList,Value.isInt k e.2=true:=by
 obtain ⟨ns,a,p⟩:=i.ns;rw [← p.mem_iff,Zj8 a];exact ⟨fun ⟨v,hv,e⟩=>let ⟨x,hx,ex⟩:=n18_.mp hv;⟨x,hx,by rw [ex];exact e⟩,fun ⟨x,hx,e⟩=>⟨x.2,n18_.mpr ⟨x,hx,rfl⟩,e⟩⟩
def addI (ks:List Int) (k:Int):List Int:=if k∈ks then ks else ks++[k]
section
variable {P:Program} {w:World} {bt:Bool} {A:Around} {E:Value→Shared→Prop} {s:Shared}
theorem SetI.store {es':Array (Int×Value)} {t t':SetTable} (get:h.get? a=some o) (ex:o.ExactSet) (dat:o.data=.set es ep t) (hb:es'.size<scanBound) (i:IsW bt ks es' t') :
 (h.update a (Obj.putSet es' t')).get? a=some { o with data:=.set es' (ep+1) t' }∧SetI bt (h.update a (Obj.putSet es' t')) a ks:=by
 have hg:(h.update a (Obj.putSet es' t')).get? a=some { o with data:=.set es' (ep+1) t' }:=by
  have:=n40_ (Obj.putSet es' t') get (by rw [putSet_of es' t' dat];rfl)
  rw [putSet_of es' t' dat] at this;exact this
 exact ⟨hg,_,_,_,_,hg,ex,rfl,hb,i⟩
theorem Zpt {g:Bool→Sem Unit} (hg:∀ (b:Bool) (s₁:Shared) (Q':Unit→Shared→Prop),Q' () s₁→wpAny (model P w) A (g b) Q' E s₁)
 {t:SetTable} (ho:s.heap.get? a=some o) (hex:o.ExactSet) (hd:o.data=.set es ep t)
 {es1:Array (Int×Value)} {t2:SetTable} (el:ElemsOf (intKind P w) es1.toList) (ns:∃ ns,IntsAre (es1.toList.map (·.2)) ns∧ns.Perm ks) (nd:ks.Nodup)
 (tw:STb.TW bt t2) (pl:t2.plain=true) (msk:STb.masks t2.mask) (sz:t2.place.size=es1.size) (hn:es1.size≤30) (h2:(es1.size-1)*5<t2.mask*3) {R:Option Bool→Shared→Prop}
 (h:∀ h',Heap.SameBut a s.heap h'→SetI bt h' a ks→R (some true) { s with heap:=h' }) :
 wpAny (model P w) A (do
  storeSet a es1 t2
  if (!false&&t2.tooFull)=true then do
      g (relayAll t2 es1 (SetTable.grown es1.size)).2.2
      storeSet a (relayAll t2 es1 (SetTable.grown es1.size)).1 (relayAll t2 es1 (SetTable.grown es1.size)).2.1
      pure (some true)
   else pure (some true)) R E s:=by
 have hb1:es1.size<scanBound:=Nat.lt_of_le_of_lt hn (by decide)
 have full:t2.tooFull=decide (es1.size*5 ≥ t2.mask*3):=by
  unfold SetTable.tooFull SetTable.fill;rw [tw.dum,sz];rfl
 refine n0_ (wpAny_storeSet_of ho hd ?_ (fits_of_scanBound hb1));have hsb1:=Heap.SameBut.update s.heap a (Obj.putSet es1 t2)
 have ho1:(s.heap.update a (Obj.putSet es1 t2)).get? a=some { o with data:=.set es1 (ep+1) t2 }:=by
  have:=n40_ (Obj.putSet es1 t2) ho (by rw [putSet_of es1 t2 hd];rfl)
  rw [putSet_of es1 t2 hd] at this;exact this
 by_cases hf:es1.size*5 ≥ t2.mask*3
 · rw [full,n29_ hf];simp only [Bool.not_false,Bool.true_and,if_true];have hp:=relayAll_perm t2 es1 (SetTable.grown es1.size);have htw:=STb.relay_TP (es:=es1) tw pl msk sz hn hf h2;generalize hRl:relayAll t2 es1 (SetTable.grown es1.size)=Rl at hp htw ⊢;obtain ⟨es2,t3,gave2⟩:=Rl;dsimp only at hp htw ⊢;have hsz:es2.size=es1.size:=by rw [← Array.length_toList,hp.length_eq,Array.length_toList]
   have hb2:es2.size<scanBound:=by rw [hsz];exact hb1
   have i2:IsW bt ks es2 t3:=by
    obtain ⟨ns,x,y⟩:=ns;obtain ⟨ms,x',y'⟩:=Zdh (hp.map (·.2)) x;exact ⟨el.perm hp,⟨ms,x',y'.trans y⟩,nd,by rw [hsz];exact htw⟩
   refine n0_ (hg _ _ _ ?_);refine n0_ (wpAny_storeSet_of ho1 rfl ?_ (fits_of_scanBound hb2));obtain ⟨_,hS2⟩:=SetI.store ho1 hex rfl hb2 i2;exact n4_ (h _ (hsb1.trans (Heap.SameBut.update _ a _)) hS2)
 · rw [full,n33_ hf];simp only [Bool.not_false,Bool.true_and,n15_,if_false];exact n4_ (h _ hsb1 ⟨_,_,_,_,ho1,hex,rfl,hb1,el,ns,nd,tw,pl,msk,sz,by omega⟩)
theorem Zlm {k:Int} {u:Tok} {Q:Bool→Shared→Prop} (hS:SetI bt s.heap a ks) (hroom:ks.length<30)
 (h:∀ b h',Heap.SameBut a s.heap h'→SetI bt h' a (addI ks k)→Q b { s with heap:=h' }) :
 wpAny (model P w) A (setAddHashed a (.int k u) (hashInt k)) Q E s:=by
 obtain ⟨o,es,ep,t,ho,hex,hd,hb,i⟩:=hS;have hkey:(intKind P w).is k (.int k u)=true:=intKind_is _ _ _ _;have hlen:=i.len;unfold setAddHashed setAddHashedIn;refine n30_ (n0_ (wpAny_setState_of ho hd i.tw.fits ?_));dsimp only;rw [byScan_of (knd:=intKind P w) rfl hb (show ElemsOf (intKind P w) es.toList from i.el)];simp only [↓reduceIte];unfold setAddByScan;refine n0_ ?_;refine n0_ (wpAny_rule ?_);refine n0_ (wpAny_setScan_of (knd:=intKind P w) hkey ho hd i.tw.fits (show ElemsOf (intKind P w) es.toList from i.el) ?_);cases hr:List.findIdx? (fun e=>(intKind P w).is k e.2) es.toList with
 | some j =>
   dsimp only;obtain ⟨hj,hpj,_⟩:=List.findIdx?_eq_some_iff_getElem.mp hr;have hk:k∈ks:=(i.mem k).mpr ⟨es.toList[j],n37_ hj,hpj⟩;refine n4_ (n4_ ?_)
   have:=h false s.heap (Heap.SameBut.refl a s.heap) ⟨o,es,ep,t,ho,hex,hd,hb,by rw [addI,if_pos hk];exact i⟩
   have e:s={ s with heap:=s.heap }:=by cases s;rfl
   rw [e];exact this
 | none =>
   dsimp only
   have hk:k∉ks:=fun z=>by
    obtain ⟨e,he,hp⟩:=(i.mem k).mp z
    have:=List.findIdx?_eq_none_iff.mp hr e he
    rw [show (intKind P w).is k e.2=true from hp] at this;cases this
   have hperm:=layNew_perm t es (hashInt k) (.int k u);obtain ⟨es1,t1,hL,htw,hpl,hmk,hsz⟩:=i.tw.layNew (hashInt k) (.int k u);rw [hL] at hperm ⊢;dsimp only at hperm ⊢;rw [Array.toList_push] at hperm;have hel1:ElemsOf (intKind P w) es1.toList:=((show ElemsOf (intKind P w) es.toList from i.el).push hkey rfl).perm hperm;have hsz1:es1.size=es.size+1:=by rw [← Array.length_toList,hperm.length_eq,n28_,Array.length_toList];rfl
   have hns:∃ ns,IntsAre (es1.toList.map (·.2)) ns∧ns.Perm (addI ks k):=by
    obtain ⟨ns,x,y⟩:=i.ns
    have z:IntsAre ((es.toList++[(hashInt k,Value.int k u)]).map (·.2)) (ns++[k]):=by
     rw [n48_];exact Zj0 x (.cons k u .nil)
    obtain ⟨ms,x',y'⟩:=Zdh (hperm.map (·.2)) z;exact ⟨ms,x',y'.trans (by rw [addI,if_neg hk];exact y.append_right _)⟩
   have hnd:(addI ks k).Nodup:=by
    rw [addI,if_neg hk,n66_];exact ⟨i.nd,by simp,fun a ha b hb=>by rw [n22_.mp hb];exact fun z=>hk (z ▸ ha)⟩
   have few:=i.tw.few;refine n0_ (n4_ ?_);rw [hpl];simp only [↓reduceIte];refine n0_ ?_;rw [hashByValue_scannable 8 rfl];refine n4_ ?_;refine Zpt ?_ ho hex hd hel1 hns hnd htw hpl (by rw [hmk];exact i.tw.msk) (by rw [hsz,hsz1]) (by omega) (by rw [hmk,hsz1];simpa using few) ?_
   · intro b s₁ Q' hq;cases b<;>first|exact n4_ hq|exact wpAny_rule hq
   · intro h' hsb hS';dsimp only;exact n4_ (h _ h' hsb hS')
end
theorem X3:∀ {l:List α} {i:Nat} (h:i<l.length),(l[i] :: l.eraseIdx i).Perm l
 | x :: l,0,h=>.refl _
 | x :: l,i+1,h=>(List.Perm.swap ..).trans ((X3 (l:=l) (i:=i) (by simpa using h)).cons x)
theorem Zns (next:Nat→Nat):∀ (fuel k:Nat) (left:List α) (out:Array α),left.length=fuel→(pickOrder.go next fuel k left out).toList.Perm (out.toList++left)
 | 0,k,left,out,h=>by
   have:left=[]:=List.eq_nil_of_length_eq_zero h
   subst this;unfold pickOrder.go
   simp
 | fuel+1,k,left,out,h=>by
   have hp:0<left.length:=by omega
   have hi:next k % left.length<left.length:=Nat.mod_lt _ hp
   unfold pickOrder.go;rw [n1_ hi];dsimp only;refine (Zns next fuel (k+1) _ _ (by rw [List.length_eraseIdx_of_lt hi];omega)).trans ?_;rw [Array.toList_push,n57_];exact List.Perm.append_left _ (X3 hi)
theorem Zhb (next:Nat→Nat) (xs:Array α):(pickOrder next xs).toList.Perm xs.toList:=by
 have:=Zns next xs.size 0 xs.toList #[] (by simp)
 simpa [pickOrder] using this
def Xr (w:World) (S:Addr) (ep:Nat) (es:Array (Int×Value)):List Value:=(if Yr w=true then (pickOrder (w.params.setOrder S ep) es).toList else es.toList).map (·.2)
theorem Zc6 (w:World) (S:Addr) (ep:Nat) (es:Array (Int×Value)):(Xr w S ep es).Perm (es.toList.map (·.2)):=by
 unfold Xr;split
 · exact (Zhb _ es).map _
 · exact .refl _
def Xm (w:World) (t:SetTable):Nat→Nat
 | 0=>0
 | i+1=>if Yr w=true then 0 else t.place.getD i 0+1
theorem Zi5 {t:SetTable} (h:Yr w=true):∀ i,Xm w t i=0
 | 0=>rfl
 | i+1=>if_pos h
structure SetAt (w:World) (h:Heap) (S:Addr) (es:Array (Int×Value)) (ep:Nat) (t:SetTable):Prop where
 get:∃ o,h.get? S=some o∧o.ExactSet∧o.data=.set es ep t
 tp:STb.TP (Yr w) es.size t
theorem SetAt.stay {t:SetTable} (x:SetAt w h S es ep t) (e:∀ o,h.get? S=some o→h'.get? S=some o):SetAt w h' S es ep t:=⟨let ⟨o,a,b⟩:=x.get;⟨o,e _ a,b⟩,x.tp⟩
section
variable {P:Program} {w:World} {A:Around} {E:Value→Shared→Prop} {s:Shared}
theorem Zbr {Q:Bool→Shared→Prop} (h:Q (Yr w) s):wpAny (model P w) A setsByText Q E s:=n0_ (wpAny_askSetting (n4_ h))
theorem Zcl {t:SetTable} {Q:Array (Int×Value)→Shared→Prop} (x:SetAt w s.heap S es ep t) (ht:Yr w=true) (h:Q (pickOrder (w.params.setOrder S ep) es) s):wpAny (model P w) A (setWalk S) Q E s:=by
 obtain ⟨o,g,ex,d⟩:=x.get;unfold setWalk;refine n0_ (wpAny_setState_of g d x.tp.fits ?_);dsimp only;refine n0_ (Zbr ?_);rw [ht];simp only [if_true];exact n0_ (wpAny_askSetting (n4_ h))
theorem Zoh {t:SetTable} {v:Value} {Q:Option (Value×Nat)→Shared→Prop} (x:SetAt w s.heap S es ep t) (hv:(Xr w S ep es)[i]? = some v) (h:Q (some (v,Xm w t (i+1))) s) :
 wpAny (model P w) A (setNext S (Xm w t i) i ep) Q E s:=by
 obtain ⟨o,g,ex,d⟩:=id x.get;unfold setNext;refine n0_ (wpAny_setState_of g d x.tp.fits ?_);dsimp only;refine n0_ (Zbr ?_);cases ht:Yr w with
 | true =>
   simp only [if_true];rw [if_neg (by simp)];refine n0_ (Zcl x ht (n4_ ?_));unfold Xr at hv;rw [if_pos ht,n6_,Array.getElem?_toList] at hv;cases q:(pickOrder (w.params.setOrder S ep) es)[i]? with
   | none=>rw [q] at hv;cases hv
   | some e =>
     rw [q] at hv;have hv:e.2=v:=by simpa using hv
     rw [Zi5 ht] at h ⊢;show Q (some (e.2,0)) s
     rw [hv];exact h
 | false =>
   simp only [n15_,if_false];rw [if_neg (by show ¬ ((!t.plain&&decide (es.size>1))=true);rw [x.tp.pl];simp)];have led:t.led=true:=by rw [x.tp.tw.led,ht];rfl
   refine n0_ ?_;show wpAny _ _ (if (!t.led&&!es.isEmpty)=true then _ else _) _ _ _
   rw [if_neg (by rw [led];simp)];refine n4_ (n4_ ?_)
   have hv':es[i]? = some (es.getD i default)∧(es.getD i default).2=v:=by
    unfold Xr at hv;rw [if_neg (by rw [ht];decide),n6_,Array.getElem?_toList] at hv;cases q:es[i]? with
    | none=>rw [q] at hv;cases hv
    | some e =>
      rw [q] at hv
      have:es.getD i default=e:=by rw [Array.getD_eq_getD_getElem?,q];rfl
      rw [this];exact ⟨rfl,by simpa using hv⟩
   have hi:i<t.place.size:=by
    rw [x.tp.sz];exact (Array.getElem?_eq_some_iff.mp hv'.1).1
   have ej:t.place[i]? = some (t.place.getD i 0):=by rw [Array.getD_eq_getD_getElem?,Array.getElem?_eq_getElem hi];rfl
   have eb:SetTable.below t.place (Xm w t i)=i:=by
    cases i with
    | zero=>exact STb.below_zero x.tp.tw.ris
    | succ k =>
      show SetTable.below t.place (if Yr w=true then 0 else t.place.getD k 0+1)=k+1
      rw [if_neg (by rw [ht];decide)];have hk:k<t.place.size:=by omega
      refine STb.below_next x.tp.tw.ris ?_;rw [Array.getElem?_toList,Array.getD_eq_getD_getElem?,Array.getElem?_eq_getElem hk];rfl
   rw [eb,hv'.1,ej];show Q (some ((es.getD i default).2,t.place.getD i 0+1)) s
   rw [hv'.2]
   have:Xm w t (i+1)=t.place.getD i 0+1:=if_neg (by rw [ht];decide)
   rw [this] at h;exact h
theorem Zpk {t:SetTable} {Q:Option (Value×Nat)→Shared→Prop} (x:SetAt w s.heap S es ep t) (h:Q none s) :
 wpAny (model P w) A (setNext S (Xm w t es.size) es.size ep) Q E s:=by
 obtain ⟨o,g,ex,d⟩:=id x.get;unfold setNext;refine n0_ (wpAny_setState_of g d x.tp.fits ?_);dsimp only;refine n0_ (Zbr ?_);cases ht:Yr w with
 | true =>
   simp only [if_true];rw [if_neg (by simp)];refine n0_ (Zcl x ht (n4_ ?_))
   have:(pickOrder (w.params.setOrder S ep) es)[es.size]? = none:=by
    refine Array.getElem?_eq_none ?_
    have:=(Zhb (w.params.setOrder S ep) es).length_eq
    rw [Array.length_toList,Array.length_toList] at this;omega
   rw [this];exact h
 | false =>
   simp only [n15_,if_false];rw [if_neg (by show ¬ ((!t.plain&&decide (es.size>1))=true);rw [x.tp.pl];simp)];have led:t.led=true:=by rw [x.tp.tw.led,ht];rfl
   refine n0_ ?_;show wpAny _ _ (if (!t.led&&!es.isEmpty)=true then _ else _) _ _ _
   rw [if_neg (by rw [led];simp)];refine n4_ (n4_ ?_)
   have eb:es[SetTable.below t.place (Xm w t es.size)]? = none:=by
    have:SetTable.below t.place (Xm w t es.size)=es.size:=by
     have sz:=x.tp.sz;cases q:es.size with
     | zero=>exact STb.below_zero x.tp.tw.ris
     | succ k =>
       show SetTable.below t.place (if Yr w=true then 0 else t.place.getD k 0+1)=k+1
       rw [if_neg (by rw [ht];decide)];have hk:k<t.place.size:=by omega
       refine STb.below_next x.tp.tw.ris ?_;rw [Array.getElem?_toList,Array.getD_eq_getD_getElem?,Array.getElem?_eq_getElem hk];rfl
    rw [this];exact Array.getElem?_eq_none (n14_ _)
   rw [eb];exact h
end
def IsSetIter (h:Heap) (I S:Addr) (n ep slot i:Nat):Prop:=∃ o,h.get? I=some o∧o.cls=.type "set_iterator" ∧ o.data=.fields #[.int slot 0,.int i 0,.ref S,.int n 0,.int ep 0]
theorem IsSetIter.typeIs {I:Addr} {slot:Nat} (x:IsSetIter s.heap I S n ep slot i):s.TypeIs (.ref I) "set_iterator" := let ⟨o,a,b,_⟩:=x;⟨o,a,b⟩
theorem IsSetIter.stay {I:Addr} {slot:Nat} (x:IsSetIter h I S n ep slot i) (e:∀ o,h.get? I=some o→h'.get? I=some o):IsSetIter h' I S n ep slot i:=let ⟨o,a,r⟩:=x;⟨o,e _ a,r⟩
theorem Zck:Slot "set" "__iter__" "set.__iter__" :=
 .of (owner := "set") (n := "__iter__") (by rw [typeLookup_type,builtinLookup_eq_fast];kernel_rfl) (by decide +kernel) (by decide +kernel) (by decide +kernel)
  (by first|exact .inl (by decide +kernel)|exact .inr (by decide +kernel)) (by rw [isSubtype_type];kernel_rfl)
theorem Y0:Slot "set_iterator" "__next__" "set_iterator.__next__" :=
 .of (owner := "set_iterator") (n := "__next__") (by rw [typeLookup_type,builtinLookup_eq_fast];kernel_rfl) (by decide +kernel) (by decide +kernel) (by decide +kernel)
  (by first|exact .inl (by decide +kernel)|exact .inr (by decide +kernel)) (by rw [isSubtype_type];kernel_rfl)
theorem Zai:Slot "set_iterator" "__iter__" "set_iterator.__iter__" :=
 .of (owner := "set_iterator") (n := "__iter__") (by rw [typeLookup_type,builtinLookup_eq_fast];kernel_rfl) (by decide +kernel) (by decide +kernel) (by decide +kernel)
  (by first|exact .inl (by decide +kernel)|exact .inr (by decide +kernel)) (by rw [isSubtype_type];kernel_rfl)
theorem Zfj:entryFor table "set.__iter__" = some Builtin.«frozenset.__iter__»:=entryFor_alias (id' := "frozenset.__iter__") (by kernel_rfl) rfl (by decide +kernel) (by kernel_rfl)
theorem Zb7:entryFor table "set_iterator.__iter__" = some Builtin.«dict_keyiterator.__iter__»:=entryFor_alias (id' := "dict_keyiterator.__iter__") (by kernel_rfl) rfl (by decide +kernel) (by kernel_rfl)
theorem Zcw (a:Value):argsOk "set_iterator.__iter__" ⟨[a],[]⟩:=by unfold argsOk;kernel_rfl
theorem Zbl:entryFor table "set_iterator.__next__" = some Builtin.«set_iterator.__next__»:=entryFor_of_fast (by kernel_rfl)
theorem Zig (a:Value):argsOk "set.__iter__" ⟨[a],[]⟩:=by unfold argsOk;kernel_rfl
theorem Zcm (a:Value):argsOk "set_iterator.__next__" ⟨[a],[]⟩:=by unfold argsOk;kernel_rfl
section
variable {P:Program} {w:World} {A:Around} {E:Value→Shared→Prop} {s:Shared} {I S:Addr} {es:Array (Int×Value)} {ep i:Nat} {t:SetTable}
theorem SetAt.typeIs (x:SetAt w s.heap S es ep t):s.TypeIs (.ref S) "set" := let ⟨o,a,b,_⟩:=x.get;⟨o,a,b.1⟩
theorem SetAt.ents {Q:Array (Int×Value)→Shared→Prop} (x:SetAt w s.heap S es ep t) (h:Q es s):wpAny (model P w) A (setEntries S) Q E s:=by
 obtain ⟨o,g,ex,d⟩:=x.get;exact wpAny_setEntries_of g d x.tp.fits h
theorem Zk2 (x:SetAt w s.heap S es ep t)
 (hQ:Q (.ref s.z) { s with heap:=s.heap.push { cls:=.type "set_iterator",data:=.fields #[.int (0:Nat) 0,.int (0:Nat) 0,.ref S,.int es.size 0,.int ep 0] } }) :
 wpAny (model P w) A (pyIter (.ref S)) Q E s:=by
 obtain ⟨o,g,ex,d⟩:=id x.get;refine wpAny_pyIter_slot x.typeIs Zck (wpAny_call_entry Zck x.typeIs Zfj ?_ (Zig _));unfold Builtin.«frozenset.__iter__»;show wpAny _ _ (Builtin.Frozenset.sizeOf S >>= _) _ _ s
 unfold Builtin.Frozenset.sizeOf;refine n0_ (n0_ (x.ents (n4_ ?_)));refine n0_ ?_;unfold setDrawn;refine n0_ (wpAny_setState_of g d x.tp.fits ?_);dsimp only;refine n0_ (Zbr (n4_ ?_));have nd:(!Yr w&&(!t.plain&&decide (es.size>1)))=false:=by rw [x.tp.pl];simp
 show wpAny _ _ (if (!Yr w&&(!t.plain&&decide (es.size>1)))=true then _ else _) _ _ s
 rw [nd];simp only [n15_,if_false];refine n0_ (n4_ ?_);unfold setEpoch;refine n0_ (n0_ (wpAny_setState_of g d x.tp.fits (n4_ ?_)));exact n0_ (wpAny_newObj_type (n4_ ⟨_,rfl,"set_iterator",_,⟨_,n8_ _ rfl,rfl⟩,Y0.lookup,hQ⟩))
theorem Znt {slot:Nat} (hit:IsSetIter s.heap I S n ep slot i) (h:Q (.ref I) s):wpAny (model P w) A (pyIter (.ref I)) Q E s:=by
 refine wpAny_pyIter_slot hit.typeIs Zai (wpAny_call_entry Zai hit.typeIs Zb7 ?_ (Zcw _));show wpAny _ _ (ret (.ref I)) _ _ s
 exact n4_ ⟨_,rfl,"set_iterator",_,hit.typeIs,Y0.lookup,h⟩
theorem Zlk {v:Value} {Q:Option Value→Shared→Prop} (hne:S≠I) (hit:IsSetIter s.heap I S es.size ep (Xm w t i) i) (x:SetAt w s.heap S es ep t) (hv:(Xr w S ep es)[i]? = some v)
 (hQ:∀ h',IsSetIter h' I S es.size ep (Xm w t (i+1)) (i+1)→Heap.SameBut I s.heap h'→Q (some v) { s with heap:=h' }):wpAny (model P w) A (pyNext (.ref I)) Q E s:=by
 obtain ⟨o,ho,hc,hd⟩:=id hit;unfold pyNext;refine n0_ (wpAny_attempt (wpAny_callSpecial?_slot (name:=Str.ofString "__next__") hit.typeIs Y0 (wpAny_call_entry Y0 hit.typeIs Zbl ?_ (Zcm _))));unfold Builtin.«set_iterator.__next__»;refine n0_ (n4_ ?_);refine n0_ (wpAny_fieldsOf ho hd ?_);dsimp only;refine n0_ (x.ents ?_);rw [if_neg (by simp)];simp only [n62_];refine n0_ (Zoh x hv ?_);dsimp only;refine n0_ (wpAny_setField ho hd (by simp) ?_);have hd1:=Obj.data_mapFields hd (·.setIfInBounds 0 (rawInt (Xm w t (i+1))));have ho1:=n40_ (Obj.mapFields (·.setIfInBounds 0 (rawInt (Xm w t (i+1))))) ho (Obj.isFreed_of_fields hd1);refine n0_ (wpAny_setField ho1 hd1 (by simp) ?_);have hd2:=Obj.data_mapFields hd1 (·.setIfInBounds 1 (rawInt ((i:Int)+1)));have ho2:=n40_ (Obj.mapFields (·.setIfInBounds 1 (rawInt ((i:Int)+1)))) ho1 (Obj.isFreed_of_fields hd2);refine n4_ ⟨v,rfl,n4_ (hQ _ ⟨_,ho2,?_,?_⟩ ((Heap.SameBut.update ..).trans (Heap.SameBut.update ..)))⟩
 · exact (Obj.cls_mapFields ..).trans ((Obj.cls_mapFields ..).trans hc)
 · rw [hd2];simp [rawInt]
theorem Zfg {Q:Option Value→Shared→Prop} (hh:A.handled=none) (hit:IsSetIter s.heap I S es.size ep (Xm w t es.size) es.size) (x:SetAt w s.heap S es ep t)
 (hQ:∀ h',Heap.ExtBut I s.heap h'→Q none { s with heap:=h' }):wpAny (model P w) A (pyNext (.ref I)) Q E s:=by
 obtain ⟨o,ho,hc,hd⟩:=id hit;unfold pyNext;refine n0_ (wpAny_attempt (wpAny_callSpecial?_slot (name:=Str.ofString "__next__") hit.typeIs Y0 (wpAny_call_entry Y0 hit.typeIs Zbl ?_ (Zcm _))));unfold Builtin.«set_iterator.__next__»;refine n0_ (n4_ ?_);refine n0_ (wpAny_fieldsOf ho hd ?_);dsimp only;refine n0_ (x.ents ?_);rw [if_neg (by simp)];simp only [n62_];refine n0_ (Zpk x ?_);dsimp only;refine n0_ (wpAny_setField ho hd (by simp) ?_);show wpAny _ _ (newExc (.type "StopIteration") [] >>= _) _ _ _
 refine n0_ ?_;simp only [newExc,newTuple];refine n0_ (wpAny_newObj_type ?_ (by size_fits));refine n0_ (m:=firstArgMember _ _) (wpAny_of_eq (a:=Value.none) (by first|rfl|(simp only [firstArgMember];rfl)) ?_);refine wpAny_newObj_type ?_ (by size_fits);simp only [raiseNew];refine n0_ (wpAny_handled ?_);rw [show A.in1.handled=none from hh];refine n0_ (n4_ (wpAny_throw ?_));refine n0_ (wpAny_isInstance (T := "StopIteration") (b:=true) ⟨_,n8_ _ rfl,rfl⟩ isSubtype_stop ?_);exact n4_ (hQ _ (((Heap.SameBut.update ..).extBut.push _).push _))
end
section
variable {P:Program} {w:World} {A:Around} {E:Value→Shared→Prop} {s:Shared} {S:Addr} {es:Array (Int×Value)} {ep:Nat} {t:SetTable}
theorem Zcy:(Xr w S ep es).length=es.size:=by rw [(Zc6 w S ep es).length_eq,n5_,Array.length_toList]
theorem Zh4 (hh:A.handled=none) (I:Addr) (hne:S≠I) :
 Walks P w A I [I,S] [I] es.size (fun i v=>(Xr w S ep es)[i]? = some v) (fun i h=>IsSetIter h I S es.size ep (Xm w t i) i∧SetAt w h S es ep t) where
 sub:=fun b hb=>by simp at hb;simp [hb]
 frame:=fun _ _ _ st hk=>⟨st.1.stay fun o e=>hk I (by simp) o e,st.2.stay fun o e=>hk S (by simp) o e⟩
 item:=fun i s Q E hi st hQ=>by
  have hl:i<(Xr w S ep es).length:=by rw [Zcy];exact hi
  have hv:=n1_ hl;exact Zlk hne st.1 st.2 hv fun h' hit' hs'=>hQ _ h' s.toks hv ⟨hit',st.2.stay fun o e=>(hs'.2 S hne).trans e⟩ fun b o hb e=>(hs'.2 b (fun z=>hb (by simp [z]))).trans e
 done:=fun s Q E st hQ=>Zfg hh st.1 st.2 fun h' he'=>hQ h' s.toks fun b o hb e=>he' b o (fun z=>hb (by simp [z])) e
 self:=fun _ _ _ _ st hQ=>Znt st.1 hQ
theorem Zmf:typeLookup (.type "set") "__len__" = pure (some (.builtin "set.__len__")):=by rw [typeLookup_type,builtinLookup_eq_fast];kernel_rfl
theorem Zew {vs:List Value} {acc:Array Value} (h:ItemsOf (fun i v=>vs[i]? = some v) acc vs.length):acc.toList=vs:=by
 refine List.ext_getElem? fun j=>?_;rw [Array.getElem?_toList];cases e:acc[j]? with
 | some v=>exact (h.2 j v e).symm
 | none =>
   have:vs.length≤j:=by
    have:=Array.getElem?_eq_none_iff.mp e
    rw [h.1] at this;exact this
   exact (List.getElem?_eq_none this).symm
set_option maxHeartbeats 4000000 in
theorem Zjp {Q:List Value→Shared→Prop} (hh:A.handled=none) (x:SetAt w s.heap S es ep t) (hn:es.size≤sizeLine)
 (h:∀ h' tk,(∀ b o,s.heap.get? b=some o→h'.get? b=some o)→s.z≤h'.objs.size→Q (Xr w S ep es) { s with heap:=h',toks:=tk }):wpAny (model P w) A (collect (.ref S)) Q E s:=by
 have hSz:S<s.z:=by obtain ⟨o,g,_⟩:=x.get;exact n11_ g
 unfold collect;refine n0_ (wpAny_runValue (codeAny_builtin F.entry_proto_collect ?_));rw [Around.under_plainId F.plain_proto_collect _];show wpAny _ A.in1 (newList [] >>= fun l=>again (.builtin "list.__iadd__" ⟨[l,.ref S],[]⟩)) _ _ s
 refine n0_ (wpAny_newObj_type ?_);refine n4_ ⟨plainId_quiet F.plain_list_iadd _,codeAny_builtin F.entry_list_iadd ?_⟩;rw [Around.under_plainId F.plain_list_iadd _];generalize hs1:({ s with heap:=s.heap.push { cls:=.type "list",data:=.seq ([]:List Value).toArray } }:Shared)=s1;have x1:SetAt w s1.heap S es ep t:=by rw [← hs1];exact x.stay fun o e=>n3_ _ e
 have g1:s1.heap.get? s.z=some { cls:=.type "list",data:=.seq ([]:List Value).toArray }:=by rw [← hs1];exact n8_ _ rfl
 have z1:s1.z=s.z+1:=by rw [← hs1];exact n36_ ..
 have k1:∀ b o,s.heap.get? b=some o→s1.heap.get? b=some o:=fun b o e=>by rw [← hs1];exact n3_ _ e
 show wpAny _ A.in1 (Builtin.List.listExtendWith (.ref s.z) (.ref S) (.ref s.z)) _ _ s1
 unfold Builtin.List.listExtendWith;refine n0_ (wpAny_typeOf x1.typeIs ?_);have h1:Builtin.List.listSameRef (.ref s.z) (.ref S)=false:=by simp [Builtin.List.listSameRef,n60_ hSz]
 have h2:(Value.type "set" == Value.type "list")=false:=by decide
 have h3:(Value.type "set" == Value.type "tuple")=false:=by decide
 simp only [h1,h2,h3,Bool.or_false,n15_,if_false];refine n0_ (Zk2 x1 ?_);generalize hs2:({ s1 with heap:=s1.heap.push { cls:=.type "set_iterator",data:=.fields #[.int (0:Nat) 0,.int (0:Nat) 0,.ref S,.int es.size 0,.int ep 0] } }:Shared)=s2;have x2:SetAt w s2.heap S es ep t:=by rw [← hs2];exact x1.stay fun o e=>n3_ _ e
 have it2:IsSetIter s2.heap (s.z+1) S es.size ep 0 0:=by rw [← hs2,← z1];exact ⟨_,n8_ _ rfl,rfl,rfl⟩
 have g2:s2.heap.get? s.z=some { cls:=.type "list",data:=.seq ([]:List Value).toArray }:=by rw [← hs2];exact n3_ _ g1
 have k2:∀ b o,s.heap.get? b=some o→s2.heap.get? b=some o:=fun b o e=>by rw [← hs2];exact n3_ _ (k1 b o e)
 refine n0_ (n30_ ?_);unfold Builtin.List.listLengthHint;refine n0_ (wpAny_specialOf x2.typeIs Zmf ?_);have hsp:splitId "set.__len__" = some ("set","__len__"):=by decide +kernel
 dsimp only;rw [hsp];dsimp only;refine n0_ (wpAny_isInstance (b:=true) x2.typeIs sub_set_self ?_);simp only [Bool.not_true,n15_,if_false];rw [if_pos (by decide +kernel)];refine n0_ (wpAny_typeOf x2.typeIs ?_);dsimp only;refine n4_ ?_;rw [if_pos (by decide +kernel)];refine n0_ (wpAny_rule ?_);refine n0_ ?_;show wpAny _ A.in1 (updateSeq s.z (·.push .none) >>= fun _=>updateSeq s.z (·.pop)) _ _ _
 refine n0_ (wpAny_updateSeq g2 rfl ?_);have g3:=n40_ (Obj.mapSeq (·.push Value.none)) g2 rfl;refine wpAny_updateSeq g3 rfl ?_;have g4:=n40_ (Obj.mapSeq (·.pop)) g3 rfl
 have oth:∀ b o,b≠s.z→s2.heap.get? b=some o→((s2.heap.update s.z (Obj.mapSeq (·.push Value.none))).update s.z (Obj.mapSeq (·.pop))).get? b=some o :=
  fun b o hb e=>(n59_ _ _ (Ne.symm hb)).trans ((n59_ _ _ (Ne.symm hb)).trans e)
 rw [z1];have hne:S≠s.z+1:=n17_ (n38_ hSz);have hh1:A.in1.handled=none:=by simp [hh]
 have W:=(Zh4 (P:=P) (w:=w) (ep:=ep) (es:=es) (t:=t) hh1 (s.z+1) hne).toS
 have hSf:s.z∉[s.z+1,S]:=by
  simp only [n12_,n16_,or_false,not_or];exact ⟨n17_ (n68_ _),n60_ hSz⟩
 refine n4_ ⟨plainId_quiet F.plain_extend_loop _,codeAny_extend_loopS W hn _ hSf _ es.size 0 _ _ _ rfl (n55_ _)
  ⟨it2.stay fun o e=>oth _ o (n60_ (n68_ _)) e,x2.stay fun o e=>oth _ o (n17_ hSz) e⟩ g4 (ItemsOf.nil _) fun s' acc' c' hm hS' hacc=>?_⟩
 show wpAny _ A (load s.z >>= _) _ _ s'
 refine n0_ (wpAny_load hS' ?_);rw [← Zcy (w:=w) (S:=S) (ep:=ep)] at hacc;have ea:=Zew hacc;have em:=hm.eq_with;rw [em];show wpAny _ _ (pure acc'.toList) _ _ _
 rw [ea];refine n4_ ?_;subst hs2;subst hs1;refine h _ _ (fun b o e=>?_) ?_
 · have lb:=n11_ e;exact hm.heap b o (by simp only [n12_,n16_,or_false,not_or];exact ⟨n17_ lb,n17_ (n38_ lb)⟩) (oth b o (n17_ lb) (k2 b o e))
 · exact Nat.le_of_lt (n11_ hS')
end
end L2
namespace L2
open PySem PySem.Spec PyProof.Rows PySem.W
theorem Zqh:typeLookup (.type "dict") "__len__" = pure (some (.builtin "dict.__len__")):=by rw [typeLookup_type,builtinLookup_eq_fast];kernel_rfl
variable {ep:Nat} {Q:Value→Shared→Prop}
section
variable {P:Program} {w:World} {A:Around} {E:Value→Shared→Prop} {s:Shared} {S:Addr}
theorem Zbg {T:String} {vs:List Value} {it0:Obj} {St:Addr→Nat→Heap→Prop} {Q:List Value→Shared→Prop} (hh:A.handled=none) (hTT:T = "set" ∨ T = "dict") (x:s.TypeIs (.ref S) T) (hn:vs.length≤sizeLine)
 (iter:∀ (A:Around) (s1:Shared) (Q:Value→Shared→Prop) (E:Value→Shared→Prop),(∀ o,s.heap.get? S=some o→s1.heap.get? S=some o)→Q (.ref s1.z) { s1 with heap:=s1.heap.push it0 }→wpAny (model P w) A (pyIter (.ref S)) Q E s1) (hf:it0.isFreed=false)
 (W:∀ (A:Around) (I:Addr),A.handled=none→S≠I→Walks P w A I [I,S] [I] vs.length (fun i v=>vs[i]? = some v) (St I))
 (st0:∀ (h:Heap) (I:Addr),h.get? I=some it0→(∀ o,s.heap.get? S=some o→h.get? S=some o)→St I 0 h)
 (h:∀ h' tk,(∀ b o,s.heap.get? b=some o→h'.get? b=some o)→s.z≤h'.objs.size→Q vs { s with heap:=h',toks:=tk }):wpAny (model P w) A (collect (.ref S)) Q E s:=by
 obtain ⟨oS,gS,cS⟩:=id x;have hSz:S<s.z:=n11_ gS;unfold collect;refine n0_ (wpAny_runValue (codeAny_builtin F.entry_proto_collect ?_));rw [Around.under_plainId F.plain_proto_collect _];show wpAny _ A.in1 (newList [] >>= fun l=>again (.builtin "list.__iadd__" ⟨[l,.ref S],[]⟩)) _ _ s
 refine n0_ (wpAny_newObj_type ?_);refine n4_ ⟨plainId_quiet F.plain_list_iadd _,codeAny_builtin F.entry_list_iadd ?_⟩;rw [Around.under_plainId F.plain_list_iadd _];generalize hs1:({ s with heap:=s.heap.push { cls:=.type "list",data:=.seq ([]:List Value).toArray } }:Shared)=s1;have k1:∀ b o,s.heap.get? b=some o→s1.heap.get? b=some o:=fun b o e=>by rw [← hs1];exact n3_ _ e
 have x1:s1.TypeIs (.ref S) T:=⟨oS,k1 _ _ gS,cS⟩;have g1:s1.heap.get? s.z=some { cls:=.type "list",data:=.seq ([]:List Value).toArray }:=by rw [← hs1];exact n8_ _ rfl
 have z1:s1.z=s.z+1:=by rw [← hs1];exact n36_ ..
 show wpAny _ A.in1 (Builtin.List.listExtendWith (.ref s.z) (.ref S) (.ref s.z)) _ _ s1
 unfold Builtin.List.listExtendWith;refine n0_ (wpAny_typeOf x1 ?_);have h1:Builtin.List.listSameRef (.ref s.z) (.ref S)=false:=by simp [Builtin.List.listSameRef,n60_ hSz]
 have h2:(Value.type T == Value.type "list")=false:=by rcases hTT with rfl|rfl<;>decide
 have h3:(Value.type T == Value.type "tuple")=false:=by rcases hTT with rfl|rfl<;>decide
 simp only [h1,h2,h3,Bool.or_false,n15_,if_false];refine n0_ (iter _ s1 _ _ (fun o e=>k1 _ _ e) ?_);generalize hs2:({ s1 with heap:=s1.heap.push it0 }:Shared)=s2;have k2:∀ b o,s.heap.get? b=some o→s2.heap.get? b=some o:=fun b o e=>by rw [← hs2];exact n3_ _ (k1 b o e)
 have x2:s2.TypeIs (.ref S) T:=⟨oS,k2 _ _ gS,cS⟩;have it2:s2.heap.get? (s.z+1)=some it0:=by rw [← hs2,← z1];exact n8_ _ hf
 have g2:s2.heap.get? s.z=some { cls:=.type "list",data:=.seq ([]:List Value).toArray }:=by rw [← hs2];exact n3_ _ g1
 refine n0_ (n30_ ?_);unfold Builtin.List.listLengthHint;have lk:typeLookup (.type T) "__len__" = pure (some (.builtin (T ++ ".__len__"))):=by rcases hTT with rfl|rfl<;>first|exact Zmf|exact Zqh
 have hsp:splitId (T ++ ".__len__")=some (T,"__len__"):=by rcases hTT with rfl|rfl<;>decide +kernel
 have sub:isSubtype (.type T) (.type T)=pure true:=by rcases hTT with rfl|rfl<;>first|exact sub_set_self|exact sub_dict_self
 refine n0_ (wpAny_specialOf x2 lk ?_);dsimp only;rw [hsp];dsimp only;refine n0_ (wpAny_isInstance (b:=true) x2 sub ?_);simp only [Bool.not_true,n15_,if_false];rw [if_pos (by rcases hTT with rfl|rfl<;>decide +kernel)];refine n0_ (wpAny_typeOf x2 ?_);dsimp only;refine n4_ ?_;rw [if_pos (by rcases hTT with rfl|rfl<;>decide +kernel)];refine n0_ (wpAny_rule ?_);refine n0_ ?_;show wpAny _ A.in1 (updateSeq s.z (·.push .none) >>= fun _=>updateSeq s.z (·.pop)) _ _ _
 refine n0_ (wpAny_updateSeq g2 rfl ?_);have g3:=n40_ (Obj.mapSeq (·.push Value.none)) g2 rfl;refine wpAny_updateSeq g3 rfl ?_;have g4:=n40_ (Obj.mapSeq (·.pop)) g3 rfl
 have oth:∀ b o,b≠s.z→s2.heap.get? b=some o→((s2.heap.update s.z (Obj.mapSeq (·.push Value.none))).update s.z (Obj.mapSeq (·.pop))).get? b=some o :=
  fun b o hb e=>(n59_ _ _ (Ne.symm hb)).trans ((n59_ _ _ (Ne.symm hb)).trans e)
 rw [z1];have hne:S≠s.z+1:=n17_ (n38_ hSz);have W2:=(W A.in1 (s.z+1) (by simp [hh]) hne).toS
 have hSf:s.z∉[s.z+1,S]:=by
  simp only [n12_,n16_,or_false,not_or];exact ⟨n17_ (n68_ _),n60_ hSz⟩
 refine n4_ ⟨plainId_quiet F.plain_extend_loop _,codeAny_extend_loopS W2 hn _ hSf _ vs.length 0 _ _ _ rfl (n55_ _)
  (st0 _ _ (oth _ _ (n60_ (n68_ _)) it2) fun o e=>oth _ o (n17_ hSz) (k2 _ _ e)) g4 (ItemsOf.nil _) fun s' acc' c' hm hS' hacc=>?_⟩
 show wpAny _ A (load s.z >>= _) _ _ s'
 refine n0_ (wpAny_load hS' ?_);have ea:=Zew hacc;have em:=hm.eq_with;rw [em];show wpAny _ _ (pure acc'.toList) _ _ _
 rw [ea];refine n4_ ?_;subst hs2;subst hs1;refine h _ _ (fun b o e=>?_) ?_
 · have lb:=n11_ e;exact hm.heap b o (by simp only [n12_,n16_,or_false,not_or];exact ⟨n17_ lb,n17_ (n38_ lb)⟩) (oth b o (n17_ lb) (k2 b o e))
 · exact Nat.le_of_lt (n11_ hS')
theorem Zet {es:Array DictEntry} (A:Around) (I:Addr) (hh:A.handled=none) (hne:S≠I) :
 Walks P w A I [I,S] [I] (es.toList.map (·.key)).length (fun i v=>(es.toList.map (·.key))[i]? = some v) (fun i h=>h.IsKeyIter I S i es.size ep∧EntAt h S es ep) where
 sub:=fun b hb=>by simp at hb;simp [hb]
 frame:=fun _ _ _ st hk=>⟨st.1.at fun o e=>hk I (by simp) o e,st.2.at fun o e=>hk S (by simp) o e⟩
 item:=fun i s Q E hi st hQ=>by
  have hl:i<es.size:=by simpa using hi
  refine Zpv st.1 st.2 (Array.getElem?_eq_getElem hl) fun h' hit' hs'=>?_;exact hQ _ h' s.toks (by simp [hl]) ⟨hit',st.2.at fun o e=>(hs'.2 S hne).trans e⟩ fun b o hb e=>(hs'.2 b (fun z=>hb (by simp [z]))).trans e
 done:=fun s Q E st hQ=>by
  have e:(es.toList.map (·.key)).length=es.size:=by simp
  rw [e] at st;exact Zr8 hh st.1 st.2 (Array.getElem?_eq_none (n14_ _)) fun h' he'=>hQ h' s.toks fun b o hb e=>he' b o (fun z=>hb (by simp [z])) e
 self:=fun _ _ _ _ st hQ=>wpAny_pyIter_keyiter st.1 hQ
theorem Zje {vs:List Value} (good:List Nat→Prop) (g1:vs.length<2→good (List.range vs.length)) (h64:vs.length<64)
 (coll:∀ Q:List Value→Shared→Prop,(∀ h' tk,(∀ b o,s.heap.get? b=some o→h'.get? b=some o)→s.z≤h'.objs.size→Q vs { s with heap:=h',toks:=tk })→wpAny (model P w) A.in1 (collect (.ref S)) Q (fun _ _=>False) s)
 (ask:2≤vs.length→∀ h1 tk,(∀ b u,s.heap.get? b=some u→h1.get? b=some u)→wpAny (model P w) A.in1.in1 (keyKind' vs.toArray) (fun κ s1=>s1={ s with heap:=h1,toks:=tk }∧(kas_sort vs.length).kasWp (kas_ask P w A.in1.in1 κ vs) (fun p s2=>s2={ s with heap:=h1,toks:=tk }∧good p.toList) s1) (fun _ _=>False) { s with heap:=h1,toks:=tk })
 (h:∀ (p:List Nat) (L:Addr) (h':Heap) (tk e:Nat),good p→s.z≤L→(∀ b o,s.heap.get? b=some o→h'.get? b=some o)→h'.get? L=some (seqObj "list" (p.map fun i=>vs.getD i Value.none).toArray e)→Q (.ref L) { s with heap:=h',toks:=tk }) :
 wpAny (model P w) A (call (.builtin "sorted") [.ref S]) Q E s:=by
 refine Calls.call_function_entry kind_sorted plain_sorted entry_sorted (args_sorted1 _) ?_;unfold Builtin.«sorted»;refine n0_ (m:=checkCount "sorted" 1 1 _) (n4_ ?_);refine n0_ (n45_ (coll _ fun h' tk keep le=>?_) (fun _ _ z=>z) fun _ _ z=>z.elim);refine n0_ (wpAny_newList ?_ (by rw [sizeLine_eq];omega));have oL:(h'.push (seqObj "list" vs.toArray 0)).get? h'.objs.size=some (seqObj "list" vs.toArray 0):=n8_ _ rfl;refine n0_ (n30_ (wpAny_call_entry (s:={ s with heap:=h'.push (seqObj "list" vs.toArray 0),toks:=tk }) slot_list_sort ⟨_,oL,rfl⟩ entry_list_sort (Zn7 (s:={ s with heap:=h'.push (seqObj "list" vs.toArray 0),toks:=tk }) good g1 oL h64 (fun h2 h1 k1=>ask h2 h1 tk fun b u e=>k1 b u (n17_ (n11_ (keep b u e))) (n3_ _ (keep b u e))) fun p gp=>⟨_,rfl,?_⟩) (args_list_sort _)));obtain ⟨e,he⟩:=sortedHeap_at (out:=(p.map fun i=>vs.getD i Value.none).toArray) oL;refine n4_ ⟨_,rfl,h p _ _ _ e gp le (fun b o eb=>?_) he⟩;have hk:=keep b o eb;have hlt:=n11_ hk;rw [sortedHeap_old (n17_ hlt) (by rw [n36_];exact n38_ hlt)];exact n3_ _ hk
end
end L2
namespace STb
open PySem
theorem Zgq {t u:SetTable} (h:u.mask=t.mask) (p:SetTable.Probe):u.advance p=t.advance p:=by
 unfold SetTable.advance;rw [h]
theorem Zkw {t u:SetTable} (h:u.mask=t.mask):∀ (n:Nat) (p:SetTable.Probe),adv u n p=adv t n p
 | 0,_=>rfl
 | n+1,p=>by show adv u n (u.advance p)=adv t n (t.advance p);rw [Zgq h,Zkw h n]
theorem Zk4 {t u:SetTable} (h:u.mask=t.mask) (x:Int):u.probeStart x=t.probeStart x:=by
 unfold SetTable.probeStart;rw [h]
theorem Zfs (t:SetTable) (n:Nat) (p:SetTable.Probe):adv t (n+1) p=t.advance (adv t n p):=Zfz t n 1 p
def look (t:SetTable) (h:Int) (n:Nat):Nat:=(adv t n (t.probeStart h)).j
theorem Zhz {t u:SetTable} (e:u.mask=t.mask) (h:Int) (n:Nat):look u h n=look t h n:=by
 unfold look;rw [Zk4 e,Zkw e]
def Rch (t:SetTable) (h:Int) (j:Nat):Prop:=∃ m,m<10*SetTable.turns t.mask∧look t h m=j∧∀ m',m'<m→look t h m'∈t.place.toList
def RE {α:Type} (t:SetTable) (es:Array (Int×α)):Prop:=∀ (i:Nat) (e:Int×α) (j:Nat),es[i]? = some e→t.place[i]? = some j→Rch t e.1 j
def Trail (t:SetTable) (h:Int) (N:Nat→Prop) (m:Nat):Prop:=∀ m',m'<m→∃ i,t.place[i]? = some (look t h m')∧N i
theorem go_trail {t:SetTable} {f:Nat→Int} {h:Int} {N:Nat→Prop} (hd:t.dummies=#[]) (hN:∀ i,(f i == h)=false→N i):∀ (n fuel m:Nat),Trail t h N m→Near t n (adv t m (t.probeStart h))→n<fuel →
 (∃ m1,m1≤m+n∧SetTable.probe.go t f h fuel (adv t m (t.probeStart h))=some (.empty (look t h m1) none)∧t.slot (look t h m1)=.empty∧Trail t h N m1) ∨
 (∃ i m1,SetTable.probe.go t f h fuel (adv t m (t.probeStart h))=some (.candidate (look t h m1) i (adv t (m1+1) (t.probeStart h)))∧t.slot (look t h m1)=.live i∧t.place[i]? = some (look t h m1)∧(N i→Trail t h N (m1+1))∧∃ n',n'<n∧m1+1+n'≤m+n∧Near t n' (adv t (m1+1) (t.probeStart h)))
 | n,0,m,_,_,hf=>by omega
 | n,fuel+1,m,ht,⟨k0,hk0,e⟩,hf=>by
   have hp:(adv t m (t.probeStart h)).dummy=none:=(Zdm t m _).trans rfl
   rcases Zb8 (j:=(adv t m (t.probeStart h)).j) hd with hs|⟨i,hs,hi⟩
   · left
     refine ⟨m,by omega,?_,hs,ht⟩;unfold SetTable.probe.go;rw [hs,hp];rfl
   · have hm0:k0≠0:=by
      rintro rfl
      have:t.slot (adv t m (t.probeStart h)).j=.empty:=e
      rw [hs] at this;cases this
     obtain ⟨k,rfl⟩:∃ k,k0=k+1:=⟨k0-1,by omega⟩;have e':t.slot (adv t k (adv t (m+1) (t.probeStart h))).j=.empty:=by rw [Zfs];exact e
     have tr:N i→Trail t h N (m+1):=fun ni m' hm'=>by
      by_cases c:m'=m
      · subst c;exact ⟨i,hi,ni⟩
      · exact ht m' (by omega)
     by_cases hc:(f i == h)=true
     · right
       refine ⟨i,m,?_,hs,hi,tr,n-1,by omega,by omega,k,by omega,e'⟩;unfold SetTable.probe.go;rw [hs];simp only [hc,if_true];rw [Zfs];rfl
     · have:=go_trail (f:=f) (h:=h) hd hN (n-1) fuel (m+1) (tr (hN i (by simpa using hc))) ⟨k,by omega,e'⟩ (by omega)
       have eq:SetTable.probe.go t f h (fuel+1) (adv t m (t.probeStart h))=SetTable.probe.go t f h fuel (adv t (m+1) (t.probeStart h)):=by
        conv=>lhs;unfold SetTable.probe.go
        rw [hs,Zfs];simp only [hc,if_false];rfl
       rw [eq]
       rcases this with ⟨m1,a,b,c,d⟩|⟨i',m1,r1,r2,r3,r4,n',r5,r6,r7⟩
       · exact .inl ⟨m1,by omega,b,c,d⟩
       · exact .inr ⟨i',m1,r1,r2,r3,r4,n',by omega,by omega,r7⟩
theorem trail_end {t:SetTable} {h:Int} {N:Nat→Prop} {m j i:Nat} (hp:t.place.toList.Pairwise (·<·)) (tr:Trail t h N m) (em:t.slot (look t h m)=.empty) (r:Rch t h j) (hi:t.place[i]? = some j):N i:=by
 obtain ⟨k,_,ek,hk⟩:=r;have nm:=Zgx hp em;have mj:j∈t.place.toList:=by simpa using Array.mem_of_getElem? hi
 have lt:k<m:=by
  rcases Nat.lt_trichotomy k m with c|c|c
  · exact c
  · subst c;rw [ek] at nm;exact (nm mj).elim
  · exact (nm (hk m c)).elim
 obtain ⟨i',e',ni⟩:=tr k lt;rw [ek] at e'
 have:i'=i:=by
  rcases Nat.lt_trichotomy i' i with c|c|c
  · have:=Zep hp (by rw [Array.getElem?_toList];exact e') (by rw [Array.getElem?_toList];exact hi) c;omega
  · exact c
  · have:=Zep hp (by rw [Array.getElem?_toList];exact hi) (by rw [Array.getElem?_toList];exact e') c;omega
 exact this ▸ ni
theorem trail_rch {t:SetTable} {h:Int} {N:Nat→Prop} {m:Nat} (hm:m<10*SetTable.turns t.mask) (tr:Trail t h N m):Rch t h (look t h m) :=
 ⟨m,hm,rfl,fun m' c=>by obtain ⟨i,e,_⟩:=tr m' c;simpa using Array.mem_of_getElem? e⟩
theorem Rch.more {t u:SetTable} {h:Int} {j:Nat} (r:Rch t h j) (e:u.mask=t.mask) (hs:∀ x∈t.place.toList,x∈u.place.toList):Rch u h j:=by
 obtain ⟨m,a,b,c⟩:=r;exact ⟨m,by rw [e];exact a,by rw [Zhz e];exact b,fun m' hm=>by rw [Zhz e];exact hs _ (c m' hm)⟩
theorem Zhh {α β:Type} {xs:Array α} {ys:Array β} {p i:Nat} {x:α} {y:β} {a:α} {b:β} (hl:xs.size=ys.size) (hp:p≤xs.size) (ha:(SetTable.insertAt xs p x)[i]? = some a) (hb:(SetTable.insertAt ys p y)[i]? = some b) :
 (i=p∧a=x∧b=y)∨∃ i':Nat,xs[i']? = some a∧ys[i']? = some b:=by
 rw [← Array.getElem?_toList,insertAt_list] at ha hb;have l1:(xs.toList.take p).length=p:=by rw [n65_,Array.length_toList];omega
 have l2:(ys.toList.take p).length=p:=by rw [n65_,Array.length_toList];omega
 rcases Nat.lt_trichotomy i p with c|c|c
 · right
   refine ⟨i,?_,?_⟩
   · rw [n58_ (by omega),List.getElem?_take_of_lt c] at ha;simpa using ha
   · rw [n58_ (by omega),List.getElem?_take_of_lt c] at hb;simpa using hb
 · left
   subst c;rw [n49_ (by omega),l1] at ha;rw [n49_ (by omega),l2] at hb;simp at ha hb;exact ⟨rfl,ha.symm,hb.symm⟩
 · right
   obtain ⟨k,rfl⟩:∃ k,i=p+1+k:=⟨i-p-1,by omega⟩;refine ⟨p+k,?_,?_⟩
   · rw [n49_ (by omega),l1,show p+1+k-p=k+1 by omega,n77_,List.getElem?_drop] at ha;simpa using ha
   · rw [n49_ (by omega),l2,show p+1+k-p=k+1 by omega,n77_,List.getElem?_drop] at hb;simpa using hb
theorem Zqf {xs:Array Nat} (j:Nat) (hp:xs.toList.Pairwise (·<·)):SetTable.below xs j≤xs.size:=(X4 j hp).2.2
theorem RE.put {α:Type} {t:SetTable} {es:Array (Int×α)} {h:Int} {x:α} {j:Nat} (r:RE t es) (hp:t.place.toList.Pairwise (·<·)) (sz:t.place.size=es.size) (rj:Rch t h j):RE (t.put j).1 (SetTable.insertAt es (t.put j).2 (h,x)):=by
 have sub:∀ y∈t.place.toList,y∈(t.put j).1.place.toList:=fun y hy=>by
  show y∈(SetTable.insertAt t.place (SetTable.below t.place j) j).toList
  rw [insertAt_list,n34_,n12_];rw [← List.take_append_drop (SetTable.below t.place j) t.place.toList,n34_] at hy
  rcases hy with hy|hy
  · exact .inl hy
  · exact .inr (.inr hy)
 intro i e k he hk
 rcases Zhh (xs:=es) (ys:=t.place) sz.symm (by rw [← sz];exact Zqf j hp) he hk with ⟨_,a,b⟩|⟨i',a,b⟩
 · subst a;subst b;exact rj.more rfl sub
 · exact (r i' e k a b).more rfl sub
theorem Zri (t:SetTable):∀ (k:Nat) (p:SetTable.Probe),k≤p.more→(adv t k p).j=p.j+k∧(adv t k p).more=p.more-k
 | 0,p,_=>⟨rfl,rfl⟩
 | k+1,p,h=>by
   have e:t.advance p={ p with j:=p.j+1,more:=p.more-1 }:=by
    unfold SetTable.advance;rw [if_pos (by omega)]
   show (adv t k (t.advance p)).j=_∧(adv t k (t.advance p)).more=_
   rw [e];obtain ⟨a,b⟩:=Zri t k { p with j:=p.j+1,more:=p.more-1 } (by show k≤p.more-1;omega);exact ⟨by rw [a];show p.j+1+k=_;omega,by rw [b];show p.more-1-k=_;omega⟩
theorem Zkv {M i:Nat} (h:i≤M):SetTable.runEnd M i≤M:=by unfold SetTable.runEnd;split<;>omega
theorem Znw (M i:Nat):i≤SetTable.runEnd M i:=by unfold SetTable.runEnd;split<;>omega
theorem Zrs (t:SetTable):∀ (n:Nat) (p:SetTable.Probe),p.j+p.more≤t.mask→(adv t n p).j+(adv t n p).more≤t.mask
 | 0,p,h=>h
 | n+1,p,h=>by
   refine Zrs t n (t.advance p) ?_;unfold SetTable.advance
   by_cases c:p.more>0
   · rw [if_pos c];show p.j+1+(p.more-1)≤_;omega
   · rw [if_neg c]
     have:(p.i*5+1+p.perturb/32) % (t.mask+1)≤t.mask:=Nat.le_of_lt_succ (Nat.mod_lt _ (Nat.succ_pos _))
     show (p.i*5+1+p.perturb/32) % (t.mask+1)+(SetTable.runEnd t.mask ((p.i*5+1+p.perturb/32) % (t.mask+1))-(p.i*5+1+p.perturb/32) % (t.mask+1))≤t.mask
     have r1:=Zkv this;have r2:=Znw t.mask ((p.i*5+1+p.perturb/32) % (t.mask+1));omega
theorem Zsp (t:SetTable) (h:Int) (n:Nat):look t h n≤t.mask:=by
 have i0:SetTable.bits h % (t.mask+1)≤t.mask:=Nat.le_of_lt_succ (Nat.mod_lt _ (Nat.succ_pos _))
 have:=Zrs t n (t.probeStart h) (by
  show SetTable.bits h % (t.mask+1)+(SetTable.runEnd t.mask (SetTable.bits h % (t.mask+1))-SetTable.bits h % (t.mask+1))≤t.mask
  have r1:=Zkv i0;have r2:=Znw t.mask (SetTable.bits h % (t.mask+1));omega)
 unfold look;omega
theorem Zel {t:SetTable} {owner:Array (Option Nat)}:∀ (fuel:Nat) (q:Nat×Nat) {j:Nat},SetTable.layClean.free t.mask owner fuel q.1 q.2=some j→∃ m,m<10*fuel∧(adv t m (start t q none)).j=j∧∀ m',m'<m→(owner.getD (adv t m' (start t q none)).j (some 0)).isSome=true
 | 0,q,j,h=>by unfold SetTable.layClean.free at h;cases h
 | fuel+1,q,j,h=>by
   unfold SetTable.layClean.free at h;have hr:=Zqx t.mask q.1;have hg:=Znw t.mask q.1;have pos:∀ k,k≤SetTable.runEnd t.mask q.1-q.1→(adv t k (start t q none)).j=q.1+k:=fun k hk=>(Zri t k (start t q none) hk).1;cases hfi:(List.range (SetTable.runEnd t.mask q.1+1-q.1)).find? fun k=>(owner.getD (q.1+k) (some 0)).isNone with
   | some k =>
     rw [hfi] at h;have hj:q.1+k=j:=by simpa using h
     have hk:=n24_.mp (List.mem_of_find?_eq_some hfi);refine ⟨k,by omega,by rw [pos k (by omega)];exact hj,fun m' hm=>?_⟩;rw [pos m' (by omega)];obtain ⟨_,as,bs,e1,e2⟩:=List.find?_eq_some_iff_append.mp hfi
     have la:as.length=k:=by
      have:(List.range (SetTable.runEnd t.mask q.1+1-q.1))[as.length]? = some k:=by rw [e1];simp
      rw [List.getElem?_range (by
       have:=congrArg List.length e1
       rw [n69_,n28_,n26_] at this;omega)] at this
      exact Option.some.inj this
     have mm:m'∈as:=by
      have:(List.range (SetTable.runEnd t.mask q.1+1-q.1))[m']? = some m':=List.getElem?_range (by omega)
      rw [e1,n58_ (by omega)] at this;exact n7_ this
     have:=e2 m' mm
     cases z:owner.getD (q.1+m') (some 0) with
     | none=>rw [z] at this;simp at this
     | some _=>rfl
   | none =>
     rw [hfi] at h;dsimp only at h;obtain ⟨m,a,b,c⟩:=Zel fuel (step t.mask q) h;have ar:=Ziy t (SetTable.runEnd t.mask q.1-q.1) (start t q none) rfl;refine ⟨(SetTable.runEnd t.mask q.1-q.1)+1+m,by omega,by rw [Zfz,ar];exact b,fun m' hm=>?_⟩
     by_cases c1:m'≤SetTable.runEnd t.mask q.1-q.1
     · rw [pos m' c1]
       have:=List.find?_eq_none.mp hfi m' (n24_.mpr (by omega))
       cases z:owner.getD (q.1+m') (some 0) with
       | none=>rw [z] at this;simp at this
       | some _=>rfl
     · obtain ⟨d,rfl⟩:∃ d,m'=(SetTable.runEnd t.mask q.1-q.1)+1+d:=⟨m'-(SetTable.runEnd t.mask q.1-q.1)-1,by omega⟩;rw [Zfz,ar];exact c d (by omega)
def OR (t:SetTable) (hs:List Int) (owner:Array (Option Nat)):Prop:=∀ (j k:Nat) (h:Int),owner[j]? = some (some k)→hs[k]? = some h→∃ m,m<10*SetTable.turns t.mask∧look t h m=j∧∀ m',m'<m→(owner.getD (look t h m') (some 0)).isSome=true
theorem Zkm {owner:Array (Option Nat)} {j n x:Nat} (h:(owner.getD x (some 0)).isSome=true):((owner.setIfInBounds j (some n)).getD x (some 0)).isSome=true:=by
 rw [Array.getD_eq_getD_getElem?] at h ⊢;rw [Array.getElem?_setIfInBounds]
 by_cases c:j=x
 · rw [if_pos c];split<;>rfl
 · rw [if_neg c];exact h
theorem OR.put {t:SetTable} {hs:List Int} {owner:Array (Option Nat)} (o:OR t hs owner) {j n:Nat} {h:Int} (hn:hs[n]? = some h) (e:SetTable.layClean.free t.mask owner (SetTable.turns t.mask) (SetTable.bits h % (t.mask+1)) (SetTable.bits h)=some j):OR t hs (owner.setIfInBounds j (some n)):=by
 intro j' k h' e1 e2;rw [Array.getElem?_setIfInBounds] at e1
 by_cases c:j=j'
 · rw [if_pos c] at e1;split at e1
   · have:n=k:=by simpa using e1
     subst this;rw [hn] at e2;cases e2
     obtain ⟨m,a,b,c2⟩:=Zel (t:=t) _ (SetTable.bits h % (t.mask+1),SetTable.bits h) e;exact ⟨m,a,b.trans c,fun m' hm=>Zkm (c2 m' hm)⟩
   · cases e1
 · rw [if_neg c] at e1;obtain ⟨m,a,b,c2⟩:=o j' k h' e1 e2;exact ⟨m,a,b,fun m' hm=>Zkm (c2 m' hm)⟩
theorem Zhj {t:SetTable} (hm:masks t.mask):∀ (hs pre:List Int) (owner:Array (Option Nat)),Own t.mask pre.length owner→OR t (pre++hs) owner→pre.length+hs.length<t.mask+1→∀ o',hs.foldl (Y4 t.mask) (some (owner,pre.length))=some o'→OR t (pre++hs) o'.1
 | [],pre,owner,o,r,_,o',e=>by cases e;exact r
 | h :: hs,pre,owner,o,r,hl,o',e=>by
   rw [n26_] at hl;obtain ⟨j,r1,r2⟩:=o.free hm (by omega) h
   have e1:Y4 t.mask (some (owner,pre.length)) h=some (owner.setIfInBounds j (some pre.length),pre.length+1):=by
    unfold Y4;show (SetTable.layClean.free t.mask owner (SetTable.turns t.mask) (SetTable.bits h % (t.mask+1)) (SetTable.bits h)).bind _=_
    rw [r1];rfl
   rw [n67_,e1] at e;have len:(pre++[h]).length=pre.length+1:=by simp
   have:=Zhj hm hs (pre++[h]) (owner.setIfInBounds j (some pre.length)) (by rw [len];exact o.put r2) (by
    rw [n57_];exact r.put (by simp) r1) (by rw [len];omega) o' (by rw [len];exact e)
   rwa [n57_] at this
theorem or0 (t:SetTable) (hs:List Int):OR t hs (Array.replicate (t.mask+1) none):=fun j k h e _=>by
 rw [Array.getElem?_replicate] at e;split at e<;>cases e
theorem relaid_reach {α:Type} {t t':SetTable} {es:Array (Int×α)} {wanted:Nat} {order:Array Nat} (hm:masks (SetTable.sizeAbove wanted-1)) (hl:es.size<SetTable.sizeAbove wanted-1+1) (e:t.relaid (es.map (·.1)) wanted=some (t',order)) (ok:∀ k∈order.toList,k<es.size):RE t' (order.filterMap (es[·]?)):=by
 unfold SetTable.relaid SetTable.laid at e;cases q:SetTable.layClean (SetTable.sizeAbove wanted-1) (es.map (·.1)) with
 | none=>rw [q] at e;cases e
 | some owner =>
   rw [q] at e;have e:=Option.some.inj e;have e1:=(Prod.mk.inj e).1;have e2:=(Prod.mk.inj e).2;have mk:t'.mask=SetTable.sizeAbove wanted-1:=by rw [← e1]
   have ore:OR t' (es.map (·.1)).toList owner:=by
    unfold SetTable.layClean at q;rw [← Array.foldl_toList] at q;obtain ⟨ow,e3,_⟩:=Zf6 hm (es.map (·.1)).toList 0 _ (own0 _) (by simpa using hl);have q':(List.foldl (Y4 (SetTable.sizeAbove wanted-1)) (some (Array.replicate (SetTable.sizeAbove wanted-1+1) none,0)) (es.map (·.1)).toList).map (·.1)=some owner:=q;rw [e3] at q';have eo:ow=owner:=by simpa using q'
    subst eo;rw [← mk] at e3 hm hl;exact Zhj (t:=t') hm (es.map (·.1)).toList [] _ (own0 _) (or0 t' _) (by simpa using hl) _ e3
   have pl:t'.place.toList=List.map (·.1) ((List.range (SetTable.sizeAbove wanted-1+1)).filterMap fun j=>(owner.getD j none).map (j,·)):=by rw [← e1]
   have od:order.toList=List.map (·.2) ((List.range (SetTable.sizeAbove wanted-1+1)).filterMap fun j=>(owner.getD j none).map (j,·)):=by rw [← e2]
   intro i en j he hj;rw [← Array.getElem?_toList,pl,n6_] at hj
   have fm:∀ (l:List Nat),(∀ k∈l,k<es.size)→∀ i:Nat,(l.filterMap (es[·]?))[i]? = l[i]?.bind (es[·]?):=by
    intro l
    induction l with
    | nil=>intro _ i;rfl
    | cons k l ih =>
      intro hk i;obtain ⟨x,hx⟩:∃ x,es[k]? = some x:=⟨_,Array.getElem?_eq_getElem (hk k n27_)⟩;rw [List.filterMap_cons_some hx];cases i with
      | zero=>simp [hx]
      | succ i=>rw [n77_,n77_];exact ih (fun y hy=>hk y (n19_ _ hy)) i
   rw [← Array.getElem?_toList,Array.toList_filterMap,fm _ ok i,od,n6_] at he;cases z:((List.range (SetTable.sizeAbove wanted-1+1)).filterMap fun j=>(owner.getD j none).map (j,·))[i]? with
   | none=>rw [z] at hj;cases hj
   | some jk =>
     rw [z] at hj he;obtain ⟨j0,k⟩:=jk;have ej:j0=j:=by simpa using hj
     subst ej;have ek:es[k]? = some en:=by simpa using he
     obtain ⟨x,hx,hx2⟩:=List.mem_filterMap.mp (n7_ z)
     have own:owner[j0]? = some (some k):=by
      rw [Array.getD_eq_getD_getElem?] at hx2;cases y:owner[x]? with
      | none=>rw [y] at hx2;simp at hx2
      | some v =>
        rw [y] at hx2;cases v with
        | none=>simp at hx2
        | some v=>simp at hx2;obtain ⟨rfl,rfl⟩:=hx2;exact y
     obtain ⟨m,a,b,c⟩:=ore j0 k en.1 own (by simp [ek]);refine ⟨m,a,b,fun m' hm'=>?_⟩;have lk:=Zsp t' en.1 m';have s:=c m' hm';rw [pl,n18_];rw [Array.getD_eq_getD_getElem?] at s
     have osz:owner.size=SetTable.sizeAbove wanted-1+1:=by
      obtain ⟨ow,e3,o3⟩:=Zi9 hm (es.map (·.1)) (by simpa using hl);rw [q] at e3;cases e3;exact o3.size
     have lt:look t' en.1 m'<owner.size:=by rw [osz,← mk];omega
     rw [Array.getElem?_eq_getElem lt] at s;obtain ⟨v,hv⟩:=Option.isSome_iff_exists.mp (show (owner[look t' en.1 m']).isSome=true from s);refine ⟨(look t' en.1 m',v),List.mem_filterMap.mpr ⟨look t' en.1 m',n24_.mpr (by rw [← osz];exact lt),?_⟩,rfl⟩;simp [Array.getD,lt,hv]
end STb
namespace L2
open PySem PySem.Spec PyProof.Rows
def Xq (k:List Int):Int:=reduceHash (Builtin.Tuple.tupleHashOf (k.map hashInt))
def entU (x:Addr×List Int):Int×Value:=(Xq x.2,Value.ref x.1)
structure IsU (bt:Bool) (kl:List (Addr×List Int)) (es:Array (Int×Value)) (t:SetTable):Prop where
 pm:es.toList.Perm (kl.map entU)
 nd:(kl.map (·.2)).Nodup
 tw:STb.TP bt es.size t
 re:STb.RE t es
def SetU (bt:Bool) (h:Heap) (S:Addr) (kl:List (Addr×List Int)):Prop:=∃ o es ep t,h.get? S=some o∧o.ExactSet∧o.data=.set es ep t∧IsU bt kl es t
def setU (bt:Bool) (S:Addr) (kl:List (Addr×List Int)):HO:=.ext fun h=>SetU bt h S kl
variable {α:Type} {S a l:Addr} {A:Around} {es:Array (Int×Value)} {items:Array Value} {bt:Bool} {X:Cx} {env:Env} {elt iter tg:Expr} {h h':Heap} {H:Hp} {al kl:List (Addr×List Int)} {pins:List (Addr×Obj)} {fr:List (Option Nat)} {cl:List (Str×Addr)} {ks ns:List Int} {N:List Str} {its:List Value} {ep j n:Nat} {o:Obj} {pos:Pos} {P prog:Program} {scope:Scope} {s:Shared} {σ:St} {te:TE} {wi:TI} {Q:Value→Shared→Prop} {w:World}
theorem SetU.stay (h1 h2:Heap) (s:SetU bt h1 a kl) (e:∀ o,h1.get? a=some o→h2.get? a=some o):SetU bt h2 a kl:=let ⟨o,es,ep,t,g,r⟩:=s;⟨o,es,ep,t,e _ g,r⟩
theorem Zjm (s:SetU bt h a kl):ObjOk P w H h a (setU bt a kl):=⟨s,let ⟨o,_,_,_,g,_⟩:=s;⟨o,g⟩,fun h1 h2 x e=>SetU.stay h1 h2 x e⟩
theorem Zjh (x:ObjOk P w H h a (setU bt a kl)):SetU bt h a kl:=x.1
theorem IsU.len {t:SetTable} (i:IsU bt kl es t):es.size=kl.length:=by
 rw [← Array.length_toList,i.pm.length_eq,n5_]
theorem IsU.mem {t:SetTable} (i:IsU bt kl es t) {e:Int×Value} (h:e∈es.toList):∃ x∈kl,entU x=e:=n18_.mp (i.pm.mem_iff.mp h)
def addU (kl:List (Addr×List Int)) (x:Addr×List Int):List (Addr×List Int):=if x.2∈kl.map (·.2) then kl else kl++[x]
section
variable {P:Program} {w:World} {bt:Bool} {A:Around} {E:Value→Shared→Prop} {s:Shared}
theorem Znq {t:SetTable} (h:STb.masks t.mask):t.gaveWay=false:=by
 unfold SetTable.gaveWay
 rcases h with e|e|e<;>rw [e]<;>rfl
theorem Ztp {t:SetTable} {k:List Int} {Q:SetFound→Shared→Prop} (hu:A.units<cLine) (get:s.heap.get? S=some o) (dat:o.data=.set es ep t) (U:IsU bt kl es t)
 (hkl:∀ x∈kl,IsTupleKey (PySem.intKind P w) s.heap x.2 x.1) (hk:IsTupleKey (PySem.intKind P w) s.heap k a) (q1:k∈kl.map (·.2)→Q (.there none) s)
 (q2:k∉kl.map (·.2)→∀ j,t.slot j=.empty→STb.Rch t (Xq k) j→Q (.free j false) s):∀ (n fuel m:Nat) (stand:Option SetTable.Probe),n<fuel→n<10*SetTable.turns t.mask→m+n<10*SetTable.turns t.mask→stand.getD (t.probeStart (Xq k))=STb.adv t m (t.probeStart (Xq k)) →
 STb.Trail t (Xq k) (fun i=>∀ b,es[i]? = some (Xq k,.ref b)→¬ IsTupleKey (PySem.intKind P w) s.heap k b) m→STb.Near t n (STb.adv t m (t.probeStart (Xq k))) →
 wpAny (model P w) A (setSearchFrom S (.ref a) (Xq k) true fuel stand) Q E s:=by
 intro n
 induction n using Nat.strongRecOn with
 | ind n ih =>
   intro fuel m stand hf hn2 hmn hst tr hN;obtain ⟨f,rfl⟩:∃ f,fuel=f+1:=⟨fuel-1,by omega⟩;have fit:=U.tw.fits;unfold setSearchFrom;refine n0_ (wpAny_setState_of get dat fit ?_);dsimp only;rw [Znq U.tw.msk];simp only [n15_,if_false];rw [hst]
   have cases':∀ {F:Nat→Int},(∀ i,F i=(es[i]?.map (·.1)).getD 0)→_:=fun {F} hF=>STb.go_trail (t:=t) (f:=F) (h:=Xq k) (N:=fun i=>∀ b,es[i]? = some (Xq k,.ref b)→¬ IsTupleKey (PySem.intKind P w) s.heap k b) U.tw.tw.dum (fun i hi b hb=>by
    rw [hF i,hb] at hi;simp at hi) n (10*SetTable.turns t.mask) m tr hN hn2
   split
   rotate_left
   · rename_i heq
     exact ((cases' (fun _=>rfl)).elim (fun ⟨m1,_,e,_⟩=>heq _ e) (fun ⟨i,m1,e,_⟩=>heq _ e)).elim
   rename_i met heq
   rcases cases' (fun _=>rfl) with ⟨m1,hm1,e,hj,tr1⟩|⟨i,m1,e,hs,hi,tr1,n',hn',hmn',hN'⟩
   · have e:=heq.symm.trans e;cases e
     dsimp only;refine n4_ ?_
     by_cases c:k∈kl.map (·.2)
     · obtain ⟨x,hx,ex⟩:=n18_.mp c;have hm:entU x∈es.toList:=U.pm.mem_iff.mpr (n18_.mpr ⟨x,hx,rfl⟩);obtain ⟨i,hi,ei⟩:=n50_ hm;have hi':i<es.size:=by simpa using hi
       have ei':es[i]? = some (entU x):=by rw [Array.getElem?_eq_getElem hi'];simpa using ei
       have hp:i<t.place.size:=by rw [U.tw.sz];exact hi'
       have rr:=U.re i _ _ ei' (Array.getElem?_eq_getElem hp);have eh:entU x=(Xq k,.ref x.1):=by unfold entU;rw [ex]
       rw [eh] at rr ei';exact (STb.trail_end U.tw.tw.ris tr1 hj rr (Array.getElem?_eq_getElem hp) x.1 ei' (ex ▸ hkl x hx)).elim
     · exact q2 c _ hj (STb.trail_rch (by omega) tr1)
   · have e:=heq.symm.trans e;cases e
     dsimp only;have hi2:i<es.size:=by rw [← U.tw.sz];exact (Array.getElem?_eq_some_iff.mp hi).1
     obtain ⟨y,hy⟩:∃ y,es[i]? = some y:=⟨_,Array.getElem?_eq_getElem hi2⟩;obtain ⟨x,hx,ex⟩:=U.mem (e:=y) (by simpa using Array.mem_of_getElem? hy);subst ex;have hb:=hkl x hx
     have core:wpAny (model P w) A (do
      let some (_,y):=es[i]? | unsupported "internal:set-entry"
      let equal ← holding [y] (eqBool y (.ref a))
      let (es',_,t') ← setState S
      if true&&equal then return SetFound.there none
      let some same:=t'.sameMemory t.moves t.mask|unsupported "set.changed-during-lookup:is-the-new-block-at-the-old-address"
      let still ← match (if same then t'.slot (STb.look t (Xq k) m1) else .empty) with
       | .live i'=>match es'[i']? with
         | some (_,y')=>do pure (if ← isSame y' y then some i' else none)
         | none=>pure none
       | _=>pure none
      match still with
      | none=>rule "set.search.anew";setSearchFrom S (.ref a) (Xq k) true f none
      | some i'=>if equal then return .there (some i') else setSearchFrom S (.ref a) (Xq k) true f (some (STb.adv t (m1+1) (t.probeStart (Xq k))))) Q E s:=by
      rw [hy];dsimp only [entU];refine n0_ (n30_ (wpAny_eqBool_tuple hu hb hk ?_));refine n0_ (wpAny_setState_of get dat fit ?_);dsimp only
      by_cases c:x.2=k
      · rw [n29_ c];simp only [Bool.and_self,if_true];exact n4_ (q1 (n18_.mpr ⟨x,hx,c⟩))
      rw [n33_ c];simp only [Bool.and_false,n15_,if_false];have sm:t.sameMemory t.moves t.mask=some true:=by unfold SetTable.sameMemory;simp
      rw [sm];dsimp only;simp only [if_true,hs,hy];refine n0_ (wpAny_isSame_ref_self ?_);simp only [if_true];refine n0_ (n4_ ?_);dsimp only;refine ih n' hn' f (m1+1) (some _) (by omega) (by omega) (by omega) rfl (tr1 fun b eb kb=>c ?_) hN';rw [hy] at eb
      have:x.1=b:=by unfold entU at eb;simpa using (Prod.mk.inj (Option.some.inj eb)).2
      subst this;exact hb.inj kb
     by_cases hl:t.led=true
     · rw [hl];simp only [Bool.not_true,n15_,if_false];exact core
     · have hl':t.led=false:=by simpa using hl
       rw [hl'];simp only [Bool.not_false,if_true];refine n0_ (Zue hk _ (fun y hy=>?_) ?_)
       · obtain ⟨z,hz,rfl⟩:=n18_.mp hy
         obtain ⟨x',hx',e'⟩:=U.mem (e:=z) (by
          have hz':z∈es∧z.1=Xq k:=by simpa using hz
          simpa using hz'.1)
         subst e';exact ⟨x'.1,x'.2,rfl,hkl x' hx'⟩
       · simp only [n15_,if_false];exact core
theorem Zjo {k:List Int} {Q:Bool→Shared→Prop} (hk:IsTupleKey (PySem.intKind P w) s.heap k a) (h:Q true s):wpAny (model P w) A (hashByValue (n+1) (.ref a)) Q E s:=by
 have hT:=hk.typeIs;obtain ⟨o,items,m,ho,_,hd,hi⟩:=hk
 have all:∀ v∈items.toList,∃ i u,v=.int i u:=by
  generalize items.toList=l at hi;clear hd ho
  induction hi with
  | nil=>intro v hv;cases hv
  | cons h1 _ ih =>
    intro v hv
    rcases n12_.mp hv with rfl|hv
    · obtain ⟨u,e⟩:=Value.isInt_shape h1;exact ⟨_,u,e⟩
    · exact ih v hv
 unfold hashByValue;refine n0_ (wpAny_specialOf hT F.slot_tuple_hash.lookup ?_);dsimp only;refine n0_ (wpAny_seqItems ho hd ?_);refine n0_ ?_;show wpAny _ _ (forIn items _ _) _ _ s
 rw [← Array.forIn_toList];refine wpAny_forIn_list _ (fun rest r s'=>r.1=none∧s'=s∧∀ v∈rest,∃ i u,v=.int i u) _ ?_ ?_ _ _ ⟨rfl,rfl,all⟩
 · rintro v rest r s' ⟨hr,rfl,hall⟩
   obtain ⟨i,u,rfl⟩:=hall v n27_;rw [hashByValue_scannable n (x:=.int i u) rfl];refine n0_ (n4_ ?_);show wpAny _ _ (if (!true)=true then _ else _) _ _ _
   simp only [Bool.not_true,n15_,if_false];exact n4_ ⟨rfl,rfl,fun u hu'=>hall u (n19_ _ hu')⟩
 · rintro ⟨r1,r2⟩ s' ⟨hr,rfl,_⟩
   simp only at hr;subst hr;exact n4_ h
theorem Zu7 {M:Nat} (hn:n≤76) (hm:STb.masks M) (h:n*5 ≥ M*3) (h2:(n-1)*5<M*3):STb.masks (SetTable.sizeAbove (SetTable.grown n)-1)∧n<SetTable.sizeAbove (SetTable.grown n)-1+1∧n*5<(SetTable.sizeAbove (SetTable.grown n)-1)*3∧¬ SetTable.sizeAbove (SetTable.grown n)>sizeLine:=by
 rcases hm with rfl|rfl|rfl
 · have:n=5:=by omega
   subst this;exact ⟨.inr (.inl (by decide +kernel)),by decide +kernel,by decide +kernel,by decide +kernel⟩
 · have:n=19:=by omega
   subst this;exact ⟨.inr (.inr (by decide +kernel)),by decide +kernel,by decide +kernel,by decide +kernel⟩
 · omega
theorem Zeq {t:SetTable} (es':Array (Int×Value)) (t':SetTable) (get:h.get? S=some o) (dat:o.data=.set es ep t):(h.update S (Obj.putSet es' t')).get? S=some { o with data:=.set es' (ep+1) t' }:=by
 have:=n40_ (Obj.putSet es' t') get (by rw [putSet_of es' t' dat];rfl)
 rw [putSet_of es' t' dat] at this;exact this
theorem Zd4 {es:Array α} {order:Array Nat} (h:order.toList.Perm (List.range es.size)):(order.filterMap (es[·]?)).toList.Perm es.toList:=by
 rw [Array.toList_filterMap];refine (h.filterMap _).trans ?_
 have:(List.range es.size).filterMap (es[·]?)=es.toList:=by
  refine List.ext_getElem? fun i=>?_
  have fm:∀ (l:List Nat),(∀ k∈l,k<es.size)→∀ i:Nat,(l.filterMap (es[·]?))[i]? = l[i]?.bind (es[·]?):=by
   intro l
   induction l with
   | nil=>intro _ i;rfl
   | cons k l ih =>
     intro hk i;obtain ⟨x,hx⟩:∃ x,es[k]? = some x:=⟨_,Array.getElem?_eq_getElem (hk k n27_)⟩;rw [List.filterMap_cons_some hx];cases i with
     | zero=>simp [hx]
     | succ i=>rw [n77_,n77_];exact ih (fun y hy=>hk y (n19_ _ hy)) i
  rw [fm _ (fun k hk=>n24_.mp hk) i]
  by_cases c:i<es.size
  · rw [List.getElem?_range c];simp
  · rw [List.getElem?_eq_none (by simpa using c),List.getElem?_eq_none (by simpa using c)];rfl
 rw [this]
theorem Zux {t:SetTable} {Q:Unit→Shared→Prop}
 (get:s.heap.get? S=some o) (ex:o.ExactSet) (dat:o.data=.set es ep t) (pm:es.toList.Perm (kl.map entU)) (nd:(kl.map (·.2)).Nodup) (tw:STb.TW bt t) (pln:t.plain=true) (sz:t.place.size=es.size) (msk:STb.masks t.mask)
 (hn:kl.length≤60) (full:es.size*5 ≥ t.mask*3) (h2:(es.size-1)*5<t.mask*3)
 (q:∀ h',Heap.SameBut S s.heap h'→SetU bt h' S kl→Q () { s with heap:=h' }):wpAny (model P w) A (setRelay S (SetTable.grown es.size)) Q E s:=by
 have len:es.size=kl.length:=by rw [← Array.length_toList,pm.length_eq,n5_]
 have fit:t.fits es.size=true:=STb.fits_of sz tw.dum (by rcases msk with e|e|e<;>rw [e] at h2 ⊢<;>omega);obtain ⟨g1,g2,g3,g4⟩:=Zu7 (by omega) msk full h2;have z:(es.map (·.1)).size=es.size:=by simp
 obtain ⟨t',order,e,r1,r2,r3,r4,r5⟩:=STb.relaid_perm (t:=t) (hs:=es.map (·.1)) (wanted:=SetTable.grown es.size) rfl g1 (by rw [z];exact g2);rw [z] at r3 r5;have os:order.size=es.size:=by rw [← Array.length_toList,r5.length_eq,n69_]
 have ok:∀ k∈order.toList,k<es.size:=fun k hk=>n24_.mp (r5.mem_iff.mp hk);have p1:=(STb.pick_size os ok).1;have U:IsU bt kl (order.filterMap (es[·]?)) t':=⟨(Zd4 r5).trans pm,nd,⟨STb.TW.laid tw.led e,by rw [r4,pln],by rw [r1];exact g1,by rw [r3,p1],by rw [r1,p1];exact g3⟩,STb.relaid_reach g1 g2 e ok⟩;unfold setRelay;refine n0_ (wpAny_setState_of get dat fit ?_);dsimp only;rw [if_neg g4];rw [e];have hb:((order.filterMap (es[·]?)).size != es.size)=false:=by rw [p1];simp
 refine n0_ ?_
 have red:wpAny (model P w) A (if ((order.filterMap (es[·]?)).size != es.size)=true then (unsupported "internal:set-table-lost-an-element" : Sem (Array (Int×Value)×SetTable)) else pure (order.filterMap (es[·]?),t')) (fun r s'=>wpAny (model P w) A (storeSet S r.1 r.2) Q E s') E s:=by
  rw [hb,if_neg (by decide)];refine n4_ ?_;exact wpAny_storeSet_of get dat (q _ (Heap.SameBut.update ..) ⟨_,_,_,_,Zeq _ _ get dat,ex,rfl,U⟩) (by rw [p1,sizeLine_eq];omega)
 first
  | exact red
  | (refine n0_ ?_;exact red)
  | trace_state
theorem Ze1 {k:List Int} {Q:Bool→Shared→Prop} (hu:A.units<cLine) (hS:SetU bt s.heap S kl) (hkl:∀ x∈kl,IsTupleKey (PySem.intKind P w) s.heap x.2 x.1) (hk:IsTupleKey (PySem.intKind P w) s.heap k a) (hl:kl.length<60)
 (q:∀ b h',Heap.SameBut S s.heap h'→SetU bt h' S (addU kl (a,k))→Q b { s with heap:=h' }):wpAny (model P w) A (setAddHashed S (.ref a) (Xq k)) Q E s:=by
 obtain ⟨o,es,ep,t,get,ex,dat,U⟩:=hS;unfold setAddHashed setAddHashedIn;refine n30_ (n0_ (wpAny_setState_of get dat U.tw.fits ?_));dsimp only;rw [show byScan (.ref a) es=false from rfl];simp only [n15_,if_false];have few:=U.tw.few;have len:=U.len;have lt:t.place.size<t.mask+1:=by rw [U.tw.sz];omega
 refine n0_ (Ztp hu get dat U hkl hk (fun c=>?_) (fun c j hj rj=>?_) (10*(t.mask+13)) 100000 0 none (by rcases U.tw.msk with e|e|e<;>rw [e]<;>decide) (by unfold SetTable.turns;omega) (by unfold SetTable.turns;omega) rfl (fun m' hm=>by omega) (STb.near_start U.tw.msk U.tw.tw.dum lt))
 · dsimp only;refine n4_ ?_
   have:=q false s.heap (Heap.SameBut.refl S s.heap) ⟨o,es,ep,t,get,ex,dat,by rw [addU,if_pos c];exact U⟩
   have e:s={ s with heap:=s.heap }:=by cases s;rfl
   rw [e];exact this
 dsimp only;refine n0_ (wpAny_setState_of get dat U.tw.fits ?_);dsimp only;obtain ⟨u1,u2,u3⟩:=Zhn t j;have tw1:=U.tw.tw.put hj;have re1:=U.re.put (x:=Value.ref a) U.tw.tw.ris U.tw.sz rj;have pl1:(t.put j).1.plain=true:=U.tw.pl;generalize hput:t.put j=tp at u1 u2 u3 tw1 re1 pl1;obtain ⟨t1,p⟩:=tp;dsimp only at u1 u2 u3 tw1 re1 pl1 ⊢;have sz1:(SetTable.insertAt es p (Xq k,Value.ref a)).size=es.size+1:=STb.insertAt_size _ _ _
 have pm1:(SetTable.insertAt es p (Xq k,Value.ref a)).toList.Perm ((kl++[(a,k)]).map entU):=by
  rw [STb.insertAt_list,n48_];refine (List.perm_middle).trans ?_;rw [List.take_append_drop];exact (List.perm_append_singleton _ _).symm.trans (U.pm.append_right _)
 have nd1:((kl++[(a,k)]).map (·.2)).Nodup:=by
  rw [n48_,n66_];exact ⟨U.nd,by simp,fun x hx y hy=>by rw [show y=k by simpa using hy];exact fun z=>c (z ▸ hx)⟩
 have ea:addU kl (a,k)=kl++[(a,k)]:=by rw [addU,if_neg c]
 rw [ea] at q;rw [pl1];simp only [if_true];refine n0_ (Zjo hk ?_);simp only [if_true]
 have full:t1.tooFull=decide ((es.size+1)*5 ≥ t.mask*3):=by
  unfold SetTable.tooFull SetTable.fill;rw [u1,u3,tw1.dum,U.tw.sz];rfl
 refine n0_ (wpAny_storeSet_of get dat ?_ (by rw [sz1,sizeLine_eq,len];omega));have hg:=Zeq (SetTable.insertAt es p (Xq k,Value.ref a)) t1 get dat;have sb:=Heap.SameBut.update s.heap S (Obj.putSet (SetTable.insertAt es p (Xq k,Value.ref a)) t1)
 by_cases hf:(es.size+1)*5 ≥ t.mask*3
 · rw [full,n29_ hf];simp only [Bool.not_false,Bool.true_and,if_true];rw [show es.size+1=(SetTable.insertAt es p (Xq k,Value.ref a)).size from sz1.symm];refine n0_ (Zux (s:={ s with heap:=s.heap.update S (Obj.putSet (SetTable.insertAt es p (Xq k,Value.ref a)) t1) }) hg ex rfl pm1 nd1 tw1 pl1 (by rw [u1,sz1,U.tw.sz]) (by rw [u3];exact U.tw.msk) (by simp;omega) (by rw [sz1,u3];exact hf) (by rw [sz1,u3];simpa using few) fun h' r1 r2=>?_);exact n4_ (q _ h' (sb.trans r1) r2)
 · rw [full,n33_ hf];simp only [Bool.not_false,Bool.true_and,n15_,if_false];exact n4_ (q _ _ sb ⟨_,_,_,_,hg,ex,rfl,pm1,nd1,⟨tw1,pl1,by rw [u3];exact U.tw.msk,by rw [u1,sz1,U.tw.sz],by rw [sz1,u3];omega⟩,re1⟩)
theorem Zrz
 (h:∀ o0,SetU (Yr w) (s.heap.push o0) s.z []→Q (.ref s.z) { s with heap:=s.heap.push o0 }):wpAny (model P w) A (newSet (.type "set")) Q E s:=by
 unfold newSet setsByText;refine n0_ (n0_ (wpAny_askSetting (n4_ ?_)));dsimp only;simp only [newObj];exact n0_ (wpAny_alloc (n4_ (h _ ⟨_,#[],0,_,n8_ _ rfl,⟨rfl,rfl,rfl⟩,rfl,.refl _,.nil,STb.TP.fresh _,fun i e j he=>by simp at he⟩)))
end
def metI (ns:List Int):List Int:=ns.foldl addI []
theorem Zoi (ns:List Int) (k:Int):metI (ns++[k])=addI (metI ns) k:=by unfold metI;rw [List.foldl_append];rfl
theorem Zqg {k x:Int}:x∈addI ks k↔x∈ks∨x=k:=by
 unfold addI;split
 · exact ⟨.inl,fun h=>h.elim id fun e=>by rw [e];assumption⟩
 · simp
theorem Zqd (ks:List Int) (k:Int):(addI ks k).length≤ks.length+1:=by
 unfold addI;split
 · omega
 · simp
theorem Zts {k:Int} (h:ks.Nodup):(addI ks k).Nodup:=by
 unfold addI;split
 · exact h
 · rename_i hk
   rw [n66_];exact ⟨h,by simp,fun a ha b hb=>by rw [n22_.mp hb];exact fun z=>hk (z ▸ ha)⟩
theorem Zj3:∀ (ns ks:List Int) (x:Int),x∈ns.foldl addI ks↔x∈ks∨x∈ns
 | [],ks,x=>by simp
 | n :: ns,ks,x=>by
   rw [n67_,Zj3 ns,Zqg,n12_];constructor
   · rintro ((h|h)|h)
     · exact .inl h
     · exact .inr (.inl h)
     · exact .inr (.inr h)
   · rintro (h|h|h)
     · exact .inl (.inl h)
     · exact .inl (.inr h)
     · exact .inr h
theorem Zpi {x:Int}:x∈metI ns↔x∈ns:=by rw [metI,Zj3];simp
theorem Zmr:∀ (ns ks:List Int),ks.Nodup→(ns.foldl addI ks).Nodup
 | [],ks,h=>h
 | n :: ns,ks,h=>Zmr ns _ (Zts h)
theorem Zsb (ns:List Int):(metI ns).Nodup:=Zmr ns [] .nil
theorem Zkz:∀ (ns ks:List Int),(ns.foldl addI ks).length≤ks.length+ns.length
 | [],ks=>by simp
 | n :: ns,ks=>by
   have:=Zkz ns (addI ks n)
   have:=Zqd ks n
   rw [n67_,n26_];omega
theorem Zgg (ns:List Int):(metI ns).length≤ns.length:=by have:=Zkz ns [];simpa [metI] using this
section
variable {P:Program} {w:World} {bt:Bool} {A:Around} {E:Value→Shared→Prop} {s:Shared}
end
section
variable {P:Program} {w:World} {bt:Bool} {A:Around} {R:Result→Shared→Prop} {I:Addr} {fp wr:List Addr} {G:Array GenState→Array GenState→Prop} {St:Nat→Shared→Prop}
theorem Zgv {Pv:Nat→Value→Prop} (W:WalksS P w A.in1 I fp wr G ns.length Pv St) (S:Addr) (hSf:S∉fp) (hval:∀ i v,i<ns.length→Pv i v→∃ t,v=.int (ns.getD i 0) t) (hb:ns.length≤30) :
 ∀ (k i:Nat) (s:Shared),ns.length-i=k→i≤ns.length→St i s→SetI bt s.heap S (metI (ns.take i)) →
   (∀ s',Moved (S :: wr) G s s'→SetI bt s'.heap S (metI ns)→R (.ok (.ret .none)) s') →
   codeAny (model P w) A (.builtin "set.update.loop" ⟨[.ref S,.ref I],[]⟩) R s:=by
 have hSw:S∉wr:=fun h=>hSf (W.sub _ h);have hsub:∀ b∈wr,b∈S :: wr:=fun b hb=>n19_ _ hb;intro k
 induction k with
 | zero =>
   intro i s hk hi hst hS hR;obtain rfl:i=ns.length:=by omega
   rw [List.take_length] at hS;refine codeAny_builtin F.entry_set_update_loop ?_;rw [Around.under_plainId F.plain_set_update_loop _];show wpAny _ A.in1 (pyNext (.ref I) >>= _) _ _ s
   refine n0_ (W.done s _ _ hst fun s' hm=>?_);show wpAny _ A.in1 (ret Value.none) _ _ s'
   exact n4_ (hR s' (hm.mono hsub) (SetI.stay _ _ hS fun o e=>hm.heap S o hSw e))
 | succ k ih =>
   intro i s hk hi hst hS hR;have hlt:i<ns.length:=by omega
   refine codeAny_builtin F.entry_set_update_loop ?_;rw [Around.under_plainId F.plain_set_update_loop _];show wpAny _ A.in1 (pyNext (.ref I) >>= _) _ _ s
   refine n0_ (W.item i s _ _ hlt hst fun v s' hP hst' hm=>?_);obtain ⟨t,rfl⟩:=hval i v hlt hP;have hS':=SetI.stay _ s'.heap hS fun o e=>hm.heap S o hSw e;show wpAny _ A.in1 (holding [Value.int (ns.getD i 0) t] (setAdd S (.int (ns.getD i 0) t)) >>= _) _ _ s'
   refine n0_ (n30_ ?_);unfold setAdd;refine n30_ ?_;refine n0_ ((intKind P w).pyHash (k:=ns.getD i 0) (intKind_is _ _ _ _) ?_)
   have hroom:(metI (ns.take i)).length<30:=by
    have:=Zgg (ns.take i)
    rw [n65_] at this;omega
   refine Zlm (s:={ s' with toks:=s'.toks+1 }) hS' hroom fun bb h' hsb hS2=>?_
   have et:ns.take (i+1)=ns.take i++[ns.getD i 0]:=by
    rw [n80_ hlt,n2_,n1_ hlt];rfl
   rw [← Zoi,← et] at hS2;refine n4_ ⟨plainId_quiet F.plain_set_update_loop _,ih (i+1) _ (by omega) hlt (W.frame _ s' _ _ hst' (Nat.le_succ _) fun b hb o e=>?_) hS2 fun s'' hm'' hS''=>?_⟩
   · rw [hsb.2 b (fun h:b=S=>hSf (by rw [← h];exact hb))];exact e
   · refine hR s'' (Moved.trans W.gtrans ((hm.mono hsub).then_heap (Nat.le_succ _) fun b o hb e=>?_) hm'') hS'';rw [hsb.2 b (fun h:b=S=>hb (by rw [h];exact n27_))];exact e
end
abbrev set0 (w:World):Obj:={ cls:=.type "set",dict:=none,data:=.set #[] 0 (.fresh 0 0 (!Yr w)) }
theorem Zvq (e:h.get? a=some (set0 w)):SetI (Yr w) h a [] :=
 ⟨_,#[],0,_,e,⟨rfl,rfl,rfl⟩,rfl,by decide,fun e he=>by simp at he,⟨[],.nil,.refl _⟩,.nil,STb.TP.fresh _⟩
section
variable {P:Program} {w:World} {A:Around} {E:Value→Shared→Prop} {s:Shared}
theorem Zka (a:Value) {Q₁:Value→Shared→Prop} (h:Q₁ (.ref s.z) { s with heap:=s.heap.push (set0 w) }) :
 codeAny (model P w) A (.call (.builtin "set.__new__") ⟨[.type "set",a],[]⟩) (wants Q₁ E) s:=by
 refine codeAny_of_tree ?_;show wpAny _ A.in1 (do checkBuiltinCall "set.__new__" ⟨[.type "set",a],[]⟩;again (.builtin "set.__new__" ⟨[.type "set",a],[]⟩)) _ _ s
 refine n0_ (wpAny_of_eq (F.newCall_set_1 a) (n4_ ⟨plainId_quiet F.plain_set_new _,codeAny_builtin F.entry_set_new ?_⟩));rw [Around.under_plainId F.plain_set_new _];unfold Builtin.«set.__new__» Builtin.Frozenset.newClass;have hsub:=sub_set_self;obtain ⟨hp,g,d,tk,os⟩:=s;dsimp only
 wp_walk
 refine wpAny_askSetting (n4_ ?_);dsimp only;simp only [newObj];refine n0_ (wpAny_alloc (n4_ ?_));exact n4_ h
set_option maxHeartbeats 3200000 in
theorem Zmi
 (hh:A.handled=none) (hl:s.heap.IsList l items) (hi:IntsAre items.toList ns) (hb:items.size≤30)
 (h:∀ (h':Heap) (tk:Nat),SetI (Yr w) h' s.z (metI ns)→(∀ b o,b<s.z→s.heap.get? b=some o→h'.get? b=some o)→Q (.ref s.z) { s with heap:=h',toks:=tk }) :
 wpAny (model P w) A (call (.type "set") [.ref l]) Q E s:=by
 obtain ⟨c,tl,hmro⟩:=F.called_set.mro;have hmade:=F.called_set.made;have hsub:=F.called_set.sub;have hlen:items.size=ns.length:=by have:=Zc0 hi;rwa [Array.length_toList] at this
 refine wpAny_call (codeAny_of_tree ?_);show wpAny _ _ (callAny (.type "set") _) _ _ _
 refine n4_ ⟨Code.quiet_builtin _ (by decide +kernel),codeAny_builtin F.entry_type_call ?_⟩;rw [Around.under_plain (weight_type_call_type "set" [.ref l] []) rfl];have h1:=F.called_set.notType;have h2:=F.called_set.canCreate;have hct:=F.typeCall_set_1 (.ref l)
 repeat (any_goals (first|assumption|wp_step))
 refine codeAny_mono (Zka (.ref l) (E:=E) (Q₁:=fun obj s₁=>obj=.ref s.z∧s₁={ s with heap:=s.heap.push (set0 w) }) ⟨rfl,rfl⟩) fun r s₁ hr=>?_;cases r with
 | error e=>exact hr
 | ok fl =>
   cases fl with
   | ret obj =>
     obtain ⟨rfl,rfl⟩:=hr;have hS:(s.heap.push (set0 w)).get? s.z=some (set0 w):=n8_ _ rfl;have hT:Shared.TypeIs { s with heap:=s.heap.push (set0 w) } (.ref s.z) "set" := ⟨_,hS,rfl⟩;have hli:=F.called_set.init.lookup;have hbi:=F.called_set.init.bind (.ref s.z)
     repeat (any_goals (first|assumption|wp_step))
     refine codeAny_mono (codeAny_call_builtin (R:=wants (fun r s₂=>r=.none∧∃ h' tk,s₂={ s with heap:=h',toks:=tk }∧SetI (Yr w) h' s.z (metI ns)∧(∀ b o,b<s.z→s.heap.get? b=some o→h'.get? b=some o)) E) F.called_set.init.plain F.entry_set_init (check_set_init_1 hT ?_)) fun r₂ s₂ hr₂=>?_
     · obtain ⟨ol,hol,hcl,nl,hdl⟩:=hl;obtain ⟨ocls,odict,odata,oslots⟩:=ol;simp only at hcl hdl;subst hcl;subst hdl;have hol':(s.heap.push (set0 w)).get? l=some { cls:=.type "list",dict:=odict,data:=.seq items nl,slots:=oslots }:=n3_ _ hol;have hsls:=F.sub_list_set;have hslf:=F.sub_list_frozenset;have hne:(Value.type "list" == Value.type "dict")=false:=by decide
       have hl1:(s.heap.push (set0 w)).IsList l items:=⟨_,hol',rfl,nl,rfl⟩;unfold Builtin.«set.__init__» noKeywords Builtin.Frozenset.updateFrom;generalize hPI:pyIter=PI
       wp_walk
       subst hPI;refine wpAny_pyIter_list hl1 ?_;refine n0_ (wpAny_runValue ?_);have hlS:l<s.z:=n11_ hol;have hh3:A.in1.in1.in1.handled=none:=by simp [hh]
       have hneI:l≠(s.heap.push (set0 w)).objs.size:=by
        rw [n36_];exact n17_ (n38_ hlS)
       have hSf:s.z∉[(s.heap.push (set0 w)).objs.size,l]:=by
        rw [n36_];simp only [n12_,n22_,n16_,or_false,not_or];exact ⟨n17_ (n68_ _),n60_ hlS⟩
       have hval:∀ (i:Nat) (v:Value),i<ns.length→items[i]? = some v→∃ t,v=.int (ns.getD i 0) t:=fun i v _ hv=>IntsAre.int_at hi i v (by rw [Array.getElem?_toList];exact hv);have hW:=(Walks.list (prog:=P) (w:=w) hh3 _ l hneI items).toS;rw [hlen] at hW;refine Zgv hW s.z hSf hval (by omega) (ns.length-0) 0 _ rfl (n55_ _) ⟨⟨_,n8_ _ rfl,rfl,rfl⟩,(hl1.push _)⟩ (Zvq (n3_ _ hS)) ?hR
       case hR =>
        intro s' hm hS';obtain ⟨h',g',d',tk',os'⟩:=s';have eg:g'=s.gens:=hm.gens;have ed:d'=s.drawn:=hm.drawn;have eo:os'=s.os:=hm.os;subst eg;subst ed;subst eo;show wpAny _ _ _ _ _ _
        refine n4_ ?_;show wpAny _ _ (ret Value.none) _ _ _
        refine n4_ ⟨rfl,h',tk',rfl,hS',fun b o hb e=>?_⟩;have hb1:b≠s.z:=n17_ hb
        have hb2:b≠(s.heap.push (set0 w)).objs.size:=by
         rw [n36_];exact n17_ (n38_ hb)
        exact hm.heap b o (by simp only [n12_,n22_,n16_,or_false,not_or];exact ⟨hb1,hb2⟩) (n3_ _ (n3_ _ e))
     · cases r₂ with
       | error e=>exact hr₂
       | ok fl₂ =>
         cases fl₂ with
         | ret r =>
           obtain ⟨rfl,h',tk,rfl,hS',hk'⟩:=hr₂
           repeat (any_goals (first|assumption|wp_step))
           exact h _ _ hS' hk'
         | _=>exact hr₂.elim
   | _=>exact hr.elim
end
theorem Zm8 (hc:X.calm=true):Yy X (.type "set") (fun xs H Q=>∃ (p:Addr) (ns:List Int),xs=[.ref p]∧SqL X.K H p (ns.map V.int)∧ns.length≤30∧∀ S,H S=none→Q (.ref S) (upd H S (setI (Yr X.w) S (metI ns)))):=by
 intro pins s σ H xs us Q I r h;obtain ⟨p,ns,rfl,hq,hb,q⟩:=h;cases r with
 | cons rx r =>
   cases r
   cases (show _=Value.ref p from rx)
   obtain ⟨its,rv,pl,hz⟩:=I.list hq;have hlen:=rv.length;rw [n5_] at hlen;have ia:=Xj rv;refine Zmi (I.ok.hd hc) pl.isList (by simpa using ia) (by simp;omega) fun h' tk hS hk=>?_;exact ⟨.ref s.z,_,I.laid (o:=setI (Yr X.w) s.z (metI ns)) (t':=tk) (fun b o e=>hk b o (n11_ e) e) (n14_ _) (Ztl hS),rfl,q _ (I.hok.fresh (n14_ _))⟩
def metU (al:List (Addr×List Int)):List (Addr×List Int):=al.foldl addU []
theorem Zm4 (al:List (Addr×List Int)) (x:Addr×List Int):metU (al++[x])=addU (metU al) x:=by unfold metU;rw [List.foldl_append];rfl
theorem Zkt {x y:Addr×List Int} (h:y∈addU kl x):y∈kl∨y=x:=by
 unfold addU at h;split at h
 · exact .inl h
 · simpa using h
theorem Zht {x:Addr×List Int} {k:List Int}:k∈(addU kl x).map (·.2)↔k∈kl.map (·.2)∨k=x.2:=by
 unfold addU;split
 · rename_i c
   exact ⟨.inl,fun h=>h.elim id fun e=>e ▸ c⟩
 · rw [n48_,n34_];simp
theorem Zkf (kl:List (Addr×List Int)) (x:Addr×List Int):(addU kl x).length≤kl.length+1:=by
 unfold addU;split
 · omega
 · simp
theorem Zl4 {x:Addr×List Int} (h:(kl.map (·.2)).Nodup):((addU kl x).map (·.2)).Nodup:=by
 unfold addU;split
 · exact h
 · rename_i c
   rw [n48_,n66_];exact ⟨h,by simp,fun a ha b hb=>by rw [show b=x.2 by simpa using hb];exact fun z=>c (z ▸ ha)⟩
theorem Zru:∀ (al kl:List (Addr×List Int)),(∀ y∈al.foldl addU kl,y∈kl∨y∈al)∧(∀ k,k∈(al.foldl addU kl).map (·.2)↔k∈kl.map (·.2)∨k∈al.map (·.2))∧(al.foldl addU kl).length≤kl.length+al.length∧((kl.map (·.2)).Nodup→((al.foldl addU kl).map (·.2)).Nodup)
 | [],kl=>⟨fun y h=>.inl h,fun k=>by simp,by simp,id⟩
 | x :: al,kl=>by
   obtain ⟨a,b,c,d⟩:=Zru al (addU kl x);refine ⟨fun y h=>?_,fun k=>?_,?_,fun h=>d (Zl4 h)⟩
   · rcases a y h with h|h
     · rcases Zkt h with h|h
       · exact .inl h
       · exact .inr (by simp [h])
     · exact .inr (n19_ _ h)
   · rw [n67_,b k,Zht,n31_,n12_,or_assoc]
   · have:=Zkf kl x
     rw [n67_,n26_];omega
theorem Zpu {y:Addr×List Int} (h:y∈metU al):y∈al:=by rcases (Zru al []).1 y h with h|h<;>first|exact h|cases h
theorem Zo9 (al:List (Addr×List Int)):(metU al).length≤al.length:=by have:=(Zru al []).2.2.1;simpa [metU] using this
section
variable {P:Program} {w:World} {bt:Bool} {A:Around} {E:Value→Shared→Prop} {s:Shared}
theorem SetU.typeIs (h:SetU bt s.heap a kl):s.TypeIs (.ref a) "set" := by
 obtain ⟨o,es,ep,t,g,x,_⟩:=h;exact ⟨o,g,x.1⟩
theorem Zc5 {k:List Int} (t:IsTupleKey (PySem.intKind P w) h k a) (e:∀ o,h.get? a=some o→h'.get? a=some o):IsTupleKey (PySem.intKind P w) h' k a:=let ⟨o,items,n,g,r⟩:=t;⟨o,items,n,e _ g,r⟩
theorem Zs9 {k:List Int} (t:IsTupleKey (PySem.intKind P w) h k a) (hS:SetU bt h S kl):a≠S:=by
 rintro rfl
 obtain ⟨o,es,ep,tb,g,_,d,_⟩:=hS;obtain ⟨o',items,n,g',_,d',_⟩:=t;rw [g] at g';cases g';rw [d] at d';cases d'
theorem Zpy {k:List Int} (hu:A.units+8<cLine) (hS:SetU bt s.heap S kl) (hkl:∀ x∈kl,IsTupleKey (PySem.intKind P w) s.heap x.2 x.1) (hk:IsTupleKey (PySem.intKind P w) s.heap k a) (hl:kl.length<60)
 (h:∀ h' tk,Heap.SameBut S s.heap h'→SetU bt h' S (addU kl (a,k))→Q .none { s with heap:=h',toks:=tk }):wpAny (model P w) A (call (.builtin "set.add") [.ref S,.ref a]) Q E s:=by
 refine wpAny_call_entry F.slot_set_add hS.typeIs F.entry_set_add ?_ (F.args_set_add_2 _ _);unfold Builtin.«set.add» Builtin.Frozenset.oneOther;simp only [List.isEmpty_nil,bind_assoc];unfold Builtin.Frozenset.addrOf setAdd;refine n0_ (n4_ ?_)
 try dsimp only
 refine n0_ (n4_ ?_)
 try dsimp only
 refine n0_ ?_;refine n30_ ?_;refine n0_ (wpAny_pyHash_tuple (by simp;omega) hk ?_);refine Ze1 (s:={ s with toks:=s.toks+(k.length+1) }) (by simp;omega) hS hkl hk hl fun b h' hsb hS'=>?_;show wpAny _ _ (ret Value.none) _ _ _
 exact n4_ ⟨_,rfl,h h' _ hsb hS'⟩
end
section
variable {P:Program} {w:World} {bt:Bool} {A:Around} {R:Result→Shared→Prop} {I:Addr} {fp wr:List Addr} {G:Array GenState→Array GenState→Prop} {St:Nat→Shared→Prop}
theorem Zid {Pv:Nat→Value→Prop} (hu:A.in1.units+4<cLine) (W:WalksS P w A.in1 I fp wr G al.length Pv St) (S:Addr) (hSf:S∉fp) (hval:∀ i v,i<al.length→Pv i v→∃ x,al[i]? = some x∧v=.ref x.1) (hb:al.length≤60) :
 ∀ (k i:Nat) (s:Shared),al.length-i=k→i≤al.length→St i s→(∀ x∈al,x.1∉wr∧IsTupleKey (PySem.intKind P w) s.heap x.2 x.1)→SetU bt s.heap S (metU (al.take i)) →
   (∀ s',Moved (S :: wr) G s s'→SetU bt s'.heap S (metU al)→R (.ok (.ret .none)) s') →
   codeAny (model P w) A (.builtin "set.update.loop" ⟨[.ref S,.ref I],[]⟩) R s:=by
 have hSw:S∉wr:=fun h=>hSf (W.sub _ h);have hsub:∀ b∈wr,b∈S :: wr:=fun b hb=>n19_ _ hb;intro k
 induction k with
 | zero =>
   intro i s hk hi hst hal hS hR;obtain rfl:i=al.length:=by omega
   rw [List.take_length] at hS;refine codeAny_builtin F.entry_set_update_loop ?_;rw [Around.under_plainId F.plain_set_update_loop _];show wpAny _ A.in1 (pyNext (.ref I) >>= _) _ _ s
   refine n0_ (W.done s _ _ hst fun s' hm=>?_);show wpAny _ A.in1 (ret Value.none) _ _ s'
   exact n4_ (hR s' (hm.mono hsub) (SetU.stay _ _ hS fun o e=>hm.heap S o hSw e))
 | succ k ih =>
   intro i s hk hi hst hal hS hR;have hlt:i<al.length:=by omega
   refine codeAny_builtin F.entry_set_update_loop ?_;rw [Around.under_plainId F.plain_set_update_loop _];show wpAny _ A.in1 (pyNext (.ref I) >>= _) _ _ s
   refine n0_ (W.item i s _ _ hlt hst fun v s' hP hst' hm=>?_);obtain ⟨x,hx,rfl⟩:=hval i v hlt hP;have hal':∀ x∈al,x.1∉wr∧IsTupleKey (PySem.intKind P w) s'.heap x.2 x.1:=fun y hy=>⟨(hal y hy).1,Zc5 (hal y hy).2 fun o e=>hm.heap _ o (hal y hy).1 e⟩;have hS':=SetU.stay _ s'.heap hS fun o e=>hm.heap S o hSw e;show wpAny _ A.in1 (holding [Value.ref x.1] (setAdd S (.ref x.1)) >>= _) _ _ s'
   refine n0_ (n30_ ?_);unfold setAdd;refine n30_ ?_;have hxm:=n7_ hx;refine n0_ (wpAny_pyHash_tuple (by omega) (hal' x hxm).2 ?_)
   have hroom:(metU (al.take i)).length<60:=by
    have:=Zo9 (al.take i)
    rw [n65_] at this;omega
   refine Ze1 (s:={ s' with toks:=s'.toks+(x.2.length+1) }) (by omega) hS' (fun y hy=>(hal' y (List.mem_of_mem_take (Zpu hy))).2) (hal' x hxm).2 hroom fun bb h' hsb hS2=>?_
   have et:al.take (i+1)=al.take i++[x]:=by
    rw [n80_ hlt];rw [n1_ hlt] at hx;rw [Option.some.inj hx]
   rw [← Zm4,← et] at hS2;refine n4_ ⟨plainId_quiet F.plain_set_update_loop _,ih (i+1) _ (by omega) hlt (W.frame _ s' _ _ hst' (Nat.le_add_right _ _) fun b hb o e=>?_) (fun y hy=>⟨(hal y hy).1,Zc5 (hal' y hy).2 fun o e=>(hsb.2 _ (Zs9 (hal' y hy).2 hS')).trans e⟩) hS2 fun s'' hm'' hS''=>?_⟩
   · rw [hsb.2 b (fun h:b=S=>hSf (by rw [← h];exact hb))];exact e
   · refine hR s'' (Moved.trans W.gtrans ((hm.mono hsub).then_heap (Nat.le_add_right _ _) fun b o hb e=>?_) hm'') hS'';rw [hsb.2 b (fun h:b=S=>hb (by rw [h];exact n27_))];exact e
end
section
variable {P:Program} {w:World} {A:Around} {E:Value→Shared→Prop} {s:Shared}
theorem Ztw (e:h.get? a=some (set0 w)):SetU (Yr w) h a [] :=
 ⟨_,#[],0,_,e,⟨rfl,rfl,rfl⟩,rfl,.refl _,.nil,STb.TP.fresh _,fun i e j he=>by simp at he⟩
set_option maxHeartbeats 3200000
theorem Zpo {T:String} {it0:Obj} {St:Addr→Nat→Heap→Prop}
 (hh:A.handled=none) (hu:A.units+12<cLine) (hl:s.TypeIs (.ref l) T) (hsls:isSubtype (.type T) (.type "set")=pure false) (hslf:isSubtype (.type T) (.type "frozenset")=pure false) (hne:(Value.type T == Value.type "dict")=false)
 (iter:∀ (A:Around) (s1:Shared) (Q:Value→Shared→Prop) (E:Value→Shared→Prop),(∀ o,s.heap.get? l=some o→s1.heap.get? l=some o)→Q (.ref s1.z) { s1 with heap:=s1.heap.push it0 }→wpAny (model P w) A (pyIter (.ref l)) Q E s1) (hf:it0.isFreed=false)
 (W:∀ (A:Around) (I:Addr),A.handled=none→l≠I→Walks P w A I [I,l] [I] al.length (fun i v=>items[i]? = some v) (St I))
 (st0:∀ (h:Heap) (I:Addr),h.get? I=some it0→(∀ o,s.heap.get? l=some o→h.get? l=some o)→St I 0 h) (hi:items.toList=al.map fun x=>Value.ref x.1) (hal:∀ x∈al,IsTupleKey (PySem.intKind P w) s.heap x.2 x.1) (hb:al.length≤60)
 (h:∀ (h':Heap) (tk:Nat),SetU (Yr w) h' s.z (metU al)→(∀ b o,b<s.z→s.heap.get? b=some o→h'.get? b=some o)→Q (.ref s.z) { s with heap:=h',toks:=tk }) :
 wpAny (model P w) A (call (.type "set") [.ref l]) Q E s:=by
 obtain ⟨c,tl,hmro⟩:=F.called_set.mro;have hmade:=F.called_set.made;have hsub:=F.called_set.sub;have hlen:items.size=al.length:=by rw [← Array.length_toList,hi,n5_]
 refine wpAny_call (codeAny_of_tree ?_);show wpAny _ _ (callAny (.type "set") _) _ _ _
 refine n4_ ⟨Code.quiet_builtin _ (by decide +kernel),codeAny_builtin F.entry_type_call ?_⟩;rw [Around.under_plain (weight_type_call_type "set" [.ref l] []) rfl];have h1:=F.called_set.notType;have h2:=F.called_set.canCreate;have hct:=F.typeCall_set_1 (.ref l)
 repeat (any_goals (first|assumption|wp_step))
 refine codeAny_mono (Zka (.ref l) (E:=E) (Q₁:=fun obj s₁=>obj=.ref s.z∧s₁={ s with heap:=s.heap.push (set0 w) }) ⟨rfl,rfl⟩) fun r s₁ hr=>?_;cases r with
 | error e=>exact hr
 | ok fl =>
   cases fl with
   | ret obj =>
     obtain ⟨rfl,rfl⟩:=hr;have hS:(s.heap.push (set0 w)).get? s.z=some (set0 w):=n8_ _ rfl;have hT:Shared.TypeIs { s with heap:=s.heap.push (set0 w) } (.ref s.z) "set" := ⟨_,hS,rfl⟩;have hli:=F.called_set.init.lookup;have hbi:=F.called_set.init.bind (.ref s.z)
     repeat (any_goals (first|assumption|wp_step))
     refine codeAny_mono (codeAny_call_builtin (R:=wants (fun r s₂=>r=.none∧∃ h' tk,s₂={ s with heap:=h',toks:=tk }∧SetU (Yr w) h' s.z (metU al)∧(∀ b o,b<s.z→s.heap.get? b=some o→h'.get? b=some o)) E) F.called_set.init.plain F.entry_set_init (check_set_init_1 hT ?_)) fun r₂ s₂ hr₂=>?_
     · obtain ⟨⟨ocls,odict,odata,oslots⟩,hol,hcl⟩:=hl;simp only at hcl;subst hcl;have hol':(s.heap.push (set0 w)).get? l=some { cls:=.type T,dict:=odict,data:=odata,slots:=oslots }:=n3_ _ hol;unfold Builtin.«set.__init__» noKeywords Builtin.Frozenset.updateFrom;generalize hPI:pyIter=PI
       wp_walk
       subst hPI;refine iter _ _ _ _ (fun o e=>n3_ _ e) ?_;refine n0_ (wpAny_runValue ?_);have hlS:l<s.z:=n11_ hol;have hh3:A.in1.in1.in1.handled=none:=by simp [hh]
       have hneI:l≠(s.heap.push (set0 w)).objs.size:=by
        rw [n36_];exact n17_ (n38_ hlS)
       have hSf:s.z∉[(s.heap.push (set0 w)).objs.size,l]:=by
        rw [n36_];simp only [n12_,n22_,n16_,or_false,not_or];exact ⟨n17_ (n68_ _),n60_ hlS⟩
       have hval:∀ (i:Nat) (v:Value),i<al.length→items[i]? = some v→∃ x,al[i]? = some x∧v=.ref x.1:=fun i v _ hv=>by
        rw [← Array.getElem?_toList,hi,n6_] at hv;cases q:al[i]? with
        | none=>rw [q] at hv;cases hv
        | some x=>rw [q] at hv;exact ⟨x,rfl,(Option.some.inj hv).symm⟩
       have hW:=(W _ (s.heap.push (set0 w)).objs.size hh3 hneI).toS;have hal1:∀ x∈al,x.1<s.z:=fun x hx=>let ⟨o,_,_,g,_⟩:=hal x hx;n11_ g;refine Zid (by simp;omega) hW s.z hSf hval (by omega) (al.length-0) 0 _ rfl (n55_ _) (st0 _ _ (n8_ _ hf) fun o e=>n3_ _ (n3_ _ e)) (fun x hx=>⟨?_,Zc5 (hal x hx) fun o e=>n3_ _ (n3_ _ e)⟩) (Ztw (n3_ _ hS)) ?hR
       · rw [n36_]
         have:=hal1 x hx
         simp only [n12_,n16_,or_false];exact n17_ (n38_ this)
       case hR =>
        intro s' hm hS';obtain ⟨h',g',d',tk',os'⟩:=s';have eg:g'=s.gens:=hm.gens;have ed:d'=s.drawn:=hm.drawn;have eo:os'=s.os:=hm.os;subst eg;subst ed;subst eo;show wpAny _ _ _ _ _ _
        refine n4_ ?_;show wpAny _ _ (ret Value.none) _ _ _
        refine n4_ ⟨rfl,h',tk',rfl,hS',fun b o hb e=>?_⟩;have hb1:b≠s.z:=n17_ hb
        have hb2:b≠(s.heap.push (set0 w)).objs.size:=by
         rw [n36_];exact n17_ (n38_ hb)
        exact hm.heap b o (by simp only [n12_,n22_,n16_,or_false,not_or];exact ⟨hb1,hb2⟩) (n3_ _ (n3_ _ e))
     · cases r₂ with
       | error e=>exact hr₂
       | ok fl₂ =>
         cases fl₂ with
         | ret r =>
           obtain ⟨rfl,h',tk,rfl,hS',hk'⟩:=hr₂
           repeat (any_goals (first|assumption|wp_step))
           exact h _ _ hS' hk'
         | _=>exact hr₂.elim
   | _=>exact hr.elim
end
abbrev tpl (H:Hp) (x:Addr×List Int):Prop:=H x.1=some (.tup (x.2.map V.int))
theorem Ziw {k:List Int} (I:Inv X pins σ H s) (h:H a=some (.tup (k.map V.int))):IsTupleKey (PySem.intKind X.prog X.w) s.heap k a:=by
 obtain ⟨its2,rv2,⟨o2,g2,c2,n2,d2⟩,_⟩:=I.tuple (SqT.of h);exact ⟨o2,its2.toArray,n2,g2,c2,d2,by simpa using items_int rv2⟩
theorem Zp0 (rv:Vals (al.map fun x=>V.ref x.1) its):its=al.map fun x=>Value.ref x.1:=by
 generalize hv:(al.map fun x=>V.ref x.1)=vs at rv
 induction rv generalizing al with
 | nil=>cases al with|nil=>rfl|cons x al=>cases hv
 | cons r1 _ ih =>
   cases al with
   | nil=>cases hv
   | cons x al =>
     rw [n31_] at hv ⊢;have hv1:=(List.cons.inj hv).1;have hv2:=(List.cons.inj hv).2;subst hv1;cases (show _=Value.ref x.1 from r1)
     rw [ih hv2]
theorem Zv2:isSubtype (.type "tuple") (.type "set")=pure false:=by rw [isSubtype_type];kernel_rfl
theorem Zv7:isSubtype (.type "tuple") (.type "frozenset")=pure false:=by rw [isSubtype_type];kernel_rfl
def Zwp (sq:Hp→Addr→List V→Prop) (bt:Bool):List V→Hp→VK→Prop:=fun xs H Q=>∃ (p:Addr) (al:List (Addr×List Int)),xs=[.ref p]∧sq H p (al.map fun x=>V.ref x.1)∧(∀ x∈al,tpl H x)∧al.length≤60∧∀ S,H S=none→Q (.ref S) (upd H S (setU bt S (metU al)))
theorem Zox (hc:X.calm=true) (hr:Room j X.A):Yy X (.type "set") (Zwp (SqT X.K) (Yr X.w)):=by
 intro pins s σ H xs us Q I r h;obtain ⟨p,al,rfl,hq,ht,hb,q⟩:=h;cases r with
 | cons rx r =>
   cases r
   cases (show _=Value.ref p from rx)
   obtain ⟨its,rv,hl,hz⟩:=I.tuple hq;have eits:=Zp0 rv;subst eits;have hat:∀ {h:Heap},(∀ o,s.heap.get? p=some o→h.get? p=some o)→h.IsTuple p (al.map fun x=>Value.ref x.1).toArray:=fun k=>let ⟨o,e,c,n,d⟩:=hl;⟨o,k _ e,c,n,d⟩;have hn:(al.map fun x=>Value.ref x.1).toArray.size=al.length:=by simp
   refine Zpo (it0:={ cls:=.type "tuple_iterator",data:=.fields #[.ref p,.int 0 0] }) (St:=fun I i h=>h.IsTupleIter I p i∧h.IsTuple p (al.map fun x=>Value.ref x.1).toArray) (I.ok.hd hc) (by have:=hr.un;omega) hl.typeIs Zv2 Zv7 (by decide) (fun A s1 Q E k q=>wpAny_pyIter_tuple (hat k) q) rfl (fun A I' hh hne=>by rw [← hn];exact Walks.tuple hh I' p hne _) (fun h I' e k=>⟨⟨_,e,rfl,rfl⟩,hat k⟩) (by simp) (fun x hx=>Ziw I (ht x hx)) hb fun h' tk hS hk=>?_;exact ⟨.ref s.z,_,I.laid (o:=setU (Yr X.w) s.z (metU al)) (t':=tk) (fun b o e=>hk b o (n11_ e) e) (n14_ _) (Zjm hS),rfl,q _ (I.hok.fresh (n14_ _))⟩
theorem Zjy:∀ {al kl:List (Addr×List Int)},((kl++al).map (·.2)).Nodup→al.foldl addU kl=kl++al
 | [],kl,_=>by simp
 | x :: al,kl,h=>by
   have e:addU kl x=kl++[x]:=by
    unfold addU;rw [if_neg];rw [n48_,n66_] at h;exact fun z=>h.2.2 _ z _ (n39_ n27_) rfl
   rw [n67_,e,Zjy (by simpa using h)];simp
theorem Zgp (h:(al.map (·.2)).Nodup):metU al=al:=by unfold metU;rw [Zjy (by simpa using h)];rfl
theorem Zmg:Yy X (.builtin "len") (fun xs H Q=>∃ bt S kl,xs=[.ref S]∧H S=some (setU bt S kl)∧kl.length≤1000∧Q (.int kl.length) H):=by
 intro pins s σ H xs us Q I r h;obtain ⟨bt,S,kl,rfl,hS,hn,q⟩:=h;cases r with
 | cons rx r =>
   cases r
   cases (show _=Value.ref S from rx)
   obtain ⟨o,es,ep,t,e,ex,d,U⟩:=Zjh (I.hok _ _ hS);have hl:=Zds;have hz:sizeLine=16777216:=sizeLine_eq;have hn':=U.len;refine call_len_set e ex d U.tw.fits (by omega) ⟨.int kl.length,H,I.tok _,⟨_,by rw [hn']⟩,q⟩
abbrev sc1 (elt tg iter:Expr) (scope:Scope) (pos:Pos):Expr:=.SetComp elt [⟨tg,iter,[],0⟩] scope pos
theorem Zms {R:Result→Shared→Prop} {target:Expr} {it acc:Value} (I:Nat→Shared→Prop)
 (turn:∀ n s,I n s→Zk6 (model prog w) A target it env R (fun n s₂=>wpAny (model prog w) A (eval elt env) (fun x s₄ =>
   wpAny (model prog w) A (call (.builtin "set.add") [acc,x]) (fun _ s₅=>∃ m,m<n∧I m s₅) NoX s₄) NoX s₂) n s)
 (n:Nat) (h:I n s):codeAny (model prog w) A (.compLoop (sc1 elt target iter scope pos) 0 it acc env) R s:=by
 refine codeAny_loop rfl I (fun n s hI=>?_) n h;show wpAny _ A ((compTurn (sc1 elt target iter scope pos) 0 it acc env).onRaise (fun x=>do noteFrame x env;theTreesLotGoes x)) _ _ s
 refine wpAny_noted ?_
 rw [show compTurn (sc1 elt target iter scope pos) 0 it acc env=(do
  standAt iter.pos
  match ← pyNext it with
  | none=>pure (.done .next)
  | some v =>
    letOwnedTupleGo target it v
    assign target env v
    let mut ok:=true
    for c in ([]:List Expr) do
     if ok then ok ← isTrue c env (eval c env)
    if ok then
     (do let v ← eval elt env;standAt elt.pos;let _ ← call (.builtin "set.add") [acc,v])
    again (.compLoop (sc1 elt target iter scope pos) 0 it acc env)) from rfl]
 refine n0_ (wpAny_standAt (n0_ (n45_ (turn n s hI) (fun r s1 h1=>?_) fun _ _ h'=>h'.elim)));cases r with
 | none=>exact n4_ h1
 | some v =>
   refine n0_ (n45_ h1 (fun _ s2 h2=>n0_ (n45_ h2 (fun _ s3 h3=>n0_ (n4_ ?_)) fun _ _ h'=>h'.elim)) fun _ _ h'=>h'.elim);simp only [if_true];exact n0_ (n0_ (n45_ h3 (fun x s4 h4=>n0_ (wpAny_standAt (n0_ (n45_ h4 (fun _ s5 h5=>n4_ (n4_ ⟨rfl,h5⟩)) fun _ _ h'=>h'.elim)))) fun _ _ h'=>h'.elim))
theorem Zlf {it acc:Value} {R:Result→Shared→Prop} {s4:Shared} (h0:codeAny (model prog w) A (.compLoop (sc1 elt tg iter scope pos) 0 it acc env) R s4)
 (h:∀ E,wpAny (model prog w) A (pyIter it) (fun it' s'=>codeAny (model prog w) A (.compLoop (sc1 elt tg iter scope pos) 0 it' acc env) R s') E s4):codeAny (model prog w) A (.compStart (sc1 elt tg iter scope pos) 0 it acc env) R s4:=by
 refine codeAny_of_tree ?_;show wpAny _ _ ((compStart (sc1 elt tg iter scope pos) 0 it acc env).onRaise (fun x=>do noteFrame x env;standAt theWindowsPlace)) _ _ s4
 refine wpAny_notedAt ?_;unfold compStart;show wpAny _ _ (ask >>= _) _ _ s4
 refine n0_ (wpAny_askSetting (wpAny_ite ?_));split
 · first
    | exact n0_ (n4_ (n4_ (And.intro rfl h0)))
    | exact n4_ (And.intro rfl h0)
 · first
    | exact n0_ (wpAny_rule (n0_ (wpAny_standAt (n0_ (n45_ (h NoX) (fun it' s' h'=>n4_ (And.intro rfl h')) fun _ _ x=>x.elim)))))
    | (refine n0_ (wpAny_rule ?_);show wpAny _ _ (standAt _ >>= _) _ _ s4;exact n0_ (wpAny_standAt (n0_ (n45_ (h NoX) (fun it' s' h'=>n4_ (And.intro rfl h')) fun _ _ x=>x.elim))))
def SuGo (bt:Bool) (J:It) (g:TG) (te:TE) (σ0:St) (H1:Hp) (D:Addr) (Q:VK):Prop:=∃ W:Nat→Nat→St→Hp→Prop,(∃ m,W 0 m σ0 (upd H1 D (setU bt D []))) ∧
 ∀ i m σ2 H2,W i m σ2 H2→(J.stop i H2∧Q (.ref D) H2)∨(J.go i H2∧∀ x H3,J.yld i H2 x H3→g x σ2 H3 fun σ4 H5=>te σ4 H5 fun y H6=>∃ kl a k,H6 D=some (setU bt D kl)∧y=.ref a∧tpl H6 (a,k)∧(∀ x∈kl,tpl H6 x)∧kl.length<60 ∧
   ∃ m',m'<m∧W (i+1) m' σ4 (upd H6 D (setU bt D (addU kl (a,k)))))
def tSU (bt:Bool) (wi:TI) (g:TG) (te:TE) (fr:List (Option Nat)):TE:=fun σ H Q=>wi σ H fun J H1=>∀ D,H1 D=none→SuGo bt J g te (Zap fr σ) H1 D Q
theorem Ztz {g:TG}
 (hr:Room j X.A) (hc:X.calm=true) (L:LcO X scope cl N fr) (hi:PI X tg iter wi) (hg:∀ C s3 H3 fp,PG (blk X scope cl C N s3 H3 fp) tg g) (he:∀ C s3 H3 fp,PE (blk X scope cl C N s3 H3 fp) elt te)
 (hs:∀ x,foldedSetIterable iter X.env x=pure x:=by intro _;rfl):PE X (sc1 elt tg iter scope pos) (tSU (Yr X.w) wi g te fr):=by
 intro pins s σ H Q I h;rw [arm_eval_SetComp];dsimp only;refine wpAny_comprehension_free (use:=none) rfl hs L.clos L.kind L.names (thn (hi pins s σ H _ I h) fun v s1 h1=>thn h1 fun itv s2 h2=>?_);obtain ⟨it,fp,tn,J,H2,e,I2,T,st2,f2,h⟩:=h2;subst e;obtain ⟨W,⟨m0,w0⟩,turn⟩:=h s2.z (I2.hok.fresh (n14_ _));refine Zrz fun o0 setOf=>?_;refine Zc3 (ac:=setU (Yr X.w) s2.z []) rfl hc L hg I2 T st2 f2 (Zjm setOf) w0 turn (fun _ _ a b=>Zlf a b) (fun LI s4 t n h=>Zms LI t n h) (fun H7 s7 qn _ _ c=>Zit qn c) fun LI n i σ9 H9 s9 ps I9 q9 again=>?_;refine thn (he _ _ _ _ ps s9 σ9 H9 _ I9 q9) fun yu s10 ⟨y,H10,I10,r10,kl,a,k,hD,ey,hk,hkl,hl,m',hm,w11⟩=>?_;subst ey;cases (show yu=Value.ref a from r10)
 have hset:SetU (Yr X.w) s10.heap s2.z kl:=Zjh (I10.hok _ _ hD);refine Zpy (by have:=hr.un;show X.A.units+8<cLine;omega) hset (fun x hx=>by have:=Ziw I10 (hkl x hx);exact this) (by have:=Ziw I10 hk;exact this) hl fun h18 tk sb18 hset'=>?_;have I11:=I10.write (t':=tk) (e:=s2.z) (by rw [hD];trivial) (.inl rfl) (fun b o hb e=>(sb18.2 b hb).trans e) (by obtain ⟨o,_,_,_,e,_⟩:=hset';exact ⟨o,e⟩) (Zjm hset');exact again I11 hm w11
end L2
namespace L2
open PySem PySem.Spec PyProof.Rows PySem.W
theorem Zgc:∀ (a b:List Int),a≠b→HT.lexLt b a = !HT.lexLt a b
 | [],[],h=>absurd rfl h
 | [],_ :: _,_=>rfl
 | _ :: _,[],_=>rfl
 | x :: a,y :: b,hn=>by
   rw [HT.lexLt_cons,HT.lexLt_cons]
   by_cases e:x=y
   · subst e;rw [if_pos rfl,if_pos rfl];exact Zgc a b (fun z=>hn (by rw [z]))
   · rw [if_neg e,if_neg (Ne.symm e)]
     by_cases h:x<y
     · rw [n29_ h,n33_ (by omega)];rfl
     · rw [n33_ h,n29_ (by omega)];rfl
theorem Zfa:∀ (a b c:List Int),HT.lexLt a b=true→HT.lexLt b c=true→HT.lexLt a c=true
 | [],_,[],_,h=>by
   rename_i b _
   cases b<;>cases h
 | [],_,_ :: _,_,_=>rfl
 | _ :: _,[],_,h,_=>by cases h
 | _ :: _,_ :: _,[],_,h=>by cases h
 | x :: a,y :: b,z :: c,h3,h4=>by
   rw [HT.lexLt_cons] at h3 h4 ⊢
   by_cases e1:x=y
   · subst e1;rw [if_pos rfl] at h3
     by_cases e2:x=z
     · subst e2;rw [if_pos rfl] at h4 ⊢;exact Zfa a b c h3 h4
     · rw [if_neg e2] at h4 ⊢;exact h4
   · rw [if_neg e1] at h3;have l1:x<y:=n51_ h3
     by_cases e2:y=z
     · subst e2;rw [if_neg e1];exact h3
     · rw [if_neg e2] at h4;have l2:y<z:=n51_ h4;rw [if_neg (by omega)];exact n29_ (by omega)
variable {α:Type} {S:Addr} {X:Cx} {H:Hp} {al:List (Addr×List Int)} {pins:List (Addr×Obj)} {s:Shared} {σ:St}
theorem Zbe {β:Type} {f:α→β} {l m:List β} (p:l.Perm m):∀ (al:List α),m=al.map f→∃ bl:List α,l=bl.map f∧bl.Perm al:=by
 induction p with
 | nil=>intro al e;cases al with|nil=>exact ⟨[],rfl,.nil⟩|cons _ _=>cases e
 | cons x _ ih =>
   intro al e;cases al with
   | nil=>cases e
   | cons y al =>
     obtain ⟨bl,b1,b2⟩:=ih al (List.cons.inj e).2;exact ⟨y :: bl,by rw [n31_,← b1,← (List.cons.inj e).1],b2.cons y⟩
 | swap x y l =>
   intro al e;cases al with
   | nil=>cases e
   | cons u al =>
     cases al with
     | nil=>cases e
     | cons v al =>
       obtain ⟨e1,e2⟩:=List.cons.inj e;obtain ⟨e2,e3⟩:=List.cons.inj e2;exact ⟨v :: u :: al,by rw [e1,e2,e3];rfl,.swap ..⟩
 | trans _ _ ih1 ih2 =>
   intro al e;obtain ⟨bl,b1,b2⟩:=ih2 al e;obtain ⟨cl,c1,c2⟩:=ih1 bl b1;exact ⟨cl,c1,c2.trans b2⟩
abbrev lexA (al:List (Addr×List Int)) (i j:Nat):Bool:=HT.lexLt (al.getD i (0,[])).2 (al.getD j (0,[])).2
theorem Zqp (nd:(al.map (·.2)).Nodup):Ord al.length (lexA al):=by
 have e:∀ i (h:i<al.length),al.getD i (0,[])=al[i]:=fun i h=>by simp [n2_,h]
 refine ⟨fun i _=>Xy _,fun i j hi hj ne=>?_,fun i j k hi hj hk h1 h2=>Zfa _ _ _ h1 h2⟩;show HT.lexLt _ _ = !HT.lexLt _ _
 refine Zgc _ _ fun z=>ne ?_;rw [e i hi,e j hj] at z;exact (n53_ (h₀:=by simpa using hi) (h₁:=by simpa using hj) nd).mp (by simpa using z)
section
variable {P:Program} {w:World} {A:Around} {E:Value→Shared→Prop} {s:Shared} {S:Addr}
theorem Zh5 {b c:Bool} {Q:Bool→Shared→Prop}:∀ {ns ms:List Int} {us ws:List Value} (i:Nat),IntsAre us ns→IntsAre ws ms→c=decide (ns.length<ms.length)→Q (HT.lexLt ns ms) s→KatLex P w A b c Q (us.zip ws) i s
 | [],[],_,_,i,.nil,.nil,hl,h=>kat_nil (by rw [hl];exact h)
 | [],_ :: _,_,_,i,.nil,.cons _ _ _,hl,h=>kat_nil (by rw [hl];exact h)
 | _ :: _,[],_,_,i,.cons _ _ _,.nil,hl,h=>kat_nil (by rw [hl];exact h)
 | x :: ns,y :: ms,_,_,i,.cons _ t hu,.cons _ u hw,hl,h=>by
   refine kat_cons (wpAny_eqBool_int ?_);rw [HT.lexLt_cons] at h
   by_cases e:x=y
   · subst e;rw [if_pos rfl] at h;rw [beq_self_eq_true];exact kat_yes (Zh5 (i+1) hu hw (by rw [hl];simp) h)
   · rw [if_neg e] at h;rw [show (x == y)=false by simpa using e];exact kat_no (Zug h)
abbrev refs (al:List (Addr×List Int)):List V:=al.map fun x=>V.ref x.1
abbrev Zif (al:List (Addr×List Int)):Prop:=al.Pairwise fun x y=>HT.lexLt x.2 y.2=true
theorem Zhw:∀ (al:List (Addr×List Int)),Vals (refs al) (al.map fun x=>Value.ref x.1)
 | []=>.nil
 | x :: al=>.cons rfl (Zhw al)
end
theorem Zdj {Q:VK} (I:Inv X pins σ H s)
 (coll:∀ Q:List Value→Shared→Prop,(∀ h' tk,(∀ b o,s.heap.get? b=some o→h'.get? b=some o)→s.z≤h'.objs.size→Q (al.map fun x=>Value.ref x.1) { s with heap:=h',toks:=tk })→wpAny (model X.prog X.w) X.A.in1 (collect (.ref S)) Q (fun _ _=>False) s)
 (ht:∀ x∈al,tpl H x) (nd:(al.map (·.2)).Nodup) (hp:∀ x∈al,0<x.2.length) (h64:al.length<64)
 (q:∀ (l:Addr) (ql:List (Addr×List Int)),H l=none→ql.Perm al→Zif ql→Q (.ref l) (upd H l (.lst (refs ql)))) :
 wpAny (model X.prog X.w) X.A (call (.builtin "sorted") [.ref S]) (EP X pins σ Q) X.xe s:=by
 have o:=Zqp nd;have en:(al.map fun x=>Value.ref x.1).length=al.length:=by simp
 refine Zje (vs:=al.map fun x=>Value.ref x.1) (fun q=>q.Perm (List.range al.length)∧(q.map fun i=>al.getD i (0,[])).Pairwise (fun x y=>HT.lexLt x.2 y.2=true)) (fun h2=>?_) (by rw [en];exact h64) coll (fun h2 h1 tk k1=>?_) fun p' L h' tk e gp le keep he=>?_
 · rw [en] at h2 ⊢;refine ⟨.refl _,?_⟩
   have:al.length=0∨al.length=1:=by omega
   rcases this with e|e<;>rw [e]
   · exact .nil
   · exact .cons (by simp) .nil
 · have tup:∀ x∈al,∃ ob jt n,h1.get? x.1=some ob∧ob.cls=.type "tuple" ∧ ob.data=.seq jt n∧IntsAre jt.toList x.2:=fun x hx=>by
    obtain ⟨jt,rj,⟨ob,g,c,n,d⟩,_⟩:=I.tuple (SqT.of (ht x hx));exact ⟨ob,jt.toArray,n,k1 _ _ g,c,d,by simpa using Xj rj⟩
   have prd:∀ (l:List (Addr×List Int)),(∀ x∈l,x∈al)→Paired (fun v k=>∃ b o its n,v=Value.ref b∧h1.get? b=some o∧o.cls=.type "tuple" ∧ o.data=.seq its n∧IntsAre its.toList k∧0<k.length) (l.map fun x=>Value.ref x.1) (l.map (·.2)):=by
    intro l
    induction l with
    | nil=>intro _;exact .nil
    | cons x l ih =>
      intro hl;obtain ⟨ob,jt,n,a1,a2,a3,a4⟩:=tup x (hl x (by simp));exact .cons ⟨x.1,ob,jt,n,rfl,a1,a2,a3,a4,hp x (hl x (by simp))⟩ (ih fun y hy=>hl y (n19_ _ hy))
   obtain ⟨fs,f1,f2,f3⟩:=Zdw (prd al fun _ h=>h);refine kat_kind (T:=.type "int") f1 (by omega) (fun v hv=>?_) rfl ⟨rfl,?_⟩
   · obtain ⟨x,t,rfl⟩:=f3 v hv;exact Looks.of_pure rfl
   · rw [en] at h2 ⊢;obtain ⟨r1,r2,r3⟩:=Zgl o (by omega);refine Zir (n:=al.length) (f:=lexA al) (fun i j C hi hj hC=>?_) _ r1 ⟨rfl,r2,n43_.mpr r3⟩;have ev:∀ i (h:i<al.length),(al.map fun x=>Value.ref x.1).getD i Value.none=Value.ref al[i].1:=fun i h=>by simp [n2_,h]
     have ea:∀ i (h:i<al.length),al.getD i (0,[])=al[i]:=fun i h=>by simp [n2_,h]
     obtain ⟨ob,jt,n,a1,a2,a3,a4⟩:=tup al[i] (n37_ hi);obtain ⟨ob',jt',n',b1,b2,b3,b4⟩:=tup al[j] (n37_ hj);unfold kas_ask;rw [ev i hi,ev j hj];refine kat_lt a1 a3 b1 b3 ?_;have l1:=IntsAre.length a4;have l2:=IntsAre.length b4;rw [Array.length_toList] at l1 l2;refine Zh5 0 a4 b4 (by rw [l1,l2]) ?_;simp only [lexA] at hC;rw [ea i hi,ea j hj] at hC;exact hC
 · have fr:H L=none:=I.hok.fresh le;have lt:∀ i∈p',i<al.length:=fun i hi=>n24_.mp (gp.1.mem_iff.mp hi)
   have ep:(p'.map fun i=>al.getD i (0,[])).Perm al:=by
    refine (gp.1.map _).trans (.of_eq ?_);refine n46_ (by simp) fun i a1 a2=>?_;simp [n2_,a2]
   have ev:(p'.map fun i=>(al.map fun x=>Value.ref x.1).getD i Value.none)=(p'.map fun i=>al.getD i (0,[])).map fun x=>Value.ref x.1:=by
    rw [n44_];refine n52_ fun i hi=>?_
    have:=lt i hi
    simp [n2_,this]
   rw [ev] at he;refine ⟨.ref L,_,I.laid (o:=.lst (refs (p'.map fun i=>al.getD i (0,[])))) (t':=tk) keep le ⟨?_,_,e,Zhw _,he⟩,rfl,q L _ fr ep gp.2⟩;rw [n5_,ep.length_eq,sizeLine_eq];omega
section
variable {X:Cx}
theorem Zcp:Yy X (.builtin "sorted") (fun xs H Q=>∃ (p:Addr) (al:List (Addr×List Int)),xs=[.ref p]∧SqL X.K H p (refs al)∧(∀ x∈al,tpl H x)∧(al.map (·.2)).Nodup∧(∀ x∈al,0<x.2.length)∧al.length<64 ∧
 ∀ (l:Addr) (ql:List (Addr×List Int)),H l=none→ql.Perm al→Zif ql→Q (.ref l) (upd H l (.lst (refs ql)))):=by
 intro pins s σ H xs us Q I r h;obtain ⟨p,al,rfl,hq,ht,nd,hp,h64,q⟩:=h;cases r with
 | cons rx r =>
   cases r
   cases (show _=Value.ref p from rx)
   obtain ⟨its,rv,pl,hz⟩:=I.list hq
   have eits:its=al.map fun x=>Value.ref x.1:=by
    clear pl hz ht hq q nd hp h64;generalize hv:refs al=vs at rv
    induction rv generalizing al with
    | nil=>cases al with|nil=>rfl|cons x al=>cases hv
    | cons r1 _ ih =>
      cases al with
      | nil=>cases hv
      | cons x al =>
        have hv1:=(List.cons.inj hv).1;have hv2:=(List.cons.inj hv).2;subst hv1;cases (show _=Value.ref x.1 from r1)
        rw [ih al hv2];rfl
   subst eits;refine Zdj I (fun Q' hQ=>collect_list pl.isList (hQ _ _ (fun b o e=>?_) ?_) (by rw [n5_,sizeLine_eq];omega)) ht nd hp h64 q
   · rw [Heap.get?_update_ne _ _ _ _ (n17_ (n11_ e))];exact n3_ _ e
   · rw [Heap.size_update,n36_];exact Nat.le_succ _
theorem Zie (hc:X.calm=true):Yy X (.builtin "sorted") (fun xs H Q=>∃ (p:Addr) (al:List (Addr×List Int)),xs=[.ref p]∧H p=some (setU (Yr X.w) p al)∧(∀ x∈al,tpl H x)∧(∀ x∈al,0<x.2.length)∧al.length<64 ∧
 ∀ (l:Addr) (ql:List (Addr×List Int)),H l=none→ql.Perm al→Zif ql→Q (.ref l) (upd H l (.lst (refs ql)))):=by
 intro pins s σ H xs us Q I r h;obtain ⟨p,al,rfl,hq,ht,hp,h64,q⟩:=h;cases r with
 | cons rx r =>
   cases r
   cases (show _=Value.ref p from rx)
   obtain ⟨o,es,ep,t,g,ex,d,U⟩:=Zjh (I.hok p _ hq);have sa:SetAt X.w s.heap p es ep t:=⟨⟨o,g,ex,d⟩,U.tw⟩;have pw:=(Zc6 X.w p ep es).trans (U.pm.map (·.2));rw [n44_] at pw;obtain ⟨bl,eb,pb⟩:∃ bl:List (Addr×List Int),Xr X.w p ep es=bl.map (fun x=>Value.ref x.1)∧bl.Perm al:=Zbe pw al rfl;refine Zdj (al:=bl) I (fun Q' hQ=>?_) (fun x hx=>ht x (pb.mem_iff.mp hx)) ((pb.map (·.2)).nodup_iff.mpr U.nd) (fun x hx=>hp x (pb.mem_iff.mp hx)) (by rw [pb.length_eq];exact h64) fun l ql e1 e2 e3=>q l ql e1 (e2.trans pb) e3;have wl:(Xr X.w p ep es).length=es.size:=Zcy;refine Zbg (vs:=bl.map fun x=>Value.ref x.1) (it0:={ cls:=.type "set_iterator",data:=.fields #[.int (0:Nat) 0,.int (0:Nat) 0,.ref p,.int es.size 0,.int ep 0] }) (St:=fun I i h=>IsSetIter h I p es.size ep (Xm X.w t i) i∧SetAt X.w h p es ep t) (by simp [I.ok.hd hc]) (.inl rfl) sa.typeIs (by rw [n5_,pb.length_eq,sizeLine_eq];omega) (fun A s1 Q E k1 hQ=>Zk2 (sa.stay k1) hQ) rfl (fun A I' hh hne=>?_) (fun h I' e k=>⟨⟨_,e,rfl,rfl⟩,sa.stay k⟩) hQ;have W:=Zh4 (P:=X.prog) (w:=X.w) (ep:=ep) (es:=es) (t:=t) hh I' hne;rw [← wl,eb] at W;have e2:es.size=(bl.map fun x=>Value.ref x.1).length:=by rw [← wl,eb]
   rw [e2];exact W
theorem Zwn:∀ {kvs:List (List Key×V)} {xs:List (List Key×Addr×Value)},Paired (fun (p:List Key×V) (q:List Key×Addr×Value)=>p.1=q.1∧H q.2.1=some (.tup (p.1.map kV))∧RelV p.2 q.2.2) kvs xs→∀ (kl:List (List Int)),kvs.map (·.1)=kl.map (·.map Sum.inl) →
 ∃ al:List (Addr×List Int),al.map (·.2)=kl∧xs.map (fun q=>Value.ref q.2.1)=al.map (fun x=>Value.ref x.1)∧∀ x∈al,tpl H x:=by
 intro kvs xs r
 induction r with
 | nil=>intro kl e;cases kl with|nil=>exact ⟨[],rfl,rfl,fun x hx=>by cases hx⟩|cons k kl=>cases e
 | cons r1 _ ih =>
   intro kl e;cases kl with
   | nil=>cases e
   | cons k kl =>
     rename_i p q l1 l2 _
     have e1:p.1=k.map Sum.inl:=(List.cons.inj e).1;obtain ⟨al,a1,a2,a3⟩:=ih kl (List.cons.inj e).2;refine ⟨(q.2.1,k) :: al,by rw [n31_,a1],by rw [n31_,n31_,a2],fun x hx=>?_⟩
     rcases n12_.mp hx with rfl|hx
     · show H q.2.1=_
       rw [r1.2.1,e1,n44_];rfl
     · exact a3 x hx
theorem Zci (hc:X.calm=true):Yy X (.builtin "sorted") (fun xs H Q=>∃ (p:Addr) (kvs:List (List Key×V)) (kl:List (List Int)),xs=[.ref p]∧H p=some (.dT kvs)∧kvs.map (·.1)=kl.map (·.map Sum.inl)∧kl.Nodup∧(∀ k∈kl,0<k.length)∧kl.length<64 ∧
 ∀ (l:Addr) (ql:List (Addr×List Int)),H l=none→(∀ x∈ql,tpl H x)→(ql.map (·.2)).Perm kl→Zif ql→Q (.ref l) (upd H l (.lst (refs ql)))):=by
 intro pins s σ H xs us Q I r h;obtain ⟨p,kvs,kl,rfl,hq,hk,nd,hp,h64,q⟩:=h;cases r with
 | cons rx r =>
   cases r
   cases (show _=Value.ref p from rx)
   obtain ⟨t1,_,nm⟩:=Znd I (.inr ⟨kvs,.inl hq⟩);obtain ⟨z,_,xs,rel,o,es,ep,g,_,d,ees,_⟩:=(show ObjOk X.prog X.w H s.heap p (.dT kvs) from I.hok p _ hq);obtain ⟨al,a1,a2,a3⟩:=Zwn rel kl hk;have ent:EntAt s.heap p es ep:=⟨o,g,d⟩;have ek:es.toList.map (·.key)=al.map (fun x=>Value.ref x.1):=by rw [ees,n44_,← a2];rfl
   subst a1;have la:al.length<64:=by simpa using h64
   refine Zdj (al:=al) I (fun Q' hQ=>?_) a3 nd (fun x hx=>hp _ (n39_ hx)) la fun l ql e1 e2 e3=>q l ql e1 (fun x hx=>a3 x (e2.mem_iff.mp hx)) (e2.map _) e3;refine Zbg (vs:=al.map fun x=>Value.ref x.1) (it0:={ cls:=.type "dict_keyiterator",data:=.fields #[.ref p,.int 0 0,.int es.size 0,.int ep 0] }) (St:=fun I i h=>h.IsKeyIter I p i es.size ep∧EntAt h p es ep) (by simp [I.ok.hd hc]) (.inr rfl) t1 (by rw [n5_,sizeLine_eq];omega) (fun A s1 Q E k1 hQ=>Zk1 (let ⟨o,a,b⟩:=t1;⟨o,k1 _ a,b⟩) nm (ent.at k1) hQ) rfl (fun A I' hh hne=>?_) (fun h I' e k=>⟨⟨_,e,rfl,rfl⟩,ent.at k⟩) hQ;have W:=Zet (P:=X.prog) (w:=X.w) (es:=es) (ep:=ep) A I' hh hne;rw [ek] at W;exact W
end
end L2
namespace L2
open PySem
variable {α:Type} {al:List (Addr×List Int)} {ps:List (List Int)} {qs:List (List Int×Int)} {g:List (List Int×List Int)} {ks:List Int} {i j k n:Nat}
theorem Zs4 {R:α→α→Prop} (irr:∀ a,¬ R a a) (tr:∀ a b c,R a b→R b c→R a c):∀ {xs ys:List α},xs.Pairwise R→ys.Pairwise R→(∀ k,k∈xs↔k∈ys)→xs=ys
 | [],[],_,_,_=>rfl
 | [],y :: ys,_,_,h=>absurd ((h y).mpr n27_) (by simp)
 | x :: xs,[],_,_,h=>absurd ((h x).mp n27_) (by simp)
 | x :: xs,y :: ys,a,b,h=>by
   obtain ⟨a1,a2⟩:=List.pairwise_cons.mp a;obtain ⟨b1,b2⟩:=List.pairwise_cons.mp b
   have e:x=y:=by
    rcases n12_.mp ((h x).mp n27_) with e|h1
    · exact e
    rcases n12_.mp ((h y).mpr n27_) with e|h2
    · exact e.symm
    exact absurd (tr _ _ _ (b1 x h1) (a1 y h2)) (irr _)
   subst e;refine congrArg (x :: ·) (Zs4 irr tr a2 b2 fun k=>⟨fun hk=>?_,fun hk=>?_⟩)
   · rcases n12_.mp ((h k).mp (n19_ _ hk)) with e|h1
     · subst e;exact absurd (a1 _ hk) (irr _)
     · exact h1
   · rcases n12_.mp ((h k).mpr (n19_ _ hk)) with e|h1
     · subst e;exact absurd (b1 _ hk) (irr _)
     · exact h1
theorem Zas [DecidableEq α]:∀ {xs ys:List α},xs.Nodup→(∀ x∈xs,x∈ys)→xs.length≤ys.length
 | [],_,_,_=>n55_ _
 | x :: xs,ys,nd,h=>by
   obtain ⟨n1,n2⟩:=List.nodup_cons.mp nd;have h1:=h x n27_
   have:=Zas (ys:=ys.erase x) n2 fun y hy=>(List.mem_erase_of_ne (fun e=>n1 (by rw [← e];exact hy))).mpr (h y (n19_ _ hy))
   rw [List.length_erase_of_mem h1] at this
   have:0<ys.length:=List.length_pos_of_mem h1
   rw [n26_];omega
abbrev Zat (ks:List (List Int)):Prop:=ks.Pairwise fun x y=>HT.lexLt x y=true
theorem Yp (h:Zif al):Zat (al.map (·.2)):=n43_.mpr h
theorem Zbm {xs ys:List (List Int)} (a:Zat xs) (b:Zat ys) (h:∀ k,k∈xs↔k∈ys):xs=ys :=
 Zs4 (fun a h=>by rw [Xy] at h;cases h) (fun a b c=>Zfa a b c) a b h
theorem Zf4 {xs ys:List Int} (a:xs.Pairwise (·<·)) (b:ys.Pairwise (·<·)) (h:∀ k,k∈xs↔k∈ys):xs=ys :=
 Zs4 (fun a h=>by omega) (fun a b c h1 h2=>by omega) a b h
theorem Zab {xs:List Int} (a:xs.Pairwise (·≤·)) (n:xs.Nodup):xs.Pairwise (·<·):=by
 refine (a.and n).imp fun {x y} h=>?_
 have:x≠y:=h.2
 omega
def Z0 (p:List Int):List (List Int):=[[p.getD 0 0,p.getD 1 0],[p.getD 0 0,p.getD 2 0],[p.getD 1 0,p.getD 2 0]]
def Zn (ps:List (List Int)):List (List Int):=ps.flatMap Z0
theorem Za1 (ps:List (List Int)):(Zn ps).length=3*ps.length:=by
 induction ps with
 | nil=>rfl
 | cons p ps ih=>rw [Zn,List.flatMap_cons,n28_,← Zn,ih,n26_];simp [Z0];omega
theorem Zlv {p s:List Int} (h:s∈Z0 p):s.length=2:=by
 simp only [Z0,n12_,n16_,or_false] at h
 rcases h with rfl|rfl|rfl<;>rfl
theorem Zcu {s:List Int} (h:s∈Zn ps):s.length=2:=by
 obtain ⟨p,_,h⟩:=List.mem_flatMap.mp h;exact Zlv h
def Zal (ps:List (List Int)) (n:Nat):List (List Int×Int):=(List.range n).flatMap fun i=>(Z0 (ps.getD i [])).map fun s=>(s,(i:Int))
theorem Zei (ps:List (List Int)) (n:Nat):Zal ps (n+1)=Zal ps n++(Z0 (ps.getD n [])).map fun s=>(s,(n:Int)):=by
 unfold Zal;rw [List.range_succ,List.flatMap_append];simp
theorem Zdc (ps:List (List Int)):(Zal ps ps.length).map (·.1)=Zn ps:=by
 unfold Zal Zn;rw [List.map_flatMap]
 have e:ps=(List.range ps.length).map fun i=>ps.getD i []:=by
  refine n46_ (by simp) fun i h1 h2=>?_;simp [n2_,h1]
 conv=>rhs;rw [e,List.flatMap_map]
 congr 1
theorem Zgk {s:List Int} {x:Int}:(s,x)∈Zal ps n↔∃ m:Nat,x=m∧m<n∧s∈Z0 (ps.getD m []):=by
 unfold Zal;rw [List.mem_flatMap];constructor
 · rintro ⟨i,hi,h⟩
   obtain ⟨t,ht,e⟩:=n18_.mp h;cases e
   exact ⟨i,rfl,n24_.mp hi,ht⟩
 · rintro ⟨m,rfl,hm,h⟩
   exact ⟨m,n24_.mpr hm,n18_.mpr ⟨s,h,rfl⟩⟩
def ins (g:List (List Int×List Int)) (s:List Int) (n:Int):List (List Int×List Int) :=
 if s∈g.map (·.1) then g.map (fun e=>if e.1=s then (e.1,e.2++[n]) else e) else g++[(s,[n])]
structure GI (g:List (List Int×List Int)) (qs:List (List Int×Int)):Prop where
 nd:(g.map (·.1)).Nodup
 ks:∀ s,s∈g.map (·.1)↔s∈qs.map (·.1)
 vs:∀ e∈g,e.2=(qs.filter fun q=>decide (q.1=e.1)).map (·.2)
theorem GI.nil:GI [] []:=⟨by simp,by simp,by simp⟩
theorem GI.len (h:GI g qs):g.length≤qs.length:=by
 have:=Zas h.nd fun s hs=>(h.ks s).mp hs
 simpa using this
theorem Zjr {s:List Int} {n:Int}:(ins g s n).map (·.1)=if s∈g.map (·.1) then g.map (·.1) else g.map (·.1)++[s]:=by
 unfold ins;split
 · rw [n44_];refine n52_ fun e he=>?_;simp only [Function.comp];split<;>rfl
 · rw [n48_];rfl
theorem GI.ins (h:GI g qs) (s:List Int) (n:Int):GI (ins g s n) (qs++[(s,n)]):=by
 refine ⟨?_,fun t=>?_,fun e he=>?_⟩
 · rw [Zjr];split
   · exact h.nd
   · rename_i c
     rw [n66_];exact ⟨h.nd,by simp,fun a ha b hb=>by rw [n22_.mp hb];exact fun z=>c (z ▸ ha)⟩
 · rw [Zjr,n48_,n34_,← h.ks t];split
   · rename_i c
     constructor
     · exact .inl
     · rintro (z|z)
       · exact z
       · rw [show t=s by simpa using z];exact c
   · rw [n34_];rfl
 · rw [List.filter_append,n48_];unfold L2.ins at he;split at he
   · obtain ⟨e0,h0,rfl⟩:=n18_.mp he
     have:=h.vs e0 h0
     split
     · rename_i c
       simp [this,c]
     · rename_i c
       have c':¬ s=e0.1:=fun z=>c z.symm;simp [← this,c']
   · rename_i c
     rcases n34_.mp he with h0|h0
     · have:=h.vs e h0
       have ne:s≠e.1:=fun z=>c (z ▸ n39_ h0);simp [← this,ne]
     · rw [n22_.mp h0]
       have:(qs.filter fun q=>decide (q.1=s))=[]:=by
        rw [List.filter_eq_nil_iff];intro q hq z;exact c ((h.ks s).mpr (n18_.mpr ⟨q,hq,n51_ z⟩))
       simp [this]
theorem GI.count (h:GI g qs) {e:List Int×List Int} (he:e∈g):e.2.length=(qs.map (·.1)).count e.1:=by
 rw [h.vs e he,n5_,List.count,List.countP_map,List.countP_eq_length_filter]
 congr 1
 refine List.filter_congr fun x _=>?_
 by_cases c:x.1=e.1<;>simp [c]
theorem GI.mem (h:GI g (Zal ps n)) {e:List Int×List Int} (he:e∈g) {x:Int}:x∈e.2↔∃ m:Nat,x=m∧m<n∧e.1∈Z0 (ps.getD m []):=by
 rw [h.vs e he,n18_,← Zgk];constructor
 · rintro ⟨q,hq,rfl⟩
   obtain ⟨h1,h2⟩:=n71_.mp hq;rw [← show q.1=e.1 by simpa using h2];exact h1
 · intro hq;exact ⟨_,n71_.mpr ⟨hq,by simp⟩,rfl⟩
theorem Zbw (ps:List (List Int)) (n:Nat):(Zal ps n).length=3*n:=by
 induction n with
 | zero=>rfl
 | succ n ih=>rw [Zei,n28_,ih,n5_];simp [Z0];omega
theorem GI.le (h:GI g qs) {e:List Int×List Int} (he:e∈g):e.2.length≤qs.length:=by
 rw [h.vs e he,n5_];exact List.length_filter_le ..
def Adj (ps:List (List Int)) (i j:Nat):Prop:=∃ s,s∈Z0 (ps.getD i [])∧s∈Z0 (ps.getD j [])
theorem Adj.symm (h:Adj ps i j):Adj ps j i:=let ⟨s,a,b⟩:=h;⟨s,b,a⟩
def Conn (A:Nat→Nat→Prop) (k i j:Nat):Prop:=∀ p:Nat→Prop,(∀ a b,a<k→b<k→A a b→p a→p b)→p i→p j
theorem Conn.refl {A:Nat→Nat→Prop}:Conn A k i i:=fun _ _ h=>h
theorem Conn.trans {A:Nat→Nat→Prop} {l:Nat} (a:Conn A k i j) (b:Conn A k j l):Conn A k i l:=fun p h q=>b p h (a p h q)
theorem Conn.one {A:Nat→Nat→Prop} (hi:i<k) (hj:j<k) (a:A i j):Conn A k i j:=fun p h q=>h i j hi hj a q
structure PartOk (A:Nat→Nat→Prop) (n i:Nat) (l:List Int):Prop where
 rise:l.Pairwise (·<·)
 mem:∀ x:Int,x∈l↔∃ m:Nat,x=m∧m<n∧Conn A n i m
theorem PartOk.eq {A:Nat→Nat→Prop} {l l':List Int} (a:PartOk A n i l) (b:PartOk A n i l'):l=l':=Zf4 a.rise b.rise fun x=>(a.mem x).trans (b.mem x).symm
theorem PartOk.len {A:Nat→Nat→Prop} {l:List Int} (a:PartOk A n i l):l.length≤n:=by
 have nd:l.Nodup:=a.rise.imp fun {x y} h=>by omega
 have:=Zas (ys:=(List.range n).map fun (i:Nat)=>(i:Int)) nd fun x hx=>by
  obtain ⟨m,rfl,hm,_⟩:=(a.mem x).mp hx;exact n18_.mpr ⟨m,n24_.mpr hm,rfl⟩
 simpa using this
structure PartsOk (A:Nat→Nat→Prop) (n:Nat) (ks:List (List Int)):Prop where
 rise:Zat ks
 mem:∀ l,l∈ks↔∃ i,i<n∧PartOk A n i l
theorem PartsOk.eq {A:Nat→Nat→Prop} {ks ks':List (List Int)} (a:PartsOk A n ks) (b:PartsOk A n ks'):ks=ks':=Zbm a.rise b.rise fun l=>(a.mem l).trans (b.mem l).symm
theorem Zmc {A:Nat→Nat→Prop} {l:List Int} (hi:i<n) (nd:ks.Nodup) (st:(i:Int)∈ks) (co:∀ x∈ks,∃ m:Nat,x=m∧m<n∧Conn A n i m) (cl:∀ a b:Nat,(a:Int)∈ks→b<n→A a b→(b:Int)∈ks)
 (pm:l.Perm ks) (so:l.Pairwise (·≤·)):PartOk A n i l:=by
 refine ⟨Zab so (pm.nodup_iff.mpr nd),fun x=>?_⟩;rw [pm.mem_iff];refine ⟨co x,?_⟩;rintro ⟨m,rfl,hm,c⟩
 exact c (fun j=>(j:Int)∈ks) (fun a b _ hb ab ha=>cl a b ha hb ab) st
theorem Zh9 (nd:ks.Nodup) (h:∀ x∈ks,∃ m:Nat,x=m∧m<n):ks.length≤n:=by
 have:=Zas (ys:=(List.range n).map fun (i:Nat)=>(i:Int)) nd fun x hx=>by
  obtain ⟨m,rfl,hm⟩:=h x hx;exact n18_.mpr ⟨m,n24_.mpr hm,rfl⟩
 simpa using this
theorem Zmv:∀ {ls:List (List α)},(∀ l∈ls,l.Nodup)→(ls.Pairwise fun l l'=>∀ x∈l,x∉l')→ls.flatten.Nodup
 | [],_,_=>List.nodup_nil
 | l :: ls,a,b=>by
   obtain ⟨b1,b2⟩:=List.pairwise_cons.mp b;rw [n56_,n66_];refine ⟨a l n27_,Zmv (fun l' h=>a l' (n19_ _ h)) b2,fun x hx y hy e=>?_⟩;subst e;obtain ⟨l',hl',hx'⟩:=n75_.mp hy;exact b1 l' hl' x hx hx'
end L2
namespace L2
open PySem PySem.Spec PyProof.Rows PySem.W
abbrev lobj (its:List Value) (n:Nat):Obj:={ cls:=.type "list",data:=.seq its.toArray n }
variable {l:Addr} {ads:List Addr} {i m n:Nat} {Q:Value→Shared→Prop}
section
variable {P:Program} {w:World} {A:Around} {R:Result→Shared→Prop} {I:Addr} {fp wr:List Addr} {n:Nat} {Pv:Nat→Value→Prop} {St:Nat→Heap→Prop}
def Xg (cs:Nat→List Value) (n i:Nat):List Value:=((List.range' i (n-i)).map cs).flatten
theorem Zho (cs:Nat→List Value) (n:Nat):Xg cs n n=[]:=by unfold Xg;rw [Nat.sub_self];rfl
theorem Ze8 (cs:Nat→List Value) (h:i<n):Xg cs n i=cs i++Xg cs n (i+1):=by
 unfold Xg;rw [show n-i=(n-(i+1))+1 by omega,List.range'_succ,n31_,n56_]
theorem Zmq (W:Walks P w A.in1 I fp wr n Pv St) (ad:Nat→Addr) (cs:Nat→List Value) (hval:∀ i v,i<n→Pv i v→v=.ref (ad i)) (S z0:Addr) (hSf:S∉fp) (hz0:z0≤S) (hwz:∀ b∈wr,b<S) :
 ∀ (k i:Nat) (s:Shared) (T:Addr) (acc:List Value) (c m:Nat),n-i=k→i≤n→St i s.heap→s.heap.get? S=some (lobj [.ref T] c)→s.heap.get? T=some (lobj acc m)→T∉wr→T≠S →
   (∀ j,j<n→(∃ n',s.heap.get? (ad j)=some (lobj (cs j) n'))∧ad j∉wr∧ad j≠S)→(acc++Xg cs n i).length≤1000 →
   (∀ h' tk T' m',(∀ b o,b∉wr→b≠S→s.heap.get? b=some o→h'.get? b=some o)→h'.get? T'=some (lobj (acc++Xg cs n i) m')→(z0≤T'∨(n=i∧T'=T))→R (.ok (.ret (.ref T'))) { s with heap:=h',toks:=tk }) →
   codeAny (model P w) A (.builtin "sum.loop" ⟨[.ref I,.ref S,rawInt 2,rawInt 0],[]⟩) R s:=by
 have hSw:S∉wr:=fun h=>hSf (W.sub _ h);intro k
 induction k with
 | zero =>
   intro i s T acc c m hk hi hst hS hT hTw hTS hcs hsz hR;have hin:i=n:=by omega
   subst hin;refine codeAny_builtin F.entry_sum_loop ?_;rw [Around.under_plainId F.plain_sum_loop _];show wpAny _ A.in1 (seqItems? (.ref S) >>= _) _ _ s
   refine n0_ (wpAny_seqItems hS rfl ?_);show wpAny _ A.in1 (tryCatch (pyNext (.ref I)) _ >>= _) _ _ s
   refine n0_ (wpAny_tryCatch (W.done s _ _ hst fun h' tk hk'=>?_));rw [Zho,List.append_nil] at hR;exact n4_ (hR h' tk T m (fun b o hbw _ e=>hk' b o hbw e) (hk' T _ hTw hT) (.inr ⟨rfl,rfl⟩))
 | succ k ih =>
   intro i s T acc c m hk hi hst hS hT hTw hTS hcs hsz hR;have hlt:i<n:=by omega
   rw [Ze8 cs hlt,← n57_] at hR hsz;refine codeAny_builtin F.entry_sum_loop ?_;rw [Around.under_plainId F.plain_sum_loop _];show wpAny _ A.in1 (seqItems? (.ref S) >>= _) _ _ s
   refine n0_ (wpAny_seqItems hS rfl ?_);show wpAny _ A.in1 (tryCatch (pyNext (.ref I)) _ >>= _) _ _ s
   refine n0_ (wpAny_tryCatch (W.item i s _ _ hlt hst fun v h1 tk hP hst' hk'=>?_));cases hval i v hlt hP
   have hS1:=hk' S _ hSw hS;have hT1:=hk' T _ hTw hT;obtain ⟨⟨n',hc⟩,hcw,hcS⟩:=hcs i hlt;have hc1:=hk' _ _ hcw hc;show wpAny _ A.in1 ((holding [Value.ref (ad i)] (binaryOp .Add (.ref T) (.ref (ad i)))).attempt >>= _) _ _ _
   refine n0_ (wpAny_attempt (n30_ (concat_meets (s:={ s with heap:=h1,toks:=tk }) ⟨_,hT1,rfl⟩ ⟨_,hc1,rfl⟩ noFill_list_add seq_list_add PySem.F.slot_list_add PySem.F.entry_list_add (PySem.F.args_list_add_2 _ _) (list_addW T (ad i) acc.toArray (cs i).toArray m n' none none #[] #[] (by
    rw [n13_,n13_,sizeLine_eq];rw [n28_,n28_] at hsz;omega)) ⟨hT1,hc1,?_⟩)))
   have e:acc.toArray++(cs i).toArray=(acc++cs i).toArray:=by simp
   rw [e];have hS2:(h1.push (lobj (acc++cs i) 0)).get? S=some (lobj [.ref T] c):=n3_ _ hS1;show wpAny _ A.in1 (updateSeq S (fun _=>#[.ref h1.objs.size]) >>= _) _ _ { s with heap:=h1.push (lobj (acc++cs i) 0),toks:=tk }
   refine n0_ ?_;refine wpAny_updateSeq hS2 rfl ?_;have hS3:=n40_ (Obj.mapSeq fun _=>#[Value.ref h1.objs.size]) hS2 rfl;refine n0_ (wpAny_letGo ?_);refine n0_ ?_;refine wpAny_updateSeq hS3 rfl ?_;have hS4:=n40_ (Obj.mapSeq fun _=>#[Value.ref h1.objs.size]) hS3 rfl
   have oth:∀ b o,b≠S→h1.get? b=some o→(((h1.push (lobj (acc++cs i) 0)).update S (Obj.mapSeq fun _=>#[Value.ref h1.objs.size])).update S (Obj.mapSeq fun _=>#[Value.ref h1.objs.size])).get? b=some o:=fun b o hb e =>
    (n59_ _ _ (Ne.symm hb)).trans ((n59_ _ _ (Ne.symm hb)).trans (n3_ _ e))
   have lS:S<h1.objs.size:=n11_ hS1;have nS:h1.objs.size≠S:=n60_ lS;have nw:h1.objs.size∉wr:=fun hm=>n78_ _ (Nat.lt_trans (hwz _ hm) lS);refine n4_ ⟨plainId_quiet F.plain_sum_loop _,ih (i+1) _ h1.objs.size (acc++cs i) _ 0 (by omega) hlt (W.frame _ _ _ hst' fun b hb o e=>oth b o (fun z=>hSf (z ▸ hb)) e) hS4 ((n59_ _ _ nS.symm).trans ((n59_ _ _ nS.symm).trans (n8_ _ rfl))) nw nS (fun j hj=>?_) hsz fun h' tk' T' m' hk2 hT' z=>?_⟩
   · obtain ⟨⟨n2,e2⟩,a2,a3⟩:=hcs j hj;exact ⟨⟨n2,oth _ _ a3 (hk' _ _ a2 e2)⟩,a2,a3⟩
   · refine hR h' tk' T' m' (fun b o hbw hbS e=>hk2 b o hbw hbS (oth b o hbS (hk' b o hbw e))) hT' (.inl ?_)
     rcases z with z|⟨_,rfl⟩
     · exact z
     · exact Nat.le_of_lt (Nat.lt_of_le_of_lt hz0 lS)
end
section
variable {P:Program} {w:World} {A:Around} {E:Value→Shared→Prop} {s:Shared}
theorem Zg5:isSubtype (.type "list") (.type "str")=pure false:=by rw [isSubtype_type];kernel_rfl
theorem Zd3:isSubtype (.type "list") (.type "bytes")=pure false:=by rw [isSubtype_type];kernel_rfl
theorem Zbi:isSubtype (.type "list") (.type "bytearray")=pure false:=by rw [isSubtype_type];kernel_rfl
theorem Zmk (a b:Value):argsOk "sum" ⟨[a,b],[]⟩:=by unfold argsOk;kernel_rfl
theorem Zmo {T:Addr} {cs:List (List Value)} {acc:List Value} {nl:Nat} (hh:A.handled=none) (hl:s.heap.get? l=some (lobj (ads.map Value.ref) nl)) (hT:s.heap.get? T=some (lobj acc m)) (len:ads.length=cs.length)
 (hcs:∀ (j:Nat) (a:Addr) (c:List Value),ads[j]? = some a→cs[j]? = some c→∃ n',s.heap.get? a=some (lobj c n')) (hsz:(acc++cs.flatten).length≤1000)
 (h:∀ h' tk T' m',(∀ b o,s.heap.get? b=some o→h'.get? b=some o)→h'.get? T'=some (lobj (acc++cs.flatten) m')→(s.z≤T'∨(cs=[]∧T'=T))→Q (.ref T') { s with heap:=h',toks:=tk }) :
 wpAny (model P w) A (call (.builtin "sum") [.ref l,.ref T]) Q E s:=by
 refine call_function_tree F.kind_sum F.plain_sum F.entry_sum (Zmk _ _) ?_;unfold Builtin.«sum»;simp only [n26_,List.length_nil];rw [if_neg (by decide)];refine n0_ (wpAny_of_eq (show Builtin.Builtins.bindParams "sum" ["start"] 0 ⟨[.ref T],[]⟩=pure [some (.ref T)] from rfl) ?_);have hl':s.heap.IsList l (ads.map Value.ref).toArray:=⟨_,hl,rfl,_,rfl⟩;refine n0_ (wpAny_pyIter_list hl' ?_);refine n0_ (n4_ ?_);have tT:Shared.TypeIs { s with heap:=s.heap.push { cls:=.type "list_iterator",data:=.fields #[.ref l,.int 0 0] } } (.ref T) "list" := ⟨_,n3_ _ hT,rfl⟩;simp only [List.forIn_cons,List.forIn_nil];refine n0_ (n0_ (n0_ (wpAny_isInstance (T := "list") (b:=false) tT Zg5 ?_)));simp only [n15_,if_false];refine n4_ (n0_ (n0_ (wpAny_isInstance (T := "list") (b:=false) tT Zd3 ?_)));simp only [n15_,if_false];refine n4_ (n0_ (n0_ (wpAny_isInstance (T := "list") (b:=false) tT Zbi ?_)));simp only [n15_,if_false];refine n4_ (n4_ ?_);refine n0_ (wpAny_newObj_type ?_);have ll:l<s.z:=n11_ hl;have lT:T<s.z:=n11_ hT;have z1:(s.heap.push { cls:=.type "list_iterator",data:=.fields #[.ref l,.int 0 0] }).objs.size=s.z+1:=n36_ ..;have W:=Walks.list (prog:=P) (w:=w) (A:=A.in1) (by simp [hh]) s.z l (n17_ ll) (ads.map Value.ref).toArray;have zs:(ads.map Value.ref).toArray.size=cs.length:=by simp [len]
 rw [zs] at W
 have fl:Xg (fun j=>cs.getD j []) cs.length 0=cs.flatten:=by
  unfold Xg;rw [Nat.sub_zero]
  congr 1
  refine n46_ (by simp) fun i a1 a2=>?_;simp [n2_,a2]
 have la:∀ j,j<cs.length→∃ a,ads[j]? = some a∧ads.getD j 0=a∧a<s.z∧∃ n',s.heap.get? a=some (lobj (cs.getD j []) n'):=fun j hj=>by
  have hj':j<ads.length:=by omega
  obtain ⟨n',e⟩:=hcs j ads[j] cs[j] (n1_ hj') (n1_ hj);exact ⟨ads[j],n1_ hj',by simp [n2_,hj'],n11_ e,n',by simpa [n2_,hj] using e⟩
 refine n4_ ⟨plainId_quiet F.plain_sum_loop _,?_⟩;show codeAny _ A (.builtin "sum.loop" ⟨[.ref s.z,.ref (s.heap.push { cls:=.type "list_iterator",data:=.fields #[.ref l,.int 0 0] }).objs.size,rawInt 2,rawInt 0],[]⟩) _ { s with heap:=(s.heap.push { cls:=.type "list_iterator",data:=.fields #[.ref l,.int 0 0] }).push (lobj [.ref T] 0) }
 rw [z1]
 refine Zmq W (fun j=>ads.getD j 0) (fun j=>cs.getD j []) (fun i v hi hv=>?_) (s.z+1) s.z ?_ (Nat.le_succ _) ?_ cs.length 0 _ T acc 0 m rfl (n55_ _)
  ⟨⟨_,n3_ _ (n8_ _ rfl),rfl,rfl⟩,(hl'.push _).push _⟩ ?_ (n3_ _ (n3_ _ hT)) ?_ ?_ (fun j hj=>?_) (by rw [fl];exact hsz) fun h' tk T' m' hk hT' z=>?_
 · obtain ⟨a,e1,e2,_⟩:=la i hi;have hv':(ads.map Value.ref)[i]? = some v:=by simpa using hv
   rw [n6_,e1] at hv';rw [e2];exact (Option.some.inj hv').symm
 · simp only [n12_,n16_,or_false,not_or];exact ⟨n60_ (n68_ _),n60_ (n38_ ll)⟩
 · intro b hb;rw [n22_.mp hb];exact n68_ _
 · rw [← z1];exact n8_ _ rfl
 · simp only [n12_,n16_,or_false];exact n17_ lT
 · exact n17_ (n38_ lT)
 · obtain ⟨a,_,e2,e3,n',e4⟩:=la j hj;dsimp only;rw [e2];refine ⟨⟨n',n3_ _ (n3_ _ e4)⟩,?_,n17_ (n38_ e3)⟩;simp only [n12_,n16_,or_false];exact n17_ e3
 · rw [fl] at hT';refine h h' tk T' m' (fun b o e=>hk b o ?_ ?_ (n3_ _ (n3_ _ e))) hT' (z.imp id fun ⟨a,b⟩=>⟨List.eq_nil_of_length_eq_zero a,b⟩)
   · simp only [n12_,n16_,or_false];exact n17_ (n11_ e)
   · exact n17_ (n38_ (n11_ e))
end
section
variable {X:Cx}
theorem Zhg:∀ {xss:List (List V)} {css:List (List Value)},Paired Vals xss css→Vals xss.flatten css.flatten
 | _,_,.nil=>.nil
 | _,_,.cons r t=>by rw [n56_,n56_];exact r.append (Zhg t)
theorem Zgw (hc:X.calm=true):Yy X (.builtin "sum") (fun xs H Q=>∃ (p b:Addr) (ads:List Addr) (xss:List (List V)) (zs:List V),xs=[.ref p,.ref b]∧H p=some (.lst (ads.map V.ref))∧H b=some (.lst zs)∧Paired (fun a xs=>H a=some (.lst xs)) ads xss∧(zs++xss.flatten).length≤1000 ∧
 ∀ l,(H l=none∨l=b)→Q (.ref l) (upd H l (.lst (zs++xss.flatten)))):=by
 intro pins s σ H xs us Q I r h;obtain ⟨p,b,ads,xss,zs,rfl,hp,hb,pr,hz,q⟩:=h;cases r with
 | cons rx r =>
   cases r with
   | cons rb r =>
     cases r
     cases (show _=Value.ref p from rx)
     cases (show _=Value.ref b from rb)
     obtain ⟨w1,its,n,rv,w2,e1⟩:=I.lstM hp;obtain ⟨w3,itb,nb,rvb,w4,e2⟩:=I.lstM hb
     have ei:its=ads.map Value.ref:=by
      clear e1 e2 pr q hz hp w1 w2;generalize hv:ads.map V.ref=vs at rv
      induction rv generalizing ads with
      | nil=>cases ads with|nil=>rfl|cons x al=>cases hv
      | cons r1 _ ih =>
        cases ads with
        | nil=>cases hv
        | cons x al =>
          have hv1:=(List.cons.inj hv).1;have hv2:=(List.cons.inj hv).2;subst hv1;cases (show _=Value.ref x from r1)
          rw [ih al hv2];rfl
     subst ei
     obtain ⟨css,c1,c2⟩:∃ css:List (List Value),Paired Vals xss css∧∀ (j:Nat) (a:Addr) (c:List Value),ads[j]? = some a→css[j]? = some c→∃ n',s.heap.get? a=some (lobj c n'):=by
      clear e1 rv q hz hp w1 w2
      induction pr with
      | nil=>exact ⟨[],.nil,fun j a c h=>by simp at h⟩
      | cons r1 _ ih =>
        obtain ⟨css,c1,c2⟩:=ih;obtain ⟨_,ia,na,ra,_,ea⟩:=I.lstM r1;refine ⟨ia :: css,.cons ra c1,fun j a c h1 h2=>?_⟩;cases j with
        | zero=>cases h1;cases h2;exact ⟨na,ea⟩
        | succ j=>exact c2 j a c (by simpa using h1) (by simpa using h2)
     have ln:ads.length=css.length:=(Paired.length pr).trans (Paired.length c1);have va:Vals (zs++xss.flatten) (itb++css.flatten):=rvb.append (Zhg c1);refine Zmo (I.ok.hd hc) e1 e2 ln c2 (by rw [← va.length];exact hz) fun h' tk T' m' keep hT' z=>?_
     rcases z with z|⟨z1,z2⟩
     · exact ⟨.ref T',_,I.laid (o:=.lst (zs++xss.flatten)) (t':=tk) keep z ⟨by rw [sizeLine_eq];omega,_,m',va,hT'⟩,rfl,q _ (.inl (I.hok.fresh z))⟩
     · subst z1;subst z2
       have:xss=[]:=by cases c1;rfl
       subst this;have q':=q T' (.inr rfl);rw [show zs++([]:List (List V)).flatten=zs by simp] at q'
       have eH:upd H T' (.lst zs)=H:=by
        funext a
        by_cases c:a=T'
        · subst c;rw [Zc,hb]
        · rw [Zh c]
       rw [eH] at q';exact ⟨.ref T',H,I.kept (t':=tk) keep,rfl,q'⟩
theorem Zld {es:List DictEntry} {vs:List (Key×Value)} (h:PySem.Pairs (Yk X.prog X.w) es vs):∀ (ns:List Int),vs.map (·.1)=ns.map Sum.inl→IntsAre (es.map (·.key)) ns:=by
 induction h with
 | nil=>intro ns e;cases ns with|nil=>exact .nil|cons _ _=>cases e
 | cons h1 _ _ ih =>
   intro ns e;cases ns with
   | nil=>cases e
   | cons k ns =>
     have e1:=(List.cons.inj e).1;dsimp only at e1;rw [e1] at h1
     rcases Yc (show Zij (Sum.inl k) _=true from h1) with ⟨i,t,ek,ev⟩|⟨x,t,ek,_⟩
     · cases ek
       rw [n31_,ev];exact .cons _ t (ih ns (List.cons.inj e).2)
     · cases ek
theorem Zgn (hc:X.calm=true):Yy X (.builtin "sorted") (fun xs H Q=>∃ (p:Addr) (kvs:List (Key×V)) (ns:List Int),xs=[.ref p]∧H p=some (.dK kvs)∧kvs.map (·.1)=ns.map Sum.inl∧ns.length<64 ∧
 ∀ (l:Addr) (ms:List Int),H l=none→ms.Perm ns→ms.Pairwise (·≤·)→Q (.ref l) (upd H l (.lst (ms.map V.int)))):=by
 intro pins s σ H xs us Q I r h;obtain ⟨p,kvs,ns,rfl,hq,hk,h64,q⟩:=h;cases r with
 | cons rx r =>
   cases r
   cases (show _=Value.ref p from rx)
   obtain ⟨t1,_,nm⟩:=Znd I (.inl ⟨kvs,.inl hq⟩);obtain ⟨z,_,vs,rel,o,es,ep,g,_,d,_,prs,nd⟩:=(show ObjOk X.prog X.w H s.heap p (.dK kvs) from I.hok p _ hq);have ent:EntAt s.heap p es ep:=⟨o,g,d⟩
   have kk:kvs.map (·.1)=vs.map (·.1):=by
    clear prs z hk hq q nd
    induction rel with
    | nil=>rfl
    | cons r1 _ ih=>rw [n31_,n31_,ih,r1.1]
   have ia:=Zld (X:=X) prs ns (kk.symm.trans hk);have il:(es.toList.map (·.key)).length=ns.length:=Zc0 ia;refine Calls.call_function_entry kind_sorted plain_sorted entry_sorted (args_sorted1 _) ?_;unfold Builtin.«sorted»;refine n0_ (m:=checkCount "sorted" 1 1 _) (n4_ ?_);refine n0_ (Zbg (vs:=es.toList.map (·.key)) (it0:={ cls:=.type "dict_keyiterator",data:=.fields #[.ref p,.int 0 0,.int es.size 0,.int ep 0] }) (St:=fun I i h=>h.IsKeyIter I p i es.size ep∧EntAt h p es ep) (by simp [I.ok.hd hc]) (.inr rfl) t1 (by rw [il,sizeLine_eq];omega) (fun A s1 Q E k1 hQ=>Zk1 (let ⟨o,a,b⟩:=t1;⟨o,k1 _ a,b⟩) nm (ent.at k1) hQ) rfl (fun A I' hh hne=>Zet A I' hh hne) (fun h I' e k=>⟨⟨_,e,rfl,rfl⟩,ent.at k⟩) fun h' tk keep le=>?_);generalize es.toList.map (·.key)=ws at ia il;refine n0_ (wpAny_newList ?_ (by rw [sizeLine_eq];omega));have hoL:(h'.push (seqObj "list" ws.toArray 0)).get? h'.objs.size=some (seqObj "list" ws.toArray 0):=n8_ _ rfl;refine n0_ (n30_ (wpAny_call_entry (s:={ s with heap:=h'.push (seqObj "list" ws.toArray 0),toks:=tk }) slot_list_sort ⟨_,hoL,rfl⟩ entry_list_sort (list_sort_tree hoL ia (by omega) fun out ns' a1 a2 a3=>⟨_,rfl,?_⟩) (args_list_sort _)));obtain ⟨e,he⟩:=sortedHeap_at (out:=out) hoL;refine n4_ ⟨_,rfl,.ref h'.objs.size,_,I.laid (o:=.lst (ns'.map V.int)) (t':=tk) (fun b o eb=>?_) le ⟨by rw [n5_,a2.length_eq,sizeLine_eq];omega,out.toList,e,Xx a1,by simpa using he⟩,rfl,q _ ns' (I.hok.fresh le) a2 a3⟩;have hk:=keep b o eb;have hlt:=n11_ hk;rw [sortedHeap_old (n17_ hlt) (by rw [n36_];exact n38_ hlt)];exact n3_ _ hk
end
end L2
namespace L2
open PySem PySem.Spec PyProof.Rows PySem.W
variable {D a:Addr} {X:Cx} {H H' H0:Hp} {g:List (List Int×List Int)} {ads:List Addr} {i:Nat}
theorem Zrh (l:List Int):Al ((fun (_:Hp) v (i:Int)=>v=V.int i) H) (l.map V.int) l:=⟨by simp,fun i v x e1 e2=>by rw [n6_,e2] at e1;exact (Option.some.inj e1).symm⟩
theorem Zhy:∀ {us:List V} {ks:List (List Int)},Al (IsI H) us ks→∃ al,us=refs al∧(∀ x∈al,tpl H x)∧al.map (·.2)=ks
 | [],[],_=>⟨[],rfl,by simp,rfl⟩
 | [],_ :: _,a=>absurd a.1 (by simp)
 | _ :: _,[],a=>absurd a.1 (by simp)
 | v :: us,k :: ks,a=>by
   obtain ⟨al,h1,h2,h3⟩:=Zhy (us:=us) (ks:=ks) ⟨by simpa using a.1,fun i v x e1 e2=>a.2 (i+1) v x e1 e2⟩;obtain ⟨b,e,hb⟩:=a.2 0 v k rfl rfl;exact ⟨(b,k) :: al,by rw [h1,e];rfl,fun y hy=>(n12_.mp hy).elim (fun z=>by rw [z];exact hb) (h2 y),by rw [n31_,h3]⟩
theorem Zcq:Yy X (.builtin "sorted") (fun xs H Q=>∃ (p:Addr) (vs:List V) (kl:List (List Int)) (m:Nat),xs=[.ref p]∧SqL X.K H p vs∧vs.length=kl.length∧(∀ (i:Nat) (v:V),vs[i]? = some v→∃ (b:Addr) (k:List Int),v=.ref b∧kl[i]? = some k∧H b=some (.tup (k.map V.int)))∧kl.Nodup∧kl.length<64∧(∀ k∈kl,k.length=m)∧0<m ∧
 ∀ (l:Addr) (q:List Nat),H l=none→q.Perm (List.range kl.length)→(q.map fun i=>kl.getD i []).Pairwise (fun a b=>HT.lexLt a b=true)→Q (.ref l) (upd H l (.lst (q.map fun i=>vs.getD i .non)))):=by
 intro pins s σ H xs us Q I r h;obtain ⟨p,vs,kl,m,rfl,hq,hl,hk,nd,h4,hm,m0,q⟩:=h
 obtain ⟨al,rfl,tp,rfl⟩:=Zhy (H:=H) (us:=vs) (ks:=kl) ⟨hl,fun i v x e1 e2=>by
  obtain ⟨b,k,e,ek,hb⟩:=hk i v e1;rw [e2] at ek;cases ek
  exact ⟨b,e,hb⟩⟩
 refine Zcp pins s σ H _ us Q I r ⟨p,al,rfl,hq,tp,nd,fun x hx=>by rw [hm x.2 (n39_ hx)];exact m0,by simpa using h4,fun l ql nl pm rs=>?_⟩
 have er:al=(List.range al.length).map fun i=>al.getD i (0,[]):=by
  refine n46_ (by simp) fun i h1 h2=>?_;simp [n2_,h1]
 obtain ⟨ix,e1,e2⟩:=Zbe pm (List.range al.length) er;have hi:∀ i∈ix,i<al.length:=fun i hi=>n24_.mp (e2.mem_iff.mp hi)
 have ev:refs ql=ix.map fun i=>(refs al).getD i .non:=by
  rw [e1,refs,n44_];refine n52_ fun i h=>?_;simp [n2_,hi i h]
 rw [ev];refine q l ix nl (by rw [n5_];exact e2) ?_
 have ek:(ix.map fun i=>(al.map (·.2)).getD i [])=ql.map (·.2):=by
  rw [e1,n44_];refine n52_ fun i h=>?_;simp [n2_,hi i h]
 rw [ek];exact Yp rs
def absI (i:Int):Int:=if i<0 then -i else i
def Zcf (P:Pl):Int:=(P.ps.map fun p=>absI (dOf P.cs p)).sum
abbrev kvO (g:List (List Int×List Int)) (ads:List Addr):List (List Key×V):=(g.zip ads).map fun x=>(x.1.1.map Sum.inl,V.ref x.2)
structure OwnA (H0 H:Hp) (D:Addr) (g:List (List Int×List Int)) (ads:List Addr):Prop where
 dt:H D=some (.dT (kvO g ads))
 len:ads.length=g.length
 nd:ads.Nodup
 nD:D∉ads
 at_:∀ (i:Nat) (a:Addr) (e:List Int×List Int),ads[i]? = some a→g[i]? = some e→H a=some (.lst (e.2.map V.int))
 fr:∀ a∈ads,H0 a=none
 frD:H0 D=none
theorem Zmu (h:ads.length=g.length):(kvO g ads).length=g.length:=by simp [h]
theorem Zkj (h:ads.length=g.length):(kvO g ads).map (·.1)=(g.map (·.1)).map (·.map Sum.inl):=by
 refine n46_ (by simp [h]) fun i h1 h2=>?_
 simp
theorem Zs6:∀ {s t:List Int},s.map (Sum.inl:Int→Key)=t.map Sum.inl→s=t:=fun {s t} h=>(List.map_inj_right fun a b e=>by cases e;rfl).mp h
theorem valO:∀ {g:List (List Int×List Int)} {ads:List Addr},ads.length=g.length→∀ (s:List Int),(∀ v,valV (kvO g ads) (s.map Sum.inl)=some v→∃ (i:Nat) (a:Addr) (e:List Int×List Int),ads[i]? = some a∧g[i]? = some e∧e.1=s∧v=.ref a)∧(valV (kvO g ads) (s.map Sum.inl)=none→s∉g.map (·.1))
 | [],[],_,s=>⟨fun v h=>(by cases h),fun _=>by simp⟩
 | e :: g,a :: ads,h,s=>by
   have ih:=valO (g:=g) (ads:=ads) (by simpa using h) s
   have st:valV (kvO (e :: g) (a :: ads)) (s.map Sum.inl)=if e.1=s then some (.ref a) else valV (kvO g ads) (s.map Sum.inl):=by
    unfold valV;rw [show kvO (e :: g) (a :: ads)=(e.1.map Sum.inl,V.ref a) :: kvO g ads from rfl,List.find?_cons]
    by_cases c:e.1=s
    · subst c;simp
    · have:¬ e.1.map (Sum.inl:Int→Key)=s.map Sum.inl:=fun z=>c (Zs6 z)
      rw [if_neg c,n33_ this]
   rw [st]
   by_cases c:e.1=s
   · rw [if_pos c];exact ⟨fun v hv=>⟨0,a,e,rfl,rfl,c,(Option.some.inj hv).symm⟩,fun z=>by cases z⟩
   · rw [if_neg c];refine ⟨fun v hv=>?_,fun hn=>?_⟩
     · obtain ⟨i,a',e',h1,h2,h3⟩:=ih.1 v hv;exact ⟨i+1,a',e',h1,h2,h3⟩
     · simp only [n31_,n12_,not_or];exact ⟨fun z=>c z.symm,ih.2 hn⟩
theorem putO (h:ads.length=g.length) {s:List Int} (n:valV (kvO g ads) (s.map Sum.inl)=none) (L:Addr) (ns:List Int):putK (kvO g ads) (s.map Sum.inl) (.ref L)=kvO (g++[(s,ns)]) (ads++[L]):=by
 unfold putK
 have hn:((kvO g ads).any fun kv=>decide (kv.1=s.map Sum.inl))=false:=by
  rw [List.any_eq_false];intro kv hkv z;have z:=n51_ z
  have hf:(kvO g ads).find? (fun kv=>decide (kv.1=s.map Sum.inl))=none:=by
   unfold valV at n;cases q:(kvO g ads).find? (fun kv=>decide (kv.1=s.map Sum.inl)) with
   | none=>rfl
   | some x=>rw [q] at n;cases n
  have:=List.find?_eq_none.mp hf kv hkv
  simp [z] at this
 rw [hn,if_neg n21_];show _=(((g++[(s,ns)]).zip (ads++[L])).map fun x=>(x.1.1.map (Sum.inl:Int→Key),V.ref x.2))
 rw [List.zip_append (by rw [h]),n48_];rfl
theorem OwnA.more (o:OwnA H0 H D g ads) (s:Same H H'):OwnA H0 H' D g ads :=
 ⟨s _ _ o.dt,o.len,o.nd,o.nD,fun i a e h1 h2=>s _ _ (o.at_ i a e h1 h2),o.fr,o.frD⟩
theorem OwnA.has (o:OwnA H0 H D g ads) (h:a∈ads):∃ x,H a=some x:=by
 obtain ⟨i,hi,e⟩:=n50_ h;have hg:i<g.length:=by rw [← o.len];exact hi
 exact ⟨_,o.at_ i a _ (by rw [n1_ hi,e]) (n1_ hg)⟩
theorem OwnA.old (o:OwnA H0 H D g ads) (nd:(g.map (·.1)).Nodup) {s:List Int} (n:Int) {e:List Int×List Int} (h1:ads[i]? = some a) (h2:g[i]? = some e) (h3:e.1=s) :
 OwnA H0 (upd H a (.lst (e.2.map V.int++[.int n]))) D (ins g s n) ads:=by
 have ha:=n7_ h1;have hs:s∈g.map (·.1):=h3 ▸ n39_ (n7_ h2);have ei:ins g s n=g.map (fun e=>if e.1=s then (e.1,e.2++[n]) else e):=by unfold ins;rw [if_pos hs]
 have ek:kvO (ins g s n) ads=kvO g ads:=by
  rw [ei];refine n46_ (by simp) fun i h1 h2=>?_;simp only [List.getElem_map,List.getElem_zip];split<;>rfl
 refine ⟨?_,by rw [o.len,ei,n5_],o.nd,o.nD,fun j b e' k1 k2=>?_,o.fr,o.frD⟩
 · rw [Zh (fun z=>o.nD (by rw [z];exact ha)),ek];exact o.dt
 · rw [ei,n6_] at k2;obtain ⟨e0,k3,rfl⟩:=n10_.mp k2
   by_cases c:j=i
   · subst c;rw [h1] at k1;cases k1;rw [h2] at k3;cases k3;rw [Zc,if_pos h3]
     simp
   · have nb:b≠a:=fun z=>c (by
      subst z;obtain ⟨l1,x1⟩:=n9_.mp h1;obtain ⟨l2,x2⟩:=n9_.mp k1;exact (n53_ (h₀:=l2) (h₁:=l1) o.nd).mp (by rw [x1,x2]))
     have ne:¬ e0.1=s:=fun z=>c (by
      obtain ⟨l1,x1⟩:=n9_.mp h2;obtain ⟨l2,x2⟩:=n9_.mp k3;exact (n53_ (h₀:=by simpa using l2) (h₁:=by simpa using l1) nd).mp (by simp [x1,x2,z,h3]))
     rw [Zh nb,if_neg ne];exact o.at_ j b e0 k1 k3
theorem OwnA.new {L:Addr} (o:OwnA H0 H D g ads) {s:List Int} (n:Int) (hn:valV (kvO g ads) (s.map Sum.inl)=none) (nL:L∉ads) (nD:L≠D) (fL:H0 L=none) :
 OwnA H0 (upd (upd H D (.dT (putK (kvO g ads) (s.map Sum.inl) (.ref L)))) L (.lst [.int n])) D (ins g s n) (ads++[L]):=by
 have hs:=(valO o.len s).2 hn;have ei:ins g s n=g++[(s,[n])]:=by unfold ins;rw [if_neg hs]
 rw [ei];refine ⟨?_,by simp [o.len],?_,?_,fun j b e k1 k2=>?_,fun a ha=>?_,o.frD⟩
 · rw [Zh nD.symm,Zc,putO o.len hn L [n]]
 · rw [n66_];exact ⟨o.nd,by simp,fun a ha b hb=>by rw [n22_.mp hb];exact fun z=>nL (by rw [← z];exact ha)⟩
 · rw [n34_];rintro (z|z)
   · exact o.nD z
   · exact nD (n22_.mp z).symm
 · by_cases c:j<ads.length
   · rw [n58_ c] at k1;rw [n58_ (by rw [← o.len];exact c)] at k2;have hb:=n7_ k1;rw [Zh (fun z=>nL (by rw [← z];exact hb)),Zh (fun z=>o.nD (by rw [← z];exact hb))];exact o.at_ j b e k1 k2
   · rw [n49_ (by omega)] at k1;rw [n49_ (by rw [← o.len];omega),← o.len] at k2
     have:j-ads.length=0:=by have:=(n9_.mp k1).1;simp at this;omega
     rw [this] at k1 k2;cases k1;cases k2
     rw [Zc];rfl
 · rcases n34_.mp ha with ha|ha
   · exact o.fr a ha
   · rw [n22_.mp ha];exact fL
end L2
namespace L2
open PySem
theorem Xa {p:List Int} (h3:p.length=3) (up:p.getD 0 0<p.getD 1 0∧p.getD 1 0<p.getD 2 0) {s:List Int}:s∈Z0 p↔∃ x y,s=[x,y]∧x<y∧x∈p∧y∈p:=by
 match p,h3 with
 | [a,b,c],_ =>
   obtain ⟨u1,u2⟩:=up;have u1':a<b:=u1;have u2':b<c:=u2;simp only [Z0,List.getD_cons_zero,List.getD_cons_succ,n12_,n16_,or_false];constructor
   · rintro (h|h|h)
     · exact ⟨a,b,h,u1',by simp,by simp⟩
     · exact ⟨a,c,h,by omega,by simp,by simp⟩
     · exact ⟨b,c,h,u2',by simp,by simp⟩
   · rintro ⟨x,y,rfl,hxy,hx,hy⟩
     have:(x=a∧y=b)∨(x=a∧y=c)∨(x=b∧y=c):=by omega
     rcases this with ⟨rfl,rfl⟩|⟨rfl,rfl⟩|⟨rfl,rfl⟩
     · exact .inl rfl
     · exact .inr (.inl rfl)
     · exact .inr (.inr rfl)
structure Tri3 (p:List Int):Prop where
 len:p.length=3
 up:p.getD 0 0<p.getD 1 0∧p.getD 1 0<p.getD 2 0
theorem Tri3.pw {p:List Int} (t:Tri3 p):p.Pairwise (·<·):=by
 have h3:=t.len
 match p,h3 with
 | [a,b,c],_ =>
   obtain ⟨u1,u2⟩:=t.up;have u1':a<b:=u1;have u2':b<c:=u2
   simp;omega
theorem Zs0 {p:List Int} (h3:p.length=3) (h:p.Pairwise (·<·)):Tri3 p:=by
 refine ⟨h3,?_⟩
 match p,h3 with
 | [a,b,c],_ =>
   simp at h;exact ⟨h.1.1,h.2⟩
theorem Zhp {p:List Int} (t:Tri3 p):(Z0 p).Nodup:=by
 have h3:=t.len
 match p,h3 with
 | [a,b,c],_ =>
   obtain ⟨u1,u2⟩:=t.up;have u1':a<b:=u1;have u2':b<c:=u2;simp [Z0];omega
structure Ordr (n:Nat) (f:Int→Int):Prop where
 bd:∀ i:Int,0≤i∧i<n→0≤f i∧f i<n
 inj:∀ i j:Int,0≤i∧i<n→0≤j∧j<n→f i=f j→i=j
variable {α:Type} {ps:List (List Int)} {i j m n:Nat}
theorem Zma {o:List Int} (h:CoOrd n o):Ordr n (oAt o):=by
 refine ⟨fun i hi=>h.bd i.toNat (by omega),fun i j hi hj e=>?_⟩
 have:=h.inj i.toNat j.toNat (by omega) (by omega) e
 omega
abbrev inR (n:Nat) (l:List Int):Prop:=∀ i∈l,0≤i∧i<n
abbrev ph (f:Int→Int) (s:List Int):List Int:=srtI (s.map f)
section
variable {n:Nat} {f:Int→Int} (O:Ordr n f)
include O
theorem Zu2 {s:List Int} (nd:s.Nodup) (b:inR n s):(ph f s).Pairwise (·<·):=by
 refine Zab (Ze9 _) ((Yh _).nodup_iff.mpr ?_);rw [n20_,n43_];exact n54_ (fun {x y} hx hy ne e=>ne (O.inj x y (b x hx) (b y hy) e)) (n20_.mp nd)
theorem Zcn {s:List Int} {x:Int}:x∈ph f s↔∃ c∈s,f c=x:=by rw [(Yh _).mem_iff,n18_]
theorem Zq0 {p:List Int} (t:Tri3 p) (b:inR n p):Tri3 (ph f p):=Zs0 (by rw [(Yh _).length_eq,n5_,t.len]) (Zu2 O (t.pw.imp fun {x y} h=>by omega) b)
theorem Ze0 {s t:List Int} (hs:s.Pairwise (·<·)) (ht:t.Pairwise (·<·)) (bs:inR n s) (bt:inR n t) (e:ph f s=ph f t):s=t:=by
 refine Zf4 hs ht fun x=>⟨fun hx=>?_,fun hx=>?_⟩
 · have:f x∈ph f t:=by rw [← e];exact (Zcn O).mpr ⟨x,hx,rfl⟩
   obtain ⟨c,hc,ec⟩:=(Zcn O).mp this;rw [← O.inj c x (bt c hc) (bs x hx) ec];exact hc
 · have:f x∈ph f s:=by rw [e];exact (Zcn O).mpr ⟨x,hx,rfl⟩
   obtain ⟨c,hc,ec⟩:=(Zcn O).mp this;rw [← O.inj c x (bs c hc) (bt x hx) ec];exact hc
theorem Zan {p s:List Int} (t:Tri3 p) (b:inR n p) (h:s∈Z0 p):s.Pairwise (·<·)∧inR n s:=by
 obtain ⟨x,y,rfl,lt,hx,hy⟩:=(Xa t.len t.up).mp h;refine ⟨by simp [lt],fun i hi=>?_⟩;simp only [n12_,n16_,or_false] at hi
 rcases hi with rfl|rfl
 · exact b _ hx
 · exact b _ hy
theorem Zbo {p:List Int} (t:Tri3 p) (b:inR n p) (s':List Int):s'∈Z0 (ph f p)↔∃ s∈Z0 p,s'=ph f s:=by
 have t':=Zq0 O t b;rw [Xa t'.len t'.up];constructor
 · rintro ⟨x,y,rfl,lt,hx,hy⟩
   obtain ⟨c,hc,rfl⟩:=(Zcn O).mp hx;obtain ⟨d,hd,rfl⟩:=(Zcn O).mp hy;have ne:c≠d:=fun e=>by rw [e] at lt;omega
   by_cases cd:c<d
   · exact ⟨[c,d],(Xa t.len t.up).mpr ⟨c,d,rfl,cd,hc,hd⟩,Zay (.refl _) (by simp;omega)⟩
   · exact ⟨[d,c],(Xa t.len t.up).mpr ⟨d,c,rfl,by omega,hd,hc⟩,Zay (.swap ..) (by simp;omega)⟩
 · rintro ⟨s,hs,rfl⟩
   obtain ⟨c,d,rfl,cd,hc,hd⟩:=(Xa t.len t.up).mp hs;have l:=Zu2 O (s:=[c,d]) (by simp;omega) (Zan O t b hs).2;have h2:(ph f [c,d]).length=2:=by rw [(Yh _).length_eq];rfl
   have hm:∀ x∈ph f [c,d],x∈ph f p:=fun x hx=>by
    obtain ⟨e,he,rfl⟩:=(Zcn O).mp hx;refine (Zcn O).mpr ⟨e,?_,rfl⟩;simp only [n12_,n16_,or_false] at he
    rcases he with rfl|rfl<;>assumption
   match ph f [c,d],h2,l,hm with
   | [x,y],_,l,hm=>exact ⟨x,y,rfl,by simpa using l,hm x (by simp),hm y (by simp)⟩
end
theorem Zeg [DecidableEq α] {l m:List α} (a:l.Nodup) (b:m.Nodup) (h:∀ x,x∈l↔x∈m):l.Perm m :=
 Zdq l m a (fun x hx=>(h x).mp hx) (Zas b fun x hx=>(h x).mpr hx)
theorem Znh {A:Nat→Nat→Prop}:∃ l,PartOk A n i l:=by
 classical
 refine ⟨((List.range n).filter fun j=>decide (Conn A n i j)).map fun (j:Nat)=>(j:Int),?_,fun x=>?_⟩
 · rw [n43_];exact (List.pairwise_lt_range.sublist List.filter_sublist).imp fun {x y} h=>by omega
 · rw [n18_];constructor
   · rintro ⟨j,hj,rfl⟩
     obtain ⟨h1,h2⟩:=n71_.mp hj;exact ⟨j,rfl,n24_.mp h1,n51_ h2⟩
   · rintro ⟨j,rfl,hj,cn⟩
     exact ⟨j,n71_.mpr ⟨n24_.mpr hj,n29_ cn⟩,rfl⟩
theorem getm (hi:i<ps.length):ps.getD i []∈ps:=by rw [n2_,n1_ hi];exact n37_ hi
theorem Zoj {g:List Int→List Int} {s:List Int}:∀ (l:List (List Int)),(∀ t∈l,g t=g s→t=s)→(l.map g).count (g s)=l.count s
 | [],_=>rfl
 | t :: l,h=>by
   rw [n31_,List.count_cons,List.count_cons,Zoj l fun u hu=>h u (n19_ _ hu)]
   congr 1
   by_cases c:t=s
   · subst c;simp
   · have:g t≠g s:=fun e=>c (h t n27_ e)
     simp [c,this]
structure Led (n:Nat) (f:Int→Int) (ps ps':List (List Int)):Prop where
 ord:Ordr n f
 tri:∀ p∈ps,Tri3 p
 bd:∀ p∈ps,inR n p
 nd:ps.Nodup
 pm:ps'.Perm (ps.map (ph f))
section
variable {n:Nat} {f:Int→Int} {ps ps':List (List Int)} (L:Led n f ps ps')
include L
theorem Led.row {s:List Int} (hs:s∈Zn ps):s.Pairwise (·<·)∧inR n s:=by
 obtain ⟨p,hp,hs⟩:=List.mem_flatMap.mp hs;exact Zan L.ord (L.tri p hp) (L.bd p hp) hs
theorem Led.rows:(Zn ps').Perm ((Zn ps).map (ph f)):=by
 have h1:(Zn ps').Perm (Zn (ps.map (ph f))):=L.pm.flatMap_right _;refine h1.trans ?_;unfold Zn;rw [List.flatMap_map,List.map_flatMap]
 have:∀ qs:List (List Int),(∀ p∈qs,p∈ps)→(qs.flatMap fun p=>Z0 (ph f p)).Perm (qs.flatMap fun p=>(Z0 p).map (ph f)):=by
  intro qs
  induction qs with
  | nil=>intro _;exact .nil
  | cons p qs ih =>
    intro h;have hp:=h p n27_;have t:=L.tri p hp;have b:=L.bd p hp;rw [List.flatMap_cons,List.flatMap_cons];refine List.Perm.append (Zeg (Zhp (Zq0 L.ord t b)) ?_ fun s'=>?_) (ih fun q hq=>h q (n19_ _ hq))
    · rw [n20_,n43_];exact n54_ (fun {x y} hx hy ne e=>ne (Ze0 L.ord (Zan L.ord t b hx).1 (Zan L.ord t b hy).1 (Zan L.ord t b hx).2 (Zan L.ord t b hy).2 e)) (n20_.mp (Zhp t))
    · rw [Zbo L.ord t b,n18_];exact ⟨fun ⟨s,a,e⟩=>⟨s,a,e.symm⟩,fun ⟨s,a,e⟩=>⟨s,a,e.symm⟩⟩
 exact this ps fun p hp=>hp
theorem Led.rinj {s t:List Int} (hs:s∈Zn ps) (ht:t∈Zn ps) (e:ph f s=ph f t):s=t:=Ze0 L.ord (L.row hs).1 (L.row ht).1 (L.row hs).2 (L.row ht).2 e
theorem Led.mem (k:List Int):k∈Zn ps'↔∃ s∈Zn ps,ph f s=k:=by rw [L.rows.mem_iff,n18_]
theorem Led.cnt {s:List Int} (hs:s∈Zn ps):(Zn ps').count (ph f s)=(Zn ps).count s:=by
 rw [L.rows.count_eq];exact Zoj _ fun t ht e=>L.rinj ht hs e
theorem Led.sides {a b c:List (List Int)} (ha:∀ k,k∈a↔k∈Zn ps) (hb:Zat b) (hb2:∀ k,k∈b↔k∈Zn ps') (hc:Zat c) (hc2:∀ k,k∈c↔k∈a.map (ph f)):c=b :=
 Zbm hc hb fun k=>by
  rw [hc2,hb2,L.mem,n18_];exact ⟨fun ⟨s,h,e⟩=>⟨s,(ha s).mp h,e⟩,fun ⟨s,h,e⟩=>⟨s,(ha s).mpr h,e⟩⟩
theorem Led.rims {a b c:List (List Int)} (ha:∀ k,k∈a↔k∈Zn ps∧(Zn ps).count k=1) (hb:Zat b) (hb2:∀ k,k∈b↔k∈Zn ps'∧(Zn ps').count k=1) (hc:Zat c) (hc2:∀ k,k∈c↔k∈a.map (ph f)):c=b :=
 Zbm hc hb fun k=>by
  rw [hc2,hb2,L.mem,n18_];constructor
  · rintro ⟨s,h,rfl⟩
    obtain ⟨h1,h2⟩:=(ha s).mp h;exact ⟨⟨s,h1,rfl⟩,by rw [L.cnt h1];exact h2⟩
  · rintro ⟨⟨s,h,rfl⟩,h2⟩
    exact ⟨s,(ha s).mpr ⟨h,by rw [← L.cnt h];exact h2⟩,rfl⟩
theorem Led.mp_nd:(ps.map (ph f)).Nodup:=by
 rw [n20_,n43_];exact n54_ (fun {x y} hx hy ne e=>ne (Ze0 L.ord (L.tri x hx).pw (L.tri y hy).pw (L.bd x hx) (L.bd y hy) e)) (n20_.mp L.nd)
theorem Led.len:ps'.length=ps.length:=by rw [L.pm.length_eq,n5_]
theorem Led.ix (hi:i<ps.length):ps'.idxOf (ph f (ps.getD i []))<ps.length∧ps'.getD (ps'.idxOf (ph f (ps.getD i []))) []=ph f (ps.getD i []):=by
 have hm:ph f (ps.getD i [])∈ps':=by
  rw [L.pm.mem_iff];refine n39_ ?_;rw [n2_,n1_ hi];exact n37_ hi
 have hl:=List.idxOf_lt_length_of_mem hm;refine ⟨by rw [← L.len];exact hl,?_⟩;rw [n2_,n1_ hl];exact List.getElem_idxOf hl
end
abbrev pix (f:Int→Int) (ps ps':List (List Int)) (i:Nat):Nat:=ps'.idxOf (ph f (ps.getD i []))
section
variable {n:Nat} {f:Int→Int} {ps ps':List (List Int)} (L:Led n f ps ps')
include L
theorem Led.pinj (hi:i<ps.length) (hj:j<ps.length) (e:pix f ps ps' i=pix f ps ps' j):i=j:=by
 have h:=(L.ix hi).2;rw [show ps'.idxOf (ph f (ps.getD i []))=ps'.idxOf (ph f (ps.getD j [])) from e,(L.ix hj).2] at h;have h1:=getm hi;have h2:=getm hj;have e2:=Ze0 L.ord (L.tri _ h2).pw (L.tri _ h1).pw (L.bd _ h2) (L.bd _ h1) h;have g:∀ k (h:k<ps.length),ps.getD k []=ps[k]:=fun k h=>by simp [n2_,h]
 rw [g i hi,g j hj] at e2;exact ((n53_ (h₀:=hj) (h₁:=hi) L.nd).mp e2).symm
theorem Led.psur (hm:m<ps.length):∃ i,i<ps.length∧pix f ps ps' i=m:=by
 have nd':ps'.Nodup:=L.pm.nodup_iff.mpr L.mp_nd;have hl:=L.len;have h1:ps'.getD m []∈ps.map (ph f):=L.pm.mem_iff.mp (getm (ps:=ps') (by omega));obtain ⟨p,hp,e⟩:=n18_.mp h1;obtain ⟨i,hi,rfl⟩:=n50_ hp;have g:ps.getD i []=ps[i]:=by simp [n2_,hi]
 refine ⟨i,hi,?_⟩;have h2:=L.ix hi;unfold pix;generalize hq:ps'.idxOf (ph f (ps.getD i []))=q at h2;rw [g,e] at h2;have g':∀ k (h:k<ps'.length),ps'.getD k []=ps'[k]:=fun k h=>by simp [n2_,h]
 rw [g' q (by omega),g' m (by omega)] at h2;exact (n53_ (h₀:=by omega) (h₁:=by omega) nd').mp h2.2
theorem Led.adj (hi:i<ps.length) (hj:j<ps.length):Adj ps' (pix f ps ps' i) (pix f ps ps' j)↔Adj ps i j:=by
 have mi:=getm hi;have mj:=getm hj;unfold Adj pix;rw [(L.ix hi).2,(L.ix hj).2];constructor
 · rintro ⟨s',h1,h2⟩
   obtain ⟨s,hs,rfl⟩:=(Zbo L.ord (L.tri _ mi) (L.bd _ mi) _).mp h1;obtain ⟨t,ht,e⟩:=(Zbo L.ord (L.tri _ mj) (L.bd _ mj) _).mp h2;have a:=Zan L.ord (L.tri _ mi) (L.bd _ mi) hs;have b:=Zan L.ord (L.tri _ mj) (L.bd _ mj) ht
   have:s=t:=Ze0 L.ord a.1 b.1 a.2 b.2 e
   exact ⟨s,hs,this ▸ ht⟩
 · rintro ⟨s,h1,h2⟩
   exact ⟨ph f s,(Zbo L.ord (L.tri _ mi) (L.bd _ mi) _).mpr ⟨s,h1,rfl⟩,(Zbo L.ord (L.tri _ mj) (L.bd _ mj) _).mpr ⟨s,h2,rfl⟩⟩
theorem Led.conn (hi:i<ps.length) (hj:j<ps.length):Conn (Adj ps') ps.length (pix f ps ps' i) (pix f ps ps' j)↔Conn (Adj ps) ps.length i j:=by
 constructor
 · intro c p cl hp
   obtain ⟨k,hk,e,q⟩:=c (fun x=>∃ k,k<ps.length∧pix f ps ps' k=x∧p k) (fun a b ha hb ab ⟨k,hk,e,q⟩=>by
    obtain ⟨l,hl,e2⟩:=L.psur hb;rw [← e,← e2] at ab;exact ⟨l,hl,e2,cl k l hk hl ((L.adj hk hl).mp ab) q⟩) ⟨i,hi,rfl,hp⟩
   rw [← L.pinj hk hj e];exact q
 · intro c p cl hp;exact c (fun x=>p (pix f ps ps' x)) (fun a b ha hb ab q=>cl _ _ (L.ix ha).1 (L.ix hb).1 ((L.adj ha hb).mpr ab) q) hp
abbrev psi (f:Int→Int) (ps ps':List (List Int)) (l:List Int):List Int:=srtI (l.map fun x=>((pix f ps ps' x.toNat:Nat):Int))
theorem Led.part (hi:i<ps.length) {l:List Int} (p:PartOk (Adj ps) ps.length i l):PartOk (Adj ps') ps'.length (pix f ps ps' i) (psi f ps ps' l):=by
 rw [L.len];refine ⟨Zab (Ze9 _) ((Yh _).nodup_iff.mpr ?_),fun x=>?_⟩
 · rw [n20_,n43_];refine n54_ (fun {x y} hx hy lt e=>?_) p.rise;obtain ⟨a,rfl,ha,_⟩:=(p.mem x).mp hx;obtain ⟨b,rfl,hb,_⟩:=(p.mem y).mp hy
   have:=L.pinj (i:=a) (j:=b) ha hb (by simpa using Int.ofNat.inj e)
   omega
 · rw [(Yh _).mem_iff,n18_];constructor
   · rintro ⟨y,hy,rfl⟩
     obtain ⟨a,rfl,ha,c⟩:=(p.mem y).mp hy;exact ⟨_,rfl,(L.ix ha).1,(L.conn hi ha).mpr c⟩
   · rintro ⟨m,rfl,hm,c⟩
     obtain ⟨a,ha,rfl⟩:=L.psur hm;exact ⟨a,(p.mem a).mpr ⟨a,rfl,ha,(L.conn hi ha).mp c⟩,rfl⟩
theorem Led.parts {a b c:List (List Int)} (ha:PartsOk (Adj ps) ps.length a) (hb:PartsOk (Adj ps') ps'.length b) (hc:Zat c) (hc2:∀ k,k∈c↔k∈a.map (psi f ps ps')):c=b:=by
 have hl:=L.len;refine PartsOk.eq (A:=Adj ps') (n:=ps'.length) ⟨hc,fun k=>?_⟩ hb;rw [hc2,n18_];constructor
 · rintro ⟨l,h,rfl⟩
   obtain ⟨i,hi,p⟩:=(ha.mem l).mp h;exact ⟨_,by rw [hl];exact (L.ix hi).1,L.part hi p⟩
 · rintro ⟨m,hm,p⟩
   obtain ⟨i,hi,rfl⟩:=L.psur (m:=m) (by omega);have ex:∃ l,PartOk (Adj ps) ps.length i l:=Znh;obtain ⟨l,pl⟩:=ex;exact ⟨l,(ha.mem l).mpr ⟨i,hi,pl⟩,(L.part hi pl).eq p⟩
theorem Led.psi_nd {a:List (List Int)} (ha:PartsOk (Adj ps) ps.length a):(a.map (psi f ps ps')).Nodup:=by
 rw [n20_,n43_];refine n54_ (fun {l l'} hl hl' lt e=>?_) ha.rise;obtain ⟨i,hi,p⟩:=(ha.mem l).mp hl;obtain ⟨i',hi',p'⟩:=(ha.mem l').mp hl';have q:=L.part hi p;have q':=L.part hi' p';rw [e] at q;have h1:=(q.mem _).mp ((q'.mem _).mpr ⟨_,rfl,by rw [L.len];exact (L.ix hi').1,.refl⟩);obtain ⟨m,em,hm,c⟩:=h1;have em':m=pix f ps ps' i':=by omega
 rw [em',L.len] at c;have cc:=(L.conn hi hi').mp c
 have:l=l':=by
  refine Zf4 p.rise p'.rise fun x=>(p.mem x).trans (Iff.trans ?_ (p'.mem x).symm);have sy:Conn (Adj ps) ps.length i' i:=cc (fun z=>z<ps.length∧Conn (Adj ps) ps.length z i) (fun u v hu hv uv hz=>⟨hv,(Conn.one hv hu uv.symm).trans hz.2⟩) ⟨hi,.refl⟩ |>.2;exact ⟨fun ⟨y,h1,h2,h3⟩=>⟨y,h1,h2,sy.trans h3⟩,fun ⟨y,h1,h2,h3⟩=>⟨y,h1,h2,cc.trans h3⟩⟩
 rw [this,Xy] at lt;cases lt
end
theorem Zfu (hi:i<n) (c:Conn (Adj ps) n i j):Conn (Adj ps) n j i:=c (fun z=>z<n∧Conn (Adj ps) n z i) (fun u v hu hv uv hz=>⟨hv,(Conn.one hv hu uv.symm).trans hz.2⟩) ⟨hi,.refl⟩ |>.2
theorem Zh6 {a:List (List Int)} (h:PartsOk (Adj ps) n a):a.flatten.Perm ((List.range n).map fun (i:Nat)=>(i:Int)):=by
 refine Zeg (Zmv (fun l hl=>?_) ?_) ?_ fun x=>?_
 · obtain ⟨i,hi,p⟩:=(h.mem l).mp hl;exact p.rise.imp fun {x y} z=>by omega
 · refine n54_ (fun {l l'} hl hl' lt x hx hx'=>?_) h.rise;obtain ⟨i,hi,p⟩:=(h.mem l).mp hl;obtain ⟨i',hi',p'⟩:=(h.mem l').mp hl';obtain ⟨m,rfl,hm,c⟩:=(p.mem x).mp hx;obtain ⟨m',e',_,c'⟩:=(p'.mem _).mp hx'
   have:m=m':=by omega
   subst this
   have:l=l':=by
    refine Zf4 p.rise p'.rise fun x=>(p.mem x).trans (Iff.trans ?_ (p'.mem x).symm);exact ⟨fun ⟨y,h1,h2,h3⟩=>⟨y,h1,h2,(c'.trans (Zfu hi c)).trans h3⟩,fun ⟨y,h1,h2,h3⟩=>⟨y,h1,h2,(c.trans (Zfu hi' c')).trans h3⟩⟩
   rw [this,Xy] at lt;cases lt
 · rw [n20_,n43_];exact (n20_.mp List.nodup_range).imp fun {x y} ne e=>ne (by omega)
 · rw [n75_,n18_];constructor
   · rintro ⟨l,hl,hx⟩
     obtain ⟨i,hi,p⟩:=(h.mem l).mp hl;obtain ⟨m,rfl,hm,_⟩:=(p.mem x).mp hx;exact ⟨m,n24_.mpr hm,rfl⟩
   · rintro ⟨m,hm,rfl⟩
     have hm:=n24_.mp hm;obtain ⟨l,p⟩:=Znh (A:=Adj ps) (n:=n) (i:=m);exact ⟨l,(h.mem _).mpr ⟨m,hm,p⟩,(p.mem _).mpr ⟨m,rfl,hm,.refl⟩⟩
end L2
namespace L2
open PySem
theorem Zpq {cs:List Pnt} {i:Int} (h0:0≤i) (h1:i≤(cs.length:Int)-1):cAt cs i∈cs:=by
 have hn:i.toNat<cs.length:=by omega
 unfold cAt;rw [n2_,n1_ hn];exact n37_ hn
abbrev pcsA (P:Pl) (l:List Int):List (List Int):=l.map fun i=>P.ps.getD i.toNat []
abbrev ixA (u:List Int) (x:Int):Int:=((u.idxOf x:Nat):Int)
def Z9 (P:Pl) (l u:List Int):Pl:=⟨u.map (cAt P.cs),(pcsA P l).map fun p=>p.map (ixA u),l.map fun i=>P.ts.getD i.toNat 0,P.l,P.m⟩
structure AlnOk (P:Pl) (l u:List Int):Prop where
 ok:PlOk P
 rise:l.Pairwise (·<·)
 ne:l≠[]
 bd:∀ i∈l,∃ m:Nat,i=m∧m<P.ps.length
 ur:u.Pairwise (·<·)
 um:∀ x,x∈u↔x∈(pcsA P l).flatten
theorem Zdz {u:List Int} {x:Int} (h:x∈u):u.idxOf x<u.length∧u.getD (u.idxOf x) 0=x:=by
 have hl:=List.idxOf_lt_length_of_mem h;refine ⟨hl,?_⟩;rw [n2_,n1_ hl];exact List.getElem_idxOf hl
variable {i j:Nat}
theorem Ztv {u:List Int} (ur:u.Pairwise (·<·)) (h:j<u.length):u.idxOf (u.getD j 0)=j:=by
 have e:u.getD j 0=u[j]:=by simp [n2_,h]
 have hm:u.getD j 0∈u:=by rw [e];exact n37_ h
 obtain ⟨hl,h2⟩:=Zdz hm;have nd:u.Nodup:=ur.imp fun {x y} z=>by omega
 generalize u.idxOf (u.getD j 0)=q at hl h2 ⊢;rw [n2_,n1_ hl,e] at h2;exact (n53_ (h₀:=hl) (h₁:=h) nd).mp h2
theorem Zr0 {u:List Int} (ur:u.Pairwise (·<·)) {x y:Int} (hx:x∈u) (hy:y∈u):ixA u x<ixA u y↔x<y:=by
 obtain ⟨h1,e1⟩:=Zdz hx;obtain ⟨h2,e2⟩:=Zdz hy;have pw:=n63_.mp ur;have g:∀ j (h:j<u.length),u.getD j 0=u[j]:=fun j h=>by simp [n2_,h]
 rw [g _ h1] at e1;rw [g _ h2] at e2;unfold ixA
 rcases Nat.lt_trichotomy (u.idxOf x) (u.idxOf y) with c|c|c
 · have:=pw _ _ h1 h2 c
   rw [e1,e2] at this;omega
 · have:x=y:=by rw [← e1,← e2];simp [c]
   omega
 · have:=pw _ _ h2 h1 c
   rw [e1,e2] at this;omega
theorem Zmd {u:List Int} {x y:Int} (hx:x∈u) (hy:y∈u) (e:ixA u x=ixA u y):x=y:=by
 rw [← (Zdz hx).2,← (Zdz hy).2,show u.idxOf x=u.idxOf y by unfold ixA at e;omega]
theorem Zq3 {u:List Int} (ur:u.Pairwise (·<·)):∀ {p q:List Int},(∀ x∈p,x∈u)→(∀ x∈q,x∈u)→HT.lexLt (p.map (ixA u)) (q.map (ixA u))=HT.lexLt p q
 | [],[],_,_=>rfl
 | [],_ :: _,_,_=>rfl
 | _ :: _,[],_,_=>rfl
 | x :: p,y :: q,hp,hq=>by
   have hx:=hp x n27_;have hy:=hq y n27_;rw [n31_,n31_,HT.lexLt_cons,HT.lexLt_cons,Zq3 ur (fun z h=>hp z (n19_ _ h)) fun z h=>hq z (n19_ _ h)]
   by_cases c:x=y
   · subst c;rw [if_pos rfl,if_pos rfl]
   · rw [if_neg c,if_neg fun e=>c (Zmd hx hy e)];rw [n79_,decide_eq_true_eq,decide_eq_true_eq];exact Zr0 ur hx hy
theorem Zb6 (g:Int→Int) {p:List Int} (h:p.length=3):Z0 (p.map g)=(Z0 p).map fun s=>s.map g:=by
 match p,h with
 | [a,b,c],_=>rfl
section
variable {P:Pl} {l u:List Int} (A:AlnOk P l u)
include A
theorem AlnOk.pc (hi:i<l.length):∃ m:Nat,l.getD i 0=m∧m<P.ps.length∧(pcsA P l).getD i []=P.ps.getD m []∧P.ps.getD m []∈P.ps:=by
 have e:l.getD i 0=l[i]:=by simp [n2_,hi]
 obtain ⟨m,em,hm⟩:=A.bd _ (n37_ hi);refine ⟨m,by rw [e,em],hm,?_,getm hm⟩;unfold pcsA;rw [n2_,n6_,n1_ hi,em];rfl
theorem AlnOk.mem {p:List Int} (hp:p∈pcsA P l):p∈P.ps∧∀ x∈p,x∈u:=by
 obtain ⟨i,hi,rfl⟩:=n18_.mp hp;obtain ⟨m,rfl,hm⟩:=A.bd i hi;exact ⟨getm hm,fun x hx=>(A.um x).mpr (n75_.mpr ⟨_,hp,hx⟩)⟩
theorem AlnOk.ub {x:Int} (hx:x∈u):0≤x∧x≤(P.cs.length:Int)-1:=by
 obtain ⟨p,hp,hx⟩:=n75_.mp ((A.um x).mp hx);exact (A.ok.pc p (A.mem hp).1).bd x hx
theorem AlnOk.cat {x:Int} (hx:x∈u):cAt (Z9 P l u).cs (ixA u x)=cAt P.cs x:=by
 obtain ⟨h1,h2⟩:=Zdz hx;unfold Z9;show (u.map (cAt P.cs)).getD (ixA u x).toNat (0,0)=_
 rw [show (ixA u x).toNat=u.idxOf x from n62_ _,n2_,n6_,n1_ h1];rw [n2_,n1_ h1] at h2;show cAt P.cs u[u.idxOf x]=_
 rw [show u[u.idxOf x]=x from h2]
theorem AlnOk.g3 {p:List Int} (hp:p∈pcsA P l):∃ a b c,p=[a,b,c]∧a∈u∧b∈u∧c∈u:=by
 obtain ⟨h1,h2⟩:=A.mem hp;have h3:=(A.ok.pc p h1).len
 match p,h3,h2 with
 | [a,b,c],_,h2=>exact ⟨a,b,c,rfl,h2 a (by simp),h2 b (by simp),h2 c (by simp)⟩
theorem AlnOk.d {p:List Int} (hp:p∈pcsA P l):dOf (Z9 P l u).cs (p.map (ixA u))=dOf P.cs p∧trOf (Z9 P l u).cs (p.map (ixA u))=trOf P.cs p:=by
 obtain ⟨a,b,c,rfl,ha,hb,hc⟩:=A.g3 hp;unfold dOf trOf;show tn (cAt _ (ixA u a)) (cAt _ (ixA u b)) (cAt _ (ixA u c))=_∧tri (cAt _ (ixA u a)) (cAt _ (ixA u b)) (cAt _ (ixA u c))=_
 rw [A.cat ha,A.cat hb,A.cat hc];exact ⟨rfl,rfl⟩
theorem AlnOk.n0:0<l.length:=List.length_pos_iff.mpr A.ne
theorem AlnOk.len:l.length≤P.ps.length:=Zh9 (A.rise.imp fun {x y} z=>by omega) A.bd
theorem AlnOk.pl:PlOk (Z9 P l u):=by
 have ok:=A.ok;have und:u.Nodup:=A.ur.imp fun {x y} z=>by omega
 have n0:=A.n0;have ll:=A.len;have rl:(Z9 P l u).ps.length=l.length:=by simp [Z9]
 have ul:u.length≤P.cs.length:=Zh9 und fun x hx=>by have:=A.ub hx;exact ⟨x.toNat,by omega,by omega⟩
 have row:∀ i,i<l.length→∃ m:Nat,l.getD i 0=m∧m<P.ps.length∧P.ps.getD m []∈pcsA P l∧(Z9 P l u).ps.getD i []=(P.ps.getD m []).map (ixA u):=fun i hi=>by
  obtain ⟨m,e1,hm,e2,_⟩:=A.pc hi;refine ⟨m,e1,hm,?_,?_⟩
  · rw [← e2];exact getm (by simpa using hi)
  · show ((pcsA P l).map fun p=>p.map (ixA u)).getD i []=_
    rw [n2_,n6_,n1_ (by simpa using hi)];rw [n2_,n1_ (by simpa using hi)] at e2;show (((pcsA P l)[i]'_).map (ixA u))=_
    rw [show (pcsA P l)[i]'(by simpa using hi)=P.ps.getD m [] from e2]
 have pw:=n63_.mp A.rise
 have lt:∀ i j (hi:i<j) (hj:j<l.length) (a b:Nat),l.getD i 0=a→l.getD j 0=b→a<b:=fun i j hij hj a b ea eb=>by
  have:=pw i j (by omega) hj hij
  rw [n2_,n1_ (by omega)] at ea;rw [n2_,n1_ hj] at eb;have ea':l[i]=(a:Int):=ea;have eb':l[j]=(b:Int):=eb;omega
 refine ⟨?_,?_,fun p hp0=>?_,?_,by rw [rl];exact n0,by rw [rl];have:=ok.p40;omega,fun p hp0=>?_,fun i hi=>?_,?_,fun t ht=>?_,ok.l9,ok.m9,?_,fun p hp0 j hj nm=>?_,fun i j hij hj=>?_⟩
 · obtain ⟨m,_,hm,hp,_⟩:=row 0 n0;have t:=ok.pc _ (A.mem hp).1;have pnd:(P.ps.getD m []).Nodup:=(Tri3.pw ⟨t.len,t.rise⟩).imp fun {x y} z=>by omega
   have:=Zas pnd (A.mem hp).2
   rw [t.len] at this;show 3≤(u.map (cAt P.cs)).length
   rw [n5_];exact this
 · show (u.map (cAt P.cs)).length≤30
   rw [n5_];have:=ok.c30;omega
 · obtain ⟨x,hx,rfl⟩:=n18_.mp (show p∈u.map (cAt P.cs) from hp0);have b:=A.ub hx;exact ok.nr _ (Zpq b.1 b.2)
 · show (u.map (cAt P.cs)).Nodup
   rw [n20_,n43_];refine n54_ (fun {x y} hx hy ne e=>ne ?_) (n20_.mp und);have bx:=A.ub hx;have bz:=A.ub hy;unfold cAt at e;rw [n2_,n1_ (show x.toNat<P.cs.length by omega),n2_,n1_ (show y.toNat<P.cs.length by omega)] at e
   have:=(n53_ (h₀:=show x.toNat<P.cs.length by omega) (h₁:=show y.toNat<P.cs.length by omega) ok.nd).mp e
   omega
 · obtain ⟨p,hp,rfl⟩:=n18_.mp (show p∈(pcsA P l).map fun p=>p.map (ixA u) from hp0);have t:=ok.pc _ (A.mem hp).1;refine ⟨by rw [n5_,t.len],fun x hx=>?_,?_,by rw [(A.d hp).1];exact t.d⟩
   · obtain ⟨y,hy,rfl⟩:=n18_.mp hx
     have:=(Zdz ((A.mem hp).2 y hy)).1
     show _∧_≤((u.map (cAt P.cs)).length:Int)-1
     rw [n5_];unfold ixA;omega
   · obtain ⟨a,b,c,rfl,ha,hb,hc⟩:=A.g3 hp;exact ⟨(Zr0 A.ur ha hb).mpr t.rise.1,(Zr0 A.ur hb hc).mpr t.rise.2⟩
 · rw [rl] at hi;obtain ⟨m,e1,hm,hp,r1⟩:=row i (by omega);obtain ⟨m',e1',hm',hp',r1'⟩:=row (i+1) hi;rw [r1,r1',Zq3 A.ur (A.mem hp).2 (A.mem hp').2];have h1:=lt i (i+1) (by omega) hi m m' e1 e1'
   have:=Zjq (m:=3) (fun k hk=>(ok.pc k hk).len) ok.rise (m'-m-1) m (by omega)
   rwa [show m+(m'-m-1)+1=m' by omega] at this
 · simp [Z9]
 · obtain ⟨i,hi,rfl⟩:=n18_.mp (show t∈l.map fun i=>P.ts.getD i.toNat 0 from ht);obtain ⟨m,rfl,hm⟩:=A.bd i hi;have h1:m<P.ts.length:=by rw [ok.t1];exact hm
   rw [n62_,n2_,n1_ h1];exact ok.t9 _ (n37_ h1)
 · show cntS ((pcsA P l).map fun p=>p.map (ixA u)).flatten=(u.map (cAt P.cs)).length
   rw [n5_];refine Zh0 _ (fun x hx=>?_) fun k hk=>?_
   · obtain ⟨q,hq,hx⟩:=n75_.mp hx;obtain ⟨p,hp,rfl⟩:=n18_.mp hq;obtain ⟨y,hy,rfl⟩:=n18_.mp hx
     have:=(Zdz ((A.mem hp).2 y hy)).1
     unfold ixA;omega
   · have e:u.getD k 0=u[k]:=by simp [n2_,hk]
     have hm:u.getD k 0∈u:=by rw [e];exact n37_ hk
     obtain ⟨p,hp,hx⟩:=n75_.mp ((A.um _).mp hm);refine n75_.mpr ⟨_,n39_ hp,n18_.mpr ⟨_,hx,?_⟩⟩;unfold ixA;rw [Ztv A.ur hk]
 · obtain ⟨p,hp,rfl⟩:=n18_.mp (show p∈(pcsA P l).map fun p=>p.map (ixA u) from hp0);have hj':j<u.length:=by have:j<(u.map (cAt P.cs)).length:=hj;rwa [n5_] at this
   have e:u.getD j 0=u[j]:=by simp [n2_,hj']
   have hm:u.getD j 0∈u:=by rw [e];exact n37_ hj'
   have b:=A.ub hm;have nm':u.getD j 0∉p:=fun z=>nm (n18_.mpr ⟨_,z,by unfold ixA;rw [Ztv A.ur hj']⟩);rw [(A.d hp).2]
   have:=ok.strange p (A.mem hp).1 (u.getD j 0).toNat (by omega) (by rw [show (((u.getD j 0).toNat:Nat):Int)=u.getD j 0 by omega];exact nm')
   have ec:(Z9 P l u).cs.getD j (0,0)=P.cs.getD (u.getD j 0).toNat (0,0):=by
    show (u.map (cAt P.cs)).getD j (0,0)=_
    rw [n2_,n6_,n1_ hj',e];rfl
   rw [ec];exact this
 · rw [rl] at hj;obtain ⟨m,e1,hm,hp,r1⟩:=row i (by omega);obtain ⟨m',e1',hm',hp',r1'⟩:=row j hj;rw [r1,r1',(A.d hp).2,(A.d hp').2];exact ok.apart m m' (lt i j hij hj m m' e1 e1') hm'
theorem AlnOk.adj {a b:Nat} (hi:i<l.length) (hj:j<l.length) (ea:l.getD i 0=a) (eb:l.getD j 0=b):Adj (Z9 P l u).ps i j↔Adj P.ps a b:=by
 have row:∀ i a:Nat,i<l.length→l.getD i 0=a→P.ps.getD a []∈pcsA P l∧(Z9 P l u).ps.getD i []=(P.ps.getD a []).map (ixA u):=fun i a hi ea=>by
  obtain ⟨m,e1,hm,e2,_⟩:=A.pc hi
  have:a=m:=by omega
  subst this;refine ⟨by rw [← e2];exact getm (by simpa using hi),?_⟩;show ((pcsA P l).map fun p=>p.map (ixA u)).getD i []=_
  rw [n2_,n6_,n1_ (by simpa using hi)];rw [n2_,n1_ (by simpa using hi)] at e2;show (((pcsA P l)[i]'_).map (ixA u))=_
  rw [show (pcsA P l)[i]'(by simpa using hi)=P.ps.getD a [] from e2]
 obtain ⟨m1,r1⟩:=row i a hi ea;obtain ⟨m2,r2⟩:=row j b hj eb;have t1:=A.ok.pc _ (A.mem m1).1;have t2:=A.ok.pc _ (A.mem m2).1;unfold Adj;rw [r1,r2,Zb6 _ t1.len,Zb6 _ t2.len]
 have inu:∀ {p s:List Int},p∈pcsA P l→s∈Z0 p→∃ x y,s=[x,y]∧x∈u∧y∈u:=fun {p s} hp hs=>by
  have t:=A.ok.pc _ (A.mem hp).1;obtain ⟨x,y,e,_,hx,hy⟩:=(Xa t.len t.rise).mp hs;exact ⟨x,y,e,(A.mem hp).2 x hx,(A.mem hp).2 y hy⟩
 constructor
 · rintro ⟨s',h1,h2⟩
   obtain ⟨s,hs,rfl⟩:=n18_.mp h1;obtain ⟨t,ht,e⟩:=n18_.mp h2;obtain ⟨x,y,rfl,hx,hy⟩:=inu m1 hs;obtain ⟨x',y',rfl,hx',hy'⟩:=inu m2 ht;simp only [n31_,List.map_nil,List.cons.injEq,and_true] at e;rw [Zmd hx' hx e.1,Zmd hy' hy e.2] at ht;exact ⟨_,hs,ht⟩
 · rintro ⟨s,h1,h2⟩
   exact ⟨_,n39_ h1,n39_ h2⟩
theorem AlnOk.parts {i0:Nat} (h:PartOk (Adj P.ps) P.ps.length i0 l) (h0:i0<P.ps.length) {a:List (List Int)} (ha:PartsOk (Adj (Z9 P l u).ps) (Z9 P l u).ps.length a):a=[(List.range l.length).map fun (i:Nat)=>(i:Int)]:=by
 have rl:(Z9 P l u).ps.length=l.length:=by simp [Z9]
 rw [rl] at ha;have n0:=A.n0
 have g:∀ i,i<l.length→∃ m:Nat,l.getD i 0=m∧m<P.ps.length∧Conn (Adj P.ps) P.ps.length i0 m:=fun i hi=>by
  have e:l.getD i 0=l[i]:=by simp [n2_,hi]
  obtain ⟨m,em,hm,c⟩:=(h.mem _).mp (n37_ hi);exact ⟨m,by rw [e,em],hm,c⟩
 have nd:l.Nodup:=A.rise.imp fun {x y} z=>by omega
 have cn:∀ i j,i<l.length→j<l.length→Conn (Adj (Z9 P l u).ps) l.length i j:=fun i j hi hj p cl hp=>by
  obtain ⟨a,ea,ha,ca⟩:=g i hi;obtain ⟨b,eb,hb,cb⟩:=g j hj
  obtain ⟨k,hk,ek,q⟩:=((Zfu h0 ca).trans cb) (fun x=>∃ k,k<l.length∧l.getD k 0=(x:Int)∧p k) (fun x y hx hy xy ⟨k,hk,ek,q⟩=>by
   obtain ⟨m,em,hm,c⟩:=g k hk
   have:m=x:=by omega
   subst this;have hyl:(y:Int)∈l:=(h.mem y).mpr ⟨y,rfl,hy,c.trans (.one hx hy xy)⟩;obtain ⟨k',hk',e'⟩:=n50_ hyl;have ek':l.getD k' 0=(y:Int):=by rw [n2_,n1_ hk'];exact e'
   exact ⟨k',hk',ek',cl k k' hk hk' ((A.adj hk hk' ek ek').mpr xy) q⟩) ⟨i,hi,ea,hp⟩
  have:k=j:=by
   have e1:l.getD k 0=l[k]:=by simp [n2_,hk]
   have e2:l.getD j 0=l[j]:=by simp [n2_,hj]
   exact (n53_ (h₀:=hk) (h₁:=hj) nd).mp (by rw [← e1,← e2,ek,eb])
  exact this ▸ q
 have pk:∀ i,i<l.length→PartOk (Adj (Z9 P l u).ps) l.length i ((List.range l.length).map fun (i:Nat)=>(i:Int)):=fun i hi=>⟨by rw [n43_];exact List.pairwise_lt_range.imp fun {x y} h=>by omega,fun x=>by
  rw [n18_];constructor
  · rintro ⟨j,hj,rfl⟩
    exact ⟨j,rfl,n24_.mp hj,cn i j hi (n24_.mp hj)⟩
  · rintro ⟨j,rfl,hj,_⟩
    exact ⟨j,n24_.mpr hj,rfl⟩⟩
 refine Zbm ha.rise (by simp) fun k=>?_;rw [ha.mem,n22_];constructor
 · rintro ⟨i,hi,p⟩
   exact p.eq (pk i hi)
 · rintro rfl
   exact ⟨0,n0,pk 0 n0⟩
theorem AlnOk.sent {k:List Int} (hk:k∈Zn (Z9 P l u).ps):∃ x y:Nat,k=[(x:Int),(y:Int)]∧x<u.length∧y<u.length∧[u.getD x 0,u.getD y 0]∈Zn P.ps:=by
 obtain ⟨q,hq,hk⟩:=List.mem_flatMap.mp hk;obtain ⟨p,hp,rfl⟩:=n18_.mp (show q∈(pcsA P l).map fun p=>p.map (ixA u) from hq);have t:=A.ok.pc _ (A.mem hp).1;rw [Zb6 _ t.len] at hk;obtain ⟨s,hs,rfl⟩:=n18_.mp hk;obtain ⟨x,y,rfl,_,hx,hy⟩:=(Xa t.len t.rise).mp hs;obtain ⟨h1,e1⟩:=Zdz ((A.mem hp).2 x hx);obtain ⟨h2,e2⟩:=Zdz ((A.mem hp).2 y hy);exact ⟨_,_,rfl,h1,h2,by rw [e1,e2];exact List.mem_flatMap.mpr ⟨p,(A.mem hp).1,hs⟩⟩
end
end L2
namespace L2
open PySem
def Aff.comp (M A:Aff):Aff:=⟨M.a*A.a+M.b*A.c,M.a*A.b+M.b*A.d,M.c*A.a+M.d*A.c,M.c*A.b+M.d*A.d,M.a*A.s+M.b*A.t+M.s,M.c*A.s+M.d*A.t+M.t⟩
theorem Ztq (M A:Aff) (p:Pnt):(M.comp A).at p=M.at (A.at p):=by
 unfold Aff.comp Aff.at;refine Prod.ext ?_ ?_<;>(dsimp only;grind)
theorem Zpr (M A:Aff):(M.comp A).det=M.det*A.det:=by
 unfold Aff.comp Aff.det;dsimp only;grind
structure IsMat (M:Aff):Prop where
 m:(M.a,M.b,M.c,M.d)∈([(1,0,0,1),(0,1,1,0),(0,-1,1,0),(-1,0,0,-1),(1,0,0,-1)]:List (Int×Int×Int×Int))
 s:M.s.natAbs≤4
 t:M.t.natAbs≤4
theorem Zdr {M:Aff} (h:IsMat M) {p:Prop} (k:∀ a b c d:Int,M.a=a→M.b=b→M.c=c→M.d=d→(a=1∧b=0∧c=0∧d=1)∨(a=0∧b=1∧c=1∧d=0)∨(a=0∧b = -1∧c=1∧d=0)∨(a = -1∧b=0∧c=0∧d = -1)∨(a=1∧b=0∧c=0∧d = -1)→p):p:=by
 refine k _ _ _ _ rfl rfl rfl rfl ?_
 have:=h.m
 simpa using this
theorem Znv {M:Aff} (h:IsMat M):M.det=1∨M.det = -1:=by
 refine Zdr h fun a b c d e1 e2 e3 e4 hh=>?_;unfold Aff.det;rw [e1,e2,e3,e4]
 rcases hh with ⟨rfl,rfl,rfl,rfl⟩|⟨rfl,rfl,rfl,rfl⟩|⟨rfl,rfl,rfl,rfl⟩|⟨rfl,rfl,rfl,rfl⟩|⟨rfl,rfl,rfl,rfl⟩<;>decide
theorem Zlq {M A:Aff} (h:IsMat M) (S:Small A) (hs:A.s.natAbs≤20∧A.t.natAbs≤20):Small (M.comp A):=by
 have h1:=S.a;have h2:=S.b;have h3:=S.c;have h4:=S.d;have h5:=h.s;have h6:=h.t
 have tw:∀ {u v x y:Int} {n:Nat},x.natAbs≤n→y.natAbs≤n→((u=0∧(v=1∨v = -1))∨(v=0∧(u=1∨u = -1)))→(u*x+v*y).natAbs≤n:=fun {u v x y n} hx hy hh=>by
  rcases hh with ⟨rfl,rfl|rfl⟩|⟨rfl,rfl|rfl⟩<;>omega
 have r:((M.a=0∧(M.b=1∨M.b = -1))∨(M.b=0∧(M.a=1∨M.a = -1)))∧((M.c=0∧(M.d=1∨M.d = -1))∨(M.d=0∧(M.c=1∨M.c = -1))):=Zdr h fun a b c d e1 e2 e3 e4 hh=>by omega
 have s1:=tw hs.1 hs.2 r.1;have s2:=tw hs.1 hs.2 r.2;exact ⟨tw h1 h3 r.1,tw h2 h4 r.1,tw h1 h3 r.2,tw h2 h4 r.2,by show (M.a*A.s+M.b*A.t+M.s).natAbs≤30;omega,by show (M.c*A.s+M.d*A.t+M.t).natAbs≤30;omega⟩
variable {items:Array Value} {j n:Nat} {prog:Program} {s:Shared} {E:Value→Shared→Prop} {w:World}
section
variable {pts:List Pnt} {pcs:List (List Int)} {A M:Aff} {o o2:List Int} {cs cs2:List Pnt} {kl:List (List Int)} {q:List Nat}
theorem Zsw (h:CoOrd n o) (h2:CoOrd n o2):CoOrd n (o.map (oAt o2)):=by
 have g:∀ j,j<n→(o.map (oAt o2)).getD j 0=o2.getD (o.getD j 0).toNat 0:=fun j hj=>by
  rw [n2_,n6_,n2_ (l:=o),n1_ (by rw [h.len];exact hj)];rfl
 refine ⟨by rw [n5_,h.len],fun j hj=>?_,fun i j hi hj e=>?_,fun k hk=>?_⟩
 · rw [g j hj]
   have:=h.bd j hj
   exact h2.bd _ (by omega)
 · rw [g i hi,g j hj] at e;have b1:=h.bd i hi;have b2:=h.bd j hj
   have:=h2.inj _ _ (by omega) (by omega) e
   exact h.inj i j hi hj (by omega)
 · obtain ⟨j,hj,e⟩:=h2.sur k hk;obtain ⟨i,hi,e'⟩:=h.sur j hj;exact ⟨i,hi,by rw [g i hi,e'];exact e⟩
theorem Zo3 (D:Drawn pts pcs A o cs kl q) (hs:A.s.natAbs≤20∧A.t.natAbs≤20) (hM:IsMat M) (CO:CoOrd cs.length o2) (l2:cs2.length=cs.length) (a2:∀ j:Nat,j<cs.length→cs2[(o2.getD j 0).toNat]? = some (M.at (cs.getD j (0,0)))) {q2:List Nat} (hq:q2.Perm (List.range q.length)) :
 Drawn pts pcs (M.comp A) (o.map (oAt o2)) cs2 (kl.map (ph (oAt o2))) (q2.map fun i=>q.getD i 0):=by
 have hl:=D.len;rw [hl] at CO;have d0:M.det≠0:=by rcases Znv hM with e|e<;>rw [e]<;>decide
 refine ⟨D.base,by rw [Zpr];exact Int.mul_ne_zero d0 D.det,Zlq hM D.small hs,Zsw D.ord CO,by rw [l2,hl],fun j hj=>?_,by rw [n5_,D.klen],fun i hi=>⟨?_,?_⟩,?_⟩
 · have b:=D.ord.bd j hj;have e:=D.at_ j hj;have h2:=a2 (o.getD j 0).toNat (by omega);rw [Ztq];rw [n2_ (l:=cs),e] at h2;have eq0:o[j]? = some (o[j]'(by rw [D.ord.len];exact hj)):=n1_ _;rw [n2_ (l:=o.map _),n6_,eq0];have eo:o.getD j 0=o[j]'(by rw [D.ord.len];exact hj):=by simp [n2_,show j<o.length by rw [D.ord.len];exact hj]
   rw [eo] at h2;exact h2
 · have hk:i<kl.length:=by rw [D.klen];exact hi
   rw [n2_,n6_,n1_ hk];have k:=(D.key i hi).1;rw [n2_,n1_ hk] at k;refine (Yh _).trans ((k.map _).trans ?_);rw [n44_];refine .of_eq (n52_ fun x hx=>?_);obtain ⟨a,b,c,_,_,_,e,_,_,_,ha,hb,hc,_⟩:=D.piece hi;rw [e] at hx
   have hx':0≤x∧x<(pts.length:Int):=by
    simp only [n12_,n16_,or_false] at hx
    rcases hx with rfl|rfl|rfl<;>assumption
   show oAt o2 (oAt o x)=oAt (o.map (oAt o2)) x
   unfold oAt;rw [n2_ (l:=o.map _),n6_,n2_ (l:=o),n1_ (by rw [D.ord.len];omega)];rfl
 · have hk:i<kl.length:=by rw [D.klen];exact hi
   rw [n2_,n6_,n1_ hk];exact Ze9 _
 · refine (hq.map _).trans (.trans (.of_eq ?_) D.perm);refine n46_ (by simp) fun i h1 h2=>?_;simp [n2_,h2]
theorem Zjv (x:Int):absI (-x)=absI x:=by unfold absI;split<;>split<;>omega
structure LedR (P P':Pl) (f:Int→Int):Prop where
 ok:PlOk P'
 led:Led P.cs.length f P.ps P'.ps
 room:Zcf P'=Zcf P
theorem Zt8 {P:Pl} (ok:PlOk P) (D:Drawn pts pcs A o P.cs kl q) (hps:P.ps=q.map fun i=>kl.getD i []) (hs:A.s.natAbs≤20∧A.t.natAbs≤20) (hM:IsMat M) (CO:CoOrd P.cs.length o2) (l2:cs2.length=P.cs.length)
 (a2:∀ j:Nat,j<P.cs.length→cs2[(o2.getD j 0).toNat]? = some (M.at (P.cs.getD j (0,0)))) {q2:List Nat} (hq:q2.Perm (List.range P.ps.length)) {ts2:List Int} (tl:ts2.length=P.ps.length) (t9:∀ t∈ts2,1≤t∧t≤9)
 (rise:(q2.map fun i=>ph (oAt o2) (P.ps.getD i [])).Pairwise fun a b=>HT.lexLt a b=true):LedR P ⟨cs2,q2.map fun i=>ph (oAt o2) (P.ps.getD i []),ts2,P.l,P.m⟩ (oAt o2):=by
 have ql:q.length=P.ps.length:=by rw [hps,n5_]
 have D':=Zo3 D hs hM CO l2 a2 (q2:=q2) (by rw [ql];exact hq)
 have er:(q2.map fun i=>ph (oAt o2) (P.ps.getD i []))=(q2.map fun i=>q.getD i 0).map fun i=>(kl.map (ph (oAt o2))).getD i []:=by
  rw [n44_];refine n52_ fun i hi=>?_;have h1:i<P.ps.length:=n24_.mp (hq.mem_iff.mp hi);have h2:i<q.length:=by omega
  have h3:q[i]<kl.length:=by rw [D.klen];exact n24_.mp (D.perm.mem_iff.mp (n37_ h2))
  rw [hps];show ph _ ((q.map fun i=>kl.getD i []).getD i [])=(kl.map (ph (oAt o2))).getD (q.getD i 0) []
  rw [n2_,n6_,n1_ h2,n2_ (l:=q),n1_ h2];show ph _ (kl.getD q[i] [])=(kl.map (ph (oAt o2))).getD q[i] []
  rw [n2_,n1_ h3,n2_,n6_,n1_ h3];rfl
 have O:=Zma CO;have bd:∀ p∈P.ps,inR P.cs.length p:=fun p hp i hi=>by have:=(ok.pc p hp).bd i hi;omega
 refine ⟨?_,⟨O,fun p hp=>⟨(ok.pc p hp).len,(ok.pc p hp).rise⟩,bd,ok.pnd,?_⟩,?_⟩
 · rw [er] at rise ⊢;refine D'.ok rise ?_ t9 ok.l9 ok.m9;rw [tl,← ql,D.perm.length_eq,n69_]
 · show (q2.map fun i=>ph (oAt o2) (P.ps.getD i [])).Perm _
   refine (hq.map _).trans (.of_eq ?_);refine n46_ (by simp) fun i h1 h2=>?_
   have:i<P.ps.length:=by simpa using h2
   simp [n2_,this]
 · show ((q2.map fun i=>ph (oAt o2) (P.ps.getD i [])).map fun p=>absI (dOf cs2 p)).sum=(P.ps.map fun p=>absI (dOf P.cs p)).sum
   have one:∀ p∈P.ps,absI (dOf cs2 (ph (oAt o2) p))=absI (dOf P.cs p):=fun p hp=>by
    have pk:=ok.pc p hp;have b:=bd p hp
    have at2:∀ x:Int,0≤x∧x<P.cs.length→cAt cs2 (oAt o2 x)=M.at (cAt P.cs x):=fun x hx=>by
     have:=a2 x.toNat (by omega)
     unfold cAt oAt;rw [n2_ (l:=cs2),this];rfl
    have h3:=pk.len
    match p,h3,b with
    | [x,y,z],_,b =>
      have tl:(ph (oAt o2) [x,y,z]).length=3:=by rw [(Yh _).length_eq];rfl
      have pm:(ph (oAt o2) [x,y,z]).Perm [oAt o2 x,oAt o2 y,oAt o2 z]:=Yh _
      match ph (oAt o2) [x,y,z],tl,pm with
      | [x',y',z'],_,pm =>
        show absI (tn (cAt cs2 x') (cAt cs2 y') (cAt cs2 z'))=absI (tn (cAt P.cs x) (cAt P.cs y) (cAt P.cs z))
        refine Zn1 pm (fun u v w=>absI (tn (cAt cs2 u) (cAt cs2 v) (cAt cs2 w))=absI (tn (cAt P.cs x) (cAt P.cs y) (cAt P.cs z))) (fun a b c h=>by rw [Znl];exact h) (fun a b c h=>by rw [Za2,Zjv];exact h) ?_;rw [at2 x (b x (by simp)),at2 y (b y (by simp)),at2 z (b z (by simp)),Aff.tn]
        rcases Znv hM with e|e<;>rw [e]
        · rw [Int.one_mul]
        · rw [show (-1:Int)*tn (cAt P.cs x) (cAt P.cs y) (cAt P.cs z) = -tn (cAt P.cs x) (cAt P.cs y) (cAt P.cs z) by omega,Zjv]
   have sp:∀ {a b:List Int},a.Perm b→a.sum=b.sum:=fun h=>by
    induction h with
    | nil=>rfl
    | cons _ _ ih=>rw [List.sum_cons,List.sum_cons,ih]
    | swap=>simp only [List.sum_cons];omega
    | trans _ _ a b=>exact a.trans b
   have pm:(q2.map fun i=>ph (oAt o2) (P.ps.getD i [])).Perm (P.ps.map (ph (oAt o2))):=(hq.map _).trans (.of_eq (n46_ (by simp) fun i h1 h2=>by
    have:i<P.ps.length:=by simpa using h2
    simp [n2_,this]))
   rw [sp (pm.map _),n44_];exact congrArg List.sum (n52_ fun p hp=>one p hp)
end
open AutoSeq1 (wpAny_loadPart')
theorem Zmz {B:Around} {x:Value} {e:Value→Bool} (hj:j<items.size) (hit:e items[j]=true) (hno:∀ m (hm:m<items.size),m<j→e items[m]=false) (he:∀ y,y∈items→SeqAt.EqAt B s y x (e y))
 {Q:Option PySem.Fin×Unit→Shared→Prop} (q:Q (some (.done (.ret (.int j s.toks))),()) { s with toks:=s.toks+1 }) (as:List Nat):∀ (m i:Nat) (h':∃ bs,bs++List.range' i m=as),i≤j→j<i+m →
 wpAny (model prog w) B (List.forIn'.loop as (fun a _=>(fun (i:Nat) (__s:Option PySem.Fin×Unit) =>
  match items[i]? with
  | some y=>do
    let __do_lift ← eqBool y x
    if __do_lift=true then do
     let __do_lift ← retInt (i:Int)
     pure (ForInStep.done (some __do_lift,()))
     else pure (ForInStep.yield (none,()))
  | x=>pure (ForInStep.yield (none,()))) a) (List.range' i m) (none,()) h') Q E s
 | 0,i,_,h1,h2=>by omega
 | m+1,i,h',h1,h2=>by
   have hi:i<items.size:=by omega
   simp only [List.range'_succ];unfold List.forIn'.loop;simp only [Array.getElem?_eq_getElem hi];refine n0_ (n0_ (he _ (Array.getElem_mem hi) prog w _ _ ?_))
   by_cases c:i=j
   · subst c;rw [hit];simp only [if_true]
     wp_walk
     exact q
   · rw [hno i hi (by omega)];simp only [n15_,if_false];refine n4_ ?_;exact Zmz hj hit hno he q as m (i+1) _ (by omega) (by omega)
theorem Zgh (l:Addr) (items:Array Value) (n:Nat) (dd:Option Addr) (sl:Array (Option Value)) (x:Value) (e:Value→Bool) (j:Nat) (hj:j<items.size)
 (hit:e items[j]=true) (hno:∀ m (hm:m<items.size),m<j→e items[m]=false) :
 Meets (Builtin.«tuple.index» ⟨[.ref l,x],[]⟩)
  (fun A R s=>s.heap.get? l=some { cls:=.type "tuple",dict:=dd,data:=.seq items n,slots:=sl }∧(∀ y,y∈items→SeqAt.EqAt A.in1 s y x (e y))∧R (.ok (.ret (.int j s.toks))) { s with toks:=s.toks+1 }):=by
 intro prog w A R s h;obtain ⟨hp,g,d,tk,os⟩:=s;obtain ⟨hl,he,h⟩:=h;unfold Builtin.«tuple.index»;simp only [Std.Legacy.Range.forIn_eq_forIn_range',Std.Legacy.Range.size]
 wp_walk using wpAny_loadPart' hl
 refine Zmz (e:=e) hj hit hno he ?_ _ _ 0 _ (n55_ _) (by simp;omega);exact n4_ h
section
variable {X:Cx} {α:Type} [DecidableEq α] {d:Nat} {R:Hp→V→α→Prop}
theorem Zok (E:EqT X d R) (inj:∀ H v x y,R H v x→R H v y→x=y) (hu:X.A.units+d+1<cLine):MtR X "tuple.index" (fun x xs H Q=>∃ (p:Addr) (vs:List V) (ys:List α) (v:V) (a:α) (j:Nat),x=.ref p∧xs=[v]∧H p=some (.tup vs)∧Al (R H) vs ys∧R H v a∧ys[j]? = some a∧(∀ m,m<j→ys[m]?≠some a)∧ys.length≤1000∧Q (.int j) H):=by
 intro pins s σ H x xs v us Q I rx rv h;obtain ⟨p,vs,ys,y,a,j,rfl,rfl,e,al,ra,ej,hno,hz,q⟩:=h;cases rx
 obtain ⟨u,rfl,ru⟩:=rv.one;obtain ⟨its,r,pl,_⟩:=I.tuple (SqT.of e);obtain ⟨⟨cls,dd,data,sl⟩,ho,hc,n,hd⟩:=id pl;simp only at hc hd;subst hc hd;have l1:=r.length;have l2:=al.1;have hj:j<ys.length:=(n9_.mp ej).1
 have at_:∀ m (hm:m<its.toArray.size) z,ys[m]? = some z→eqOf R H a its.toArray[m]=decide (z=a):=fun m hm z ez=>by
  have hm':m<its.length:=by simpa using hm
  obtain ⟨w,ew,rw'⟩:=r.get (n1_ (show m<vs.length by omega));rw [n1_ hm'] at ew;cases ew
  simp only [List.getElem_toArray];exact Zfy (inj H) rw' (al.2 m _ z (n1_ (by omega)) ez)
 refine call_meets F.slot_tuple_index ⟨_,ho,rfl⟩ F.entry_tuple_index (F.args_tuple_index_2 _ _) (Zgh p its.toArray n dd sl u (eqOf R H a) j (by simp;omega) ?_ ?_) ⟨ho,Zm3 E (inj H) (by rw [Around.in1_units];omega) I r al ru ra,?_⟩
 · rw [at_ j (by simp;omega) a ej];exact n29_ rfl
 · intro m hm hlt;have hm':m<ys.length:=by omega
   rw [at_ m hm ys[m] (n1_ hm')];exact n33_ fun z=>hno m hlt (by rw [n1_ hm',z])
 · exact ⟨.int j,H,I.tok _,⟨_,rfl⟩,q⟩
end
end L2
namespace L2
open PySem PySem.Spec PyProof.Rows PySem.W
variable {D a:Addr} {X:Cx} {H:Hp} {vs:List V} {u0:Option V} {rest:St} {te:TE}
theorem Zeu:OpR X (compareOp .IsNot) (fun x y H Q=>∃ b,x=.bl b∧y=.bl true∧Q (.bl (!b)) H):=by
 intro pins s σ H x y v u Q I rx ry h;obtain ⟨b,rfl,rfl,q⟩:=h;cases rx
 cases ry
 cases b<;>exact n4_ ⟨.bl _,H,I,rfl,q⟩
theorem lc_L {k:SK} {K:PySem.W.Frag} {Q:VK} (xs:Nat→List V) (hz:vs.length≤1000) (hD:H D=none) (hA:k.At H a vs)
 (hs:∀ (i:Nat) (w:V) (H2:Hp) (C:V→Hp→Prop),vs[i]? = some w→Same H H2→(∀ e,H2 e=none→C (.ref e) (upd H2 e (.lst (xs i))))→te (some w :: rest) H2 C)
 (hd:∀ (H2:Hp) (as:List Addr),Same H H2→as.length=vs.length→H2 D=some (.lst (as.map V.ref))→(∀ (i:Nat) (b:Addr),as[i]? = some b→H2 b=some (.lst (xs i)))→Q (.ref D) H2):LcGo (k.Itk K a) (Y2 0) tYes te (u0 :: rest) H D Q:=by
 refine Zez (n:=vs.length) (fun i σ H2=>(∃ u,σ=u :: rest)∧∃ as:List Addr,Same H H2∧as.length=i∧H2 D=some (.lst (as.map V.ref))∧(∀ b∈as,b≠D)∧∀ (i:Nat) (b:Addr),as[i]? = some b→H2 b=some (.lst (xs i))) ⟨⟨_,rfl⟩,[],Same.new hD,rfl,Zc,by simp,by simp⟩ (fun i σ H2 hi p=>Zg9 (hA.same p.2.choose_spec.1) hi) (fun σ H2 p=>Zbj (hA.same p.2.choose_spec.1) (n14_ _)) (fun i x σ2 H2 H3 hi y p=>?_) (fun σ2 H2 p=>?_)
 · obtain ⟨⟨u,rfl⟩,as,s2,l2,eD,nD,ha⟩:=p;obtain ⟨rfl,ex⟩:=Zdv (hA.same s2) y;refine hs i x H3 _ ex s2 fun e ne=>?_;have eD':upd H3 e (.lst (xs i)) D=some (.lst (as.map V.ref)):=by rw [Zh (Zg eD ne)];exact eD
   have neD:e≠D:=fun z=>by rw [z,eD] at ne;cases ne
   refine ⟨as.map V.ref,eD',by rw [n5_,sizeLine_eq];omega,vs.length-(i+1),by omega,by omega,rfl,⟨_,rfl⟩,as++[e],fun b o eb=>?_,by simp [l2],by rw [Zc];simp,fun b hb=>?_,fun j b hj=>?_⟩
   · rw [Zh (Zg eb hD),Zh (Zg (s2 _ _ eb) ne)];exact s2 _ _ eb
   · rcases n34_.mp hb with h|h
     · exact nD b h
     · rw [n22_.mp h];exact neD
   · by_cases c:j<as.length
     · rw [n58_ c] at hj;have h1:=ha j b hj;rw [Zh (nD b (n7_ hj)),Zh (Zg h1 ne)];exact h1
     · rw [n49_ (by omega)] at hj
       have:j-as.length=0:=by have:=(n9_.mp hj).1;simp at this;omega
       rw [this] at hj;cases hj
       rw [Zh neD,Zc,show j=i by omega]
 · obtain ⟨_,as,s2,l2,eD,_,ha⟩:=p;exact hd H2 as s2 l2 eD ha
end L2
namespace L2
open PySem PySem.Spec PyProof.Rows PySem.W
variable {n:Nat} {Q:Value→Shared→Prop}
section
variable {P:Program} {w:World} {A:Around} {E:Value→Shared→Prop} {s:Shared} {r:Addr}
theorem Zi8 {Q:List Value→Shared→Prop} {a b c:Int} {t u v:Tok} (hh:A.handled=none) (hr:IsRange s.heap r a b c t u v) (hsmall:Builtin.Range.small a b c=true) (hn:Builtin.Range.rangeSize a b c=n) (hlen:n≤2^24)
 (hQ:∀ (h':Heap) (tk:Nat) (acc:Array Value),(∀ b o,s.heap.get? b=some o→h'.get? b=some o)→s.z≤h'.objs.size→ItemsOf (fun i v=>∃ t,v=.int (a+i*c) t) acc n→Q acc.toList { s with heap:=h',toks:=tk }):wpAny (model P w) A (collect (.ref r)) Q E s:=by
 unfold collect;refine n0_ (wpAny_runValue (codeAny_builtin F.entry_proto_collect ?_));rw [Around.under_plainId F.plain_proto_collect _];show wpAny _ A.in1 (newList [] >>= fun l=>again (.builtin "list.__iadd__" ⟨[l,.ref r],[]⟩)) _ _ s
 refine n0_ (wpAny_newObj_type ?_);refine n4_ ⟨plainId_quiet F.plain_list_iadd _,codeAny_builtin F.entry_list_iadd ?_⟩;rw [Around.under_plainId F.plain_list_iadd _];generalize hs1:({ s with heap:=s.heap.push { cls:=.type "list",data:=.seq ([]:List Value).toArray } }:Shared)=s1;have k1:∀ b o,s.heap.get? b=some o→s1.heap.get? b=some o:=fun b o e=>by rw [← hs1];exact n3_ _ e
 have g1:s1.heap.get? s.z=some { cls:=.type "list",data:=.seq #[] 0 }:=by rw [← hs1];exact n8_ _ rfl
 show wpAny _ A.in1 (Builtin.List.listExtendWith (.ref s.z) (.ref r) (.ref s.z)) _ _ s1
 refine wpAny_extend_range (R:=fun res s'=>match res with|.ok (.ret v)=>wpAny (model P w) A (match v with|.ref a=>(do match (← load a).data with|.seq xs _=>pure xs.toList|_=>unsupported "internal:collect")|_=>unsupported "internal:collect") Q E s'|.ok _=>False|.error e=>E e s') hh (k1 _ _ hr) hsmall hn hlen s.z _ 0 g1 fun h' tk acc' c' hk hS' hacc=>?_;subst hs1;show wpAny _ A (load s.z >>= _) _ _ _
 refine n0_ (wpAny_load hS' ?_);exact n4_ (hQ h' tk acc' (fun b o e=>hk b o (n17_ (n11_ e)) (n3_ _ e)) (Nat.le_of_lt (n11_ hS')) hacc)
theorem Zd8 {a b c:Int} {t u v:Tok} (hh:A.handled=none) (hr:IsRange s.heap r a b c t u v) (hsmall:Builtin.Range.small a b c=true) (hn:Builtin.Range.rangeSize a b c=n) (hlen:n≤2^24)
 (hQ:∀ (h':Heap) (tk:Nat) (acc:Array Value),(∀ b o,s.heap.get? b=some o→h'.get? b=some o)→s.z≤h'.objs.size→ItemsOf (fun i v=>∃ t,v=.int (a+i*c) t) acc n→Q (.ref h'.objs.size) { s with heap:=h'.push { cls:=.type "tuple",data:=.seq acc },toks:=tk }) :
 wpAny (model P w) A (call (.type "tuple") [.ref r]) Q E s:=by
 refine callType_codes (Q₁:=fun obj s₁=>s₁.TypeIs obj "tuple" ∧ Q obj s₁) F.called_tuple (F.typeCall_tuple_1 _) F.entry_object_init (codeAny_of_tree ?_)
  fun obj s₁ h₁=>⟨h₁.1,F.args_object_init_2 obj _,object_init_meets F.called_tuple.init.lookup F.called_tuple.made (by decide) P w A.in1 _ s₁ ⟨h₁.1,rfl,h₁.2⟩⟩
 generalize hA:A.in1=A1;have hh1:A1.handled=none:=by rw [← hA];simp [hh]
 show wpAny _ A1.in1 (do checkBuiltinCall "tuple.__new__" ⟨[.type "tuple",.ref r],[]⟩;again (.builtin "tuple.__new__" ⟨[.type "tuple",.ref r],[]⟩)) _ _ s
 refine n0_ (wpAny_of_eq (F.newCall_tuple_1 _) (n4_ ⟨plainId_quiet F.plain_tuple_new _,codeAny_builtin F.entry_tuple_new ?_⟩));rw [Around.under_plainId F.plain_tuple_new _];have hsub:=sub_tuple_self;have hinit:=init_tuple_lookup;have hmh:=madeHere_tuple;have hT:s.TypeIs (.ref r) "range" := ⟨_,hr,rfl⟩;have hh2:A1.in1.handled=none:=by simp [hh1]
 wp_walk using wpAny_typeOf hT,Zi8 hh2 hr hsmall hn hlen
 intro h' tk acc keep le hacc;show wpAny _ _ (Builtin.Tuple.tupleExact acc.toList.toArray >>= fun v=>ret v) _ _ _
 unfold Builtin.Tuple.tupleExact;refine n0_ (wpAny_newObj_type ?_ (by show acc.toList.toArray.size≤sizeLine;simp only [Array.toArray_toList];rw [hacc.1,sizeLine_eq];omega));refine n4_ ?_;have e:acc.toList.toArray=acc:=by simp
 rw [e];exact ⟨⟨_,n8_ _ rfl,rfl⟩,hQ h' tk acc keep le hacc⟩
end
variable {X:Cx}
theorem Zlz (hc:X.calm=true):Yy X (.type "tuple") (fun xs H Q=>∃ (r:Addr) (n:Nat),xs=[.ref r]∧H r=some (.rng 0 n)∧n≤1000∧∀ l,H l=none→Q (.ref l) (upd H l (.tup ((List.range n).map fun i:Nat=>V.int i)))):=by
 intro pins s σ H xs us Q I r h;obtain ⟨a,n,rfl,hr,hn,q⟩:=h;cases r with
 | cons rx r =>
   cases r
   cases (show _=Value.ref a from rx)
   obtain ⟨t,u,v,e⟩:=(show ObjOk X.prog X.w H s.heap a (.rng 0 n) from I.hok a _ hr);refine Zd8 (n:=n) (I.ok.hd hc) e (small_one (by omega) (by omega) (by omega) (by omega)) (by rw [rangeSize_one];split<;>omega) (by omega) fun h' tk acc k le it=>?_;have fr:H h'.objs.size=none:=I.hok.fresh le;refine ⟨.ref h'.objs.size,_,I.laid (o:=.tup ((List.range n).map fun i:Nat=>V.int i)) (t':=tk) (fun b o e=>n3_ _ (k b o e)) le ⟨?_,acc.toList,?_,?_⟩,rfl,q _ fr⟩
   · rw [n5_,n69_,sizeLine_eq];omega
   · rw [List.range_eq_range'];refine Zdt 0 (by rw [Array.length_toList];exact it.1) fun j v e=>?_;obtain ⟨t',e'⟩:=it.2 j v (by simpa using e);exact ⟨t',by rw [e'];congr 1;omega⟩
   · simpa using IsTupN.new _ _
end L2
namespace L2
open PySem PySem.Spec PyProof.Rows PySem.W
structure PI2 where
 t:Addr
 a:Addr
 k:List Int
 n:Int
abbrev pi2 (H:Hp) (x:PI2):Prop:=H x.t=some (.tup [.ref x.a,.int x.n])∧H x.a=some (.tup (x.k.map V.int))
abbrev pD:PI2:=⟨0,0,[],0⟩
abbrev Zca (al:List PI2):List V:=al.map fun x=>V.ref x.t
theorem Zp5 {al:List PI2} (nd:(al.map (·.k)).Nodup):Ord al.length (fun i j=>HT.lexLt (al.getD i pD).k (al.getD j pD).k):=by
 have e:∀ i (h:i<al.length),al.getD i pD=al[i]:=fun i h=>by simp [n2_,h]
 refine ⟨fun i _=>Xy _,fun i j hi hj ne=>?_,fun i j k hi hj hk h1 h2=>Zfa _ _ _ h1 h2⟩;show HT.lexLt _ _ = !HT.lexLt _ _
 refine Zgc _ _ fun z=>ne ?_;rw [e i hi,e j hj] at z;exact (n53_ (h₀:=by simpa using hi) (h₁:=by simpa using hj) nd).mp (by simpa using z)
theorem Zgy:∀ {al:List PI2} {its:List Value},Vals (Zca al) its→its=al.map fun x=>Value.ref x.t
 | [],_,.nil=>rfl
 | x :: al,_,.cons r1 r=>by
   cases (show _=Value.ref x.t from r1)
   rw [Zgy r];rfl
theorem Zex:∀ (al:List PI2),Vals (Zca al) (al.map fun x=>Value.ref x.t)
 | []=>.nil
 | x :: al=>.cons rfl (Zex al)
variable {X:Cx}
theorem Zg6 (hu:X.A.units+3<cLine):Yy X (.builtin "sorted") (fun xs H Q=>∃ (p:Addr) (al:List PI2),xs=[.ref p]∧SqL X.K H p (Zca al)∧(∀ x∈al,pi2 H x)∧(al.map (·.k)).Nodup∧al.length<64 ∧
 ∀ (l:Addr) (ql:List PI2),H l=none→ql.Perm al→(ql.Pairwise fun x y=>HT.lexLt x.k y.k=true)→Q (.ref l) (upd H l (.lst (Zca ql)))):=by
 intro pins s σ H xs us Q I r h;obtain ⟨p,al,rfl,hq,ht,nd,h64,q⟩:=h;cases r with
 | cons rx r =>
   cases r
   cases (show _=Value.ref p from rx)
   obtain ⟨its,rv,pl,hz⟩:=I.list hq;have eits:=Zgy rv;subst eits;have o:=Zp5 nd;have en:(al.map fun x=>Value.ref x.t).length=al.length:=by simp
   have ev:∀ i (h:i<al.length),(al.map fun x=>Value.ref x.t).getD i Value.none=Value.ref al[i].t:=fun i h=>by simp [n2_,h]
   have ea:∀ i (h:i<al.length),al.getD i pD=al[i]:=fun i h=>by simp [n2_,h]
   have tup:∀ x∈al,∃ tn,IsTup s.heap x.t #[.ref x.a,.int x.n tn]∧∃ ia,IsTup s.heap x.a ia∧IntsAre ia.toList x.k:=fun x hx=>by
    obtain ⟨h1,h2⟩:=ht x hx;obtain ⟨jt,rj,pt,_⟩:=I.tuple (SqT.of h1);obtain ⟨ja,ra,pa,_⟩:=I.tuple (SqT.of h2);cases rj with
    | cons r1 rj=>cases rj with
      | cons r2 rj =>
        cases rj
        cases r1
        obtain ⟨tn,rfl⟩:=r2;exact ⟨tn,pt,ja.toArray,pa,by simpa using Xj ra⟩
   have up:∀ {h1:Heap} {a:Addr} {it:Array Value},(∀ b u,s.heap.get? b=some u→h1.get? b=some u)→IsTup s.heap a it→IsTup h1 a it:=fun k1 ⟨ob,e,c⟩=>⟨ob,k1 _ _ e,c⟩;refine Zl2 (fun q=>q.Perm (List.range al.length)∧(q.map fun i=>al.getD i pD).Pairwise (fun x y=>HT.lexLt x.k y.k=true)) (fun h2=>?_) pl.isList (by rw [en];omega) (fun h2 h1 k1=>?_) fun p' gp=>?_
   · rw [en] at h2 ⊢;refine ⟨.refl _,?_⟩
     have:al.length=0∨al.length=1:=by omega
     rcases this with e|e<;>rw [e]
     · exact .nil
     · exact .cons (by simp) .nil
   · rw [en] at h2 ⊢
     obtain ⟨fs,f1,f2,f3⟩:=Zer (h:=h1) (vs:=al.map fun x=>Value.ref x.t) fun v hv=>by
      obtain ⟨x,hx,rfl⟩:=n18_.mp hv;obtain ⟨tn,⟨ot,g1,c1,n1,d1⟩,ia,⟨oa,ga,ca,_⟩,_⟩:=tup x hx;exact ⟨x.t,ot,_,n1,x.a,oa,rfl,k1 _ _ g1,c1,d1,rfl,k1 _ _ ga,ca⟩
     refine kat_kind (T:=.type "tuple") f1 (by rw [f2,en];omega) (fun v hv=>?_) rfl ⟨rfl,?_⟩
     · obtain ⟨c,o2,rfl,g,cl⟩:=f3 v hv;rw [← cl];exact (Looks.ld g).andThen .now
     · obtain ⟨r1,r2,r3⟩:=Zgl o (by omega);refine Zir (n:=al.length) (f:=fun i j=>HT.lexLt (al.getD i pD).k (al.getD j pD).k) (fun i j C hi hj hC=>?_) _ r1 ⟨rfl,r2,n43_.mpr r3⟩;obtain ⟨tn,p1,ia,pa,na⟩:=tup al[i] (n37_ hi);obtain ⟨tn',p1',ia',pa',na'⟩:=tup al[j] (n37_ hj);replace p1:=up k1 p1;replace p1':=up k1 p1';replace pa:=up k1 pa;replace pa':=up k1 pa';unfold kas_ask;rw [ev i hi,ev j hj];obtain ⟨ot,g1,_,n1,d1⟩:=p1;obtain ⟨ot',g1',_,n1',d1'⟩:=p1';refine kat_lt g1 d1 g1' d1' ?_;have hu2:X.A.in1.in1.units<cLine:=by rw [Around.in1_units,Around.in1_units];omega
       rw [ea i hi,ea j hj] at hC;refine kat_cons (Zm7 (s:={ s with heap:=h1 }) pa pa' na na' hu2 _ _ _ _ ?_)
       by_cases e:al[i].k=al[j].k
       · have:i=j:=(n53_ (h₀:=by simpa using hi) (h₁:=by simpa using hj) nd).mp (by simpa using e)
         subst this;rw [n29_ rfl];rw [Xy] at hC;refine kat_yes (kat_cons (wpAny_eqBool_int ?_));rw [beq_self_eq_true];exact kat_yes (kat_nil hC)
       · rw [n33_ e];exact kat_no (kat_one _ _ (HT.lt_tupInts (s:={ s with heap:=h1 }) pa pa' na na' hu2 hC))
   · obtain ⟨e,he⟩:=sortedAll_at s.heap (al.map fun x=>Value.ref x.t) (p'.map fun i=>(al.map fun x=>Value.ref x.t).getD i Value.none).toArray;have fr:H (s.z+1)=none:=I.hok.fresh (Nat.le_succ _);have lt:∀ i∈p',i<al.length:=fun i hi=>n24_.mp (gp.1.mem_iff.mp hi)
     have ep:(p'.map fun i=>al.getD i pD).Perm al:=by
      refine (gp.1.map _).trans (.of_eq ?_);refine n46_ (by simp) fun i a1 a2=>?_;simp [n2_,a2]
     have ew:(p'.map fun i=>(al.map fun x=>Value.ref x.t).getD i Value.none)=(p'.map fun i=>al.getD i pD).map fun x=>Value.ref x.t:=by
      rw [n44_];refine n52_ fun i hi=>?_
      have:=lt i hi
      simp [n2_,this]
     rw [ew] at he;refine ⟨.ref (s.z+1),_,I.laid (o:=.lst (Zca (p'.map fun i=>al.getD i pD))) (t':=s.toks) (fun b u e=>sortedAll_old e) (Nat.le_succ _) ⟨?_,_,e,Zex _,by rw [ew];exact he⟩,rfl,q _ _ fr ep gp.2⟩;rw [n5_,ep.length_eq,sizeLine_eq];omega
end L2
namespace PySem
section
variable {prog:Program} {w:World} {A:Around} {E:Value→Shared→Prop} {s:Shared} {it d:Addr} {i ep:Nat} {es:Array DictEntry}
theorem Zpw {x:DictEntry} {Q:Option Value→Shared→Prop} (hit:s.heap.IsValIter it d i es.size ep) (hm:EntAt s.heap d es ep) (hx:es[i]? = some x)
 (hQ:∀ h',h'.IsValIter it d (i+1) es.size ep→Heap.SameBut it s.heap h'→Q (some x.val) { s with heap:=h' }):wpAny (model prog w) A (pyNext (.ref it)) Q E s:=by
 obtain ⟨o,ho,hc,hd⟩:=id hit;obtain ⟨od,e0,q0⟩:=hm;obtain ⟨li,rfl⟩:=Array.getElem?_eq_some_iff.mp hx;unfold pyNext;refine n0_ <| wpAny_attempt <| wpAny_callSpecial?_slot (name:=Str.ofString "__next__") hit.typeIs F.slot_dict_valueiterator_next <| wpAny_call_entry F.slot_dict_valueiterator_next hit.typeIs F.entry_dict_valueiterator_next ?_ (F.args_dict_valueiterator_next_1 _);refine n0_ <| n4_ <| n0_ <| n0_ <| n0_ <| wpAny_typeNameOfWhole_valiter hit.typeIs <| n4_ <| n0_ <| wpAny_fieldsOf ho hd ?_;have own:Builtin.Dict_items.ownsTuple "dict_valueiterator" = false:=by decide
 simp only [own,n15_,if_false];show wpAny _ _ (if (Value.ref d == Value.none)=true then _ else _) _ _ _
 rw [if_neg (by intro z;cases z)];refine n0_ <| n4_ <| n0_ <| wpAny_dictEntries e0 q0 ?_;rw [if_neg (by simp)];refine n0_ <| n4_ <| n0_ <| wpAny_dictEpoch e0 q0 ?_;rw [if_neg (by simp)];refine n4_ ?_;have nn:¬ ((i:Int)<0):=by omega
 simp only [nn,if_false,n62_,hx];refine n0_ <| n0_ <| wpAny_typeNameOfWhole_valiter hit.typeIs <| n4_ <| n0_ <| wpAny_isOneOf_valiter hit.typeIs ?_;show wpAny _ _ (setField (.ref it) 1 (rawInt ((i:Int)+1)) >>= _) _ _ s
 refine n0_ (wpAny_setField ho hd (by simp) ?_)
 have hit':(s.heap.update it (Obj.mapFields (·.setIfInBounds 1 (rawInt ((i:Int)+1))))).IsValIter it d (i+1) es.size ep :=
  ⟨_,n40_ _ ho (Obj.isFreed_of_fields (Obj.data_mapFields hd _)),(Obj.cls_mapFields ..).trans hc,by rw [Obj.data_mapFields hd];simp [rawInt]⟩
 refine n0_ (n30_ ?_);refine n0_ (wpAny_isOneOf_valiter (s:={ s with heap:=s.heap.update it (Obj.mapFields (·.setIfInBounds 1 (rawInt ((i:Int)+1)))) }) hit'.typeIs ?_);refine n0_ (wpAny_isOneOf_valiter (s:={ s with heap:=s.heap.update it (Obj.mapFields (·.setIfInBounds 1 (rawInt ((i:Int)+1)))) }) hit'.typeIs ?_);show wpAny _ _ (pure es[i].val) _ _ _
 exact n4_ (n4_ ⟨_,rfl,n4_ (hQ _ hit' (Heap.SameBut.update ..))⟩)
theorem Zso {Q:Option Value→Shared→Prop} (hh:A.handled=none) (hit:s.heap.IsValIter it d i es.size ep) (hm:EntAt s.heap d es ep) (hx:es[i]? = none)
 (hQ:∀ h',Heap.ExtBut it s.heap h'→Q none { s with heap:=h' }):wpAny (model prog w) A (pyNext (.ref it)) Q E s:=by
 obtain ⟨o,ho,hc,hd⟩:=id hit;obtain ⟨od,e0,q0⟩:=hm;unfold pyNext;refine n0_ <| wpAny_attempt <| wpAny_callSpecial?_slot (name:=Str.ofString "__next__") hit.typeIs F.slot_dict_valueiterator_next <| wpAny_call_entry F.slot_dict_valueiterator_next hit.typeIs F.entry_dict_valueiterator_next ?_ (F.args_dict_valueiterator_next_1 _);refine n0_ <| n4_ <| n0_ <| n0_ <| n0_ <| wpAny_typeNameOfWhole_valiter hit.typeIs <| n4_ <| n0_ <| wpAny_fieldsOf ho hd ?_;have own:Builtin.Dict_items.ownsTuple "dict_valueiterator" = false:=by decide
 simp only [own,n15_,if_false];show wpAny _ _ (if (Value.ref d == Value.none)=true then _ else _) _ _ _
 rw [if_neg (by intro z;cases z)];refine n0_ <| n4_ <| n0_ <| wpAny_dictEntries e0 q0 ?_;rw [if_neg (by simp)];refine n0_ <| n4_ <| n0_ <| wpAny_dictEpoch e0 q0 ?_;rw [if_neg (by simp)];refine n4_ ?_;have nn:¬ ((i:Int)<0):=by omega
 simp only [nn,if_false,n62_,hx];refine n0_ <| n0_ <| wpAny_typeNameOfWhole_valiter hit.typeIs <| n4_ ?_;show wpAny _ _ (setField (.ref it) 0 .none >>= _) _ _ s
 refine n0_ (wpAny_setField ho hd (by simp) ?_);show wpAny _ _ (newExc (.type "StopIteration") [] >>= _) _ _ _
 refine n0_ ?_;simp only [newExc,newTuple];refine n0_ (wpAny_newObj_type ?_ (by size_fits));refine n0_ (m:=firstArgMember _ _) (wpAny_of_eq (a:=Value.none) (by first|rfl|(simp only [firstArgMember];rfl)) ?_);refine wpAny_newObj_type ?_ (by size_fits);simp only [raiseNew];refine n0_ (wpAny_handled ?_);rw [show A.in1.handled=none from hh];refine n0_ (n4_ (wpAny_throw ?_));refine n0_ (wpAny_isInstance (T := "StopIteration") (b:=true) ⟨_,n8_ _ rfl,rfl⟩ isSubtype_stop ?_);exact n4_ (hQ _ (((Heap.SameBut.update ..).extBut.push _).push _))
theorem Zlu (d:Addr) (hd:(d == sysModules)=false):MeetsIn prog w (Builtin.«dict.values» ⟨[.ref d],[]⟩) (fun _ R s=>s.TypeIs (.ref d) "dict" ∧
 R (.ok (.ret (.ref s.z))) { s with heap:=s.heap.push { cls:=.type "dict_values",data:=.fields #[.ref d] } }) :=
 .of_wp fun A R s ⟨ty,h⟩=>by
  unfold Builtin.«dict.values»;refine n0_ ?_;unfold Builtin.Dict.noArgs;refine n0_ <| wpAny_notOrdered_dict ty ?_;show wpAny _ _ (pure d) _ _ s
  refine n4_ ?_;show wpAny _ _ (Builtin.Dict.showsAll d >>= _) _ _ s
  unfold Builtin.Dict.showsAll;rw [if_neg (by rw [hd];intro z;cases z)];exact n0_ <| n4_ <| n0_ <| wpAny_newObj_type <| n4_ ⟨_,rfl,h⟩
theorem Zpb {v:Addr} {Q:Value→Shared→Prop} (hv:s.heap.IsValuesView v d) (hm:EntAt s.heap d es ep)
 (hQ:∀ h',h'.IsValIter s.z d 0 es.size ep→(∀ b o,s.heap.get? b=some o→h'.get? b=some o)→Q (.ref s.z) { s with heap:=h' }):wpAny (model prog w) A (pyIter (.ref v)) Q E s:=by
 obtain ⟨o1,e1,c1,q1⟩:=id hv;obtain ⟨od,e0,q0⟩:=hm;refine wpAny_pyIter_slot hv.typeIs F.slot_dict_values_iter <| wpAny_call_entry F.slot_dict_values_iter hv.typeIs F.entry_dict_values_iter ?_ (F.args_dict_values_iter_1 _);unfold Builtin.«dict_values.__iter__»;refine n0_ <| n4_ <| n0_ ?_;unfold Builtin.Dict_items.dictOf;refine n0_ <| wpAny_field e1 q1 (x:=.ref d) rfl <| n4_ <| n0_ ?_;unfold Builtin.Dict_items.newIterator;refine n0_ <| wpAny_dictEntries e0 q0 <| n0_ <| wpAny_dictEpoch e0 q0 ?_;have own:Builtin.Dict_items.ownsTuple "dict_valueiterator" = false:=by decide
 simp only [own,n15_,if_false];refine wpAny_newObj_type <| n4_ ⟨_,rfl,"dict_valueiterator",_,⟨_,n8_ _ rfl,rfl⟩,F.slot_dict_valueiterator_next.lookup,?_⟩;exact hQ _ ⟨_,n8_ _ rfl,rfl,rfl⟩ fun b o e=>n3_ _ e
end
end PySem
namespace L2
open PySem PySem.Spec PyProof.Rows
def Itv (o:Obj) (d:Addr):It where
 go:=fun i H=>∃ kvs,H d=some (.frz o (.dT kvs))∧i<kvs.length
 yld:=fun i H v H'=>∃ (k:List Key),H'=H∧∀ kvs,H d=some (.frz o (.dT kvs))→kvs[i]? = some (k,v)
 stop:=fun i H=>∃ kvs,H d=some (.frz o (.dT kvs))∧kvs.length≤i
variable {a it:Addr} {X:Cx} {tg:Expr} {ks:List Int} {ep:Nat} {o:Obj} {P:Program} {Q:Value→Shared→Prop} {w:World}
theorem Zog {K:PySem.W.Frag} {d:Addr} {es:Array DictEntry} (od:o.data=.dict es ep) (nd:d≠it) :
 Turn P w K tg (Itv o d) [it] it (fun n h=>h.IsValIter it d n es.size ep) where
 mem:=by simp
 obj:=fun n h st b hb=>by
  rw [n22_.mp hb];obtain ⟨u,e,_,q⟩:=st;exact ⟨u,e,fun v r=>by rw [q] at r;cases r⟩
 keep:=fun n h h' st f=>st.at fun u e=>f it (by simp) u e
 item:=by
  intro X hP hw hK hc n pins s σ H E I hf st hg;subst hP hw hK;obtain ⟨kvs,hd,hn⟩:=hg;obtain ⟨ent,sz,at_⟩:=Zm2 I.hok hd od;obtain ⟨⟨k,y⟩,ek⟩:∃ p,kvs[n]? = some p:=⟨kvs[n],n1_ hn⟩;obtain ⟨b,u,t,ex,hb,ru⟩:=at_ n k y ek
  refine Zpw st ent ex fun h' r1 r2=>?_;refine ⟨_,rfl,letGo_valiter (s':={ s with heap:=h' }) r1 ?_⟩;refine ⟨y,H,I.turnOnly (t':=s.toks) (ch:=[it]) (fun c o' ne q=>r2.extBut _ _ (fun z=>ne (by simp [z])) q) hf,ru,⟨k,rfl,fun kvs' e'=>?_⟩,r1,fun c hc=>(hf c hc).1⟩;rw [hd] at e';cases e';exact ek
 done:=by
  intro X hP hw hK hc n pins s σ H E I hf st hg;subst hP hw hK;obtain ⟨kvs,hd,hn⟩:=hg;obtain ⟨ent,sz,_⟩:=Zm2 I.hok hd od;refine Zso (show X.A.handled=none from I.ok.hd hc) st ent (Array.getElem?_eq_none (by omega)) fun h' x=>⟨rfl,?_⟩;exact I.turnOnly (t':=s.toks) (ch:=[it]) (fun c o' ne q=>x c o' (fun z=>ne (by rw [z];simp)) q) hf
 self:=fun A i s Q E st q=>wpAny_pyIter_valiter st q
section
variable {X:Cx} {tg:Expr}
def Zv3 (td:TE):TI:=fun σ H R=>td σ H fun x H1=>∃ d kvs,x=.ref d∧H1 d=some (.dT kvs)∧∀ o,R (Itv o d) (upd H1 d (.frz o (.dT kvs)))
theorem Zsm {o:Expr} {td:TE} {apos cpos:Pos} (ho:PE X o td)
 (hbase:attributeBase o "values" X.env (eval o X.env)=eval o X.env:=by rfl) (hline:(apos.endLine == cpos.line)=true:=by rfl):PI X tg (.Call (.Attribute o "values" apos) [] [] cpos) (Zv3 td):=by
 intro pins s σ H R I h;refine wpAny_Call_method0_late hbase hline (thn (ho pins s σ H _ I h) fun v s1 ⟨x,H1,I1,r1,d,kvs,ex,hd,q⟩=>?_);subst ex;cases (show v=Value.ref d from r1)
 obtain ⟨t1,t2,_⟩:=Znd I1 (.inr ⟨kvs,.inl hd⟩);obtain ⟨ob,es,ep,od,nm,ent,I2⟩:=I1.freeze hd;refine ⟨"dict","dict.values",PySem.F.plainAttrs_dict,PySem.F.slot_dict_values,PySem.F.type_dict_values,t1,t2,Calls.callWith_builtin rfl (PySem.evalArgs_none ?_)⟩;refine call_meetsIn PySem.F.slot_dict_values t1 PySem.F.entry_dict_values (PySem.F.args_dict_values_1 _) (Zlu d nm) ⟨t1,?_⟩;have n1:(s1.heap.push { cls:=.type "dict_values",data:=.fields #[.ref d] }).objs.size=s1.z+1:=n36_ ..;refine Zpb (d:=d) (es:=es) (ep:=ep) ⟨_,n8_ _ rfl,rfl,rfl⟩ (ent.at fun o e=>n3_ _ e) fun h' e1 k1=>?_;have k2:∀ b o,s1.heap.get? b=some o→h'.get? b=some o:=fun b o e=>k1 b o (n3_ _ e);have ld:d<s1.z:=let ⟨_,e,_⟩:=ent;n11_ e;have nd:d≠(s1.heap.push { cls:=.type "dict_values",data:=.fields #[.ref d] }).objs.size:=n17_ (by rw [n1];exact n38_ ld);have le:s1.z≤(s1.heap.push { cls:=.type "dict_values",data:=.fields #[.ref d] }).objs.size:=by rw [n1];exact Nat.le_succ _
 refine ⟨_,_,_,_,_,rfl,I2.kept (t':=s1.toks) k2,Zog od nd,e1,fun b hb=>?_,q ob⟩;rw [n22_.mp hb];exact I2.fpOk le (by rw [Zh nd.symm];exact I1.hok.fresh le)
end
section
variable {prog:Program} {w:World} {K:Type} [DecidableEq K] {knd:HeapKind prog w K} {A:Around} {E:Value→Shared→Prop} {s:Shared}
theorem Zjf {d:Addr} {xs:List (K×Addr×Value)} {k:K} {v:Value} (hu:knd.room A) (hkey:knd.is s.heap k a) (hm:s.heap.DictOfH knd d xs)
 (h1:∀ p,atKey xs k=some p→Q p.2 { s with toks:=s.toks+knd.draws k })
 (h2:atKey xs k=none→∀ h',h'.DictOfH knd d (storedH xs k a v)→Heap.SameBut d s.heap h'→Q v { s with heap:=h',toks:=s.toks+knd.draws k })
 (hsz:xs.length≤sizeLine):wpAny (model prog w) A (dictSetDefault d (.ref a) v) Q E s:=by
 obtain ⟨o,es,ep,ho,hc,hd,he,his,hn⟩:=hm;unfold dictSetDefault;refine n30_ ?_;refine n0_ (knd.pyHash hu hkey ?_);refine n0_ (wpAny_dictFind_heap (s:={ s with toks:=s.toks+knd.draws k }) hu hkey ho hd he his hn ?_ ?_)
 · intro hno;have hnot:k∉xs.map (·.1):=not_mem_keys_of_get hno;have hz:es.size≤sizeLine:=by have e:=size_of_entries he;omega
   refine n0_ (wpAny_rule (n0_ (wpAny_updateDictKeys (hz:=hz) (s:={ s with toks:=s.toks+knd.draws k }) ho hd (n4_ (h2 (atKey_none_of_get hno) _ ⟨_,_,ep+1,n40_ _ ho (Obj.isFreed_of_dict (Obj.data_mapDictKeys hd _)),hc.mapDictKeys _,Obj.data_mapDictKeys hd _,?_,?_,?_⟩ (Heap.SameBut.update ..))))))
   · rw [storedH_new (atKey_none_of_get hno)];simp [he,entryOfKey]
   · rw [storedH_new (atKey_none_of_get hno)];intro x hx
     rcases n34_.mp hx with hx|hx
     · exact knd.keeps (his x hx) ho hd (Heap.SameBut.update ..)
     · obtain rfl:=n22_.mp hx;exact knd.keeps hkey ho hd (Heap.SameBut.update ..)
   · rw [storedH_new (atKey_none_of_get hno),n48_,n66_];refine ⟨hn,by simp,fun x hx y hy=>?_⟩;obtain rfl:y=k:=by simpa using hy
     exact fun e=>hnot (e ▸ hx)
 · intro j p hj;have hp:=h1 p (atKey_of_get hn hj);refine n0_ (wpAny_dictEntries (s:={ s with toks:=s.toks+knd.draws k }) ho hd ?_);rw [entry_at he j,hj];exact n0_ (wpAny_rule (n4_ hp))
end
def Zwo:V→List V→Hp→VK→Prop:=fun x vs H Q=>∃ a b kvs k y,x=.ref a∧vs=[.ref b,y]∧H a=some (.dT kvs)∧H b=some (.tup (k.map kV))∧kvs.length<sizeLine ∧
 (∀ v,valV kvs k=some v→Q v H)∧(valV kvs k=none→Q y (upd H a (.dT (putK kvs k y))))
theorem Zlb (hu:X.A.units+1<cLine):MtR X "dict.setdefault" Zwo:=by
 intro pins s σ H x vs v us Q I rx rv h;obtain ⟨a,b,kvs,k,y,rfl,rfl,e,eb,l,q1,q2⟩:=h;cases rx
 cases rv with
 | cons rb rv =>
   cases rv with
   | cons ry rv =>
     cases rv
     rename_i ub uy
     cases (show ub=Value.ref b from rb)
     obtain ⟨z,hd,xs,rel,dd⟩:=Ztu I.hok e;have hz:xs.length≤sizeLine:=by rw [← Paired.length rel];exact z
     have hl:(putK kvs k y).length≤sizeLine:=by have:=X7 kvs k y;omega
     refine wpAny_call_entry F.slot_dict_setdefault dd.typeIs F.entry_dict_setdefault ?_ (F.args_dict_setdefault_3 _ _ _);unfold Builtin.«dict.setdefault»;refine n0_ ?_;unfold Builtin.Dict.keyAndDefault;refine n0_ (wpAny_notOrdered_dict dd.typeIs ?_);show wpAny _ _ (pure (a,Value.ref b,some uy)) _ _ s
     refine n4_ ?_;show wpAny _ _ (if (a == sysModules)=true then _ else (dictSetDefault a (.ref b) uy >>= _)) _ _ s
     rw [if_neg (by rw [hd];exact n21_)];have rv:=KT.val rel k;refine n0_ (Zjf (tupleKind_room_in1 hu) (Zh8 I.hok eb) dd (fun p hp=>n4_ ⟨_,rfl,?_⟩) (fun hn h' dd' hs=>n4_ ⟨_,rfl,?_⟩) hz)
     · rw [hp] at rv;cases ev:valV kvs k with
       | none=>rw [ev] at rv;cases rv
       | some v =>
         rw [ev] at rv;exact ⟨v,H,I.kept fun b o e=>e,rv,q1 v ev⟩
     · rw [hn] at rv
       have ev:valV kvs k=none:=by
        cases ev:valV kvs k with
        | none=>rfl
        | some v=>rw [ev] at rv;cases rv
       obtain ⟨q,es,ep,hq,h2,h3,h4,_,h5⟩:=dd';refine ⟨y,_,Zdu (ob:=.dT (putK kvs k y)) I (by rw [e];exact True.intro) hs ⟨q,hq⟩ ⟨hl,hd,_,(rel.put k eb ry).keeps fun c ys ec=>?_,q,es,ep,hq,h2,h3,h4,h5⟩,ry,q2 ev⟩;rw [Zh (Zo1 ec e (fun z=>nomatch z))];exact ec
section
variable {P:Program} {w:World} {A:Around} {E:Value→Shared→Prop} {s:Shared} {S:Addr}
theorem Zlx (hh:A.handled=none) (x:SetI (Yr w) s.heap S ks) (h30:ks.length≤30)
 (h:∀ (L:Addr) (h':Heap) (tk:Nat) (out:Array Value) (e:Nat) (ns:List Int),s.z≤L→(∀ b o,s.heap.get? b=some o→h'.get? b=some o)→h'.get? L=some (seqObj "list" out e)→IntsAre out.toList ns→ns.Perm ks→ns.Pairwise (·≤·)→Q (.ref L) { s with heap:=h',toks:=tk }) :
 wpAny (model P w) A (call (.builtin "sorted") [.ref S]) Q E s:=by
 obtain ⟨o,es,ep,t,g,ex,d,hb,i⟩:=x;have sa:SetAt w s.heap S es ep t:=⟨⟨o,g,ex,d⟩,i.tw⟩;obtain ⟨ns0,ia,pm⟩:=i.ns;obtain ⟨ms,iw,pw⟩:=Zdh (Zc6 w S ep es) ia;have hl:(Xr w S ep es).length<64:=by rw [Zcy,i.len];omega
 refine Calls.call_function_entry kind_sorted plain_sorted entry_sorted (args_sorted1 _) ?_;unfold Builtin.«sorted»;refine n0_ (m:=checkCount "sorted" 1 1 _) (n4_ ?_);refine n0_ (Zjp (by simp [hh]) sa (by rw [i.len,sizeLine_eq];omega) fun h' tk keep le=>?_);generalize hvs:Xr w S ep es=vs at iw hl;refine n0_ (wpAny_newList ?_);have hoL:(h'.push (seqObj "list" vs.toArray 0)).get? h'.objs.size=some (seqObj "list" vs.toArray 0):=n8_ _ rfl;refine n0_ (n30_ (wpAny_call_entry (s:={ s with heap:=h'.push (seqObj "list" vs.toArray 0),toks:=tk }) slot_list_sort ⟨_,hoL,rfl⟩ entry_list_sort (list_sort_tree hoL iw hl fun out ns' a1 a2 a3=>⟨_,rfl,?_⟩) (args_list_sort _)));obtain ⟨e,he⟩:=sortedHeap_at (out:=out) hoL;refine n4_ ⟨_,rfl,h _ _ _ out e ns' le (fun b o eb=>?_) he a1 (a2.trans (pw.trans pm)) a3⟩;have hk:=keep b o eb;have hlt:=n11_ hk;rw [sortedHeap_old (n17_ hlt) (by rw [n36_];exact n38_ hlt)];exact n3_ _ hk
end
theorem Zg3 (hc:X.calm=true):Yy X (.builtin "sorted") (fun xs H Q=>∃ (p:Addr) (ks:List Int),xs=[.ref p]∧H p=some (setI (Yr X.w) p ks)∧ks.length≤30∧∀ (l:Addr) (ns:List Int),H l=none→ns.Perm ks→ns.Pairwise (·≤·)→Q (.ref l) (upd H l (.lst (ns.map V.int)))):=by
 intro pins s σ H xs us Q I r h;obtain ⟨p,ks,rfl,hp,h30,q⟩:=h;cases r with
 | cons rx r =>
   cases r
   cases (show _=Value.ref p from rx)
   have sI:SetI (Yr X.w) s.heap p ks:=Zta (I.hok p _ hp);refine Zlx (I.ok.hd hc) sI h30 fun L h' tk out e ns le keep he ia pm so=>?_;exact ⟨.ref L,_,I.laid (o:=.lst (ns.map V.int)) (t':=tk) (fun b u eb=>keep b u eb) le ⟨by rw [n5_,pm.length_eq,sizeLine_eq];omega,out.toList,e,Xx ia,by simpa using he⟩,rfl,q L ns (I.hok.fresh le) pm so⟩
section
variable {P:Program} {w:World} {bt:Bool} {A:Around} {E:Value→Shared→Prop} {s:Shared}
end
end L2
set_option maxHeartbeats 4000000
theorem L2.gen_upd {H H1:L2.Hp} {p:PySem.Addr} {o:L2.HO} (g:L2.upd H p o=H1) (n:H p=none):L2.Same H H1∧H1 p=some o:=g▸⟨L2.Same.new n,L2.Zc⟩
namespace My
open PySem PySem.Spec PyProof.Rows L2
def top (i:Nat):Stmt:=PySem.Challenge.pw_platerest_k19_whole_plates_numbered_othe.main.body.getD i (.Pass ⟨0,0,0,0⟩)
theorem Zu6:bootBuiltins "abs" = some (.builtin "abs"):=by decide +kernel
theorem Za8:bootBuiltins "all" = some (.builtin "all"):=by decide +kernel
theorem Zum:bootBuiltins "any" = some (.builtin "any"):=by decide +kernel
theorem Zr4:bootBuiltins "bool" = some (.type "bool"):=by decide +kernel
theorem Zu3:bootBuiltins "int" = some (.type "int"):=by decide +kernel
theorem Zaf:bootBuiltins "isinstance" = some (.builtin "isinstance"):=by decide +kernel
theorem Yt:bootBuiltins "len" = some (.builtin "len"):=by decide +kernel
theorem Zfl:bootBuiltins "list" = some (.type "list"):=by decide +kernel
theorem Zq5:bootBuiltins "max" = some (.builtin "max"):=by decide +kernel
theorem Zub:bootBuiltins "min" = some (.builtin "min"):=by decide +kernel
theorem Zq6:bootBuiltins "set" = some (.type "set"):=by decide +kernel
theorem Z2:bootBuiltins "sorted" = some (.builtin "sorted"):=by decide +kernel
theorem Znc:bootBuiltins "sum" = some (.builtin "sum"):=by decide +kernel
theorem Z5:bootBuiltins "tuple" = some (.type "tuple"):=by decide +kernel
structure Bt (mg:Str→Option Value):Prop where
 b_abs:mg "abs" = none
 b_all:mg "all" = none
 b_any:mg "any" = none
 b_bool:mg "bool" = none
 b_enumerate:mg "enumerate" = none
 b_int:mg "int" = none
 b_isinstance:mg "isinstance" = none
 b_len:mg "len" = none
 b_list:mg "list" = none
 b_max:mg "max" = none
 b_min:mg "min" = none
 b_range:mg "range" = none
 b_set:mg "set" = none
 b_sorted:mg "sorted" = none
 b_sum:mg "sum" = none
 b_tuple:mg "tuple" = none
 b_zip:mg "zip" = none
 n_FARTHEST:∃ t,mg "FARTHEST" = some (.int 100 t)
 n_FEWEST_CORNERS:∃ t,mg "FEWEST_CORNERS" = some (.int 3 t)
 n_MOST_CORNERS:∃ t,mg "MOST_CORNERS" = some (.int 30 t)
 n_MOST_PIECES:∃ t,mg "MOST_PIECES" = some (.int 40 t)
 n_MOST_STUFF:∃ t,mg "MOST_STUFF" = some (.int 9 t)
 n_THICKEST:∃ t,mg "THICKEST" = some (.int 9 t)
theorem Xl {a n:Nat} (h:a<2^64) (hn:64≤n:=by decide):a<2^n:=n25_ h (Nat.pow_le_pow_right (by decide) hn)
def Zdd:Sp:=fun vs H Q _=>∃ a:Int,vs=[.int a]∧Q (.bl true) H
def StAt (H:Hp) (l:Addr):Prop:=∃ s0 s1 s2:Int,H l=some (.lst [.int s0,.int s1,.int s2])∧0≤s1∧s1<4294967296
theorem StAt.same {H H':Hp} {l:Addr} (s:StAt H l) (k:Same H H'):StAt H' l:=by
 obtain ⟨a,b,c,h,r⟩:=s;exact ⟨a,b,c,k _ _ h,r⟩
theorem StAt.new {H:Hp} {l p:Addr} {o:HO} (s:StAt H l) (h:H p=none):StAt (upd H p o) l:=by
 obtain ⟨a,b,c,e,r⟩:=s;exact ⟨a,b,c,by rw [Zh (Zg e h)];exact e,r⟩
theorem StAt.ne {H:Hp} {l p:Addr} (s:StAt H l) (h:H p=none):l≠p:=by
 obtain ⟨a,b,c,e,r⟩:=s;exact Zg e h
def Zmj (K:PySem.W.Frag):Sp:=fun vs H Q _=>∃ (a:Addr) (ns:List Int) (k:Nat),vs=[.ref a,.int k]∧SqL K H a (ns.map V.int)∧∀ c:Int,Q (.int c) H
def Zkc (K:PySem.W.Frag):Sp:=fun vs H Q _=>∃ (a:Addr) (ns:List Int) (k:Nat),vs=[.ref a,.int k]∧SqL K H a (ns.map V.int) ∧
 ∀ (p:Addr) (H':Hp),H p=none→Same H H'→StAt H' p→Q (.ref p) H'
def Zdn:Sp:=fun vs H Q _=>∃ (l:Addr) (m:Int),vs=[.ref l,.int m]∧StAt H l∧0<m∧m.natAbs<2^8999∧∀ (r:Int) (H':Hp),0≤r→r<m→Keep l H H'→StAt H' l→Q (.int r) H'
theorem mulS {a b:Int} (ha:a.natAbs<2^64) (hb:b.natAbs<2^64):CMulB a b:=⟨n25_ ha (Nat.pow_le_pow_right (by decide) (by decide)),n25_ hb (Nat.pow_le_pow_right (by decide) (by decide))⟩
theorem p64:(2:Nat)^64=18446744073709551616:=by decide
theorem blT {p:Prop} [Decidable p] (h:p):V.bl (decide p)=V.bl true:=by rw [n29_ h]
theorem qT {p:Prop} [Decidable p] (h:p) {Q:VK} {H:Hp} (q:Q (.bl true) H):Q (.bl (decide p)) H:=by rw [blT h];exact q
theorem mul3 {a b:Int} (ha:a.natAbs≤1000) (hb:b.natAbs≤1000):CMulB a b:=⟨Nat.lt_of_le_of_lt ha (n25_ (by decide:(1000:Nat)<2^10) (Nat.pow_le_pow_right (by decide) (by decide))),Nat.lt_of_le_of_lt hb (n25_ (by decide:(1000:Nat)<2^10) (Nat.pow_le_pow_right (by decide) (by decide)))⟩
def Zes:Sp:=fun vs H Q _=>∃ i lo hi:Int,vs=[.int i,.int lo,.int hi]∧lo≤i∧i≤hi∧Q (.bl true) H
def Zrm:Sp:=fun vs H Q _=>∃ (a:Addr) (us:List V) (lo hi:Int),vs=[.ref a,.int lo,.int hi]∧H a=some (.tup us)∧lo≤us.length∧(us.length:Int)≤hi∧Q (.bl true) H
def Ze2:Sp:=fun vs H Q _=>∃ (a:Addr) (ns:List Int),vs=[.ref a]∧H a=some (.tup (ns.map V.int))∧ns.length≤1000∧(∀ (i:Nat) (x y:Int),ns[i]? = some x→ns[i+1]? = some y→x<y)∧∀ H',Same H H'→Q (.bl true) H'
def Zeo:Sp:=fun vs H Q _=>∃ (a:Addr) (us:List V) (ks:List (List Int)),vs=[.ref a]∧H a=some (.tup us)∧Al (IsI H) us ks∧us.length≤1000∧(∀ (i:Nat) (x y:List Int),ks[i]? = some x→ks[i+1]? = some y→HT.lexLt x y=true)∧∀ H',Same H H'→Q (.bl true) H'
def Zgz:Sp:=fun vs H Q _=>∃ (v:V) (p:Pnt),vs=[v]∧IsP H v p∧near p∧∀ H',Same H H'→Q (.bl true) H'
def Ze4:Sp:=fun vs H Q _=>∃ (v:V) (cs:List Pnt),vs=[v]∧IsCs H v cs∧3≤cs.length∧cs.length≤30∧(∀ p∈cs,near p)∧cs.Nodup∧∀ H',Same H H'→Q (.bl true) H'
def Znu:Sp:=fun vs H Q _=>∃ (u v w:V) (a b c:Pnt),vs=[u,v,w]∧IsP H u a∧IsP H v b∧IsP H w c∧near a∧near b∧near c∧Q (.int (tn a b c)) H
theorem cut1 (xs:List V):cutV xs (some 1) none=xs.drop 1:=by
 unfold cutV;have e1:HT.sIx xs.length xs.length none=xs.length:=rfl
 have e2:HT.sIx xs.length 0 (some 1)=min 1 xs.length:=by
  unfold HT.sIx
  simp
  try omega
 rw [e1,e2];cases xs with
 | nil=>rfl
 | cons x xs=>simp
theorem Zfi {α:Type} (x:α):∀ n:Nat,(List.replicate n [x]).flatten=List.replicate n x
 | 0=>rfl
 | n+1=>by rw [n73_,n56_,Zfi x n];rfl
theorem allT (n:Nat):(List.replicate n true).all id=true:=by rw [List.all_replicate];split<;>rfl
theorem repT {n i:Nat} (h:i<n):(List.replicate n true)[i]? = some true:=by rw [List.getElem?_replicate,if_pos h]
theorem Xd {α:Type} {l:List α} {i:Nat} {x:α} (h:l[i]? = some x):i<l.length:=(n9_.mp h).1
abbrev RB:Hp→V→Bool→Prop:=fun _ v b=>v=V.bl b
theorem hRB:∀ H1 H2 v x,Tk H1 H2→RB H1 v x→RB H2 v x:=fun _ _ _ _ _ e=>e
abbrev RI:Hp→V→Int→Prop:=fun _ v b=>v=V.int b
theorem hRI:∀ H1 H2 v x,Tk H1 H2→RI H1 v x→RI H2 v x:=fun _ _ _ _ _ e=>e
theorem hRP:∀ H1 H2 v x,Tk H1 H2→IsP H1 v x→IsP H2 v x:=fun _ _ _ _ t h=>h.tk t
theorem hRII:∀ H1 H2 v x,Tk H1 H2→IsI H1 v x→IsI H2 v x:=fun _ _ _ _ t h=>h.tk t
theorem hRT:∀ H1 H2 v x,Tk H1 H2→IsT H1 v x→IsT H2 v x:=fun _ _ _ _ t h=>h.tk t
def Zh1:Sp:=fun vs H Q _=>∃ (u v:V) (cs:List Pnt) (p:List Int),vs=[u,v]∧IsCs H u cs∧IsI H v p∧p.length=3∧(∀ i∈p,0≤i∧i≤(cs.length:Int)-1)∧(∀ p∈cs,near p)∧Q (.int (dOf cs p)) H
def Zec:Sp:=fun vs H Q _=>∃ (u v:V) (cs:List Pnt) (p:List Int),vs=[u,v]∧IsCs H u cs∧IsI H v p∧PieceOk cs p∧(∀ p∈cs,near p)∧∀ H',Same H H'→Q (.bl true) H'
def Zhx:Sp:=fun vs H Q _=>∃ (u v:V) (cs:List Pnt) (ps:List (List Int)),vs=[u,v]∧IsCs H u cs∧IsPs H v ps∧1≤ps.length∧ps.length≤40∧(∀ p∈ps,PieceOk cs p)∧(∀ i:Nat,i+1<ps.length→HT.lexLt (ps.getD i []) (ps.getD (i+1) [])=true)∧(∀ p∈cs,near p)∧∀ H',Same H H'→Q (.bl true) H'
def Zhf:Sp:=fun vs H Q _=>∃ (u v:V) (ps:List (List Int)) (ts:List Int),vs=[u,v]∧IsPs H u ps∧IsI H v ts∧ts.length=ps.length∧ps.length≤40∧(∀ t∈ts,1≤t∧t≤9)∧∀ H',Same H H'→Q (.bl true) H'
def Zjs:Sp:=fun vs H Q _=>∃ (v:V) (l m:Int),vs=[v]∧IsI H v [l,m]∧(0≤l∧l≤9)∧(1≤m∧m≤9)∧Q (.bl true) H
theorem Zo8 {H:Hp} {cs:List Pnt} {us:List V} (A:Al (IsP H) us cs) {i:Int} (h0:0≤i) (h1:i≤(cs.length:Int)-1):∃ v,atI us i=some v∧IsP H v (cAt cs i):=by
 obtain ⟨n,rfl⟩:∃ n:Nat,i=n:=⟨i.toNat,by omega⟩;have hn:n<cs.length:=by omega
 obtain ⟨v,ev,r⟩:=A.got (n1_ hn);refine ⟨v,Xk ev,?_⟩
 have:cAt cs (n:Int)=cs[n]:=by unfold cAt;simp [n2_,hn]
 rw [this];exact r
theorem Zaa {cs:List Pnt} {i:Int} (h0:0≤i) (h1:i≤(cs.length:Int)-1):cAt cs i∈cs:=by
 have hn:i.toNat<cs.length:=by omega
 unfold cAt;rw [n2_,n1_ hn];exact n37_ hn
theorem Zwm {p:List Int} (h:p.length=3):p=[p.getD 0 0,p.getD 1 0,p.getD 2 0]:=by
 match p,h with
 | [a,b,c],_=>rfl
def IsE (H:Hp) (v:V) (e:Pnt×Pnt):Prop:=∃ a x y,v=.ref a∧H a=some (.tup [x,y])∧IsP H x e.1∧IsP H y e.2
def Zra:Sp:=fun vs H Q _=>∃ (u v:V) (cs:List Pnt) (p:List Int),vs=[u,v]∧IsCs H u cs∧IsI H v p∧p.length=3∧(∀ i∈p,0≤i∧i≤(cs.length:Int)-1)∧(∀ p∈cs,near p)∧∀ H' w,Same H H'→IsT H' w (trOf cs p)→Q w H'
def Zj1:Sp:=fun vs H Q _=>∃ (v:V) (t:Tri),vs=[v]∧IsT H v t∧∀ H' w,Same H H'→IsTup' IsE H' w t.edges→Q w H'
def Zhi:Sp:=fun vs H Q _=>∃ (u v:V) (p:Pnt) (t:Tri),vs=[u,v]∧IsP H u p∧IsT H v t∧near p∧t.near∧∀ H',Same H H'→Q (.bl (Zbq p t)) H'
def Zcr:Sp:=fun vs H Q _=>∃ (u v:V) (t r:Tri),vs=[u,v]∧IsT H u t∧IsT H v r∧t.near∧r.near∧∀ H',Same H H'→Q (.bl (Y5 t r)) H'
def Zkl:Sp:=fun vs H Q _=>∃ (u v:V) (t r:Tri),vs=[u,v]∧IsT H u t∧IsT H v r∧t.near∧r.near∧∀ H',Same H H'→Q (.bl (L2.apart t r)) H'
def Zne:Sp:=fun vs H Q _=>∃ (u v:V) (cs:List Pnt) (ps:List (List Int)),vs=[u,v]∧IsCs H u cs∧IsPs H v ps∧(∀ p∈ps,p.length=3)∧ps.length≤40∧cntS ps.flatten=cs.length∧cs.length≤30∧∀ H',Same H H'→Q (.bl true) H'
def Zeh:Sp:=fun vs H Q _=>∃ (u v w:V) (cs:List Pnt) (p:List Int) (t:Tri),vs=[u,v,w]∧IsCs H u cs∧IsI H v p∧IsT H w t∧cs.length≤30∧(∀ p∈cs,near p)∧t.near∧(∀ j:Nat,j<cs.length→(j:Int)∉p→Zbq (cs.getD j (0,0)) t=false)∧∀ H',Same H H'→Q (.bl true) H'
structure FitOk (cs:List Pnt) (ps:List (List Int)):Prop where
 c30:cs.length≤30
 nr:∀ p∈cs,near p
 p40:ps.length≤40
 pc:∀ p∈ps,PieceOk cs p
 strange:∀ p∈ps,∀ j:Nat,j<cs.length→(j:Int)∉p→Zbq (cs.getD j (0,0)) (trOf cs p)=false
 apart:∀ i j:Nat,i<j→j<ps.length→L2.apart (trOf cs (ps.getD j [])) (trOf cs (ps.getD i []))=true
def Zq8:Sp:=fun vs H Q _=>∃ (u v:V) (cs:List Pnt) (ps:List (List Int)),vs=[u,v]∧IsCs H u cs∧IsPs H v ps∧FitOk cs ps∧∀ H',Same H H'→Q (.bl true) H'
def Zek:Sp:=fun vs H Q _=>∃ (v:V) (P:Pl),vs=[v]∧IsPl H v P∧PlOk P∧∀ H',Same H H'→Q (.bl true) H'
def Zcd:Sp:=fun vs H Q _=>∃ (v:V) (P:Pl),vs=[v]∧IsPl H v P∧PlOk P∧∀ H',Same H H'→Q .non H'
theorem Zii {cs:List Pnt} {p:List Int} (hb:∀ i∈p,0≤i∧i≤(cs.length:Int)-1) (hl:p.length=3) (nr:∀ p∈cs,near p):(trOf cs p).near:=by
 match p,hl with
 | [a,b,c],_ =>
   have ha:=nr _ (Zaa (hb a (by simp)).1 (hb a (by simp)).2);have hb':=nr _ (Zaa (hb b (by simp)).1 (hb b (by simp)).2);have hc:=nr _ (Zaa (hb c (by simp)).1 (hb c (by simp)).2);show (tri (cAt cs a) (cAt cs b) (cAt cs c)).near
   unfold tri;split
   · exact ⟨ha,hc,hb'⟩
   · exact ⟨ha,hb',hc⟩
theorem Zh3 {t:Tri} (n:t.near) {e:Pnt×Pnt} (h:e∈t.edges):near e.1∧near e.2:=by
 obtain ⟨a,b,c⟩:=n;simp only [Tri.edges,n12_,n16_,or_false] at h
 rcases h with rfl|rfl|rfl
 · exact ⟨a,b⟩
 · exact ⟨b,c⟩
 · exact ⟨c,a⟩
theorem Zs3 {t:Tri} (n:t.near) {e:Pnt} (h:e∈t.pts):near e:=by
 obtain ⟨a,b,c⟩:=n;simp only [Tri.pts,n12_,n16_,or_false] at h
 rcases h with rfl|rfl|rfl
 · exact a
 · exact b
 · exact c
theorem Zuj {H:Hp} {v:V} {t:Tri} (h:IsT H v t):∃ a vs,v=.ref a∧H a=some (.tup vs)∧vs.length=3∧Al (IsP H) vs t.pts:=by
 obtain ⟨a,x,y,z,rfl,ha,hx,hy,hz⟩:=h;exact ⟨a,_,rfl,ha,rfl,.cons hx (.cons hy (.cons hz .nil))⟩
theorem cs3 {H:Hp} {us:List V} {cs:List Pnt} (al:Al (IsP H) us cs) {p:List Int} (hl:p.length=3) (bd:∀ i∈p,0≤i∧i≤(cs.length:Int)-1) {vs:List V} (a2:Al (IsP H) vs (p.map (cAt cs))):∃ x y z,vs=[x,y,z]∧IsP H x (cAt cs (p.getD 0 0))∧IsP H y (cAt cs (p.getD 1 0))∧IsP H z (cAt cs (p.getD 2 0)):=by
 match p,hl with
 | [i,j,k],_ =>
   have:=a2.1
   match vs,this with
   | [x,y,z],_=>exact ⟨x,y,z,rfl,a2.2 0 x _ rfl rfl,a2.2 1 y _ rfl rfl,a2.2 2 z _ rfl rfl⟩
theorem Zwb (xs:List V) (i:Nat) (h:i≤xs.length):cutV xs none (some (i:Int))=xs.take i:=by
 unfold cutV;rw [HT.sIx_none,HT.sIx_nat];simp [Nat.min_eq_left h]
theorem anyM {α:Type} {l:List α} {f:α→Bool} (h:∀ x∈l,f x=false):(l.map f).any id=false:=by
 rw [List.any_map];exact List.any_eq_false.mpr fun x hx=>by simp [h x hx]
theorem prs {H:Hp} {vs:List V} {es:List (Pnt×Pnt)} (al:Al (IsE H) vs es):∀ (i:Nat) (w:V),vs[i]? = some w→∃ p x y,w=.ref p∧H p=some (.tup [x,y]):=fun i w e=>by
 obtain ⟨_,_,p,x,y,rfl,h,_⟩:=al.get e;exact ⟨p,x,y,rfl,h⟩
theorem pr1 {H:Hp} {vs:List V} {es:List (Pnt×Pnt)} (al:Al (IsE H) vs es) {i:Nat} {p:Addr} {x y:V} (e:vs[i]? = some (.ref p)) (hp:H p=some (.tup [x,y])):∃ q,es[i]? = some q∧IsP H x q.1∧IsP H y q.2:=by
 obtain ⟨q,eq,p',x',y',e1,h,h1,h2⟩:=al.get e;cases e1
 rw [hp] at h;cases h
 exact ⟨q,eq,h1,h2⟩
theorem Zpa (n:Int) (p:List Int):inV (V.int n) (p.map V.int)=decide (n∈p):=by
 unfold inV;rw [List.any_map]
 induction p with
 | nil=>rfl
 | cons x p ih =>
   rw [List.any_cons,ih]
   by_cases h:n=x
   · subst h
     have:eqV (V.int n) (V.int n)=true:=by simp [eqV]
     simp [Function.comp,this]
   · have:eqV (V.int x) (V.int n)=false:=by simp [eqV];exact fun z=>h z.symm
     simp [Function.comp,this,h]
theorem Zhs {α β:Type} (f:α→β):∀ (l:List α) (i:Nat),(l.map f).eraseIdx i=(l.eraseIdx i).map f
 | [],i=>by cases i<;>rfl
 | x :: l,0=>rfl
 | x :: l,i+1=>by simp only [n31_,List.eraseIdx_cons_succ,Zhs f l i]
theorem X3 {α:Type}:∀ (l:List α) (i:Nat) (h:i<l.length),(l[i] :: l.eraseIdx i).Perm l
 | [],i,h=>by simp at h
 | x :: l,0,h=>.refl _
 | x :: l,i+1,h=>by
   simp only [List.eraseIdx_cons_succ,List.getElem_cons_succ];exact (List.Perm.swap x _ _).trans ((X3 l i (by simpa using h)).cons x)
theorem Zvm {α:Type} {R:V→α→Prop} {vs:List V} {xs:List α} {v:V} {x:α} (h:Al R vs xs) (j:Nat) (r:R v x):Al R (vs.set j v) (xs.set j x):=by
 refine ⟨by simp [h.1],fun i w y e1 e2=>?_⟩;rw [List.getElem?_set] at e1 e2
 by_cases hi:j=i
 · subst hi;rw [if_pos rfl] at e1 e2;split at e1
   · split at e2
     · cases e1;cases e2;exact r
     · cases e2
   · cases e1
 · rw [if_neg hi] at e1 e2;exact h.2 i w y e1 e2
theorem Zos {S:V→List Int→Prop} {T:List Int→List Int→Prop}:∀ {vs:List V} {ps:List (List Int)},Al (fun v p=>∃ r,S v r∧T r p) vs ps→∃ kl:List (List Int),kl.length=ps.length∧Al S vs kl∧∀ i:Nat,i<ps.length→T (kl.getD i []) (ps.getD i [])
 | [],[],_=>⟨[],rfl,.nil,fun i hi=>by simp at hi⟩
 | [],p :: ps,h=>by have:=h.1;simp at this
 | v :: vs,[],h=>by have:=h.1;simp at this
 | v :: vs,p :: ps,h=>by
   obtain ⟨r,s,t⟩:=h.2 0 v p rfl rfl;obtain ⟨kl,l,a,k⟩:=Zos (vs:=vs) (ps:=ps) ⟨by have:=h.1;simpa using this,fun i w x e1 e2=>h.2 (i+1) w x (by simpa using e1) (by simpa using e2)⟩;refine ⟨r :: kl,by simp [l],.cons s a,fun i hi=>?_⟩;cases i with
   | zero=>exact t
   | succ i=>simpa using k i (by simpa using hi)
theorem Zno {n:Nat} {k:Int} (h0:0≤k) (h1:k<n):ixN n k=some k.toNat:=by
 unfold ixN;rw [if_pos h0,if_pos (by omega)]
theorem seqI {n:Nat} {k:Int} (h0:0≤k) (h1:k<n):seqIndex? k n=some k.toNat:=(Zis (Zno h0 h1)).1
theorem tkS {H H':Hp} {l:Addr} (k:Keep l H H') (s:StAt H l):Tk H H':=by
 obtain ⟨a,b,c,e,_⟩:=s;exact Tk.of_keep k e
theorem StAt.neN {H:Hp} {l p:Addr} (s:StAt H l) (h:H p=none):p≠l:=fun z=>s.ne h z.symm
theorem Zsd {J:It} {n:Nat} {l D:Addr} {g:TG} {te:TE} {σ0:L2.St} {H:Hp} {Q:VK} {α:Type} (R:Hp→V→α→Prop) (hR:∀ H1 H2 v x,Tk H1 H2→R H1 v x→R H2 v x) (hz:n≤1000) (ok:L2.St→Prop) (h0:ok σ0) (hD:H D=none) (hl:StAt H l)
 (hgo:∀ i H2,Keep l H H2→i<n→J.go i H2) (hstop:∀ H2,Keep l H H2→J.stop n H2)
 (hs:∀ i x σ2 H2 H3 (C:L2.St→V→Hp→Prop),i<n→Keep l H H2→StAt H2 l→J.yld i H2 x H3→ok σ2→(∀ σ4 y H5 z,ok σ4→Keep l H2 H5→StAt H5 l→R H5 y z→C σ4 y H5)→g x σ2 H3 fun σ4 H4=>te σ4 H4 (C σ4))
 (hd:∀ H2 vs ys,Keep l H H2→StAt H2 l→H2 D=some (.lst vs)→ys.length=n→Al (R H2) vs ys→Q (.ref D) H2):LcGo J g tYes te σ0 H D Q:=by
 have neD:D≠l:=hl.neN hD;refine Zez (n:=n) (fun i σ H2=>Keep l H H2∧StAt H2 l∧ok σ∧∃ vs ys,ys.length=i∧H2 D=some (.lst vs)∧Al (R H2) vs ys) ⟨Keep.new hD,hl.new hD,h0,[],[],rfl,Zc,.nil⟩ (fun i σ H2 hi p=>hgo i H2 p.1 hi) (fun σ H2 p=>hstop H2 p.1) (fun i x σ2 H2 H3 hi y p=>?_) (fun σ2 H2 p=>?_)
 · obtain ⟨s2,l2,o2,vs,ys,hy,e2,a2⟩:=p;refine hs i x σ2 H2 H3 (fun σ4 y H6=>∃ ys,H6 D=some (.lst ys)∧ys.length<sizeLine∧∃ m',m'<n-i∧LcN n (fun i σ H2=>Keep l H H2∧StAt H2 l∧ok σ∧∃ vs ys,ys.length=i∧H2 D=some (.lst vs)∧Al (R H2) vs ys) (i+1) m' σ4 (upd H6 D (.lst (ys++[y])))) hi s2 l2 y o2 ?_;intro σ4 v H5 z o4 s5 l5 rz;have e5:H5 D=some (.lst vs):=s5 _ _ neD e2;have tk:Tk H5 (upd H5 D (.lst (vs++[v]))):=Tk.upd_lst e5;refine ⟨vs,e5,?_,n-(i+1),by omega,by omega,rfl,fun b o nb e=>?_,?_,o4,vs++[v],ys++[z],by simp [hy],Zc,?_⟩
   · rw [a2.1,sizeLine_eq];omega
   · rw [Zh (Zg e hD)];exact s5 _ _ nb (s2 _ _ nb e)
   · obtain ⟨a,b,c,e,r⟩:=l5;exact ⟨a,b,c,by rw [Zh neD.symm];exact e,r⟩
   · exact (a2.imp fun v x r=>hR _ _ v x tk (hR _ _ v x (tkS s5 l2) r)).snoc (hR _ _ _ _ tk rz)
 · obtain ⟨s2,l2,_,vs,ys,hy,e2,a2⟩:=p;exact hd H2 vs ys s2 l2 e2 hy a2
def Zkg:Sp:=fun vs H Q _=>∃ (l:Addr) (n:Nat),vs=[.ref l,.int n]∧StAt H l∧n≤60∧∀ (H':Hp) (r:Addr) (o:List Int),Keep l H H'→StAt H' l→H r=none→H' r=some (.lst (o.map V.int))→o.Perm ((List.range n).map fun i:Nat=>(i:Int))→Q (.ref r) H'
def Zib:Sp:=fun vs H Q _=>vs=[]∧∀ (H':Hp) (r:Addr) (us:List V),Same H H'→H r=none→H' r=some (.lst us)→Al (IsSh H') us Zdg→Q (.ref r) H'
theorem Zqe {H:Hp} {us:List V} (al:Al (IsSh H) us Zdg) {r:Int} (h0:0≤r) (h1:r<8):∃ (v:V) (s:List Pnt×List (List Int)),atI us r=some v∧IsSh H v s∧s∈Zdg:=by
 obtain ⟨k,rfl⟩:∃ k:Nat,r=k:=⟨r.toNat,by omega⟩;have hk:k<Zdg.length:=by show k<8;omega
 obtain ⟨v,ev,rv⟩:=al.got (n1_ hk);exact ⟨v,_,Xk ev,rv,n37_ hk⟩
theorem Zrt {α:Type} {R:V→α→Prop} {v:V} {x:α} (r:R v x):∀ n:Nat,Al R (List.replicate n v) (List.replicate n x)
 | 0=>.nil
 | n+1=>by rw [n73_,n73_];exact .cons r (Zrt r n)
theorem mul4 {a b:Int} (ha:a.natAbs≤1000) (hb:b.natAbs≤1000):CMulB a b:=mul3 ha hb
theorem o_at {o:List Int} {n:Nat} (O:CoOrd n o) {i:Int} (h0:0≤i) (h1:i<n):atI (o.map V.int) i=some (.int (oAt o i)):=by
 obtain ⟨k,rfl⟩:∃ k:Nat,i=k:=⟨i.toNat,by omega⟩;have hk:k<o.length:=by rw [O.len];omega
 refine Xk ?_;rw [n6_,n1_ hk];unfold oAt;simp [n2_,hk]
theorem Zqi {p:Pnt} (h:p.1.natAbs≤6∧p.2.natAbs≤6):p.1.natAbs≤1000∧p.2.natAbs≤1000:=⟨by omega,by omega⟩
theorem Zv4 {H:Hp} {vs:List V} {kl:List (List Int)} (al:Al (IsI H) vs kl) {q:List Nat} (hq:∀ i∈q,i<kl.length):Al (IsI H) (q.map fun i=>vs.getD i .non) (q.map fun i=>kl.getD i []):=by
 refine ⟨by simp,fun n v r e1 e2=>?_⟩;rw [n6_] at e1 e2;obtain ⟨i,ei,rfl⟩:=n10_.mp e1;rw [ei] at e2;cases e2
 have hi:=hq i (n7_ ei);have hv:i<vs.length:=by rw [al.1];exact hi
 have:=al.2 i vs[i] kl[i] (n1_ hv) (n1_ hi)
 show IsI H (vs.getD i .non) (kl.getD i [])
 rw [n2_,n2_,n1_ hv,n1_ hi];exact this
theorem Yu {H H':Hp} {a:Addr} (s:Same H H') (h:H' a=none):H a=none:=by
 cases e:H a with
 | none=>rfl
 | some o=>rw [s _ _ e] at h;cases h
abbrev IsR:Hp→V→Addr×List Int→Prop:=fun H v x=>v=.ref x.1∧tpl H x
theorem hIsR:∀ H1 H2 v x,Tk H1 H2→IsR H1 v x→IsR H2 v x:=fun _ _ _ _ t h=>⟨h.1,t _ _ h.2⟩
theorem Zmm {H:Hp}:∀ {us:List V} {al:List (Addr×List Int)},Al (IsR H) us al→us=refs al∧∀ x∈al,tpl H x
 | [],[],_=>⟨rfl,fun x hx=>by cases hx⟩
 | [],_ :: _,a=>absurd a.1 (by simp)
 | _ :: _,[],a=>absurd a.1 (by simp)
 | v :: us,x :: al,a=>by
   obtain ⟨e,t⟩:=Zmm (us:=us) (al:=al) ⟨by simpa using a.1,fun i v x e1 e2=>a.2 (i+1) v x e1 e2⟩;obtain ⟨e0,t0⟩:=a.2 0 v x rfl rfl;exact ⟨by rw [e,e0];rfl,fun y hy=>(n12_.mp hy).elim (fun z=>z ▸ t0) (t y)⟩
theorem Zcs {α:Type} (l:List α) (p:α→Bool):∀ n,n≤l.length→(List.range n).filterMap (fun i=>(l[i]?).filter p)=(l.take n).filter p
 | 0,_=>by simp
 | n+1,hn=>by
   rw [List.range_succ,List.filterMap_append,Zcs l p n (by omega),List.take_succ,List.filter_append,n1_ (by omega)]
   congr 1
   have g:l[n]? = some l[n]:=n1_ (by omega)
   by_cases c:p l[n]=true<;>simp [g,c,Option.filter]
def Zed:Sp:=fun vs H Q _=>∃ (v:V) (p:List Int),vs=[v]∧IsI H v p∧p.length=3∧∀ (H':Hp) (L:Addr) (al:List (Addr×List Int)),Same H H'→H L=none→H' L=some (.lst (refs al))→(∀ x∈al,tpl H' x)→al.map (·.2)=Z0 p→Q (.ref L) H'
def Zgr:Sp:=fun vs H Q _=>∃ (v:V) (P:Pl),vs=[v]∧IsPl H v P∧(∀ p∈P.ps,p.length=3)∧P.ps.length≤20∧∀ (H':Hp) (D:Addr) (g:List (List Int×List Int)) (ads:List Addr),Same H H'→OwnA H H' D g ads→GI g (Zal P.ps P.ps.length)→Q (.ref D) H'
def Zku:Sp:=fun vs H Q _=>∃ (v:V) (P:Pl),vs=[v]∧IsPl H v P∧PlOk P∧P.ps.length≤20∧∀ (H':Hp) (r:Addr) (al:List (Addr×List Int)),Same H H'→H r=none→H' r=some (.lst (refs al))→(∀ x∈al,tpl H' x)→Zif al→(∀ k,k∈al.map (·.2)↔k∈Zn P.ps)→Q (.ref r) H'
def Zq2:Sp:=fun vs H Q _=>∃ (v:V) (P:Pl),vs=[v]∧IsPl H v P∧PlOk P∧P.ps.length≤20∧∀ (H':Hp) (r:Addr) (al:List (Addr×List Int)),Same H H'→H r=none→H' r=some (.lst (refs al))→(∀ x∈al,tpl H' x)→Zif al→(∀ k,k∈al.map (·.2)↔k∈Zn P.ps∧(Zn P.ps).count k=1)→Q (.ref r) H'
structure NearOk (H:Hp) (F:Addr) (as:List Addr) (n:Nat) (A:Nat→Nat→Prop) (nf:Nat→List Int):Prop where
 eF:H F=some (.lst (as.map V.ref))
 len:as.length=n
 at_:∀ (i:Nat) (a:Addr),as[i]? = some a→H a=some (.lst ((nf i).map V.int))
 mem:∀ i,i<n→∀ x:Int,x∈nf i↔∃ m:Nat,x=m∧m<n∧A i m
 le:∀ i,i<n→(nf i).length≤300000
def Zna:Sp:=fun vs H Q _=>∃ (v:V) (P:Pl),vs=[v]∧IsPl H v P∧(∀ p∈P.ps,p.length=3)∧P.ps.length≤20∧∀ (H':Hp) (F:Addr) (as:List Addr) (nf:Nat→List Int),Same H H'→H F=none→NearOk H' F as P.ps.length (Adj P.ps) nf→Q (.ref F) H'
def Zhu:Sp:=fun vs H Q _=>∃ (i n:Nat) (F:Addr) (as:List Addr) (A:Nat→Nat→Prop) (nf:Nat→List Int),vs=[.int (i:Int),.ref F]∧NearOk H F as n A nf∧n≤60∧i<n∧∀ (H':Hp) (t:Addr) (l:List Int),Same H H'→H t=none→tpl H' (t,l)→PartOk A n i l→Q (.ref t) H'
def Zks:Sp:=fun vs H Q _=>∃ (v:V) (P:Pl),vs=[v]∧IsPl H v P∧PlOk P∧P.ps.length≤20∧∀ (H':Hp) (r:Addr) (al:List (Addr×List Int)),Same H H'→H r=none→H' r=some (.lst (refs al))→(∀ x∈al,tpl H' x)→PartsOk (Adj P.ps) P.ps.length (al.map (·.2))→Q (.ref r) H'
def Zoc:Sp:=fun vs H Q _=>∃ (v:V) (P:Pl),vs=[v]∧IsPl H v P∧PlOk P∧P.ps.length≤20∧∀ H':Hp,Same H H'→Q (.int (Zcf P)) H'
theorem Zu8 {g:List (List Int×List Int)} {qs:List (List Int×Int)} (G:GI g qs) (h:qs.length≤1000) {ads:List Addr} (l:ads.length=g.length):(kvO g ads).length<sizeLine:=by
 rw [Zmu l,sizeLine_eq];have:=G.len;omega
theorem kVs (s:List Int):(s.map (Sum.inl:Int→Key)).map kV=s.map V.int:=by rw [n44_];rfl
theorem Zvr (ps:List (List Int)) (i:Nat) (m:Nat) (hi:i<20):(Zal ps i++((Z0 (ps.getD i [])).take m).map fun s=>(s,(i:Int))).length≤1000:=by
 rw [n28_,Zbw,n5_,n65_]
 have:(Z0 (ps.getD i [])).length=3:=rfl
 omega
theorem pc3 {P:Pl} (ok:PlOk P):∀ p∈P.ps,p.length=3:=fun p hp=>(ok.pc p hp).len
theorem Zrd {g:List (List Int×List Int)} {ps:List (List Int)} (G:GI g (Zal ps ps.length)):∀ k∈g.map (·.1),0<k.length:=fun k hk=>by
 have:=(G.ks k).mp hk
 rw [Zdc] at this;rw [Zcu this];decide
theorem Zi7 {g:List (List Int×List Int)} {ps:List (List Int)} (G:GI g (Zal ps ps.length)) (h:ps.length≤20):(g.map (·.1)).length<64:=by
 have:=G.len
 rw [Zbw] at this;rw [n5_];omega
theorem Zod {g:List (List Int×List Int)} {ps:List (List Int)} (G:GI g (Zal ps ps.length)) (k:List Int):k∈g.map (·.1)↔k∈Zn ps:=by rw [G.ks k,Zdc]
theorem Zpd {g:List (List Int×List Int)} {ads:List Addr} (h:ads.length=g.length) (nd:(g.map (·.1)).Nodup) {s:List Int} (hs:s∈g.map (·.1)):∃ (i:Nat) (a:Addr) (e:List Int×List Int),ads[i]? = some a∧g[i]? = some e∧e.1=s∧valV (kvO g ads) (s.map Sum.inl)=some (.ref a):=by
 obtain ⟨h1,h2⟩:=valO h s;cases q:valV (kvO g ads) (s.map Sum.inl) with
 | none=>exact absurd hs (h2 q)
 | some v =>
   obtain ⟨i,a,e,x1,x2,x3,rfl⟩:=h1 v q;exact ⟨i,a,e,x1,x2,x3,rfl⟩
theorem Zuk {k:SK} {K:PySem.W.Frag} {a D:Addr} {vs:List V} {u0:Option V} {rest:L2.St} {H:Hp} {Q:VK} (hz:vs.length≤1000) (hD:H D=none) (hA:k.At H a vs)
 (hd:∀ (H2:Hp) (as:List Addr),Same H H2→as.length=vs.length→as.Nodup→(∀ a∈as,H2 a=some (.lst [])∧H a=none∧a≠D)→H2 D=some (.lst (as.map V.ref))→Q (.ref D) H2):LcGo (k.Itk K a) (Y2 0) tYes (tLst tNil) (u0 :: rest) H D Q:=by
 refine Zez (n:=vs.length) (fun i σ H2=>(∃ u,σ=u :: rest)∧∃ as:List Addr,Same H H2∧as.length=i∧as.Nodup∧(∀ a∈as,H2 a=some (.lst [])∧H a=none∧a≠D)∧H2 D=some (.lst (as.map V.ref))) ⟨⟨_,rfl⟩,[],Same.new hD,rfl,List.nodup_nil,fun a h=>absurd h (by simp),Zc⟩ (fun i σ H2 hi p=>Zg9 (hA.same p.2.choose_spec.1) hi) (fun σ H2 p=>Zbj (hA.same p.2.choose_spec.1) (n14_ _)) (fun i x σ2 H2 H3 hi y p=>?_) (fun σ2 H2 p=>?_)
 · obtain ⟨⟨u,rfl⟩,as,s2,l2,nd,ha,eD⟩:=p;obtain ⟨rfl,_⟩:=Zdv (hA.same s2) y;refine ⟨n55_ _,fun e ne=>?_⟩;have eD':upd H3 e (.lst []) D=some (.lst (as.map V.ref)):=by rw [Zh (Zg eD ne)];exact eD
   have neD:e≠D:=fun z=>by rw [z,eD] at ne;cases ne
   refine ⟨as.map V.ref,eD',by rw [n5_,sizeLine_eq];omega,vs.length-(i+1),by omega,by omega,rfl,⟨_,rfl⟩,as++[e],fun b o eb=>?_,by simp [l2],?_,fun a hm=>?_,?_⟩
   · rw [Zh (Zg eb hD),Zh (Zg (s2 _ _ eb) ne)];exact s2 _ _ eb
   · rw [n66_];refine ⟨nd,by simp,fun a h1 b h2=>?_⟩;rw [n22_] at h2;subst h2;exact fun z=>by rw [z] at h1;rw [(ha _ h1).1] at ne;cases ne
   · rcases n34_.mp hm with h|h
     · obtain ⟨h1,h2,h3⟩:=ha a h;refine ⟨?_,h2,h3⟩;rw [Zh h3,Zh (Zg h1 ne)];exact h1
     · rw [n22_] at h;subst h;exact ⟨by rw [Zh neD,Zc],Yu s2 ne,neD⟩
   · rw [Zc,n48_];rfl
 · obtain ⟨_,as,s2,l2,nd,ha,eD⟩:=p;exact hd H2 as s2 l2 nd ha eD
theorem Zo7 {as:List Addr} (nd:as.Nodup) {i j:Nat} {a:Addr} (h1:as[i]? = some a) (h2:as[j]? = some a):i=j:=by
 obtain ⟨l1,x1⟩:=n9_.mp h1;obtain ⟨l2,x2⟩:=n9_.mp h2;exact (n53_ (h₀:=l1) (h₁:=l2) nd).mp (by rw [x1,x2])
structure NearG (H0 H:Hp) (F D:Addr) (ob:Obj) (as ads:List Addr) (g:List (List Int×List Int)) (nf:Nat→List Int) (mem:Nat→Int→Prop) (b:Nat):Prop where
 sm:Same H0 H
 eF:H F=some (.lst (as.map V.ref))
 eD:H D=some (.frz ob (.dT (kvO g ads)))
 av:∀ (i:Nat) (a:Addr) (e:List Int×List Int),ads[i]? = some a→g[i]? = some e→H a=some (.lst (e.2.map V.int))
 at_:∀ (i:Nat) (a:Addr),as[i]? = some a→H a=some (.lst ((nf i).map V.int))
 mem:∀ i,i<as.length→∀ x:Int,x∈nf i↔mem i x
 le:∀ i,i<as.length→(nf i).length≤b
abbrev kvT (ks:List Int):List (Key×V):=ks.map fun k=>(Sum.inl k,V.bl true)
theorem valT (x:Int):∀ ks:List Int,valV (kvT ks) (Sum.inl x)=if x∈ks then some (.bl true) else none
 | []=>rfl
 | k :: ks=>by
   have st:valV (kvT (k :: ks)) (Sum.inl x)=if k=x then some (.bl true) else valV (kvT ks) (Sum.inl x):=by
    unfold valV;rw [show kvT (k :: ks)=((Sum.inl k:Key),V.bl true) :: kvT ks from rfl,List.find?_cons]
    by_cases c:k=x
    · subst c;simp
    · have:¬ (Sum.inl k:Key)=Sum.inl x:=fun z=>c (by injection z)
      rw [if_neg c,n33_ this]
   rw [st,valT x ks]
   by_cases c:k=x
   · subst c;simp
   · have:¬ x=k:=fun z=>c z.symm
     simp [c,this]
theorem putT {x:Int} {ks:List Int} (h:x∉ks):putK (kvT ks) (Sum.inl x) (.bl true)=kvT (ks++[x]):=by
 unfold putK
 have:((kvT ks).any fun kv=>decide (kv.1=Sum.inl x))=false:=by
  rw [List.any_eq_false];intro kv hkv z;obtain ⟨k,hk,rfl⟩:=n18_.mp hkv;have z:=n51_ z;injection z with z
  exact h (z ▸ hk)
 rw [this,if_neg n21_,kvT,kvT,n48_];rfl
theorem Ztr (ks:List Int):(kvT ks).length=ks.length:=n5_ ..
structure SeenOk (A:Nat→Nat→Prop) (n i:Nat) (ks ls:List Int):Prop where
 nd:ks.Nodup
 st:(i:Int)∈ks
 co:∀ x∈ks,∃ m:Nat,x=m∧m<n∧Conn A n i m
 sub:∀ x∈ls,x∈ks
 cl:∀ a b:Nat,(a:Int)∈ks→(a:Int)∉ls→b<n→A a b→(b:Int)∈ks
 le:ls.length≤ks.length
theorem Zk3 {A:Nat→Nat→Prop} {n i:Nat} {ks ls:List Int} (h:SeenOk A n i ks ls):ks.length≤n:=Zh9 h.nd fun x hx=>let ⟨m,a,b,_⟩:=h.co x hx;⟨m,a,b⟩
theorem hq1 {A:Around} {k:Nat} (hr:Room k A):A.units+0+1<cLine:=by have:=hr.un;omega
theorem hq2 {A:Around} {k:Nat} (hr:Room k A):A.units+1+1<cLine:=by have:=hr.un;omega
theorem hq3 {A:Around} {k:Nat} (hr:Room k A):A.units+3<cLine:=by have:=hr.un;omega
structure DrawnP (P:Pl):Prop where
 ex:∃ pts pcs A o kl q,Drawn pts pcs A o P.cs kl q∧(P.ps=q.map fun i=>kl.getD i [])∧(A.s.natAbs≤20∧A.t.natAbs≤20)
def Zhk:Sp:=fun vs H Q _=>∃ l:Addr,vs=[.ref l,.int 8]∧StAt H l∧∀ (H':Hp) (v:V) (P:Pl),Keep l H H'→StAt H' l→IsPl H' v P→PlOk P→P.ps.length≤4→P.cs.length≤6→(∃ pts pcs A o kl q,Drawn pts pcs A o P.cs kl q∧(P.ps=q.map fun i=>kl.getD i [])∧(A.s.natAbs≤20∧A.t.natAbs≤20))→Q v H'
def Zrc:Sp:=fun vs H Q _=>∃ (v:V) (P:Pl) (O m:Addr) (o2:List Int) (M:Aff),vs=[v,.ref O,.ref m,.int M.s]∧IsPl H v P∧PlOk P∧P.ps.length≤4∧P.cs.length≤6∧(∃ pts pcs A o kl q,Drawn pts pcs A o P.cs kl q∧(P.ps=q.map fun i=>kl.getD i [])∧(A.s.natAbs≤20∧A.t.natAbs≤20))∧H O=some (.lst (o2.map V.int))∧CoOrd P.cs.length o2∧H m=some (.tup [.int M.a,.int M.b,.int M.c,.int M.d])∧IsMat M∧M.t = -M.s ∧
 ∀ (H':Hp) (v':V) (P':Pl),Same H H'→IsPl H' v' P'→LedR P P' (oAt o2)→Q v' H'
abbrev IsPr:Hp→V→List Int×Int→Prop:=fun H v x=>∃ t a,v=.ref t∧H t=some (.tup [.ref a,.int x.2])∧H a=some (.tup (x.1.map V.int))
theorem Zvz:∀ H1 H2 v x,Tk H1 H2→IsPr H1 v x→IsPr H2 v x:=fun _ _ _ _ t ⟨a,b,e,h1,h2⟩=>⟨a,b,e,t _ _ h1,t _ _ h2⟩
theorem Zrp {H:Hp}:∀ {us:List V} {ys:List (List Int×Int)},Al (IsPr H) us ys→∃ al:List PI2,us=Zca al∧(∀ x∈al,pi2 H x)∧al.map (fun x=>(x.k,x.n))=ys
 | [],[],_=>⟨[],rfl,by simp,rfl⟩
 | [],_ :: _,a=>absurd a.1 (by simp)
 | _ :: _,[],a=>absurd a.1 (by simp)
 | v :: us,y :: ys,a=>by
   obtain ⟨al,h1,h2,h3⟩:=Zrp (us:=us) (ys:=ys) ⟨by simpa using a.1,fun i v x e1 e2=>a.2 (i+1) v x e1 e2⟩;obtain ⟨t,b,e,ht,hb⟩:=a.2 0 v y rfl rfl;exact ⟨⟨t,b,y.1,y.2⟩ :: al,by rw [h1,e];rfl,fun z hz=>(n12_.mp hz).elim (fun w=>by rw [w];exact ⟨ht,hb⟩) (h2 z),by rw [n31_,h3]⟩
def Zoy:Sp:=fun vs H Q _=>∃ (r O:Addr) (al:List (Addr×List Int)) (o2:List Int) (n:Nat),vs=[.ref r,.ref O]∧H r=some (.lst (refs al))∧(∀ x∈al,tpl H x)∧H O=some (.lst (o2.map V.int))∧CoOrd n o2∧(∀ x∈al,x.2.length=2∧inR n x.2)∧((al.map (·.2)).map (ph (oAt o2))).Nodup∧al.length<64 ∧
 ∀ (H':Hp) (r':Addr) (ql:List (Addr×List Int)),Same H H'→H' r'=some (.lst (refs ql))→(∀ x∈ql,tpl H' x)→Zat (ql.map (·.2))→(∀ k,k∈ql.map (·.2)↔k∈(al.map (·.2)).map (ph (oAt o2)))→Q (.ref r') H'
theorem two2 {l:List Int} (h:l.length=2):∃ x y,l=[x,y]:=by
 match l,h with
 | [x,y],_=>exact ⟨x,y,rfl⟩
theorem Zty:∀ (H:Hp) (v:V) (x y:Int),(fun (_:Hp) v (i:Int)=>v=V.int i) H v x→(fun (_:Hp) v (i:Int)=>v=V.int i) H v y→x=y:=fun _ _ _ _ e1 e2=>by injection e1.symm.trans e2
theorem Zdk {X:Cx} (K:PySem.W.Frag) (h:X.K=K):Yy X (.type "list") (fun xs H Q=>∃ p ys,xs=[V.ref p]∧(SqL K H p ys∨SqT K H p ys)∧∀ (l:Addr),H l=none→l≠sysModules→Q (V.ref l) (upd H l (HO.lst ys))):=by subst h;exact Zlg
theorem Zqy {α:Type} [BEq α] [LawfulBEq α] {l:List α} {x:α} (h:x∈l):l[l.idxOf x]? = some x∧∀ m,m<l.idxOf x→l[m]?≠some x:=by
 have hl:=List.idxOf_lt_length_of_mem h;refine ⟨by rw [n1_ hl,List.getElem_idxOf hl],fun m hm e=>?_⟩;obtain ⟨h1,h2⟩:=n9_.mp e
 have:=List.not_of_lt_findIdx (p:=(· == x)) (xs:=l) hm
 rw [h2] at this;simp at this
theorem Zde {H:Hp}:∀ (as:List Addr) (xss:List (List V)),as.length=xss.length→(∀ (i:Nat) (b:Addr),as[i]? = some b→H b=some (.lst (xss.getD i [])))→Paired (fun a xs=>H a=some (.lst xs)) as xss
 | [],[],_,_=>.nil
 | a :: as,x :: xss,hl,h=>.cons (h 0 a rfl) (Zde as xss (by simpa using hl) fun i b e=>h (i+1) b e)
theorem Zao:∀ (l:List (List Int)),(l.map fun x=>x.map V.int).flatten=l.flatten.map V.int
 | []=>rfl
 | x :: l=>by rw [n31_,n56_,n56_,n48_,Zao l]
theorem Zuh:∀ (l:List (List Int)),(∀ p∈l,p.length=3)→l.flatten.length=3*l.length
 | [],_=>rfl
 | p :: l,h=>by rw [n56_,n28_,Zuh l fun q hq=>h q (n19_ _ hq),h p n27_,n26_];omega
def Zkr:Sp:=fun vs H Q _=>∃ (v:V) (P:Pl) (lt:Addr) (l:List Int),vs=[v,.ref lt]∧IsPl H v P∧PlOk P∧P.ps.length≤4∧tpl H (lt,l)∧l.Pairwise (·<·)∧l≠[]∧(∀ i∈l,∃ m:Nat,i=m∧m<P.ps.length) ∧
 ∀ (H':Hp) (r ua:Addr) (v':V) (u:List Int),Same H H'→H' r=some (.tup [v',.ref ua])→H' ua=some (.lst (u.map V.int))→IsPl H' v' (Z9 P l u)→AlnOk P l u→Q (.ref r) H'
def Zj2:Sp:=fun vs H Q _=>∃ (v v':V) (P P':Pl) (O:Addr) (o2:List Int),vs=[v,v',.ref O]∧IsPl H v P∧IsPl H v' P'∧PlOk P∧P.ps.length≤4∧LedR P P' (oAt o2)∧H O=some (.lst (o2.map V.int))∧CoOrd P.cs.length o2∧∀ H',Same H H'→Q (.bl true) H'
theorem Zuu {H:Hp} (n:Nat):Al ((fun (_:Hp) v (i:Int)=>v=V.int i) H) ((List.range n).map fun i:Nat=>V.int i) ((List.range n).map fun i:Nat=>(i:Int)):=⟨by simp,fun i v x e1 e2=>by
 rw [n6_] at e1 e2;obtain ⟨y,ey,rfl⟩:=n10_.mp e1;rw [ey] at e2;exact congrArg V.int (Option.some.inj e2)⟩
theorem Xc {H:Hp} {al:List (Addr×List Int)} (h:∀ x∈al,tpl H x):Al (IsI H) (refs al) (al.map (·.2)):=⟨by simp,fun i v x e1 e2=>by
 rw [n6_] at e1 e2;obtain ⟨y,ey,rfl⟩:=n10_.mp e1;rw [ey] at e2;cases e2
 exact ⟨y.1,rfl,h y (n7_ ey)⟩⟩
theorem Zbx {ks:List (List Int)} (h:Zat ks):ks.Nodup:=h.imp fun {a b} e z=>by rw [z,Xy] at e;cases e
theorem Zhr {A:Nat→Nat→Prop} {n:Nat} {a:List (List Int)} (h:PartsOk A n a):a.length≤n:=by
 classical
 have f:∀ l∈a,∃ i,i<n∧PartOk A n i l:=fun l hl=>(h.mem l).mp hl
 let g:List Int→Nat:=fun l=>if hl:l∈a then (f l hl).choose else 0
 have gs:∀ l (hl:l∈a),g l<n∧PartOk A n (g l) l:=fun l hl=>by
  have:=(f l hl).choose_spec
  simp only [g,dif_pos hl];exact this
 have nd:(a.map g).Nodup:=by
  rw [n20_,n43_];refine n54_ (fun {x y} hx hy lt e=>?_) h.rise;have h1:=(gs x hx).2;rw [e] at h1;rw [h1.eq (gs y hy).2,Xy] at lt;cases lt
 have:=Zas nd (ys:=List.range n) fun i hi=>by
  obtain ⟨l,hl,rfl⟩:=n18_.mp hi;exact n24_.mpr (gs l hl).1
 simpa using this
def rl (P:Pl) (l:List Int):Int:=(l.map fun i=>absI (dOf P.cs (P.ps.getD i.toNat []))).sum
theorem Zmt (P:Pl):∀ ls:List (List Int),(ls.map (rl P)).sum=rl P ls.flatten
 | []=>rfl
 | l :: ls=>by
   rw [n31_,List.sum_cons,Zmt P ls,n56_];unfold rl;rw [n48_,List.sum_append]
theorem Zu9 {P:Pl} {a:List (List Int)} (h:PartsOk (Adj P.ps) P.ps.length a):(a.map (rl P)).sum=Zcf P:=by
 rw [Zmt];unfold rl Zcf
 have sp:∀ {a b:List Int},a.Perm b→a.sum=b.sum:=fun h=>by
  induction h with
  | nil=>rfl
  | cons _ _ ih=>rw [List.sum_cons,List.sum_cons,ih]
  | swap=>simp only [List.sum_cons];omega
  | trans _ _ a b=>exact a.trans b
 rw [sp ((Zh6 h).map fun i:Int=>absI (dOf P.cs (P.ps.getD i.toNat []))),n44_]
 congr 1
 refine n46_ (by simp) fun i h1 h2=>?_
 have:i<P.ps.length:=by simpa using h2
 simp [n2_,this]
theorem Zqa {P:Pl} {l u:List Int} (A:AlnOk P l u):Zcf (Z9 P l u)=rl P l:=by
 unfold Zcf rl;show ((((pcsA P l).map fun p=>p.map (ixA u))).map fun p=>absI (dOf (Z9 P l u).cs p)).sum=_
 rw [n44_]
 have:∀ p∈pcsA P l,((fun p=>absI (dOf (Z9 P l u).cs p)) ∘ fun p=>p.map (ixA u)) p=absI (dOf P.cs p):=fun p hp=>by
  show absI (dOf (Z9 P l u).cs (p.map (ixA u)))=_
  rw [(A.d hp).1]
 rw [n52_ this];unfold pcsA;rw [n44_];rfl
def Zjw (K:PySem.W.Frag):Sp:=fun vs H Q _=>∃ (a:Addr) (ns:List Int),vs=[.ref a]∧SqL K H a (ns.map V.int)∧ns.length≤63∧∀ H',Q (.bl true) H'
theorem Zjt {n:Nat} {f:Int→Int} {ps ps':List (List Int)} (L:Led n f ps ps') {al:List (Addr×List Int)} (ri:Zif al) (h:∀ k∈al.map (·.2),k∈Zn ps) (h4:ps.length≤4):(∀ x∈al,x.2.length=2∧inR n x.2)∧((al.map (·.2)).map (ph f)).Nodup∧al.length<64:=by
 have nd:=Zbx (Yp ri);refine ⟨fun x hx=>?_,?_,?_⟩
 · have:=h _ (n39_ hx)
   exact ⟨Zcu this,(L.row this).2⟩
 · rw [n20_,n43_];exact n54_ (fun {x y} hx hy ne e=>ne (L.rinj (h x hx) (h y hy) e)) (n20_.mp nd)
 · have:=Zas nd h
   rw [n5_,Za1] at this;omega
section
variable (P:Program) (w:World) (K:PySem.W.Frag) (mg:Str→Option Value) (base:Heap)
abbrev a0_:=Cal P w K mg base "is_whole" 1 ["thing"] Zdd
abbrev a1_:=Cal P w K mg base "is_between" 2 ["thing","least","most"] Zes
abbrev a2_:=Cal P w K mg base "is_row" 1 ["thing","fewest","most"] Zrm
abbrev a3_:=Cal P w K mg base "is_corner" 3 ["thing"] Zgz
abbrev a4_:=Cal P w K mg base "turn" 1 ["first","second","third"] Znu
abbrev a5_:=Cal P w K mg base "are_rising" 1 ["things"] Ze2
abbrev a6_:=Cal P w K mg base "turn_of" 2 ["corners","piece"] Zh1
abbrev a7_:=Cal P w K mg base "are_rising" 1 ["things"] Zeo
abbrev a8_:=Cal P w K mg base "is_piece" 3 ["corners","thing"] Zec
abbrev a9_:=Cal P w K mg base "edges" 1 ["points"] Zj1
abbrev a10_:=Cal P w K mg base "parts_from" 2 ["points","others"] Zcr
abbrev a11_:=Cal P w K mg base "lies_in" 2 ["point","points"] Zhi
abbrev a12_:=Cal P w K mg base "are_apart" 3 ["points","others"] Zkl
abbrev a13_:=Cal P w K mg base "no_strange_corner" 3 ["corners","piece","points"] Zeh
abbrev a14_:=Cal P w K mg base "triangle" 2 ["corners","piece"] Zra
abbrev a15_:=Cal P w K mg base "are_corners" 4 ["thing"] Ze4
abbrev a16_:=Cal P w K mg base "are_pieces" 4 ["corners","thing"] Zhx
abbrev a17_:=Cal P w K mg base "are_thicks" 3 ["pieces","thing"] Zhf
abbrev a18_:=Cal P w K mg base "every_corner_is_used" 2 ["corners","pieces"] Zne
abbrev a19_:=Cal P w K mg base "fit_together" 4 ["corners","pieces"] Zq8
abbrev a20_:=Cal P w K mg base "is_stuff" 3 ["thing"] Zjs
abbrev a21_:=Cal P w K mg base "is_plate" 5 ["thing"] Zek
abbrev a22_:=Cal P w K mg base "sides_of" 1 ["piece"] Zed
abbrev a23_:=Cal P w K mg base "look_at_plate" 6 ["plate"] Zcd
abbrev a24_:=Cal P w K mg base "owners" 2 ["plate"] Zgr
abbrev a25_:=Cal P w K mg base "neighbours" 3 ["plate"] Zna
abbrev a26_:=Cal P w K mg base "part_of" 2 ["start","near"] Zhu
abbrev a27_:=Cal P w K mg base "_law_cell_at" 1 ["_law_script","_law_k"] (Zmj K)
abbrev a28_:=Cal P w K mg base "_law_choice" 1 ["_law_state_here","_law_many"] Zdn
abbrev a29_:=Cal P w K mg base "_law_order" 2 ["_law_state_here","_law_many"] Zkg
abbrev a30_:=Cal P w K mg base "_law_shapes" 1 [] Zib
abbrev a31_:=Cal P w K mg base "_law_alone" 2 ["_law_plate_here","_law_lot"] Zkr
abbrev a32_:=Cal P w K mg base "parts" 7 ["plate"] Zks
abbrev a33_:=Cal P w K mg base "rim" 7 ["plate"] Zq2
abbrev a34_:=Cal P w K mg base "room" 7 ["plate"] Zoc
abbrev a35_:=Cal P w K mg base "sides" 7 ["plate"] Zku
abbrev a36_:=Cal P w K mg base "_law_led" 2 ["_law_plate_here","_law_order_here","_law_matrix","_law_shift"] Zrc
abbrev a37_:=Cal P w K mg base "_law_lots_right" 8 ["_law_plate_here","_law_other","_law_order_here"] Zj2
abbrev a38_:=Cal P w K mg base "_law_plate" 3 ["_law_state_here","_law_most"] Zhk
abbrev a39_:=Cal P w K mg base "_law_sides_led" 2 ["_law_rows","_law_order_here"] Zoy
abbrev a40_:=Cal P w K mg base "_law_state" 2 ["_law_script","_law_k"] (Zkc K)
end
section
variable {P:Program} {w:World} {K:PySem.W.Frag} {mg:Str→Option Value} {base:Heap} {f:Addr} {fd:FuncData} (T:Bt mg)
include T
abbrev Zb4:Stmt:=top 4
theorem Zji (F:Fun K "is_whole" "is_whole" Zb4 f fd):FnOk P w K mg base CX0 1 f fd ["thing"] Zdd:=by
 have sc:FnScope ["thing"] ["thing"] (Zf Zb4):=fsc (by decide +kernel);refine F.ok sc (fun vs H Q E h=>by obtain ⟨a,rfl,_⟩:=h;rfl) fun cdv A outer s H vs Q E hr h=>?_;obtain ⟨a,rfl,q⟩:=h;refine' ⟨_,?term,?read⟩
 case term=>refine' Zi (Zo (Zc4 (Zj Zfe rfl T.b_isinstance Zaf (Za (pv 0) (Za (Zix (v:=.ty "int") rfl T.b_int Zu3 rfl) Zb rfl) rfl)) (Zce (Zqz (Zj Zfe rfl T.b_isinstance Zaf (Za (pv 0) (Za (Zix (v:=.ty "bool") rfl T.b_bool Zr4 rfl) Zb rfl) rfl))))))
 refine ⟨_,rfl,_,_,_,_,rfl,TyOf.int a,rfl,true,rfl,iteT ?_⟩;refine ⟨_,rfl,_,_,_,_,rfl,TyOf.int a,rfl,false,rfl,q⟩
abbrev Zaz:Stmt:=top 12
theorem Zf0 (F:Fun K "is_between" "is_between" Zaz f fd) (Cah_:a0_ P w K mg base):FnOk P w K mg base CX0 2 f fd ["thing","least","most"] Zes:=by
 have sc:FnScope ["thing","least","most"] ["thing","least","most"] (Zf Zaz):=fsc (by decide +kernel);refine F.ok sc (fun vs H Q E h=>by obtain ⟨i,lo,hi,rfl,_⟩:=h;rfl) fun cdv A outer s H vs Q E hr h=>?_;obtain ⟨i,lo,hi,rfl,h1,h2,q⟩:=h;refine' ⟨_,?term,?read⟩
 case term=>refine' Zi (Zo (Zc4 (Zk Cah_ hr (by decide) rfl (Za (pv 0) Zb rfl)) (Zce (Zfr Zmp Zmp (pv 1) (pv 0) (pv 2)))))
 refine ⟨_,rfl,i,rfl,true,rfl,iteT ?_⟩;refine ⟨_,rfl,_,rfl,_,_,rfl,rfl,true,blT h1,iteT ?_⟩;exact ⟨_,rfl,_,_,rfl,rfl,qT h2 q⟩
abbrev Zga:Stmt:=top 13
theorem Zof (F:Fun K "is_row" "is_row" Zga f fd):FnOk P w K mg base CX0 1 f fd ["thing","fewest","most"] Zrm:=by
 have sc:FnScope ["thing","fewest","most"] ["thing","fewest","most"] (Zf Zga):=fsc (by decide +kernel);refine F.ok sc (fun vs H Q E h=>by obtain ⟨a,us,lo,hi,rfl,_⟩:=h;rfl) fun cdv A outer s H vs Q E hr h=>?_;obtain ⟨a,us,lo,hi,rfl,ha,h1,h2,q⟩:=h;refine' ⟨_,?term,?read⟩
 case term=>refine' Zi (Zo (Zc4 (Zj Zfe rfl T.b_isinstance Zaf (Za (pv 0) (Za (Zix (v:=.ty "tuple") rfl T.b_tuple Z5 rfl) Zb rfl) rfl)) (Zce (Zfr Zmp Zmp (pv 1) (Zj Zq rfl T.b_len Yt (Za (pv 0) Zb rfl)) (pv 2)))))
 refine ⟨_,rfl,_,_,_,_,rfl,TyOf.tup ha,rfl,true,rfl,iteT ?_⟩;refine ⟨_,rfl,_,rfl,a,_,rfl,.inr (SqT.of ha),_,_,rfl,rfl,true,blT h1,iteT ?_⟩;exact ⟨_,rfl,_,_,rfl,rfl,qT h2 q⟩
abbrev X6:Stmt:=top 14
theorem Zd1 (F:Fun K "are_rising" "are_rising" X6 f fd):FnOk P w K mg base CX0 1 f fd ["things"] Ze2:=by
 have sc:FnScope ["things"] ["things"] (Zf X6):=fsc (by decide +kernel);refine F.ok sc (fun vs H Q E h=>by obtain ⟨a,ns,rfl,_⟩:=h;rfl) fun cdv A outer s H vs Q E hr h=>?_;obtain ⟨a,ns,rfl,ha,hz,hr',q⟩:=h;refine' ⟨_,?term,?read⟩
 case term=>refine' Zi (Zo (Zj (Yv rfl) rfl T.b_all Za8 (Za (Yq (g:=(gTup K 2 (X0 (Y2 0) (X0 (Y2 1) gNil)))) (N:=["one","other"]) (fr:=[none,none]) rfl (Yn (by decide) rfl (by decide) rfl rfl) (Zow .t .t rfl T.b_zip (Za (pv 0) (Za (Zfk Zmx (pv 0) (Zip Ze) Zja) Zb rfl) rfl)) (fun _ _ _ _=>Ys (n:=2) rfl (Zl (pgB 0) (Zl (pgB 1) Z7))) (fun _ _ _ _=>Zp) (fun _ _ _ _=>Zba Zsg (pv 0) (pv 1) (Yo _))) Zb rfl)))
 refine ⟨_,rfl,_,rfl,_,rfl,a,_,rfl,ha,fun p H1 s1 h1=>?_⟩;rw [cut1] at h1;refine ⟨a,p,rfl,⟨_,SqT.of (s1 _ _ ha)⟩,⟨_,SqT.of h1⟩,fun D nD=>?_⟩;refine lc_Z (k:=.t) (l:=.t) (vs:=ns.map V.int) (ws:=(ns.map V.int).drop 1) (fun _ v b=>v=V.bl b) (fun _ _ _ _ _ e=>e) (List.replicate (ns.length-1) true) (by simp) (by simp;omega) nD (s1 _ _ ha) h1 (fun i v w H2 C hv hw s2 c=>?_) (fun H2 us s2 e2 a2=>?_)
 · rw [List.getElem?_drop,n6_,Nat.add_comm] at hw;rw [n6_] at hv;obtain ⟨x,ex,rfl⟩:=n10_.mp hv;obtain ⟨y,ey,rfl⟩:=n10_.mp hw;refine ⟨_,rfl,_,rfl,_,_,rfl,rfl,qT (hr' i x y ex ey) (c _ _ true (Same.refl _) ?_ rfl)⟩
   have:i+1<ns.length:=(n9_.mp ey).1
   rw [List.getElem?_replicate,if_pos (by omega)]
 · rw [a2.bls] at e2;refine ⟨D,List.replicate (ns.length-1) true,rfl,SqL.of e2,?_⟩;rw [List.all_replicate];split<;>exact q _ (s1.trans s2)
abbrev Zbn:Stmt:=top 14
theorem Zdx (F:Fun K "are_rising" "are_rising" Zbn f fd):FnOk P w K mg base CX0 1 f fd ["things"] Zeo:=by
 have sc:FnScope ["things"] ["things"] (Zf Zbn):=fsc (by decide +kernel);refine F.ok sc (fun vs H Q E h=>by obtain ⟨a,us,ks,rfl,_⟩:=h;rfl) fun cdv A outer s H vs Q E hr h=>?_;obtain ⟨a,us,ks,rfl,ha,al,hz,hr',q⟩:=h;have hu:=Zm9 hr;have hu1:=Nat.lt_of_succ_lt hu;refine' ⟨_,?term,?read⟩
 case term=>refine' Zi (Zo (Zj (Yv rfl) rfl T.b_all Za8 (Za (Yq (g:=(gTup K 2 (X0 (Y2 0) (X0 (Y2 1) gNil)))) (N:=["one","other"]) (fr:=[none,none]) rfl (Yn (by decide) rfl (by decide) rfl rfl) (Zow .t .t rfl T.b_zip (Za (pv 0) (Za (Zfk Zmx (pv 0) (Zip Ze) Zja) Zb rfl) rfl)) (fun _ _ _ _=>Ys (n:=2) rfl (Zl (pgB 0) (Zl (pgB 1) Z7))) (fun _ _ _ _=>Zp) (fun _ _ _ _=>Zba (show OpR _ (compareOp .Lt) (rLtT K) from Zvf hu1) (pv 0) (pv 1) (Yo _))) Zb rfl)))
 refine ⟨_,rfl,_,rfl,_,rfl,a,_,rfl,ha,fun p H1 s1 h1=>?_⟩;rw [cut1] at h1;refine ⟨a,p,rfl,⟨_,SqT.of (s1 _ _ ha)⟩,⟨_,SqT.of h1⟩,fun D nD=>?_⟩;refine lc_Z (k:=.t) (l:=.t) (vs:=us) (ws:=us.drop 1) RB hRB (List.replicate (us.length-1) true) (by simp) (by simp;omega) nD (s1 _ _ ha) h1 (fun i v w H2 C hv hw s2 c=>?_) (fun H2 us' s2 e2 a2=>?_)
 · rw [List.getElem?_drop,Nat.add_comm] at hw;obtain ⟨x,ex,a,rfl,qa⟩:=al.get hv;obtain ⟨y,ey,b,rfl,qb⟩:=al.get hw;refine ⟨_,rfl,_,rfl,a,b,x,y,rfl,rfl,SqT.of ((s1.trans s2) _ _ qa),SqT.of ((s1.trans s2) _ _ qb),?_⟩;rw [hr' i x y ex ey];refine c _ _ true (Same.refl _) (repT ?_) rfl
   have:=Xd hw
   omega
 · rw [a2.bls] at e2;refine ⟨D,List.replicate (us.length-1) true,rfl,SqL.of e2,?_⟩;rw [allT];exact q _ (s1.trans s2)
abbrev Zbd:Stmt:=top 15
theorem Zgj (F:Fun K "is_corner" "is_corner" Zbd f fd) (Cd_:a1_ P w K mg base) (Cc_:a2_ P w K mg base):FnOk P w K mg base CX0 3 f fd ["thing"] Zgz:=by
 have sc:FnScope ["thing"] ["thing"] (Zf Zbd):=fsc (by decide +kernel);refine F.ok sc (fun vs H Q E h=>by obtain ⟨v,p,rfl,_⟩:=h;rfl) fun cdv A outer s H vs Q E hr h=>?_;obtain ⟨v,p,rfl,⟨a,rfl,ha⟩,⟨⟨n1,n2⟩,n3,n4⟩,q⟩:=h;refine' ⟨_,?term,?read⟩
 case term=>refine' Zi (Zo (Zc4 (Zk Cc_ hr (by decide) rfl (Za (pv 0) (Za Ze (Za Ze Zb rfl) rfl) rfl)) (Zce (Zj (Yv rfl) rfl T.b_all Za8 (Za (Yq (N:=["part"]) (fr:=[none]) rfl (Yn (by decide) rfl (by decide) rfl rfl) (Y6 (pv 0)) (fun _ _ _ _=>pgB 0) (fun _ _ _ _=>Zp) (fun _ _ _ _=>Zk Cd_ hr (by decide) rfl (Za (pv 0) (Za (Zly Zea (Zaq T.n_FARTHEST rfl)) (Za (Zaq T.n_FARTHEST rfl) Zb rfl) rfl) rfl))) Zb rfl)))))
 refine ⟨_,rfl,a,_,2,2,rfl,ha,by simp,by simp,true,rfl,iteT ?_⟩;refine ⟨_,rfl,a,rfl,⟨_,SqT.of ha⟩,fun D nD=>?_⟩;refine lc_T (k:=.t) (vs:=[V.int p.1,V.int p.2]) RB hRB [true,true] rfl (by simp) nD ha (fun i w H2 C hw s2 c=>?_) (fun H2 us' s2 e2 a2=>?_)
 · have hi:i=0∨i=1:=by have:i<2:=Xd hw;omega
   rcases hi with rfl|rfl
   · cases (show V.int p.1=w by simpa using hw)
     exact ⟨_,rfl,_,rfl,p.1,-100,100,rfl,n1,n2,c _ _ true (Same.refl _) rfl rfl⟩
   · cases (show V.int p.2=w by simpa using hw)
     exact ⟨_,rfl,_,rfl,p.2,-100,100,rfl,n3,n4,c _ _ true (Same.refl _) rfl rfl⟩
 · rw [a2.bls] at e2;exact ⟨D,[true,true],rfl,SqL.of e2,q _ s2⟩
abbrev Zag:Stmt:=top 16
theorem Zd2 (F:Fun K "are_corners" "are_corners" Zag f fd) (Caf_:a3_ P w K mg base) (Cc_:a2_ P w K mg base):FnOk P w K mg base CX0 4 f fd ["thing"] Ze4:=by
 have sc:FnScope ["thing"] ["thing"] (Zf Zag):=fsc (by decide +kernel);refine F.ok sc (fun vs H Q E h=>by obtain ⟨v,cs,rfl,_⟩:=h;rfl) fun cdv A outer s H vs Q E hr h=>?_;obtain ⟨v,cs,rfl,⟨a,us,rfl,ha,al⟩,h3,h30,nr,nd',q⟩:=h;refine' ⟨_,?term,?read⟩
 case term=>refine' Zd ?g1 (Zi (Zo (Zba Zlt (Zj Zmg rfl T.b_len Yt (Za (Zs (Zox rfl hr) rfl T.b_set Zq6 (Za (pv 0) Zb rfl)) Zb rfl)) (Zj Zq rfl T.b_len Yt (Za (pv 0) Zb rfl)) (Yo _))));case g1=>refine' Xp ?g2 (Zi (Zo Xf)) Z4;case g2=>refine' PW.pt ?g3;case g3=>refine' Zd0 (Xe (Zz (Zk Cc_ hr (by decide) rfl (Za (pv 0) (Za (Zaq T.n_FEWEST_CORNERS rfl) (Za (Zaq T.n_MOST_CORNERS rfl) Zb rfl) rfl) rfl)) (fun _=>rfl))) ?g4;case g4=>refine' Za9 ?g5;case g5=>refine' Xe ?g6;case g6=>refine' Zz (Zj (Yv rfl) rfl T.b_all Za8 (Za (Yq (N:=["part"]) (fr:=[none]) rfl (Yn (by decide) rfl (by decide) rfl rfl) (Y6 (pv 0)) (fun _ _ _ _=>pgB 0) (fun _ _ _ _=>Zp) (fun _ _ _ _=>Zk Caf_ hr (by decide) rfl (Za (pv 0) Zb rfl))) Zb rfl)) (fun _=>rfl)
 have hl:=al.1;refine ⟨_,rfl,a,_,3,30,rfl,ha,by omega,by omega,true,rfl,iteF ?_⟩;refine ⟨_,rfl,a,rfl,⟨_,SqT.of ha⟩,fun D nD=>?_⟩;refine lc_T (k:=.t) (vs:=us) RB hRB (List.replicate us.length true) (by simp) (by omega) nD ha (fun i w H2 C hw s2 c=>?_) (fun H2 us' s2 e2 a2=>?_)
 · obtain ⟨p,ep,rp⟩:=al.get hw;exact ⟨_,rfl,w,p,rfl,rp.tk s2.tk,nr p (n7_ ep),fun H5 s5=>c _ _ true s5 (repT (Xd hw)) rfl⟩
 · rw [a2.bls] at e2;refine ⟨D,List.replicate us.length true,rfl,SqL.of e2,true,by rw [allT];rfl,iteF ?_⟩
   have ali:Al (IsI H2) us (cs.map fun p=>[p.1,p.2]):=⟨by simp [hl],fun i v x e1 e2=>by
    obtain ⟨p,ep,rp⟩:=al.get e1;rw [n6_,ep] at e2;cases e2
    exact rp.tk s2.tk⟩
   obtain ⟨bl,rfl,tp,eb⟩:=Zhy ali
   have nb:(bl.map (·.2)).Nodup:=by
    rw [eb,n20_,n43_];refine (n20_.mp nd').imp fun {x y} ne e=>ne ?_;simp at e;exact Prod.ext e.1 e.2
   have lb:bl.length=cs.length:=by have:=hl;rwa [n5_] at this
   refine ⟨_,rfl,a,bl,rfl,SqT.of (s2 _ _ ha),tp,by omega,fun S nS=>?_⟩;generalize hG:upd H2 S _=H3;have s3:Same H2 H3:=by rw [← hG];exact Same.new nS
   have e3:=(congrFun hG S).symm;rw [Zc] at e3;clear hG;refine ⟨_,S,_,rfl,e3,by rw [Zgp nb];omega,_,rfl,a,_,rfl,.inr (SqT.of (s3 _ _ (s2 _ _ ha))),rfl,?_⟩;have e:V.int ((metU bl).length:Nat)=V.int (refs bl).length:=by rw [Zgp nb,n5_]
   exact qT e (q _ (s2.trans s3))
abbrev Znm:Stmt:=top 17
theorem Ztf (F:Fun K "turn" "turn" Znm f fd):FnOk P w K mg base CX0 1 f fd ["first","second","third"] Znu:=by
 have sc:FnScope ["first","second","third","ahead"] ["first","second","third"] (Zf Znm):=fsc (by decide +kernel);refine F.ok sc (fun vs H Q E h=>by obtain ⟨u,v,w,a,b,c,rfl,_⟩:=h;rfl) fun cdv A outer s H vs Q E hr h=>?_;obtain ⟨u,v,w,a,b,c,rfl,⟨pa,rfl,ha⟩,⟨pb,rfl,hb⟩,⟨pc,rfl,hc⟩,na,nb,nc,q⟩:=h;have nd:=sc.nd;refine' ⟨_,?term,?read⟩
 case term=>refine' Zd ?g1 ?g2;(case g1=>refine' Zy (i:=3) nd rfl (Or.inl rfl) ?g3;case g3=>refine' Zw Yl ?g4 ?g5;(case g4=>refine' Zw Xw (Zu Z1 (pv 1) Ze (fun _ _=>rfl)) (Zu Z1 (pv 0) Ze (fun _ _=>rfl)));case g5=>refine' Zw Xw (Zu Z1 (pv 2) Ze (fun _ _=>rfl)) (Zu Z1 (pv 0) Ze (fun _ _=>rfl)));case g2=>refine' Zi ?g6;case g6=>refine' Zo ?g7;case g7=>refine' Zw Xw (pv 3) ?g8;case g8=>refine' Zw Yl ?g9 ?ga;(case g9=>refine' Zw Xw (Zu Z1 (pv 2) Ze (fun _ _=>rfl)) (Zu Z1 (pv 0) Ze (fun _ _=>rfl)));case ga=>refine' Zw Xw (Zu Z1 (pv 1) Ze (fun _ _=>rfl)) (Zu Z1 (pv 0) Ze (fun _ _=>rfl))
 obtain ⟨⟨a1,a2⟩,a3,a4⟩:=na;obtain ⟨⟨b1,b2⟩,b3,b4⟩:=nb;obtain ⟨⟨c1,c2⟩,c3,c4⟩:=nc;refine ⟨_,rfl,pb,_,0,_,rfl,rfl,SqT.of hb,rfl,_,rfl,pa,_,0,_,rfl,rfl,SqT.of ha,rfl,_,_,rfl,rfl,_,rfl,pc,_,1,_,rfl,rfl,SqT.of hc,rfl,_,rfl,pa,_,1,_,rfl,rfl,SqT.of ha,rfl,_,_,rfl,rfl,_,_,rfl,rfl,mul3 (by omega) (by omega),?_⟩;refine ⟨_,rfl,_,rfl,pc,_,0,_,rfl,rfl,SqT.of hc,rfl,_,rfl,pa,_,0,_,rfl,rfl,SqT.of ha,rfl,_,_,rfl,rfl,_,rfl,pb,_,1,_,rfl,rfl,SqT.of hb,rfl,_,rfl,pa,_,1,_,rfl,rfl,SqT.of ha,rfl,_,_,rfl,rfl,_,_,rfl,rfl,mul3 (by omega) (by omega),_,_,rfl,rfl,?_⟩;exact q
abbrev Zc8:Stmt:=top 18
theorem Zls (F:Fun K "turn_of" "turn_of" Zc8 f fd) (Cg_:a4_ P w K mg base):FnOk P w K mg base CX0 2 f fd ["corners","piece"] Zh1:=by
 have sc:FnScope ["corners","piece"] ["corners","piece"] (Zf Zc8):=fsc (by decide +kernel);refine F.ok sc (fun vs H Q E h=>by obtain ⟨u,v,cs,p,rfl,_⟩:=h;rfl) fun cdv A outer s H vs Q E hr h=>?_;obtain ⟨u,v,cs,p,rfl,⟨a,us,rfl,ha,al⟩,⟨b,rfl,hb⟩,hl,bd,nr,q⟩:=h;refine' ⟨_,?term,?read⟩
 case term=>refine' Zi ?g1;case g1=>refine' Zo ?g2;case g2=>refine' Zk Cg_ hr (by decide) rfl ?g3;case g3=>refine' Za ?g4 ?g5 rfl;(case g4=>refine' Zu Z1 (pv 0) (Zu Z1 (pv 1) Ze (fun _ _=>rfl)) (fun _ _=>rfl));case g5=>refine' Za ?g6 ?g7 rfl;(case g6=>refine' Zu Z1 (pv 0) (Zu Z1 (pv 1) Ze (fun _ _=>rfl)) (fun _ _=>rfl));case g7=>refine' Za ?g8 Zb rfl;case g8=>refine' Zu Z1 (pv 0) (Zu Z1 (pv 1) Ze (fun _ _=>rfl)) (fun _ _=>rfl)
 match p,hl with
 | [i,j,k],_ =>
   have bi:=bd i (by simp);have bj:=bd j (by simp);have bk:=bd k (by simp);obtain ⟨x,ex,rx⟩:=Zo8 al bi.1 bi.2;obtain ⟨y,ey,ry⟩:=Zo8 al bj.1 bj.2;obtain ⟨z,ez,rz⟩:=Zo8 al bk.1 bk.2;refine ⟨_,rfl,_,rfl,b,_,0,_,rfl,rfl,SqT.of hb,rfl,a,us,i,x,rfl,rfl,SqT.of ha,ex,?_⟩;refine ⟨_,rfl,_,rfl,b,_,1,_,rfl,rfl,SqT.of hb,rfl,a,us,j,y,rfl,rfl,SqT.of ha,ey,?_⟩;refine ⟨_,rfl,_,rfl,b,_,2,_,rfl,rfl,SqT.of hb,rfl,a,us,k,z,rfl,rfl,SqT.of ha,ez,?_⟩;exact ⟨x,y,z,_,_,_,rfl,rx,ry,rz,nr _ (Zaa bi.1 bi.2),nr _ (Zaa bj.1 bj.2),nr _ (Zaa bk.1 bk.2),q⟩
abbrev Za5:Stmt:=top 19
theorem Zi0 (F:Fun K "is_piece" "is_piece" Za5 f fd) (Cu_:a5_ P w K mg base) (Cd_:a1_ P w K mg base) (Cc_:a2_ P w K mg base) (Cm_:a6_ P w K mg base):FnOk P w K mg base CX0 3 f fd ["corners","thing"] Zec:=by
 have sc:FnScope ["corners","thing"] ["corners","thing"] (Zf Za5):=fsc (by decide +kernel);refine F.ok sc (fun vs H Q E h=>by obtain ⟨u,v,cs,p,rfl,_⟩:=h;rfl) fun cdv A outer s H vs Q E hr h=>?_;obtain ⟨u,v,cs,p,rfl,⟨a,us,rfl,ha,al⟩,⟨b,rfl,hb⟩,ok,nr,q⟩:=h;refine' ⟨_,?term,?read⟩
 case term=>refine' Zd ?g1 (Zi (Zo (Zc4 (Zk Cu_ hr (by decide) rfl (Za (pv 1) Zb rfl)) (Zce (Zba Zwd (Zk Cm_ hr (by decide) rfl (Za (pv 0) (Za (pv 1) Zb rfl) rfl)) Ze (Yo _))))));case g1=>refine' Xp ?g2 (Zi (Zo Xf)) Z4;case g2=>refine' PW.pt ?g3;case g3=>refine' Zd0 (Xe (Zz (Zk Cc_ hr (by decide) rfl (Za (pv 1) (Za Ze (Za Ze Zb rfl) rfl) rfl)) (fun _=>rfl))) ?g4;case g4=>refine' Za9 ?g5;case g5=>refine' Xe ?g6;case g6=>refine' Zz (Zj (Yv rfl) rfl T.b_all Za8 (Za (Yq (N:=["part","corners"]) (fr:=[none,some 0]) rfl (Zv (XN:=["corners","thing"]) (Scope.names (Zf Za5)) rfl rfl rfl (fun _ h=>Zr h) (by decide +kernel) rfl) (Y6 (pv 1)) (fun _ _ _ _=>pgB 0) (fun _ _ _ _=>Zp) (fun _ _ _ _=>Zk Cd_ hr (by decide) rfl (Za (pv 0) (Za Ze (Za (Zw Xw (Zj (Zbv K rfl) rfl T.b_len Yt (Za (pv 1) Zb rfl)) Ze) Zb rfl) rfl) rfl))) Zb rfl)) (fun _=>rfl)
 have hl:=ok.len;have hl2:=al.1;refine ⟨_,rfl,b,_,3,3,rfl,hb,by simp [hl],by simp [hl],true,rfl,iteF ?_⟩;refine ⟨_,rfl,b,rfl,⟨_,SqT.of hb⟩,fun D nD=>?_⟩;refine lc_T (k:=.t) (vs:=p.map V.int) RB hRB (List.replicate 3 true) (by simp [hl]) (by simp [hl]) nD hb (fun i w H2 C hw s2 c=>?_) (fun H2 us' s2 e2 a2=>?_)
 · rw [n6_] at hw;obtain ⟨x,ex,rfl⟩:=n10_.mp hw;obtain ⟨b1,b2⟩:=ok.bd x (n7_ ex);refine ⟨_,rfl,_,rfl,a,us,rfl,.inr (SqT.of (s2 _ _ ha)),_,_,rfl,rfl,x,0,_,rfl,b1,by rw [hl2];exact b2,c _ _ true (Same.refl _) (repT ?_) rfl⟩
   have:=Xd ex
   omega
 · rw [a2.bls] at e2;refine ⟨D,List.replicate 3 true,rfl,SqL.of e2,true,by rw [allT];rfl,iteF ?_⟩;refine ⟨_,rfl,b,p,rfl,s2 _ _ hb,by omega,fun i x y ex ey=>?_,fun H3 s3=>⟨true,rfl,iteT ?_⟩⟩
   · have r:=ok.rise
     match p,hl with
     | [i0,i1,i2],_ =>
       match i,ex,ey with
       | 0,ex,ey=>simp at ex ey;subst ex;subst ey;exact r.1
       | 1,ex,ey=>simp at ex ey;subst ex;subst ey;exact r.2
       | 2,ex,ey=>simp at ey
       | (n+3),ex,ey=>simp at ex
   · have s4:=s2.trans s3;refine ⟨_,rfl,_,rfl,_,_,cs,p,rfl,⟨a,us,rfl,s4 _ _ ha,al.imp fun v x r=>r.tk s4.tk⟩,⟨b,rfl,s4 _ _ hb⟩,hl,ok.bd,nr,rfl,?_⟩;have e:decide (V.int (dOf cs p)=V.int 0)=false:=n33_ fun z=>ok.d (V.int.inj z);rw [e];exact q _ s4
abbrev Xu:Stmt:=top 20
theorem Zfc (F:Fun K "are_pieces" "are_pieces" Xu f fd) (Cv_:a7_ P w K mg base) (Cai_:a8_ P w K mg base) (Cc_:a2_ P w K mg base):FnOk P w K mg base CX0 4 f fd ["corners","thing"] Zhx:=by
 have sc:FnScope ["corners","thing"] ["corners","thing"] (Zf Xu):=fsc (by decide +kernel);refine F.ok sc (fun vs H Q E h=>by obtain ⟨u,v,cs,ps,rfl,_⟩:=h;rfl) fun cdv A outer s H vs Q E hr h=>?_;obtain ⟨u,v,cs,ps,rfl,hc,⟨b,ws,rfl,hb,bl⟩,p1,p40,pc,rise,nr,q⟩:=h;refine' ⟨_,?term,?read⟩
 case term=>refine' Zd ?g1 (Zi (Zo (Zk Cv_ hr (by decide) rfl (Za (pv 1) Zb rfl))));case g1=>refine' Xp ?g2 (Zi (Zo Xf)) Z4;case g2=>refine' PW.pt ?g3;case g3=>refine' Zd0 (Xe (Zz (Zk Cc_ hr (by decide) rfl (Za (pv 1) (Za Ze (Za (Zaq T.n_MOST_PIECES rfl) Zb rfl) rfl) rfl)) (fun _=>rfl))) ?g4;case g4=>refine' Za9 ?g5;case g5=>refine' Xe ?g6;case g6=>refine' Zz (Zj (Yv rfl) rfl T.b_all Za8 (Za (Yq (N:=["part","corners"]) (fr:=[none,some 0]) rfl (Zv (XN:=["corners","thing"]) (Scope.names (Zf Xu)) rfl rfl rfl (fun _ h=>Zr h) (by decide +kernel) rfl) (Y6 (pv 1)) (fun _ _ _ _=>pgB 0) (fun _ _ _ _=>Zp) (fun _ _ _ _=>Zk Cai_ hr (by decide) rfl (Za (pv 1) (Za (pv 0) Zb rfl) rfl))) Zb rfl)) (fun _=>rfl)
 have hl:=bl.1;refine ⟨_,rfl,b,_,1,40,rfl,hb,by omega,by omega,true,rfl,iteF ?_⟩;refine ⟨_,rfl,b,rfl,⟨_,SqT.of hb⟩,fun D nD=>?_⟩;refine lc_T (k:=.t) (vs:=ws) RB hRB (List.replicate ws.length true) (by simp) (by omega) nD hb (fun i w H2 C hw s2 c=>?_) (fun H2 us' s2 e2 a2=>?_)
 · obtain ⟨p,ep,rp⟩:=bl.get hw;exact ⟨_,rfl,_,rfl,_,_,cs,p,rfl,hc.tk s2.tk,rp.tk s2.tk,pc p (n7_ ep),nr,fun H5 s5=>c _ _ true s5 (repT (Xd hw)) rfl⟩
 · rw [a2.bls] at e2;refine ⟨D,List.replicate ws.length true,rfl,SqL.of e2,true,by rw [allT];rfl,iteF ?_⟩;refine ⟨_,rfl,b,ws,ps,rfl,s2 _ _ hb,bl.imp fun v x r=>r.tk s2.tk,by omega,fun i x y ex ey=>?_,fun H3 s3=>q _ (s2.trans s3)⟩
   have:=rise i (Xd ey)
   rw [n2_,n2_,ex,ey] at this;exact this
abbrev Zax:Stmt:=top 21
theorem Zf2 (F:Fun K "are_thicks" "are_thicks" Zax f fd) (Cd_:a1_ P w K mg base) (Cc_:a2_ P w K mg base):FnOk P w K mg base CX0 3 f fd ["pieces","thing"] Zhf:=by
 have sc:FnScope ["pieces","thing"] ["pieces","thing"] (Zf Zax):=fsc (by decide +kernel);refine F.ok sc (fun vs H Q E h=>by obtain ⟨u,v,ps,ts,rfl,_⟩:=h;rfl) fun cdv A outer s H vs Q E hr h=>?_;obtain ⟨u,v,ps,ts,rfl,⟨a,us,rfl,ha,al⟩,⟨b,rfl,hb⟩,hl,p40,t9,q⟩:=h;refine' ⟨_,?term,?read⟩
 case term=>refine' Zd (Xp (Xe (Zz (Zk Cc_ hr (by decide) rfl (Za (pv 1) (Za (Zj Zq rfl T.b_len Yt (Za (pv 0) Zb rfl)) (Za (Zj Zq rfl T.b_len Yt (Za (pv 0) Zb rfl)) Zb rfl) rfl) rfl)) (fun _=>rfl))) (Zi (Zo Xf)) Z4) (Zi (Zo (Zj (Yv rfl) rfl T.b_all Za8 (Za (Yq (N:=["part"]) (fr:=[none]) rfl (Yn (by decide) rfl (by decide) rfl rfl) (Y6 (pv 1)) (fun _ _ _ _=>pgB 0) (fun _ _ _ _=>Zp) (fun _ _ _ _=>Zk Cd_ hr (by decide) rfl (Za (pv 0) (Za Ze (Za (Zaq T.n_THICKEST rfl) Zb rfl) rfl) rfl))) Zb rfl))))
 have hl2:=al.1;have hl3:((ts.map V.int).length:Int)=us.length:=by simp;omega
 refine ⟨_,rfl,_,rfl,a,us,rfl,.inr (SqT.of ha),_,rfl,a,us,rfl,.inr (SqT.of ha),b,_,_,_,rfl,hb,by rw [hl3];exact Int.le_refl _,by rw [hl3];exact Int.le_refl _,true,rfl,iteF ?_⟩;refine ⟨_,rfl,b,rfl,⟨_,SqT.of hb⟩,fun D nD=>?_⟩;refine lc_T (k:=.t) (vs:=ts.map V.int) RB hRB (List.replicate ts.length true) (by simp) (by simp;omega) nD hb (fun i w H2 C hw s2 c=>?_) (fun H2 us' s2 e2 a2=>?_)
 · rw [n6_] at hw;obtain ⟨x,ex,rfl⟩:=n10_.mp hw;obtain ⟨b1,b2⟩:=t9 x (n7_ ex);exact ⟨_,rfl,x,1,9,rfl,b1,b2,c _ _ true (Same.refl _) (repT (Xd ex)) rfl⟩
 · rw [a2.bls] at e2;refine ⟨D,List.replicate ts.length true,rfl,SqL.of e2,?_⟩;rw [allT];exact q _ s2
abbrev Zb1:Stmt:=top 22
theorem Zjj (F:Fun K "is_stuff" "is_stuff" Zb1 f fd) (Cd_:a1_ P w K mg base) (Cc_:a2_ P w K mg base):FnOk P w K mg base CX0 3 f fd ["thing"] Zjs:=by
 have sc:FnScope ["thing"] ["thing"] (Zf Zb1):=fsc (by decide +kernel);refine F.ok sc (fun vs H Q E h=>by obtain ⟨v,l,m,rfl,_⟩:=h;rfl) fun cdv A outer s H vs Q E hr h=>?_;obtain ⟨v,l,m,rfl,⟨b,rfl,hb⟩,l9,m9,q⟩:=h;refine' ⟨_,?term,?read⟩
 case term=>refine' Zd (Xp (Xe (Zz (Zk Cc_ hr (by decide) rfl (Za (pv 0) (Za Ze (Za Ze Zb rfl) rfl) rfl)) (fun _=>rfl))) (Zi (Zo Xf)) Z4) ?g1;case g1=>refine' Zi ?g2;case g2=>refine' Zo ?g3;case g3=>refine' Zc4 (Zk Cd_ hr (by decide) rfl (Za (Zu Z1 (pv 0) Ze (fun _ _=>rfl)) (Za Ze (Za (Zaq T.n_MOST_STUFF rfl) Zb rfl) rfl) rfl)) (Zce (Zk Cd_ hr (by decide) rfl (Za (Zu Z1 (pv 0) Ze (fun _ _=>rfl)) (Za Ze (Za (Zaq T.n_MOST_STUFF rfl) Zb rfl) rfl) rfl)))
 refine ⟨_,rfl,b,_,2,2,rfl,hb,by simp,by simp,true,rfl,iteF ?_⟩;refine ⟨_,rfl,b,_,0,_,rfl,rfl,SqT.of hb,rfl,l,0,9,rfl,l9.1,l9.2,true,rfl,iteT ?_⟩;exact ⟨_,rfl,b,_,1,_,rfl,rfl,SqT.of hb,rfl,m,1,9,rfl,m9.1,m9.2,q⟩
abbrev Za4:Stmt:=top 23
theorem Zi6 (F:Fun K "triangle" "triangle" Za4 f fd) (Cg_:a4_ P w K mg base):FnOk P w K mg base CX0 2 f fd ["corners","piece"] Zra:=by
 have sc:FnScope ["corners","piece","first","second","third"] ["corners","piece"] (Zf Za4):=fsc (by decide +kernel);refine F.ok sc (fun vs H Q E h=>by obtain ⟨u,v,cs,p,rfl,_⟩:=h;rfl) fun cdv A outer s H vs Q E hr h=>?_;obtain ⟨u,v,cs,p,rfl,⟨a,us,rfl,ha,al⟩,⟨b,rfl,hb⟩,hl,bd,nr,q⟩:=h;have nd:=sc.nd;refine' ⟨_,?term,?read⟩
 case term=>refine' Zd (Zah (Yq (N:=["number","corners"]) (fr:=[none,some 0]) rfl (Zv (XN:=["corners","piece","first","second","third"]) (Scope.names (Zf Za4)) rfl rfl rfl (fun _ h=>Zr h) (by decide +kernel) rfl) (Y6 (pv 1)) (fun _ _ _ _=>pgB 0) (fun _ _ _ _=>Zp) (fun _ _ _ _=>Zu (Xb K rfl) (pv 1) (pv 0) (fun _ _=>rfl))) (Zut (n:=3) rfl (Zl (Zm (i:=2) nd rfl (Or.inl rfl)) (Zl (Zm (i:=3) nd rfl (Or.inl rfl)) (Zl (Zm (i:=4) nd rfl (Or.inl rfl)) Z7))))) (Zd (Xp (Ye Zsg (Zk Cg_ hr (by decide) rfl (Za (pv 2) (Za (pv 3) (Za (pv 4) Zb rfl) rfl) rfl)) Ze (Yo _)) (Zi (Zo (Yb (Za (pv 2) (Za (pv 4) (Za (pv 3) Zb rfl) rfl) rfl)))) Z4) (Zi (Zo (Yb (Za (pv 2) (Za (pv 3) (Za (pv 4) Zb rfl) rfl) rfl)))))
 refine ⟨_,rfl,b,rfl,⟨_,SqT.of hb⟩,fun D nD=>?_⟩;refine lc_T (k:=.t) (vs:=p.map V.int) IsP hRP (p.map (cAt cs)) (by simp) (by simp [hl]) nD hb (fun i w H2 C hw s2 c=>?_) (fun H2 us' s2 e2 a2=>?_)
 · rw [n6_] at hw;obtain ⟨x,ex,rfl⟩:=n10_.mp hw;obtain ⟨b1,b2⟩:=bd x (n7_ ex);obtain ⟨v,ev,rv⟩:=Zo8 al b1 b2;exact ⟨_,rfl,_,rfl,a,us,x,v,rfl,rfl,SqT.of (s2 _ _ ha),ev,c _ _ _ (Same.refl _) (by rw [n6_,ex];rfl) (rv.tk s2.tk)⟩
 · obtain ⟨x,y,z,rfl,rx,ry,rz⟩:=cs3 (al.imp fun v x r=>r.tk s2.tk) hl bd a2;have nx:=nr (cAt cs (p.getD 0 0)) (by match p,hl with|[i,j,k],_=>exact Zaa (bd i (by simp)).1 (bd i (by simp)).2);have ny:=nr (cAt cs (p.getD 1 0)) (by match p,hl with|[i,j,k],_=>exact Zaa (bd j (by simp)).1 (bd j (by simp)).2);have nz:=nr (cAt cs (p.getD 2 0)) (by match p,hl with|[i,j,k],_=>exact Zaa (bd k (by simp)).1 (bd k (by simp)).2);refine ⟨D,_,rfl,SqL.of e2,rfl,x,_,rfl,y,_,rfl,z,_,rfl,rfl,?_⟩;refine ⟨_,rfl,_,rfl,_,rfl,x,y,z,_,_,_,rfl,rx,ry,rz,nx,ny,nz,_,_,rfl,rfl,_,rfl,?_⟩;refine ite2 (fun h=>?_) (fun h=>?_)
   · refine ⟨_,rfl,_,rfl,_,rfl,z3_,fun r nr'=>?_⟩;have s3:Same H2 (upd H2 r (.tup [x,z,y])):=Same.new nr';refine q _ _ (s2.trans s3) ⟨r,x,z,y,rfl,Zc,?_⟩;unfold trOf tri;rw [if_pos (n51_ h)];exact ⟨rx.tk s3.tk,rz.tk s3.tk,ry.tk s3.tk⟩
   · refine ⟨_,rfl,_,rfl,_,rfl,z3_,fun r nr'=>?_⟩;have s3:Same H2 (upd H2 r (.tup [x,y,z])):=Same.new nr';refine q _ _ (s2.trans s3) ⟨r,x,y,z,rfl,Zc,?_⟩;unfold trOf tri;rw [if_neg fun z=>h (n29_ z)];exact ⟨rx.tk s3.tk,ry.tk s3.tk,rz.tk s3.tk⟩
abbrev Ziu:Stmt:=top 24
theorem Zqq (F:Fun K "edges" "edges" Ziu f fd):FnOk P w K mg base CX0 1 f fd ["points"] Zj1:=by
 have sc:FnScope ["points"] ["points"] (Zf Ziu):=fsc (by decide +kernel);refine F.ok sc (fun vs H Q E h=>by obtain ⟨v,t,rfl,_⟩:=h;rfl) fun cdv A outer s H vs Q E hr h=>?_;obtain ⟨v,t,rfl,⟨a,x,y,z,rfl,ha,rx,ry,rz⟩,q⟩:=h;refine' ⟨_,?term,?read⟩
 case term=>refine' Zi ?g1;case g1=>refine' Zo ?g2;case g2=>refine' Yb ?g3;case g3=>refine' Za ?g4 ?g5 rfl;(case g4=>refine' Yb ?g6;case g6=>refine' Za (Zu Z1 (pv 0) Ze (fun _ _=>rfl)) (Za (Zu Z1 (pv 0) Ze (fun _ _=>rfl)) Zb rfl) rfl);case g5=>refine' Za ?g7 ?g8 rfl;(case g7=>refine' Yb ?g9;case g9=>refine' Za (Zu Z1 (pv 0) Ze (fun _ _=>rfl)) (Za (Zu Z1 (pv 0) Ze (fun _ _=>rfl)) Zb rfl) rfl);case g8=>refine' Za ?ga Zb rfl;case ga=>refine' Yb ?gb;case gb=>refine' Za (Zu Z1 (pv 0) Ze (fun _ _=>rfl)) (Za (Zu Z1 (pv 0) Ze (fun _ _=>rfl)) Zb rfl) rfl
 refine ⟨_,rfl,a,_,0,x,rfl,rfl,SqT.of ha,rfl,_,rfl,a,_,1,y,rfl,rfl,SqT.of ha,rfl,z2_,fun p np=>?_⟩;have s1:Same H (upd H p (.tup [x,y])):=Same.new np;generalize hH1:upd H p (.tup [x,y])=H1 at s1 ⊢;have e1:H1 p=some (.tup [x,y]):=by rw [← hH1];exact Zc
 refine ⟨_,rfl,a,_,1,y,rfl,rfl,SqT.of (s1 _ _ ha),rfl,_,rfl,a,_,2,z,rfl,rfl,SqT.of (s1 _ _ ha),rfl,z2_,fun p2 np2=>?_⟩;have s2:Same H1 (upd H1 p2 (.tup [y,z])):=Same.new np2;generalize hH2:upd H1 p2 (.tup [y,z])=H2 at s2 ⊢;have e2:H2 p2=some (.tup [y,z]):=by rw [← hH2];exact Zc
 have s12:=s1.trans s2;refine ⟨_,rfl,a,_,2,z,rfl,rfl,SqT.of (s12 _ _ ha),rfl,_,rfl,a,_,0,x,rfl,rfl,SqT.of (s12 _ _ ha),rfl,z2_,fun p3 np3=>?_⟩;have s3:Same H2 (upd H2 p3 (.tup [z,x])):=Same.new np3;generalize hH3:upd H2 p3 (.tup [z,x])=H3 at s3 ⊢;have e3:H3 p3=some (.tup [z,x]):=by rw [← hH3];exact Zc
 refine ⟨z3_,fun p4 np4=>?_⟩;have s4:Same H3 (upd H3 p4 (.tup [.ref p,.ref p2,.ref p3])):=Same.new np4;have t4:=(s12.trans (s3.trans s4)).tk;refine q _ _ (s12.trans (s3.trans s4)) ⟨p4,_,rfl,Zc,.cons ⟨p,x,y,rfl,s4 _ _ (s3 _ _ (s2 _ _ e1)),rx.tk t4,ry.tk t4⟩ (.cons ⟨p2,y,z,rfl,s4 _ _ (s3 _ _ e2),ry.tk t4,rz.tk t4⟩ (.cons ⟨p3,z,x,rfl,s4 _ _ e3,rz.tk t4,rx.tk t4⟩ .nil))⟩
abbrev Zbk:Stmt:=top 25
theorem Zln (F:Fun K "lies_in" "lies_in" Zbk f fd) (Cr_:a9_ P w K mg base) (Cg_:a4_ P w K mg base):FnOk P w K mg base CX0 2 f fd ["point","points"] Zhi:=by
 have sc:FnScope ["point","points"] ["point","points"] (Zf Zbk):=fsc (by decide +kernel);refine F.ok sc (fun vs H Q E h=>by obtain ⟨u,v,p,t,rfl,_⟩:=h;rfl) fun cdv A outer s H vs Q E hr h=>?_;obtain ⟨u,v,p,t,rfl,hp,ht,np,nt,q⟩:=h;refine' ⟨_,?term,?read⟩
 case term=>refine' Zi (Zo (Zj (Yv rfl) rfl T.b_all Za8 (Za (Yq (g:=(gTup K 2 (X0 (Y2 0) (X0 (Y2 1) gNil)))) (N:=["one","other","point"]) (fr:=[none,none,some 0]) rfl (Zv (XN:=["point","points"]) (Scope.names (Zf Zbk)) rfl rfl rfl (fun _ h=>Zr h) (by decide +kernel) rfl) (Y6 (Zk Cr_ hr (by decide) rfl (Za (pv 1) Zb rfl))) (fun _ _ _ _=>Ys (n:=2) rfl (Zl (pgB 0) (Zl (pgB 1) Z7))) (fun _ _ _ _=>Zp) (fun _ _ _ _=>Zba Zwg (Zk Cg_ hr (by decide) rfl (Za (pv 0) (Za (pv 1) (Za (pv 2) Zb rfl) rfl) rfl)) Ze (Yo _))) Zb rfl)))
 refine ⟨_,rfl,v,t,rfl,ht,fun H1 w s1 hw=>?_⟩;obtain ⟨a,vs,rfl,ha,al⟩:=hw;have hl:vs.length=3:=al.1;refine ⟨a,rfl,⟨_,SqT.of ha⟩,fun D nD=>?_⟩;refine Zsr (k:=.t) (vs:=vs) RB hRB (t.edges.map fun e=>decide (0≤tn e.1 e.2 p)) (by simp [hl,Tri.edges]) (by omega) nD ha (prs al) (fun i p' x y H2 C hw hp' s2 c=>?_) (fun H2 us' s2 e2 a2=>?_)
 · obtain ⟨e,ee,rx,ry⟩:=pr1 al hw hp';obtain ⟨n1,n2⟩:=Zh3 nt (n7_ ee);exact ⟨_,rfl,_,rfl,_,rfl,x,y,u,e.1,e.2,p,rfl,rx.tk s2.tk,ry.tk s2.tk,hp.tk (s1.trans s2).tk,n1,n2,np,_,_,rfl,rfl,c _ _ _ (Same.refl _) (by rw [n6_,ee];rfl) rfl⟩
 · rw [a2.bls] at e2;exact ⟨D,_,rfl,SqL.of e2,q _ (s1.trans s2)⟩
abbrev Xs:Stmt:=top 26
theorem Zfd (F:Fun K "parts_from" "parts_from" Xs f fd) (Cr_:a9_ P w K mg base) (Cg_:a4_ P w K mg base):FnOk P w K mg base CX0 2 f fd ["points","others"] Zcr:=by
 have sc:FnScope ["points","others","one","other"] ["points","others"] (Zf Xs):=fsc (by decide +kernel);refine F.ok sc (fun vs H Q E h=>by obtain ⟨u,v,t,r,rfl,_⟩:=h;rfl) fun cdv A outer s H vs Q E hr h=>?_;obtain ⟨u,v,t,r,rfl,ht,hr',nt,nr,q⟩:=h;have nd:=sc.nd;refine' ⟨_,?term,?read⟩
 case term=>refine' Zd ?g1 (Zi (Zo Xf));case g1=>refine' Zav PassesOwn.never rfl (Y6 (Zk Cr_ hr (by decide) rfl (Za (pv 0) Zb rfl))) (Ys (n:=2) rfl (Zl (Zm (i:=2) nd rfl (Or.inr rfl)) (Zl (Zm (i:=3) nd rfl (Or.inr rfl)) Z7))) ?g2;case g2=>refine' Zi ?g3;case g3=>refine' Xp ?g4 (Zi (Zo Xf)) Z4;case g4=>refine' Zz (Zj (Yv rfl) rfl T.b_all Za8 (Za (Yq (N:=["point","one","other"]) (fr:=[none,some 2,some 3]) rfl (Zv (XN:=["points","others","one","other"]) (Scope.names (Zf Xs)) rfl rfl rfl (fun _ h=>Zr h) (by decide +kernel) rfl) (Y6 (pv 1)) (fun _ _ _ _=>pgB 0) (fun _ _ _ _=>Zp) (fun _ _ _ _=>Zba Zmp (Zk Cg_ hr (by decide) rfl (Za (pv 1) (Za (pv 2) (Za (pv 0) Zb rfl) rfl) rfl)) Ze (Yo _))) Zb rfl)) (fun _=>rfl)
 refine ⟨_,rfl,u,t,rfl,ht,fun H1 w s1 hw=>?_⟩;obtain ⟨a,vs,rfl,ha,al⟩:=hw;have hl:vs.length=3:=al.1;have hel:t.edges.length=3:=rfl;refine ⟨a,rfl,⟨_,SqT.of ha⟩,?_⟩;refine Zb0 (n:=3) (fun i σ H2=>Same H1 H2∧(∃ x y,σ=[some u,some v,x,y])∧((t.edges.take i).any fun e=>Zdf e r)=false) ⟨Same.refl _,⟨_,_,rfl⟩,rfl⟩ (fun i σ H2 hi p=>⟨vs,vs[i]'(by omega),SqT.of (p.1 _ _ ha),n1_ (by omega)⟩) (fun σ H2 p=>⟨vs,SqT.of (p.1 _ _ ha),by omega⟩) (fun i x σ H2 H3 hi y p=>?_) (fun σ H2 p=>?_)
 · obtain ⟨s2,⟨u1,u2,rfl⟩,no⟩:=p;obtain ⟨rfl,y2⟩:=y;have ex:=y2 vs (SqT.of (s2 _ _ ha));obtain ⟨p',x1,y1,rfl,hp'⟩:=prs al i x ex;obtain ⟨e,ee,rx,ry⟩:=pr1 al ex hp';obtain ⟨n1,n2⟩:=Zh3 nt (n7_ ee);refine ⟨p',_,rfl,SqT.of (s2 _ _ hp'),rfl,x1,_,rfl,y1,_,rfl,rfl,?_⟩;obtain ⟨b,ws,rfl,hb,hl2,bl⟩:=Zuj hr';have s02:=s1.trans s2;refine ⟨_,rfl,b,rfl,⟨_,SqT.of (s02 _ _ hb)⟩,fun D nD=>?_⟩;refine lc_T (k:=.t) (vs:=ws) RB hRB (r.pts.map fun q=>decide (tn e.1 e.2 q≤0)) (by simp [hl2,Tri.pts]) (by omega) nD (s02 _ _ hb) (fun j w H4 C hw s4 c=>?_) (fun H4 us' s4 e4 a4=>?_)
   · obtain ⟨g,eg,rg⟩:=bl.get hw;have tk4:=(s2.trans s4).tk;exact ⟨_,rfl,_,rfl,_,rfl,x1,y1,w,e.1,e.2,g,rfl,rx.tk tk4,ry.tk tk4,rg.tk (s02.trans s4).tk,n1,n2,Zs3 nr (n7_ eg),_,_,rfl,rfl,c _ _ _ (Same.refl _) (by rw [n6_,eg];rfl) rfl⟩
   · rw [a4.bls] at e4;refine ⟨D,_,rfl,SqL.of e4,_,rfl,ite2 (fun h=>?_) (fun h=>?_)⟩
     · have:Y5 t r=true:=List.any_eq_true.mpr ⟨e,n7_ ee,h⟩
       rw [this] at q;exact q _ (s02.trans s4)
     · refine ⟨s2.trans s4,⟨_,_,rfl⟩,?_⟩;have hi':i<t.edges.length:=by omega
       rw [List.take_succ,ee,List.any_append,no]
       have:Zdf e r=false:=Bool.eq_false_iff.mpr h
       simp [this]
 · obtain ⟨s2,⟨u1,u2,rfl⟩,no⟩:=p
   have:Y5 t r=false:=no
   rw [this] at q;exact q _ (s1.trans s2)
abbrev Zbc:Stmt:=top 27
theorem Zih (F:Fun K "are_apart" "are_apart" Zbc f fd) (Cn_:a10_ P w K mg base):FnOk P w K mg base CX0 3 f fd ["points","others"] Zkl:=by
 have sc:FnScope ["points","others"] ["points","others"] (Zf Zbc):=fsc (by decide +kernel);refine F.ok sc (fun vs H Q E h=>by obtain ⟨u,v,t,r,rfl,_⟩:=h;rfl) fun cdv A outer s H vs Q E hr h=>?_;obtain ⟨u,v,t,r,rfl,ht,hr',nt,nr,q⟩:=h;refine' ⟨_,?term,?read⟩
 case term=>refine' Zi (Zo (Zv0 (Zk Cn_ hr (by decide) rfl (Za (pv 0) (Za (pv 1) Zb rfl) rfl)) (Zce (Zk Cn_ hr (by decide) rfl (Za (pv 1) (Za (pv 0) Zb rfl) rfl)))))
 refine ⟨_,rfl,_,rfl,u,v,t,r,rfl,ht,hr',nt,nr,fun H1 s1=>⟨_,rfl,ite2 (fun h=>?_) (fun h=>?_)⟩⟩
 · rw [show L2.apart t r=true by unfold L2.apart;rw [h];rfl] at q;exact q _ s1
 · rw [show L2.apart t r=Y5 r t by unfold L2.apart;rw [show Y5 t r=false by simpa using h];rfl] at q;exact ⟨_,rfl,_,rfl,v,u,r,t,rfl,hr'.tk s1.tk,ht.tk s1.tk,nr,nt,fun H2 s2=>q _ (s1.trans s2)⟩
abbrev Yj:Stmt:=top 28
theorem X8 (F:Fun K "every_corner_is_used" "every_corner_is_used" Yj f fd):FnOk P w K mg base CX0 2 f fd ["corners","pieces"] Zne:=by
 have sc:FnScope ["corners","pieces"] ["corners","pieces"] (Zf Yj):=fsc (by decide +kernel);refine F.ok sc (fun vs H Q E h=>by obtain ⟨u,v,cs,ps,rfl,_⟩:=h;rfl) fun cdv A outer s H vs Q E hr h=>?_;obtain ⟨u,v,cs,ps,rfl,⟨a,us,rfl,ha,al⟩,⟨b,ws,rfl,hb,bl⟩,h3,p40,cnt,c30,q⟩:=h;refine' ⟨_,?term,?read⟩
 case term=>refine' Zi (Zo (Zba Zlt (Zj Znb rfl T.b_len Yt (Za (Zuw (N:=["piece","number"]) (fr:=[none,none]) rfl (Yn (by decide) rfl (by decide) rfl rfl) (Y6 (pv 1)) (fun _ _ _ _=>pgB 0) (fun _ _ _ _=>Zb9 K rfl (pv 0)) (fun _ _ _ _=>pgB 1) (fun _ _ _ _=>pv 1)) Zb rfl)) (Zj Zq rfl T.b_len Yt (Za (pv 0) Zb rfl)) (Yo _)))
 have hl:=al.1
 have fl:∀ l:List (List Int),(∀ p∈l,p.length=3)→l.flatten.length=3*l.length:=by
  intro l
  induction l with
  | nil=>intro _;rfl
  | cons x l ih =>
    intro h;rw [n56_,n28_,ih fun p hp=>h p (n19_ _ hp),h x n27_,n26_];omega
 refine ⟨_,rfl,b,rfl,⟨_,SqT.of hb⟩,fun D nD=>?_⟩;refine Zsq hb bl (by rw [fl ps h3];omega) nD (fun S=>?_);have s1:Same H (upd H D (.set S (cntS ps.flatten))):=Same.new nD;refine ⟨D,S,_,rfl,Zc,_,rfl,a,us,rfl,.inr (SqT.of (s1 _ _ ha)),rfl,?_⟩;have e:V.int (cntS ps.flatten:Nat)=V.int us.length:=by rw [cnt,hl]
 exact qT e (q _ s1)
abbrev Z3:Stmt:=top 29
theorem Za6 (F:Fun K "no_strange_corner" "no_strange_corner" Z3 f fd) (Can_:a11_ P w K mg base):FnOk P w K mg base CX0 3 f fd ["corners","piece","points"] Zeh:=by
 have sc:FnScope ["corners","piece","points","strange"] ["corners","piece","points"] (Zf Z3):=fsc (by decide +kernel);refine F.ok sc (fun vs H Q E h=>by obtain ⟨u,v,w,cs,p,t,rfl,_⟩:=h;rfl) fun cdv A outer s H vs Q E hr h=>?_;obtain ⟨u,v,w,cs,p,t,rfl,⟨a,us,rfl,ha,al⟩,⟨b,rfl,hb⟩,ht,c30,nr,nt,no,q⟩:=h;have nd:=sc.nd;refine' ⟨_,?term,?read⟩
 case term=>refine' Zd (Ze5 (g:=(gTup K 2 (X0 (Y2 0) (X0 (Y2 1) gNil)))) (N:=["number","corner","piece"]) (fr:=[none,none,some 1]) rfl rfl (Zm (i:=3) nd rfl (Or.inl rfl)) (Zv (XN:=["corners","piece","points","strange"]) (Scope.names (Zf Z3)) rfl rfl rfl (fun _ h=>Zr h) (by decide +kernel) rfl) (Zfn .t rfl T.b_enumerate (Za (pv 0) Zb rfl)) (fun _ _ _ _=>Ys (n:=2) rfl (Zl (pgB 0) (Zl (pgB 1) Z7))) (fun _ _ _ _=>Zc2 (Ye (Zf8 K rfl) (pv 0) (pv 2) rfl)) (fun _ _ _ _=>pv 1)) (Zi (Zo (Zqz (Zj (Zl6 rfl) rfl T.b_any Zum (Za (Yq (N:=["corner","points"]) (fr:=[none,some 2]) rfl (Zv (XN:=["corners","piece","points","strange"]) (Scope.names (Zf Z3)) rfl rfl rfl (fun _ h=>Zr h) (by decide +kernel) rfl) (Yg (pv 3)) (fun _ _ _ _=>pgB 0) (fun _ _ _ _=>Zp) (fun _ _ _ _=>Zk Can_ hr (by decide) rfl (Za (pv 0) (Za (pv 1) Zb rfl) rfl))) Zb rfl)))))
 have hl:=al.1;refine ⟨_,rfl,a,rfl,⟨_,SqT.of ha⟩,fun D nD=>?_⟩;refine lc_E (k:=.t) (vs:=us) IsP hRP (fun i=>if (i:Int)∈p then none else cs[i]?) (by omega) nD ha (fun i x H2 C N hx s2 c n=>?_) (fun H2 us' s2 e2 a2=>?_)
 · obtain ⟨g,eg,rg⟩:=al.get hx;refine ⟨_,rfl,_,rfl,b,_,rfl,.inr (SqT.of (s2 _ _ hb)),rfl,by rw [List.all_map];exact n61_.mpr fun _ _=>rfl,_,rfl,?_⟩;rw [Zpa]
   by_cases hm:(i:Int)∈p
   · rw [n29_ hm];exact iteF (n _ (Same.refl _) (by rw [if_pos hm]))
   · rw [n33_ hm];exact iteT ⟨_,rfl,c _ _ g (Same.refl _) (by rw [if_neg hm];exact eg) (rg.tk s2.tk)⟩
 · generalize hst:(List.range us.length).filterMap (fun i:Nat=>if (i:Int)∈p then none else cs[i]?)=st at a2
   have hst2:∀ g∈st,near g∧Zbq g t=false:=by
    intro g hg;rw [← hst] at hg;obtain ⟨i,hi,e⟩:=List.mem_filterMap.mp hg;have hi:=n24_.mp hi;split at e
    · cases e
    · rename_i hm
      have:=no i (by omega) hm
      rw [n2_,e] at this;exact ⟨nr g (n7_ e),this⟩
   have hl3:st.length≤us.length:=by
    rw [← hst]
    have:=List.length_filterMap_le (fun i:Nat=>if (i:Int)∈p then none else cs[i]?) (List.range us.length)
    rwa [n69_] at this
   have l2:=a2.1;refine ⟨_,rfl,D,rfl,⟨_,SqL.of e2⟩,fun E nE=>?_⟩;refine lc_T (k:=.l) (vs:=us') RB hRB (st.map fun g=>Zbq g t) (by simp [l2]) (by omega) nE e2 (fun j x H4 C hx s4 c=>?_) (fun H4 us'' s4 e4 a4=>?_)
   · obtain ⟨g,eg,rg⟩:=a2.get hx;exact ⟨_,rfl,_,rfl,x,w,g,t,rfl,rg.tk s4.tk,ht.tk (s2.trans s4).tk,(hst2 g (n7_ eg)).1,nt,fun H5 s5=>c _ _ _ s5 (by rw [n6_,eg];rfl) rfl⟩
   · rw [a4.bls] at e4;refine ⟨E,_,rfl,SqL.of e4,false,by rw [anyM fun g hg=>(hst2 g hg).2],?_⟩;exact q _ (s2.trans s4)
abbrev Yw:Stmt:=top 30
theorem Zc9 (F:Fun K "fit_together" "fit_together" Yw f fd) (Cag_:a12_ P w K mg base) (Cl_:a13_ P w K mg base) (Caj_:a14_ P w K mg base):FnOk P w K mg base CX0 4 f fd ["corners","pieces"] Zq8:=by
 have sc:FnScope ["corners","pieces","triangles","at","piece","points"] ["corners","pieces"] (Zf Yw):=fsc (by decide +kernel);refine F.ok sc (fun vs H Q E h=>by obtain ⟨u,v,cs,ps,rfl,_⟩:=h;rfl) fun cdv A outer s H vs Q E hr h=>?_;obtain ⟨u,v,cs,ps,rfl,hc,⟨b,ws,rfl,hb,bl⟩,ok,q⟩:=h;have nd:=sc.nd;refine' ⟨_,?term,?read⟩
 case term=>refine' Zd (Ze5 (N:=["piece","corners"]) (fr:=[none,some 0]) rfl rfl (Zm (i:=2) nd rfl (Or.inl rfl)) (Zv (XN:=["corners","pieces","triangles","at","piece","points"]) (Scope.names (Zf Yw)) rfl rfl rfl (fun _ h=>Zr h) (by decide +kernel) rfl) (Y6 (pv 1)) (fun _ _ _ _=>pgB 0) (fun _ _ _ _=>Zp) (fun _ _ _ _=>Zk Caj_ hr (by decide) rfl (Za (pv 1) (Za (pv 0) Zb rfl) rfl))) ?g1;case g1=>refine' Zd ?g2 (Zi (Zo Xf));case g2=>refine' Zav PassesOwn.never rfl (Zk9 .t .l rfl T.b_enumerate rfl T.b_zip (Za (pv 1) (Za (pv 2) Zb rfl) rfl)) (Ys (n:=2) rfl (Zl (Zm (i:=3) nd rfl (Or.inl rfl)) (Zl (Ys (n:=2) rfl (Zl (Zm (i:=4) nd rfl (Or.inl rfl)) (Zl (Zm (i:=5) nd rfl (Or.inr rfl)) Z7))) Z7))) ?g3;case g3=>refine' Zd (Xp (Xe (Zz (Zk Cl_ hr (by decide) rfl (Za (pv 0) (Za (pv 4) (Za (pv 5) Zb rfl) rfl) rfl)) (fun _=>rfl))) (Zi (Zo Xf)) Z4) ?g4;case g4=>refine' Zi ?g5;case g5=>refine' Xp ?g6 (Zi (Zo Xf)) Z4;case g6=>refine' Xe ?g7;case g7=>refine' Zz (Zj (Yv rfl) rfl T.b_all Za8 (Za (Yq (N:=["others","points"]) (fr:=[none,some 5]) rfl (Zv (XN:=["corners","pieces","triangles","at","piece","points"]) (Scope.names (Zf Yw)) rfl rfl rfl (fun _ h=>Zr h) (by decide +kernel) rfl) (Yg (Zfk Zto (pv 2) Zja (Zip (pv 3)))) (fun _ _ _ _=>pgB 0) (fun _ _ _ _=>Zp) (fun _ _ _ _=>Zk Cag_ hr (by decide) rfl (Za (pv 1) (Za (pv 0) Zb rfl) rfl))) Zb rfl)) (fun _=>rfl)
 have hl:=bl.1;have p40:=ok.p40;refine ⟨_,rfl,b,rfl,⟨_,SqT.of hb⟩,fun D nD=>?_⟩;refine lc_T (k:=.t) (vs:=ws) IsT hRT (ps.map (trOf cs)) (by simp [hl]) (by omega) nD hb (fun i w H2 C hw s2 c=>?_) (fun H2 us' s2 e2 a2=>?_)
 · obtain ⟨p,ep,rp⟩:=bl.get hw;have pk:=ok.pc p (n7_ ep);exact ⟨_,rfl,_,rfl,u,w,cs,p,rfl,hc.tk s2.tk,rp.tk s2.tk,pk.len,pk.bd,ok.nr,fun H5 w5 s5 h5=>c _ _ _ s5 (by rw [n6_,ep];rfl) h5⟩
 · have l2:=a2.1;rw [n5_] at l2;have hb2:=s2 _ _ hb;refine ⟨_,rfl,_,rfl,b,D,rfl,⟨_,SqT.of hb2⟩,⟨_,SqL.of e2⟩,?_⟩;refine Zb0 (n:=ps.length) (fun i σ H3=>Same H2 H3∧∃ x y z,σ=[some u,some (.ref b),some (.ref D),x,y,z]) ⟨Same.refl _,_,_,_,rfl⟩ (fun i σ H3 hi p=>⟨ws,us',ws[i]'(by omega),us'[i]'(by omega),SqT.of (p.1 _ _ hb2),SqL.of (p.1 _ _ e2),n1_ (by omega),n1_ (by omega)⟩) (fun σ H3 p=>⟨ws,us',SqT.of (p.1 _ _ hb2),SqL.of (p.1 _ _ e2),by omega⟩) (fun i x σ H3 H4 hi y p=>?_) (fun σ H3 p=>?_)
   · obtain ⟨s3,x1,x2,x3,rfl⟩:=p;obtain ⟨p1,p2,x,y,rfl,n1,n2,ne,rfl,y1,y2⟩:=y;have ex:=y1 ws (SqT.of (s3 _ _ hb2));have ey:=y2 us' (SqL.of (s3 _ _ e2));have sa:Same H3 (upd H3 p1 (.tup [x,y])):=Same.new n1;have sb:Same (upd H3 p1 (.tup [x,y])) (upd (upd H3 p1 (.tup [x,y])) p2 (.tup [.int i,.ref p1])):=Same.new (by rw [Zh ne.symm];exact n2);have e5:upd (upd H3 p1 (.tup [x,y])) p2 (.tup [.int i,.ref p1]) p1=some (.tup [x,y]):=sb _ _ Zc;have e6:upd (upd H3 p1 (.tup [x,y])) p2 (.tup [.int i,.ref p1]) p2=some (.tup [.int i,.ref p1]):=Zc;have s4:=s3.trans (sa.trans sb);generalize upd (upd H3 p1 (.tup [x,y])) p2 (.tup [.int i,.ref p1])=H4 at s4 e5 e6;obtain ⟨p,ep,rp⟩:=bl.get ex;obtain ⟨t,et,rt'⟩:=a2.get ey;rw [n6_,ep] at et;cases et
     have pk:=ok.pc p (n7_ ep);have tn':=Zii pk.bd pk.len ok.nr;have gp:ps.getD i []=p:=by rw [n2_,ep];rfl
     refine ⟨p2,_,rfl,SqT.of e6,rfl,_,_,rfl,_,_,rfl,⟨p1,_,rfl,SqT.of e5,rfl,x,_,rfl,y,_,rfl,rfl,rfl,?_⟩⟩;have s04:=s2.trans s4;refine ⟨_,rfl,_,rfl,_,rfl,u,x,y,cs,p,_,rfl,hc.tk s04.tk,rp.tk s04.tk,rt'.tk s4.tk,ok.c30,ok.nr,tn',ok.strange p (n7_ ep),fun H5 s5=>⟨true,rfl,iteF ?_⟩⟩;have s45:=s4.trans s5;refine ⟨_,rfl,_,rfl,_,rfl,D,us',rfl,SqL.of (s45 _ _ e2),fun r nr'=>?_⟩;have s6:Same H5 (upd H5 r (.lst (us'.take i))):=Same.new nr';rw [Zwb _ _ (by omega)];have e7:upd H5 r (.lst (us'.take i)) r=some (.lst (us'.take i)):=Zc;generalize upd H5 r (.lst (us'.take i))=H6 at s6 e7 ⊢;refine ⟨r,rfl,⟨_,SqL.of e7⟩,fun E nE=>?_⟩;have s46:=s45.trans s6;refine lc_T (k:=.l) (vs:=us'.take i) RB hRB (List.replicate i true) (by simp;omega) (by simp;omega) nE e7 (fun j w H8 C hw s8 c=>?_) (fun H8 us'' s8 e8 a8=>?_)
     · have hj:j<i:=by
        have:=Xd hw
        rw [n65_] at this;omega
       rw [List.getElem?_take_of_lt hj] at hw;obtain ⟨t2,et2,rt2⟩:=a2.get hw;rw [n6_] at et2;obtain ⟨p',ep',rfl⟩:=n10_.mp et2;have pk':=ok.pc p' (n7_ ep');have gp':ps.getD j []=p':=by rw [n2_,ep'];rfl
       have ap:=ok.apart j i hj hi;rw [gp,gp'] at ap;have s48:=s46.trans s8;refine ⟨_,rfl,_,rfl,y,w,_,_,rfl,rt'.tk s48.tk,rt2.tk s48.tk,tn',Zii pk'.bd pk'.len ok.nr,fun H9 s9=>c _ _ true s9 (repT hj) (congrArg V.bl ap)⟩
     · rw [a8.bls] at e8;refine ⟨E,_,rfl,SqL.of e8,true,by rw [allT];rfl,iteF ?_⟩;exact ⟨s46.trans s8,_,_,_,rfl⟩
   · obtain ⟨s3,x1,x2,x3,rfl⟩:=p;exact q _ (s2.trans s3)
abbrev Zb2:Stmt:=top 31
theorem Ziv (F:Fun K "is_plate" "is_plate" Zb2 f fd) (Cw_:a15_ P w K mg base) (Cy_:a16_ P w K mg base) (Cz_:a17_ P w K mg base) (Ck_:a18_ P w K mg base) (Cs_:a19_ P w K mg base) (Cc_:a2_ P w K mg base) (Cak_:a20_ P w K mg base):FnOk P w K mg base CX0 5 f fd ["thing"] Zek:=by
 have sc:FnScope ["thing","corners","pieces","thicks","stuff"] ["thing"] (Zf Zb2):=fsc (by decide +kernel);refine F.ok sc (fun vs H Q E h=>by obtain ⟨v,P',rfl,_⟩:=h;rfl) fun cdv A outer s H vs Q E hr h=>?_;obtain ⟨v,P',rfl,⟨a,c,p,t,st,rfl,ha,hc,hp,ht,hs⟩,ok,q⟩:=h;have nd:=sc.nd;refine' ⟨_,?term,?read⟩
 case term=>refine' Zd (Xp (Xe (Zz (Zk Cc_ hr (by decide) rfl (Za (pv 0) (Za Ze (Za Ze Zb rfl) rfl) rfl)) (fun _=>rfl))) (Zi (Zo Xf)) Z4) ?g1;case g1=>refine' Zd (Zah (pv 0) (Ys (n:=4) rfl (Zl (Zm (i:=1) nd rfl (Or.inl rfl)) (Zl (Zm (i:=2) nd rfl (Or.inl rfl)) (Zl (Zm (i:=3) nd rfl (Or.inl rfl)) (Zl (Zm (i:=4) nd rfl (Or.inl rfl)) Z7)))))) ?g2;case g2=>refine' Zd ?g3 ?g4;(case g3=>refine' Xp ?g5 (Zi (Zo Xf)) Z4;case g5=>refine' PW.pt ?g6;case g6=>refine' Zd0 (Xe (Zz (Zk Cw_ hr (by decide) rfl (Za (pv 1) Zb rfl)) (fun _=>rfl))) (Za9 (Xe (Zz (Zk Cy_ hr (by decide) rfl (Za (pv 1) (Za (pv 2) Zb rfl) rfl)) (fun _=>rfl)))));case g4=>refine' Zd ?g7 (Zi (Zo (Zc4 (Zk Ck_ hr (by decide) rfl (Za (pv 1) (Za (pv 2) Zb rfl) rfl)) (Zce (Zk Cs_ hr (by decide) rfl (Za (pv 1) (Za (pv 2) Zb rfl) rfl))))));case g7=>refine' Xp ?g8 (Zi (Zo Xf)) Z4;case g8=>refine' PW.pt ?g9;case g9=>refine' Zd0 (Xe (Zz (Zk Cz_ hr (by decide) rfl (Za (pv 2) (Za (pv 3) Zb rfl) rfl)) (fun _=>rfl))) (Za9 (Xe (Zz (Zk Cak_ hr (by decide) rfl (Za (pv 4) Zb rfl)) (fun _=>rfl))))
 refine ⟨_,rfl,a,_,4,4,rfl,ha,by simp,by simp,true,rfl,iteF ?_⟩;refine ⟨_,rfl,a,_,rfl,SqT.of ha,rfl,c,_,rfl,p,_,rfl,t,_,rfl,st,_,rfl,rfl,?_⟩;refine ⟨_,rfl,c,P'.cs,rfl,hc,ok.c3,ok.c30,ok.nr,ok.nd,fun H1 s1=>⟨true,rfl,iteF ?_⟩⟩;refine ⟨_,rfl,_,rfl,c,p,P'.cs,P'.ps,rfl,hc.tk s1.tk,hp.tk s1.tk,ok.p1,ok.p40,ok.pc,ok.rise,ok.nr,fun H2 s2=>⟨true,rfl,iteF ?_⟩⟩;have s12:=s1.trans s2;refine ⟨_,rfl,_,rfl,p,t,P'.ps,P'.ts,rfl,hp.tk s12.tk,ht.tk s12.tk,ok.t1,ok.p40,ok.t9,fun H3 s3=>⟨true,rfl,iteF ?_⟩⟩;have s13:=s12.trans s3;refine ⟨_,rfl,st,P'.l,P'.m,rfl,hs.tk s13.tk,ok.l9,ok.m9,true,rfl,iteF ?_⟩;refine ⟨_,rfl,_,rfl,c,p,P'.cs,P'.ps,rfl,hc.tk s13.tk,hp.tk s13.tk,fun x hx=>(ok.pc x hx).len,ok.p40,ok.used,ok.c30,fun H4 s4=>⟨true,rfl,iteT ?_⟩⟩;have s14:=s13.trans s4;exact ⟨_,rfl,_,rfl,c,p,P'.cs,P'.ps,rfl,hc.tk s14.tk,hp.tk s14.tk,⟨ok.c30,ok.nr,ok.p40,ok.pc,ok.strange,ok.apart⟩,fun H5 s5=>q _ (s14.trans s5)⟩
abbrev Xn:Stmt:=top 32
theorem Zcv (F:Fun K "look_at_plate" "look_at_plate" Xn f fd) (Ce_:a21_ P w K mg base):FnOk P w K mg base CX0 6 f fd ["plate"] Zcd:=by
 have sc:FnScope ["plate"] ["plate"] (Zf Xn):=fsc (by decide +kernel);refine F.ok sc (fun vs H Q E h=>by obtain ⟨v,P',rfl,_⟩:=h;rfl) fun cdv A outer s H vs Q E hr h=>?_;obtain ⟨v,P',rfl,hv,ok,q⟩:=h;refine' ⟨_,?term,?read⟩
 case term=>refine' Zi (Xp (Xe (Zz (Zk Ce_ hr (by decide) rfl (Za (pv 0) Zb rfl)) (fun _=>rfl))) Zn6 Z4)
 exact ⟨_,rfl,v,P',rfl,hv,ok,fun H1 s1=>⟨true,rfl,iteF (q _ s1)⟩⟩
abbrev Zb3:Stmt:=top 33
theorem Ziz (F:Fun K "sides_of" "sides_of" Zb3 f fd):FnOk P w K mg base CX0 1 f fd ["piece"] Zed:=by
 have sc:FnScope ["piece","first","second","third"] ["piece"] (Zf Zb3):=fsc (by decide +kernel);refine F.ok sc (fun vs H Q E h=>by obtain ⟨v,p,rfl,_⟩:=h;rfl) fun cdv A outer s H vs Q E hr h=>?_;obtain ⟨v,p,rfl,⟨a,rfl,ha⟩,h3,q⟩:=h;have nd:=sc.nd;refine' ⟨_,?term,?read⟩
 case term=>refine' Zd (Zah (pv 0) (Ys (n:=3) rfl (Zl (Zm (i:=1) nd rfl (Or.inl rfl)) (Zl (Zm (i:=2) nd rfl (Or.inl rfl)) (Zl (Zm (i:=3) nd rfl (Or.inl rfl)) Z7))))) (Zi (Zo (Y8 (Za (Yb (Za (pv 1) (Za (pv 2) Zb rfl) rfl)) (Za (Yb (Za (pv 1) (Za (pv 3) Zb rfl) rfl)) (Za (Yb (Za (pv 2) (Za (pv 3) Zb rfl) rfl)) Zb rfl) rfl) rfl))))
 obtain ⟨i,j,k,rfl⟩:∃ i j k,p=[i,j,k]:=⟨_,_,_,Zwm h3⟩;refine ⟨_,rfl,a,_,rfl,SqT.of ha,rfl,_,_,rfl,_,_,rfl,_,_,rfl,rfl,?_⟩;refine ⟨_,rfl,_,rfl,z2_,?_⟩;intro p1 n1;generalize hH1:upd H p1 _=H1;have S1:Same H H1:=by (rw [← hH1];exact Same.new n1)
 have A1:=(congrFun hH1 p1).symm;rw [Zc] at A1;clear hH1;refine ⟨_,rfl,_,rfl,z2_,?_⟩;intro p2 n2;generalize hH2:upd H1 p2 _=H2;have S2:Same H1 H2:=by (rw [← hH2];exact Same.new n2)
 have A2:=(congrFun hH2 p2).symm;rw [Zc] at A2;clear hH2;refine ⟨_,rfl,_,rfl,z2_,?_⟩;intro p3 n3;generalize hH3:upd H2 p3 _=H3;have S3:Same H2 H3:=by (rw [← hH3];exact Same.new n3)
 have A3:=(congrFun hH3 p3).symm;rw [Zc] at A3;clear hH3;refine ⟨z3_,?_⟩;intro p4 n4;generalize hH4:upd H3 p4 _=H4;have S4:Same H3 H4:=by (rw [← hH4];exact Same.new n4)
 have A4:=(congrFun hH4 p4).symm;rw [Zc] at A4;clear hH4;refine q _ p4 [(p1,[i,j]),(p2,[i,k]),(p3,[j,k])] (S1.trans (S2.trans (S3.trans S4))) (Yu (S1.trans (S2.trans S3)) n4) A4 (fun x hx=>?_) rfl;simp only [n12_,n16_,or_false] at hx
 rcases hx with rfl|rfl|rfl
 · exact (S4 _ _ (S3 _ _ (S2 _ _ A1)))
 · exact (S4 _ _ (S3 _ _ A2))
 · exact (S4 _ _ A3)
abbrev Zf5:Stmt:=top 34
theorem Zot (F:Fun K "owners" "owners" Zf5 f fd) (Cal_:a22_ P w K mg base):FnOk P w K mg base CX0 2 f fd ["plate"] Zgr:=by
 have sc:FnScope ["plate","found","number","piece","side"] ["plate"] (Zf Zf5):=fsc (by decide +kernel);refine F.ok sc (fun vs H Q E h=>by obtain ⟨v,P',rfl,_⟩:=h;rfl) fun cdv A outer s H vs Q E hr h=>?_;obtain ⟨v,P',rfl,⟨a,c,p,t,st,rfl,ha,hc,⟨b,ws,rfl,hb,bl⟩,ht,hs⟩,p3,p20,q⟩:=h;have nd:=sc.nd;have hu:=Zm9 hr;refine' ⟨_,?term,?read⟩
 case term=>refine' Zd (Zy (i:=1) nd rfl (Or.inl rfl) Zqm) (Zd (Zav PassesOwn.never rfl (Zfn .t rfl T.b_enumerate (Za (Zu Z1 (pv 0) Ze (fun _ _=>rfl)) Zb rfl)) (Ys (n:=2) rfl (Zl (Zm (i:=2) nd rfl (Or.inl rfl)) (Zl (Zm (i:=3) nd rfl (Or.inl rfl)) Z7))) (Zi (Zav PassesOwn.never rfl (Yg (Zk Cal_ hr (by decide) rfl (Za (pv 3) Zb rfl))) (Zm (i:=4) nd rfl (Or.inl rfl)) (Zi (Zam (Zhe PySem.F.plainAttrs_list PySem.F.slot_list_append PySem.F.type_list_append Zbz (Zhe PySem.F.plainAttrs_dict PySem.F.slot_dict_setdefault PySem.F.type_dict_setdefault (Zlb hu) (pv 1) (Za (pv 4) (Za (Y8 Zb) Zb rfl) rfl)) (Za (pv 2) Zb rfl))))))) (Zi (Zo (pv 1))))
 have hl:=bl.1;intro D nD;generalize gG:upd H D (.dT [])=H1;obtain ⟨s1,e1⟩:=gen_upd gG nD;refine ⟨_,rfl,a,_,1,_,rfl,rfl,SqT.of (s1 _ _ ha),rfl,b,rfl,⟨_,SqT.of (s1 _ _ hb)⟩,?_⟩;refine Zb0 (n:=P'.ps.length) (fun i σ H2=>∃ w2 w3 w4 g ads,σ=[some (.ref a),some (.ref D),w2,w3,w4]∧Same H H2∧OwnA H H2 D g ads∧GI g (Zal P'.ps i)) ⟨_,_,_,[],[],rfl,s1,⟨e1,rfl,List.nodup_nil,by simp,fun i a e h=>by simp at h,by simp,nD⟩,.nil⟩ (fun i σ H2 hi pp=>?_) (fun σ H2 pp=>?_) (fun i x σ H2 H3 hi y pp=>?_) (fun σ H2 pp=>?_)
 · obtain ⟨_,_,_,_,_,_,s2,_⟩:=pp;exact ⟨ws,ws[i]'(by omega),SqT.of (s2 _ _ hb),n1_ (by omega)⟩
 · obtain ⟨_,_,_,_,_,_,s2,_⟩:=pp;exact ⟨ws,SqT.of (s2 _ _ hb),by omega⟩
 · obtain ⟨w2,w3,w4,g,ads,rfl,s2,o2,g2⟩:=pp;obtain ⟨p1,x,rfl,n1,rfl,y1⟩:=y;have ex:=y1 ws (SqT.of (s2 _ _ hb));obtain ⟨p',ep,rp⟩:=bl.get ex;have gp:P'.ps.getD i []=p':=by rw [n2_,ep];rfl
   generalize gG:upd H2 p1 (.tup [.int i,x])=H3;obtain ⟨sa,e3⟩:=gen_upd gG n1;have o3:=o2.more sa;have s3:=s2.trans sa;refine ⟨p1,_,rfl,SqT.of e3,rfl,_,_,rfl,_,_,rfl,rfl,?_⟩;refine ⟨_,rfl,x,p',rfl,rp.tk s3.tk,p3 p' (n7_ ep),fun H4 L al s4 nL eL tp ek=>⟨L,rfl,⟨_,SqL.of eL⟩,?_⟩⟩;have o4:=o3.more s4;have s04:=s3.trans s4
   have hL:L∉ads:=fun z=>by
    obtain ⟨_,e⟩:=o3.has z;rw [nL] at e;cases e
   have nLD:L≠D:=fun z=>by rw [z,o3.dt] at nL;cases nL
   refine Zc1 (xs:=refs al) (fun m σ H5=>∃ w4 g ads,σ=[some (.ref a),some (.ref D),some (.int i),some x,w4]∧Same H H5∧H5 L=some (.lst (refs al))∧(∀ x∈al,tpl H5 x)∧L∉ads∧OwnA H H5 D g ads∧GI g (Zal P'.ps i++((Z0 p').take m).map fun s=>(s,(i:Int)))) ⟨_,g,ads,rfl,s04,eL,tp,hL,o4,by simpa using g2⟩ ?_ ?_ ?_
   · rintro m σ H5 _ ⟨_,_,_,_,_,e5,_⟩
     exact SqL.of e5
   · rintro m w σ H5 hw ⟨w4',g5,ads5,rfl,s5,eL5,tp5,hL5,o5,gi5⟩
     rw [n6_] at hw;obtain ⟨y,ey,rfl⟩:=n10_.mp hw;have ey2:(Z0 p')[m]? = some y.2:=by rw [← ek,n6_,ey];rfl
     have hm:=(n9_.mp ey2).1
     have qs:(Zal P'.ps i++((Z0 p').take (m+1)).map fun s=>(s,(i:Int)))=(Zal P'.ps i++((Z0 p').take m).map fun s=>(s,(i:Int)))++[(y.2,(i:Int))]:=by
      rw [List.take_succ,ey2,n48_,← n57_];rfl
     have tpy:=tp5 y (n7_ ey);have lq:=Zvr P'.ps i m (by omega);rw [gp] at lq;have lk:=Zu8 gi5 lq o5.len;refine ⟨_,rfl,.inr (.inr (.inl ⟨rfl,.inr ⟨_,o5.dt⟩⟩)),_,rfl,z0_,fun L0 n0=>?_⟩;generalize gG:upd H5 L0 (.lst [])=H6;obtain ⟨s6,e6⟩:=gen_upd gG n0;have o6:=o5.more s6;have d0:L0≠D:=fun z=>by rw [z,o5.dt] at n0;cases n0
     have h0:L0∉ads5:=fun z=>by
      obtain ⟨_,e⟩:=o5.has z;rw [n0] at e;cases e
     have l0:L≠L0:=fun z=>by rw [← z,eL5] at n0;cases n0
     refine ⟨D,y.1,kvO g5 ads5,y.2.map Sum.inl,_,rfl,rfl,o6.dt,(by rw [kVs];exact s6 _ _ tpy),lk,fun u hu'=>?_,fun hn=>?_⟩
     · obtain ⟨j,u',e,hj,hg,he,rfl⟩:=(valO o6.len y.2).1 u hu';have eu:=o6.at_ j u' e hj hg;have le:=gi5.le (n7_ hg);have nu:u'≠L:=fun z=>hL5 (z ▸ n7_ hj);refine ⟨.inl ⟨rfl,_,SqL.of eu⟩,_,rfl,u',_,_,rfl,rfl,eu,by rw [n5_,sizeLine_eq];omega,?_⟩;have o7:=o6.old gi5.nd (i:Int) hj hg he;have fu:=o6.fr u' (n7_ hj);refine ⟨_,_,_,rfl,fun b o eb=>?_,?_,fun x hx=>?_,hL5,o7,by rw [qs];exact gi5.ins y.2 i⟩
       · rw [Zh (Zg eb fu)];exact s6 _ _ (s5 _ _ eb)
       · rw [Zh nu.symm];exact s6 _ _ eL5
       · have:=s6 _ _ (tp5 x hx)
         show upd H6 u' _ x.1=_
         rw [Zh (fun z=>by rw [z,eu] at this;cases this)];exact this
     · refine ⟨.inl ⟨rfl,_,SqL.of (by rw [Zh d0];exact e6)⟩,_,rfl,L0,_,_,rfl,rfl,(by rw [Zh d0];exact e6),by show 0<sizeLine;decide,?_⟩;have f0:=Yu s5 n0;have o7:=o6.new (s:=y.2) (i:Int) hn h0 d0 f0;refine ⟨_,_,_,rfl,fun b o eb=>?_,?_,fun x hx=>?_,?_,o7,by rw [qs];exact gi5.ins y.2 i⟩
       · rw [Zh (Zg eb f0),Zh (Zg eb o6.frD)];exact s6 _ _ (s5 _ _ eb)
       · rw [Zh l0,Zh nLD];exact s6 _ _ eL5
       · have:=s6 _ _ (tp5 x hx)
         show upd (upd H6 D _) L0 _ x.1=_
         rw [Zh (fun z=>by rw [z,e6] at this;cases this),Zh (fun z=>by rw [z,o6.dt] at this;cases this)];exact this
       · rw [n34_,not_or];exact ⟨hL5,fun z=>l0 (n22_.mp z)⟩
   · rintro σ H5 ⟨w4',g5,ads5,rfl,s5,eL5,tp5,hL5,o5,gi5⟩
     refine ⟨_,_,_,g5,ads5,rfl,s5,o5,?_⟩
     have la:(refs al).length=3:=by
      have:=congrArg List.length ek
      simpa [Z0] using this
     rw [la,n72_ (show (Z0 p').length≤3 from n14_ 3)] at gi5;rw [Zei,gp];exact gi5
 · obtain ⟨w2,w3,w4,g,ads,rfl,s2,o2,g2⟩:=pp;exact ⟨_,rfl,q H2 D g ads s2 o2 g2⟩
abbrev Zi1:Stmt:=top 35
theorem Zqr (F:Fun K "sides" "sides" Zi1 f fd) (Cb_:a23_ P w K mg base) (Ch_:a24_ P w K mg base):FnOk P w K mg base CX0 7 f fd ["plate"] Zku:=by
 have sc:FnScope ["plate"] ["plate"] (Zf Zi1):=fsc (by decide +kernel);refine F.ok sc (fun vs H Q E h=>by obtain ⟨v,P',rfl,_⟩:=h;rfl) fun cdv A outer s H vs Q E hr h=>?_;obtain ⟨v,P',rfl,hv,ok,p20,q⟩:=h;refine' ⟨_,?term,?read⟩
 case term=>refine' Zd (Zam (Zk Cb_ hr (by decide) rfl (Za (pv 0) Zb rfl))) (Zi (Zo (Zj (Zci rfl) rfl T.b_sorted Z2 (Za (Zk Ch_ hr (by decide) rfl (Za (pv 0) Zb rfl)) Zb rfl))))
 refine ⟨_,rfl,v,P',rfl,hv,ok,fun H1 s1=>?_⟩;refine ⟨_,rfl,v,P',rfl,hv.tk s1.tk,pc3 ok,p20,fun H2 D g ads s2 o2 gi=>?_⟩;refine ⟨D,kvO g ads,g.map (·.1),rfl,o2.dt,Zkj o2.len,gi.nd,Zrd gi,Zi7 gi p20,fun l ql nl tp pm rs=>?_⟩;have s3:Same H2 (upd H2 l (.lst (refs ql))):=Same.new nl;exact q _ l ql (s1.trans (s2.trans s3)) (Yu (s1.trans s2) nl) Zc (fun x hx=>s3 _ _ (tp x hx)) rs fun k=>pm.mem_iff.trans (Zod gi k)
abbrev Zqj:Stmt:=top 36
theorem Zt4 (F:Fun K "rim" "rim" Zqj f fd) (Cb_:a23_ P w K mg base) (Ch_:a24_ P w K mg base):FnOk P w K mg base CX0 7 f fd ["plate"] Zq2:=by
 have sc:FnScope ["plate","found"] ["plate"] (Zf Zqj):=fsc (by decide +kernel);refine F.ok sc (fun vs H Q E h=>by obtain ⟨v,P',rfl,_⟩:=h;rfl) fun cdv A outer s H vs Q E hr h=>?_;obtain ⟨v,P',rfl,hv,ok,p20,q⟩:=h;have nd:=sc.nd;have hu:=Zm9 hr;refine' ⟨_,?term,?read⟩
 case term=>refine' Zd (Zam (Zk Cb_ hr (by decide) rfl (Za (pv 0) Zb rfl))) (Zd (Zy (i:=1) nd rfl (Or.inr rfl) (Zk Ch_ hr (by decide) rfl (Za (pv 0) Zb rfl))) (Zi (Zo (Yq (N:=["side","found"]) (fr:=[none,some 1]) rfl (Zv (XN:=["plate","found"]) (Scope.names (Zf Zqj)) rfl rfl rfl (fun _ h=>Zr h) (by decide +kernel) rfl) (Yg (Zj (Zci rfl) rfl T.b_sorted Z2 (Za (pv 1) Zb rfl))) (fun _ _ _ _=>pgB 0) (fun _ _ _ _=>Zc2 (Ye Zlt (Zj (Zbv K rfl) rfl T.b_len Yt (Za (Zs2 hu (pv 1) (pv 0) (fun _ _=>rfl)) Zb rfl)) Ze (Yo _))) (fun _ _ _ _=>pv 0)))))
 refine ⟨_,rfl,v,P',rfl,hv,ok,fun H1 s1=>?_⟩;refine ⟨_,rfl,v,P',rfl,hv.tk s1.tk,pc3 ok,p20,fun H2 D g ads s2 o2 gi=>?_⟩;refine ⟨_,rfl,D,kvO g ads,g.map (·.1),rfl,o2.dt,Zkj o2.len,gi.nd,Zrd gi,Zi7 gi p20,fun l ql nl tp pm rs=>?_⟩;generalize gG:upd H2 l (.lst (refs ql))=H3;obtain ⟨s3,e3⟩:=gen_upd gG nl;have o3:=o2.more s3;have s03:=s1.trans (s2.trans s3)
 have lq:ql.length<64:=by
  have:=pm.length_eq
  rw [n5_] at this
  have:=Zi7 gi p20
  omega
 refine ⟨l,rfl,⟨_,SqL.of e3⟩,fun E nE=>?_⟩;refine lc_F (k:=.l) (vs:=refs ql) IsR hIsR (fun i=>(ql[i]?).filter fun x=>decide ((Zn P'.ps).count x.2=1)) (by rw [n5_];omega) nE e3 (fun i w H4 C N hw s4 c n=>?_) (fun H4 us s4 e4 al=>?_)
 · rw [n6_] at hw;obtain ⟨y,ey,rfl⟩:=n10_.mp hw;have ym:=n7_ ey;have hy:y.2∈g.map (·.1):=pm.mem_iff.mp (n39_ ym);obtain ⟨j,u,e,x1,x2,x3,x4⟩:=Zpd o3.len gi.nd hy;have o4:=o3.more s4;have ty:=s4 _ _ (s3 _ _ (tp y ym));have cnt:=gi.count (n7_ x2);rw [Zdc,x3] at cnt;refine ⟨_,rfl,_,rfl,D,.ref u,rfl,?_,u,_,rfl,.inl (SqL.of (o4.at_ j u e x1 x2)),rfl,?_⟩
   · rw [← x4];exact DGet.tq o4.dt (by rw [kVs];exact ty)
   · refine ⟨_,rfl,?_⟩;rw [n5_,cnt]
     by_cases h:(Zn P'.ps).count y.2=1
     · rw [h,show decide (V.int ((1:Nat):Int)=V.int 1)=true from n29_ rfl];exact iteT ⟨_,rfl,c _ _ y (Same.refl _) (by rw [ey];simp [h]) ⟨rfl,ty⟩⟩
     · have:decide (V.int ((Zn P'.ps).count y.2:Nat)=V.int 1)=false:=n33_ fun z=>h (by injection z with z;omega)
       rw [this];exact iteF (n _ (Same.refl _) (by rw [ey];simp [h]))
 · rw [n5_,Zcs _ _ _ (n14_ _),List.take_length] at al;obtain ⟨rfl,tp4⟩:=Zmm al;refine q H4 E _ (s03.trans s4) (Yu s03 nE) e4 tp4 (rs.sublist List.filter_sublist) fun k=>?_;rw [← Zod gi k,← pm.mem_iff,n18_,n18_];constructor
   · rintro ⟨x,hx,rfl⟩
     obtain ⟨h1,h2⟩:=n71_.mp hx;exact ⟨⟨x,h1,rfl⟩,by simpa using h2⟩
   · rintro ⟨⟨x,hx,rfl⟩,h2⟩
     exact ⟨x,n71_.mpr ⟨hx,by simpa using h2⟩,rfl⟩
abbrev Zar:Stmt:=top 37
theorem Zfv (F:Fun K "neighbours" "neighbours" Zar f fd) (Ch_:a24_ P w K mg base):FnOk P w K mg base CX0 3 f fd ["plate"] Zna:=by
 have sc:FnScope ["plate","found","numbers","number"] ["plate"] (Zf Zar):=fsc (by decide +kernel);refine F.ok sc (fun vs H Q E h=>by obtain ⟨v,P',rfl,_⟩:=h;rfl) fun cdv A outer s H vs Q E hr h=>?_;obtain ⟨v,P',rfl,hv,p3,p20,q⟩:=h;have nd:=sc.nd;refine' ⟨_,?term,?read⟩
 case term=>refine' Zd (Ze5 (N:=["piece"]) (fr:=[none]) rfl rfl (Zm (i:=1) nd rfl (Or.inl rfl)) (Yn (by decide) rfl (by decide) rfl rfl) (Y6 (Zu Z1 (pv 0) Ze (fun _ _=>rfl))) (fun _ _ _ _=>pgB 0) (fun _ _ _ _=>Zp) (fun _ _ _ _=>Y8 Zb)) (Zd (Zav PassesOwn.never rfl (Zsm (Zk Ch_ hr (by decide) rfl (Za (pv 0) Zb rfl))) (Zm (i:=2) nd rfl (Or.inl rfl)) (Zi (Zav PassesOwn.never rfl (Yg (pv 2)) (Zm (i:=3) nd rfl (Or.inl rfl)) (Zi (Zam (Zhe PySem.F.plainAttrs_list PySem.F.slot_list_extend PySem.F.type_list_extend Zoz (Zu Ym (pv 1) (pv 3) (fun _ _=>rfl)) (Za (pv 2) Zb rfl))))))) (Zi (Zo (pv 1))))
 obtain ⟨a,c,p,t,st,rfl,ha,hc,⟨b,ws,rfl,hb,bl⟩,ht,hs⟩:=id hv;have hl:=bl.1;refine ⟨_,rfl,a,_,1,_,rfl,rfl,SqT.of ha,rfl,b,rfl,⟨_,SqT.of hb⟩,fun F nF=>?_⟩;refine Zuk (k:=.t) (vs:=ws) (by omega) nF hb fun H2 as s2 las nda has eF=>?_;refine ⟨_,rfl,.ref a,P',rfl,hv.tk s2.tk,p3,p20,fun H3 D g ads s3 o3 gi=>⟨D,kvO g ads,rfl,o3.dt,fun ob=>?_⟩⟩;have lan:as.length=P'.ps.length:=by omega
 have nFD:F≠D:=fun z=>by have:=o3.frD;rw [← z,eF] at this;cases this
 have dz:∀ x o,H3 x=some o→x≠D→upd H3 D (.frz ob (.dT (kvO g ads))) x=some o:=fun x o e ne=>by rw [Zh ne];exact e
 have nDas:∀ x∈as,x≠D:=fun x hx z=>by have:=o3.frD;rw [← z,(has x hx).1] at this;cases this
 have kl:=Zmu o3.len;have gl:g.length≤60:=by have:=gi.len;rw [Zbw] at this;omega
 have dis:∀ x∈as,x∉ads:=fun x hx hx'=>by have:=o3.fr x hx';rw [(has x hx).1] at this;cases this
 have nFas:∀ x∈as,x≠F:=fun x hx=>(has x hx).2.2;have el:∀ e∈g,e.2.length≤60:=fun e he=>by have:=gi.le he;rw [Zbw] at this;omega
 have n0:NearG H (upd H3 D (.frz ob (.dT (kvO g ads)))) F D ob as ads g (fun _=>[]) (fun i x=>∃ e∈g.take 0,(i:Int)∈e.2∧x∈e.2) 0 :=
  ⟨fun x o e=>dz x o (s3 _ _ (s2 _ _ e)) (fun z=>by have:=Yu s2 o3.frD;rw [← z,e] at this;cases this),dz _ _ (s3 _ _ eF) nFD,Zc,fun i x e h1 h2=>dz _ _ (o3.at_ i x e h1 h2) (fun z=>o3.nD (z ▸ n7_ h1)),fun i x hx=>by have hm:=n7_ hx;exact dz _ _ (s3 _ _ (has x hm).1) (nDas x hm),fun i _ x=>by simp,fun i _=>n55_ _⟩
 generalize upd H3 D (.frz ob (.dT (kvO g ads)))=H4 at n0 ⊢;refine Zb0 (n:=g.length) (fun k σ H5=>∃ w2 w3 nf,σ=[some (.ref a),some (.ref F),w2,w3]∧NearG H H5 F D ob as ads g nf (fun i x=>∃ e∈g.take k,(i:Int)∈e.2∧x∈e.2) (3600*k)) ⟨_,_,_,rfl,n0⟩ (fun k σ H5 hk pp=>?_) (fun σ H5 pp=>?_) (fun k x σ H5 H6 hk y pp=>?_) (fun σ H5 pp=>?_)
 · obtain ⟨_,_,_,_,N5⟩:=pp;exact ⟨_,N5.eD,by rw [kl];exact hk⟩
 · obtain ⟨_,_,_,_,N5⟩:=pp;exact ⟨_,N5.eD,by rw [kl];exact n14_ _⟩
 · obtain ⟨w2,w3,nf,rfl,N5⟩:=pp;obtain ⟨k',rfl,y2⟩:=y;have ek:=y2 _ N5.eD;have ha':ads[k]? = some (ads[k]'(by rw [o3.len];exact hk)):=n1_ _;have hg':g[k]? = some g[k]:=n1_ hk;obtain ⟨u,hu'⟩:∃ u,ads[k]? = some u:=⟨_,ha'⟩;obtain ⟨e,he⟩:∃ e,g[k]? = some e:=⟨_,hg'⟩
   have:x=.ref u:=by
    have ez:(g.zip ads)[k]? = some (e,u):=List.getElem?_zip_eq_some.mpr ⟨he,hu'⟩;rw [n6_,ez] at ek
    simpa using (congrArg Prod.snd (Option.some.inj ek)).symm
   subst this;have eu:=N5.av k u e hu' he;have hem:=n7_ he;have hum:=n7_ hu';have e60:=el e hem;refine ⟨_,rfl,u,rfl,⟨_,SqL.of eu⟩,?_⟩;refine Zc1 (xs:=e.2.map V.int) (fun m σ H6=>∃ w3 nf,σ=[some (.ref a),some (.ref F),some (.ref u),w3]∧NearG H H6 F D ob as ads g nf (fun i x=>(∃ e∈g.take k,(i:Int)∈e.2∧x∈e.2)∨((i:Int)∈e.2.take m∧x∈e.2)) (3600*k+60*m)) ⟨_,nf,rfl,N5.sm,N5.eF,N5.eD,N5.av,N5.at_,fun i hi x=>(N5.mem i hi x).trans (by simp),N5.le⟩ ?_ ?_ ?_
   · rintro m σ H6 _ ⟨_,_,_,N6⟩
     exact SqL.of (N6.av k u e hu' he)
   · rintro m w σ H6 hw ⟨w3',nf6,rfl,N6⟩
     rw [n6_] at hw;obtain ⟨j,ej,rfl⟩:=n10_.mp hw;have hm60:=(n9_.mp ej).1;obtain ⟨j',rfl,hj,_⟩:=(gi.mem hem).mp (n7_ ej);obtain ⟨z,hz⟩:∃ z,as[j']? = some z:=⟨_,n1_ (by omega)⟩;have hzm:=n7_ hz;have ez:=N6.at_ j' z hz;have eu6:=N6.av k u e hu' he;have lz:=N6.le j' (by omega);refine ⟨_,rfl,_,rfl,F,_,(j':Int),.ref z,rfl,rfl,SqL.of N6.eF,Xk (by rw [n6_,hz];rfl),.inl ⟨rfl,_,SqL.of ez⟩,_,rfl,z,u,_,_,rfl,rfl,ez,eu6,by rw [n5_,n5_,sizeLine_eq];omega,?_⟩;have nz':∀ x∈ads,x≠z:=fun x hx e=>dis z hzm (e ▸ hx);refine ⟨_,fun i=>if i=j' then nf6 i++e.2 else nf6 i,rfl,fun x o eb=>?_,?_,?_,fun i x e' h1 h2=>?_,fun i x hx=>?_,fun i hi x=>?_,fun i hi=>?_⟩
     · rw [Zh (Zg eb (has z hzm).2.1)];exact N6.sm _ _ eb
     · rw [Zh (nFas z hzm).symm];exact N6.eF
     · rw [Zh (nDas z hzm).symm];exact N6.eD
     · rw [Zh (nz' x (n7_ h1))];exact N6.av i x e' h1 h2
     · by_cases c:i=j'
       · subst c;rw [hz] at hx;cases hx;rw [Zc]
         simp
       · have:x≠z:=fun q=>c (Zo7 nda (q ▸ hx) hz)
         rw [Zh this,N6.at_ i x hx];simp [c]
     · have h0:=N6.mem i hi x;rw [List.take_succ,ej]
       by_cases c:i=j'
       · subst c;simp only [if_true,n34_,h0]
         simp
         constructor
         · rintro ((h|⟨h,h'⟩)|h)
           · exact .inl h
           · exact .inr h'
           · exact .inr h
         · rintro (h|h)
           · exact .inl (.inl h)
           · exact .inr h
       · simp only [if_neg c,h0]
         have:¬ (i:Int)=(j':Int):=by omega
         simp [this]
     · have:=N6.le i hi
       split
       · rw [n28_];omega
       · omega
   · rintro σ H6 ⟨w3',nf6,rfl,N6⟩
     refine ⟨_,_,nf6,rfl,N6.sm,N6.eF,N6.eD,N6.av,N6.at_,fun i hi x=>(N6.mem i hi x).trans ?_,fun i hi=>?_⟩
     · rw [n5_,List.take_length,List.take_succ,he];simp only [n34_,Option.toList_some,n22_];constructor
       · rintro (⟨e',h1,h2⟩|h2)
         · exact ⟨e',.inl h1,h2⟩
         · exact ⟨e,.inr rfl,h2⟩
       · rintro ⟨e',h1|h1,h2⟩
         · exact .inl ⟨e',h1,h2⟩
         · subst h1;exact .inr h2
     · have:=N6.le i hi
       rw [n5_] at this;omega
 · obtain ⟨w2,w3,nf,rfl,N5⟩:=pp;refine ⟨_,rfl,q H5 F as nf N5.sm nF ⟨N5.eF,lan,N5.at_,fun i hi x=>(N5.mem i (by omega) x).trans ?_,fun i hi=>?_⟩⟩
   · rw [List.take_length];constructor
     · rintro ⟨e,he,h1,h2⟩
       obtain ⟨i',hi',_,s1⟩:=(gi.mem he).mp h1;obtain ⟨m,hm,hmn,s2'⟩:=(gi.mem he).mp h2
       have:i=i':=by omega
       subst this;exact ⟨m,hm,hmn,e.1,s1,s2'⟩
     · rintro ⟨m,rfl,hm,s,s1,s2'⟩
       have hs':s∈g.map (·.1):=(gi.ks s).mpr (n18_.mpr ⟨(s,(i:Int)),Zgk.mpr ⟨i,rfl,hi,s1⟩,rfl⟩);obtain ⟨e,he,rfl⟩:=n18_.mp hs';exact ⟨e,he,(gi.mem he).mpr ⟨i,rfl,hi,s1⟩,(gi.mem he).mpr ⟨m,rfl,hm,s2'⟩⟩
   · have:=N5.le i (by omega)
     omega
abbrev Zdp:Stmt:=top 38
theorem Zli (F:Fun K "part_of" "part_of" Zdp f fd):FnOk P w K mg base CX0 2 f fd ["start","near"] Zhu:=by
 have sc:FnScope ["start","near","seen","left","last","number"] ["start","near"] (Zf Zdp):=fsc (by decide +kernel);refine F.ok sc (fun vs H Q E h=>by obtain ⟨i,n,F,as,A',nf,rfl,_⟩:=h;rfl) fun cdv A outer s H vs Q E hr h=>?_;obtain ⟨i,n,F,as,A',nf,rfl,N,n60,hi,q⟩:=h;have nd:=sc.nd;have hu:=Zm9 hr;refine' ⟨_,?term,?read⟩
 case term=>refine' Zd (Zy (i:=2) nd rfl (Or.inl rfl) (Zsv (Zo6 (pv 0) Xf Zs1) rfl rfl (by decide) (by decide))) ?g1;case g1=>refine' Zd (Zy (i:=3) nd rfl (Or.inl rfl) (Y8 (Za (pv 0) Zb rfl))) ?g2;case g2=>refine' Zd ?g3 (Zi (Zo (Zs Zx rfl T.b_tuple Z5 (Za (Zj (Zgn rfl) rfl T.b_sorted Z2 (Za (pv 2) Zb rfl)) Zb rfl))));case g3=>refine' Zj9 PassesOwn.never (Zz (pv 3) (fun _=>rfl)) (Zd (Zy (i:=4) nd rfl (Or.inl rfl) (Zvk PySem.F.plainAttrs_list PySem.F.slot_list_pop PySem.F.type_list_pop Zvp (pv 3))) (Zi (Zav PassesOwn.never rfl (Yg (Zu Ym (pv 1) (pv 4) (fun _ _=>rfl))) (Zm (i:=5) nd rfl (Or.inl rfl)) (Zi (Xp (Zvj (Znp hu (pv 5) (pv 2)) rfl) (Zd (Zs8 hu (pv 2) (pv 5) Xf rfl) (Zi (Zam (Zhe PySem.F.plainAttrs_list PySem.F.slot_list_append PySem.F.type_list_append Zbz (pv 3) (Za (pv 5) Zb rfl))))) Z4)))))
 refine fun S nS=>⟨_,rfl,Zc,[(Sum.inl (i:Int),V.bl true)],rfl,by simp,?_⟩;have s1:Same H (upd (upd H S (.dK [])) S (.dK (Zco [] [(Sum.inl (i:Int),V.bl true)]))):=fun b o e=>by rw [Zh (Zg e nS),Zh (Zg e nS)];exact e
 have e1:upd (upd H S (.dK [])) S (.dK (Zco [] [(Sum.inl (i:Int),V.bl true)])) S=some (.dK (kvT [(i:Int)])):=Zc;generalize upd (upd H S (.dK [])) S (.dK (Zco [] [(Sum.inl (i:Int),V.bl true)]))=H1 at s1 e1 ⊢;refine ⟨_,rfl,z1_,fun L nL=>?_⟩;have s2:Same H1 (upd H1 L (.lst [.int (i:Int)])):=Same.new nL;have e2:upd H1 L (.lst [.int (i:Int)]) L=some (.lst ([(i:Int)].map V.int)):=Zc;have nSL:S≠L:=Zg e1 nL;have nL0:=Yu s1 nL;have e1':=s2 _ _ e1;generalize upd H1 L (.lst [.int (i:Int)])=H2 at s2 e2 e1' ⊢;have s02:=s1.trans s2;have o0:SeenOk A' n i [(i:Int)] [(i:Int)]:=⟨by simp,by simp,fun x hx=>⟨i,by simpa using hx,hi,.refl⟩,fun x hx=>hx,fun a b h1 h2=>absurd h1 h2,n14_ _⟩;dsimp only [Y2,tSeq];refine Zju (fun σ H3=>∃ w4 w5 ks ls,σ=[some (.int (i:Int)),some (.ref F),some (.ref S),some (.ref L),w4,w5]∧Same H H3∧H3 S=some (.dK (kvT ks))∧H3 L=some (.lst (ls.map V.int))∧SeenOk A' n i ks ls) (fun σ H3=>match H3 L,H3 S with|some (.lst xs),some (.dK kvs)=>2*(n-kvs.length)+xs.length|_,_=>0) ⟨_,_,_,_,rfl,s02,e1',e2,o0⟩ ?_ ?_
 · rintro σ H3 ⟨w4,w5,ks,ls,rfl,s3,eS,eL,ok⟩
   refine ⟨_,rfl,_,.inl ⟨_,SqL.of eL,rfl⟩,?_⟩
   rcases List.eq_nil_or_concat ls with rfl|⟨ls0,z,rfl⟩
   · refine iteF ?_;refine ⟨_,rfl,S,kvT ks,ks,rfl,eS,by rw [n44_];rfl,by have:=Zk3 ok;omega,fun l ms nl pm so=>?_⟩;generalize gG:upd H3 l (.lst (ms.map V.int))=H4;obtain ⟨s4,e4⟩:=gen_upd gG nl;refine ⟨l,_,rfl,.inl ⟨SqL.of e4,fun t nt=>?_⟩⟩;exact q _ t ms (s3.trans (s4.trans (Same.new nt))) (Yu (s3.trans s4) nt) Zc (Zmc hi ok.nd ok.st ok.co (fun a b ha hb ab=>ok.cl a b ha (by simp) hb ab) pm so)
   · rw [List.concat_eq_append] at eL ok ⊢;refine (show (if (!List.isEmpty (List.map V.int (ls0++[z])))=true then _ else _) from ?_);rw [show (!List.isEmpty (List.map V.int (ls0++[z])))=true by simp];refine iteT ?_;refine ⟨_,rfl,.inl ⟨rfl,_,SqL.of eL⟩,L,_,.int z,rfl,rfl,eL,by simp,?_⟩;rw [n48_,show List.dropLast (List.map V.int ls0++List.map V.int [z])=ls0.map V.int by simp];obtain ⟨z',rfl,hz,cz⟩:=ok.co z (ok.sub z (by simp));obtain ⟨b,hb⟩:∃ b,as[z']? = some b:=⟨_,n1_ (by rw [N.len];exact hz)⟩;have eb:=N.at_ z' b hb;have s4:Same H (upd H3 L (.lst (ls0.map V.int))):=fun x o e=>by rw [Zh (Zg e nL0)];exact s3 _ _ e
     have eS4:upd H3 L (.lst (ls0.map V.int)) S=some (.dK (kvT ks)):=by rw [Zh nSL];exact eS
     have eL4:upd H3 L (.lst (ls0.map V.int)) L=some (.lst (ls0.map V.int)):=Zc;generalize upd H3 L (.lst (ls0.map V.int))=H4 at s4 eS4 eL4 ⊢;refine ⟨_,rfl,_,rfl,F,_,(z':Int),.ref b,rfl,rfl,SqL.of (s4 _ _ N.eF),Xk (by rw [n6_,hb];rfl),b,rfl,⟨_,SqL.of (s4 _ _ eb)⟩,?_⟩;refine Zc1 (xs:=(nf z').map V.int) (fun m σ H5=>∃ w5 nw,σ=[some (.int (i:Int)),some (.ref F),some (.ref S),some (.ref L),some (.int (z':Int)),w5]∧Same H H5∧H5 S=some (.dK (kvT (ks++nw)))∧H5 L=some (.lst ((ls0++nw).map V.int))∧(ks++nw).Nodup∧(∀ x∈nw,∃ m:Nat,x=m∧m<n∧Conn A' n i m)∧∀ x∈(nf z').take m,x∈ks++nw) ⟨_,[],rfl,s4,by simpa using eS4,by simpa using eL4,by simpa using ok.nd,by simp,by simp⟩ ?_ ?_ ?_
     · rintro m σ H5 _ ⟨_,_,_,s5,_⟩
       exact SqL.of (s5 _ _ eb)
     · rintro m w σ H5 hw ⟨w5',nw,rfl,s5,eS5,eL5,nd5,co5,al5⟩
       rw [n6_] at hw;obtain ⟨x,ex,rfl⟩:=n10_.mp hw;obtain ⟨x',rfl,hx,ax⟩:=(N.mem z' hz _).mp (n7_ ex);have coa:∀ y∈ks++nw,∃ m:Nat,y=m∧m<n∧Conn A' n i m:=fun y hy=>(n34_.mp hy).elim (ok.co y) (co5 y);have ln:(ks++nw).length≤n:=Zh9 nd5 fun y hy=>let ⟨m,a,b,_⟩:=coa y hy;⟨m,a,b⟩
       have lz:(ls0++nw).length≤n:=by
        have:=ok.le
        rw [n28_] at this ln ⊢;omega
       refine ⟨_,rfl,_,rfl,S,_,rfl,DGet.kq (k:=Sum.inl (x':Int)) eS5,_,rfl,?_⟩;rw [valT]
       by_cases c:(x':Int)∈ks++nw
       · rw [if_pos c];refine iteF ?_;refine ⟨_,nw,rfl,s5,eS5,eL5,nd5,co5,fun y hy=>?_⟩;rw [List.take_succ,ex] at hy
         rcases n34_.mp hy with hy|hy
         · exact al5 y hy
         · rw [show y=x' by simpa using hy];exact c
       · rw [if_neg c];refine iteT ?_;refine ⟨_,rfl,_,rfl,S,_,rfl,DPut.kq (k:=Sum.inl (x':Int)) eS5 (by rw [Ztr,sizeLine_eq];omega),?_⟩;rw [putT c];refine ⟨_,rfl,.inl ⟨rfl,_,SqL.of (by rw [Zh nSL.symm];exact eL5)⟩,_,rfl,L,_,_,rfl,rfl,(by rw [Zh nSL.symm];exact eL5),(by rw [n5_,sizeLine_eq];omega),?_⟩;refine ⟨_,nw++[(x':Int)],rfl,fun y o e=>?_,?_,?_,?_,fun y hy=>?_,fun y hy=>?_⟩
         · rw [Zh (Zg e nL0),Zh (Zg e nS)];exact s5 _ _ e
         · rw [Zh nSL,Zc,n57_]
         · rw [Zc];simp
         · rw [← n57_,n66_];exact ⟨nd5,by simp,fun a ha b hb e=>c (by rw [← n22_.mp hb,← e];exact ha)⟩
         · rcases n34_.mp hy with hy|hy
           · exact co5 y hy
           · exact ⟨x',by simpa using hy,hx,cz.trans (.one hz hx ax)⟩
         · rw [← n57_];rw [List.take_succ,ex] at hy
           rcases n34_.mp hy with hy|hy
           · exact n76_ _ (al5 y hy)
           · rw [show y=x' by simpa using hy];simp
     · rintro σ H5 ⟨w5',nw,rfl,s5,eS5,eL5,nd5,co5,al5⟩
       rw [n5_,List.take_length] at al5
       have ok':SeenOk A' n i (ks++nw) (ls0++nw):=by
        refine ⟨nd5,n76_ _ ok.st,fun y hy=>(n34_.mp hy).elim (ok.co y) (co5 y),fun x hx=>?_,fun a b1 ha hn hb1 ab=>?_,?_⟩
        · rcases n34_.mp hx with hx|hx
          · exact n76_ _ (ok.sub x (n76_ _ hx))
          · exact n35_ _ hx
        · rw [n34_,not_or] at hn;have hk:(a:Int)∈ks:=(n34_.mp ha).elim id fun z=>absurd z hn.2
          by_cases c:a=z'
          · subst c;exact al5 _ ((N.mem a hz _).mpr ⟨b1,rfl,hb1,ab⟩)
          · refine n76_ _ (ok.cl a b1 hk ?_ hb1 ab);rw [n34_,not_or];exact ⟨hn.1,fun z=>c (by have:=n22_.mp z;omega)⟩
        · have:=ok.le
          rw [n28_,List.length_singleton] at this;rw [n28_,n28_];omega
       refine ⟨⟨_,_,_,_,rfl,s5,eS5,eL5,ok'⟩,?_⟩;have l1:=Zk3 ok';rw [eS5,eL5,eS,eL];dsimp only;rw [n5_,n5_,n5_,n5_,n28_,n28_,n28_,List.length_singleton];rw [n28_] at l1;omega
 · rintro σ H' Q1 Q2 hq ⟨v,e,k,t,q'⟩
   exact ⟨v,e,k,t,hq _ _ q'⟩
abbrev Zf3:Stmt:=top 39
theorem Zqo (F:Fun K "parts" "parts" Zf3 f fd) (Cb_:a23_ P w K mg base) (Caa_:a25_ P w K mg base) (Cao_:a26_ P w K mg base):FnOk P w K mg base CX0 7 f fd ["plate"] Zks:=by
 have sc:FnScope ["plate","near"] ["plate"] (Zf Zf3):=fsc (by decide +kernel);refine F.ok sc (fun vs H Q E h=>by obtain ⟨v,P',rfl,_⟩:=h;rfl) fun cdv A outer s H vs Q E hr h=>?_;obtain ⟨v,P',rfl,hv,ok,p20,q⟩:=h;have nd:=sc.nd;refine' ⟨_,?term,?read⟩
 case term=>refine' Zd (Zam (Zk Cb_ hr (by decide) rfl (Za (pv 0) Zb rfl))) (Zd (Zy (i:=1) nd rfl (Or.inr rfl) (Zk Caa_ hr (by decide) rfl (Za (pv 0) Zb rfl))) (Zi (Zo (Zj (Zie rfl) rfl T.b_sorted Z2 (Za (Ztz hr rfl (N:=["start","near"]) (fr:=[none,some 1]) (Zv (XN:=["plate","near"]) (Scope.names (Zf Zf3)) rfl rfl rfl (fun _ h=>Zr h) (by decide +kernel) rfl) (Zhl rfl T.b_range (Za (Zj Zq rfl T.b_len Yt (Za (pv 1) Zb rfl)) Zb rfl)) (fun _ _ _ _=>pgB 0) (fun _ _ _ _=>Zk Cao_ hr (by decide) rfl (Za (pv 0) (Za (pv 1) Zb rfl) rfl))) Zb rfl)))))
 refine ⟨_,rfl,v,P',rfl,hv,ok,fun H1 s1=>?_⟩;refine ⟨_,rfl,v,P',rfl,hv.tk s1.tk,pc3 ok,p20,fun H2 F as nf s2 nF N=>?_⟩;refine ⟨_,rfl,F,_,rfl,.inl (SqL.of N.eF),_,rfl,by rw [n5_,N.len];omega,by rw [n5_,N.len];omega,fun D nD=>?_⟩;have eN:((as.map V.ref).length:Int).toNat=P'.ps.length:=by rw [n5_,N.len];rfl
 rw [eN];generalize hn:P'.ps.length=n at *;have s3:Same H2 (upd H2 D (setU (Yr w) D [])):=Same.new nD;refine ⟨fun i m σ H3=>m=n-i∧i≤n∧(∃ u,σ=[u,some (.ref F)])∧Same H2 H3∧∃ kl,H3 D=some (setU (Yr w) D kl)∧(∀ x∈kl,tpl H3 x)∧kl.length≤i∧(kl.map (·.2)).Nodup∧∀ l,l∈kl.map (·.2)↔∃ j,j<i∧PartOk (Adj P'.ps) n j l,⟨_,rfl,n55_ _,⟨_,rfl⟩,s3,[],Zc,by simp,by simp,by simp,by simp⟩,?_⟩;rintro i m σ H3 ⟨rfl,hi,⟨u,rfl⟩,s03,kl,eD,tp,lk,nd',mem⟩
 by_cases hlt:i<n
 · refine .inr ⟨hlt,fun x H4 y=>?_⟩;obtain ⟨rfl,rfl⟩:=y;refine ⟨_,rfl,_,rfl,i,n,F,as,Adj P'.ps,nf,by rw [Int.zero_add],?_,by omega,hlt,fun H5 t l s5 nt tt pt=>?_⟩
   · exact ⟨s03 _ _ N.eF,N.len,fun j b hb=>s03 _ _ (N.at_ j b hb),N.mem,N.le⟩
   have nDt:t≠D:=fun z=>by rw [z,eD] at nt;cases nt
   have s6:∀ o,Tk H5 (upd H5 D o):=fun o b xs e=>by
    have:=s5 _ _ eD
    rw [Zh (fun z=>by rw [z,this] at e;cases e)];exact e
   refine ⟨kl,t,l,s5 _ _ eD,rfl,tt,fun x hx=>s5 _ _ (tp x hx),by omega,n-(i+1),by omega,rfl,hlt,⟨_,rfl⟩,fun b o e=>?_,addU kl (t,l),Zc,fun x hx=>?_,?_,Zl4 nd',fun l'=>?_⟩
   · rw [Zh (Zg e nD)];exact s5 _ _ (s03 _ _ e)
   · rcases Zkt hx with h|h
     · exact s6 _ _ _ (s5 _ _ (tp x h))
     · subst h;exact s6 _ _ _ tt
   · have:=Zkf kl (t,l);omega
   · rw [Zht,mem l'];constructor
     · rintro (⟨j,hj,p⟩|e)
       · exact ⟨j,by omega,p⟩
       · exact ⟨i,by omega,by rw [show l'=l from e];exact pt⟩
     · rintro ⟨j,hj,p⟩
       by_cases c:j=i
       · subst c;exact .inr (p.eq pt)
       · exact .inl ⟨j,by omega,p⟩
 · have e:i=n:=by omega
   subst e;refine .inl ⟨n14_ _,D,kl,rfl,eD,tp,fun x hx=>?_,by omega,fun l ql nl pm rs=>?_⟩
   · obtain ⟨j,hj,p⟩:=(mem x.2).mp (n39_ hx);exact List.length_pos_of_mem ((p.mem j).mpr ⟨j,rfl,hj,.refl⟩)
   have s4:Same H3 (upd H3 l (.lst (refs ql))):=Same.new nl;exact q _ l ql (s1.trans (s2.trans (s03.trans s4))) (Yu (s1.trans (s2.trans s03)) nl) Zc (fun x hx=>s4 _ _ (tp x (pm.mem_iff.mp hx))) ⟨Yp rs,fun l'=>(pm.map (·.2)).mem_iff.trans (mem l')⟩
abbrev Zki:Stmt:=top 40
theorem Ztc (F:Fun K "room" "room" Zki f fd) (Cb_:a23_ P w K mg base) (Cm_:a6_ P w K mg base):FnOk P w K mg base CX0 7 f fd ["plate"] Zoc:=by
 have sc:FnScope ["plate"] ["plate"] (Zf Zki):=fsc (by decide +kernel);refine F.ok sc (fun vs H Q E h=>by obtain ⟨v,P',rfl,_⟩:=h;rfl) fun cdv A outer s H vs Q E hr h=>?_;obtain ⟨v,P',rfl,hv,ok,p20,q⟩:=h;refine' ⟨_,?term,?read⟩
 case term=>refine' Zd (Zam (Zk Cb_ hr (by decide) rfl (Za (pv 0) Zb rfl))) (Zi (Zo (Zj (Zoe rfl) rfl T.b_sum Znc (Za (Yq (N:=["piece","plate"]) (fr:=[none,some 0]) rfl (Zv (XN:=["plate"]) (Scope.names (Zf Zki)) rfl rfl rfl (fun _ h=>Zr h) (by decide +kernel) rfl) (Y6 (Zu Z1 (pv 0) Ze (fun _ _=>rfl))) (fun _ _ _ _=>pgB 0) (fun _ _ _ _=>Zp) (fun _ _ _ _=>Zj Zps rfl T.b_abs Zu6 (Za (Zk Cm_ hr (by decide) rfl (Za (Zu (Xb K rfl) (pv 1) Ze (fun _ _=>rfl)) (Za (pv 0) Zb rfl) rfl)) Zb rfl))) Zb rfl))))
 refine ⟨_,rfl,v,P',rfl,hv,ok,fun H1 s1=>?_⟩;obtain ⟨a,c,p,t,st,rfl,ha,hc,⟨b,ws,rfl,hb,bl⟩,ht,hs⟩:=hv.tk s1.tk;have hl:=bl.1;refine ⟨_,rfl,a,_,1,_,rfl,rfl,SqT.of ha,rfl,b,rfl,⟨_,SqT.of hb⟩,fun D nD=>?_⟩;refine lc_T (k:=.t) (vs:=ws) RI hRI (P'.ps.map fun p=>absI (dOf P'.cs p)) (by simp [hl]) (by omega) nD hb (fun i w H2 C hw s2 c'=>?_) (fun H2 us s2 e2 a2=>?_)
 · obtain ⟨p',ep,rp⟩:=bl.get hw;have pk:=ok.pc p' (n7_ ep);refine ⟨_,rfl,a,_,0,_,rfl,rfl,SqT.of (s2 _ _ ha),rfl,_,rfl,c,w,P'.cs,p',rfl,hc.tk s2.tk,rp.tk s2.tk,pk.len,pk.bd,ok.nr,_,rfl,?_⟩;exact c' _ _ (absI (dOf P'.cs p')) (Same.refl _) (by rw [n6_,ep];rfl) rfl
 · have:=a2.ints
   subst this;exact ⟨D,_,rfl,SqL.of e2,q _ (s1.trans s2)⟩
abbrev Xz:Stmt:=top 42
theorem Zdl (F:Fun K "_law_cell_at" "_law_cell_at" Xz f fd):FnOk P w K mg base CX0 1 f fd ["_law_script","_law_k"] (Zmj K):=by
 have sc:FnScope ["_law_script","_law_k"] ["_law_script","_law_k"] (Zf Xz):=fsc (by decide +kernel);refine F.ok sc (fun vs H Q E h=>by obtain ⟨a,ns,k,rfl,_⟩:=h;rfl) fun cdv A outer s H vs Q E hr h=>?_;obtain ⟨a,ns,k,rfl,hS,q⟩:=h;refine' ⟨_,?term,?read⟩
 case term=>refine' Zd (Xp (Ye Zsg (pv 1) (Zj Zq rfl T.b_len Yt (Za (pv 0) Zb rfl)) (Yo _)) (Zi (Zo (Zu Ym (pv 0) (pv 1) (fun _ _=>rfl)))) Z4) (Zi (Zo Ze))
 refine ⟨_,rfl,_,rfl,a,_,rfl,.inl hS,_,_,rfl,rfl,_,rfl,?_⟩;refine ite2 (fun hlt=>?_) (fun _=>q 0)
 have hk:k<ns.length:=by
  have z:=n51_ hlt;rw [n5_] at z;omega
 exact ⟨_,rfl,_,rfl,a,_,_,_,rfl,rfl,hS,Xk (by rw [n6_,n1_ hk];rfl),q _⟩
abbrev Zaw:Stmt:=top 43
theorem Zff (F:Fun K "_law_state" "_law_state" Zaw f fd) (Ct_:a27_ P w K mg base):FnOk P w K mg base CX0 2 f fd ["_law_script","_law_k"] (Zkc K):=by
 have sc:FnScope ["_law_script","_law_k","_law_cell"] ["_law_script","_law_k"] (Zf Zaw):=fsc (by decide +kernel);refine F.ok sc (fun vs H Q E h=>by obtain ⟨a,ns,k,rfl,_⟩:=h;rfl) fun cdv A outer s H vs Q E hr h=>?_;obtain ⟨a,ns,k,rfl,hS,q⟩:=h;have nd:=sc.nd;refine' ⟨_,?term,?read⟩
 case term=>refine' Zd (Zy (i:=2) nd rfl (Or.inl rfl) (Zk Ct_ hr (by decide) rfl (Za (pv 0) (Za (pv 1) Zb rfl) rfl))) (Zi (Zo (Y8 (Za (Zj (Zh7 rfl) rfl T.b_max Zq5 (Za Ze (Za (Zw Xw (pv 2) (Zw Zua Ze Ze)) Zb rfl) rfl)) (Za (Zw Y7 (Zw Zcb (pv 2) Ze) Ze) (Za Ze Zb rfl) rfl) rfl))))
 refine ⟨_,rfl,_,rfl,a,ns,k,rfl,hS,fun c=>?_⟩;refine ⟨_,rfl,_,_,rfl,rfl,⟨by decide,by decide,by decide⟩,_,_,rfl,rfl,_,_,rfl,?_⟩;refine ⟨_,rfl,_,_,rfl,rfl,(by show (2147483629:Int)≠0;decide),_,_,rfl,rfl,(z3_),fun p hp=>q p _ hp (Same.new hp) ⟨_,_,_,Zc,?_,?_⟩⟩
 · have:=Int.fmod_nonneg_of_pos c (b:=2147483629) (by decide)
   omega
 · have:=Int.fmod_lt_of_pos c (b:=2147483629) (by decide)
   omega
abbrev X9:Stmt:=top 44
theorem Zd5 (F:Fun K "_law_choice" "_law_choice" X9 f fd):FnOk P w K mg base CX0 1 f fd ["_law_state_here","_law_many"] Zdn:=by
 have sc:FnScope ["_law_state_here","_law_many","_law_found","_law_mixed"] ["_law_state_here","_law_many"] (Zf X9):=fsc (by decide +kernel);refine F.ok sc (fun vs H Q E h=>by obtain ⟨l,m,rfl,_⟩:=h;rfl) fun cdv A outer s H vs Q E hr h=>?_;obtain ⟨l,m,rfl,⟨s0,s1,s2,hl,h0,h1⟩,hm,hz,q⟩:=h;have nd:=sc.nd;refine' ⟨_,?term,?read⟩
 case term=>refine' Zd ?g1 ?g2;(case g1=>refine' Xp (Ye Zu4 (Zu Ym (pv 0) Ze (fun _ _=>rfl)) Ze (Yo _)) ?g3 Z4;case g3=>refine' Zd (Zy (i:=2) nd rfl (Or.inl rfl) (Zw Zcb (Zu Ym (pv 0) Ze (fun _ _=>rfl)) (pv 1))) (Zd (Zah (Zw Zkk (Zu Ym (pv 0) Ze (fun _ _=>rfl)) (pv 1)) (Zhc (pv 0) Ze Zbt)) (Zi (Zo (pv 2)))));case g2=>refine' Zd (Zah (Zw Y7 (Zu Ym (pv 0) Ze (fun _ _=>rfl)) Ze) (Zhc (pv 0) Ze Zbt)) ?g4;case g4=>refine' Zd ?g5 ?g6;(case g5=>refine' Zah ?g7 (Zhc (pv 0) Ze Zbt);case g7=>refine' Zw Zcb ?g8 Ze;case g8=>refine' Zw Y7 (Zw Y7 (Zw Yl (Zu Ym (pv 0) Ze (fun _ _=>rfl)) Ze) Ze) (Zu Ym (pv 0) Ze (fun _ _=>rfl)));case g6=>refine' Zd ?g9 (Zd (Zy (i:=3) nd rfl (Or.inl rfl) (Zw Zcb (Zw Y7 (Zw Yl (pv 3) (pv 3)) (Zw Yl Ze (pv 3))) Ze)) (Zi (Zo (Zw Zcb (Zw Zkk (pv 3) Ze) (pv 1)))));case g9=>refine' Zy (i:=3) nd rfl (Or.inl rfl) ?ga;case ga=>refine' Zw Zcb ?gb Ze;case gb=>refine' Zw Y7 ?gc Ze;case gc=>refine' Zw Y7 ?gd (Zw Yl Ze (Zu Ym (pv 0) Ze (fun _ _=>rfl)));case gd=>refine' Zw Yl (Zu Ym (pv 0) Ze (fun _ _=>rfl)) (Zu Ym (pv 0) Ze (fun _ _=>rfl))
 have hm0:m≠0:=by omega
 refine ⟨_,rfl,l,_,0,_,rfl,rfl,SqL.of hl,rfl,_,_,rfl,rfl,_,rfl,?_⟩;refine ite2 (fun _=>?_) (fun _=>?_)
 · refine ⟨_,rfl,l,_,0,_,rfl,rfl,SqL.of hl,rfl,_,rfl,_,_,rfl,rfl,hm0,?_⟩;refine ⟨_,rfl,l,_,0,_,rfl,rfl,SqL.of hl,rfl,_,rfl,_,_,rfl,rfl,⟨hm0,hz⟩,?_⟩;refine ⟨_,rfl,l,_,0,0,rfl,rfl,hl,rfl,?_⟩;exact ⟨_,rfl,q _ _ (Int.fmod_nonneg_of_pos _ hm) (Int.fmod_lt_of_pos _ hm) Keep.upd ⟨_,_,_,Zc,h0,h1⟩⟩
 ·
  refine ⟨_,rfl,l,_,2,_,rfl,rfl,SqL.of hl,rfl,_,_,rfl,rfl,?_⟩;refine ⟨_,rfl,l,_,2,2,rfl,rfl,hl,rfl,?_⟩;refine ⟨_,rfl,l,_,1,_,rfl,rfl,SqL.of Zc,rfl,_,_,rfl,rfl,mulS (by rw [p64];omega) (by decide),_,_,rfl,rfl,?_⟩;refine ⟨_,rfl,l,_,2,_,rfl,rfl,SqL.of Zc,rfl,_,_,rfl,rfl,_,_,rfl,rfl,(by show (2147483647:Int)≠0;decide),?_⟩;refine ⟨_,rfl,l,_,1,1,rfl,rfl,Zc,rfl,?_⟩;generalize hs:Int.fmod (s1*48271+29+(s2+1)) 2147483647=u;have u0:0≤u:=by rw [← hs];exact Int.fmod_nonneg_of_pos _ (by decide)
  have u1:u<2147483647:=by rw [← hs];exact Int.fmod_lt_of_pos _ (by decide)
  refine ⟨_,rfl,l,_,1,_,rfl,rfl,SqL.of Zc,rfl,_,rfl,l,_,1,_,rfl,rfl,SqL.of Zc,rfl,u,u,by rw [← hs],by rw [← hs],mulS (by rw [p64];omega) (by rw [p64];omega),?_⟩;refine ⟨_,rfl,l,_,1,_,rfl,rfl,SqL.of Zc,rfl,39373,u,rfl,by rw [← hs],mulS (by decide) (by rw [p64];omega),_,_,rfl,rfl,_,_,rfl,rfl,_,_,rfl,rfl,(by show (2147483629:Int)≠0;decide),?_⟩;generalize hv:Int.fmod (u*u+39373*u+7) 2147483629=v;have v0:0≤v:=by rw [← hv];exact Int.fmod_nonneg_of_pos _ (by decide)
  have v1:v<2147483629:=by rw [← hv];exact Int.fmod_lt_of_pos _ (by decide)
  refine ⟨_,rfl,_,rfl,v,v,by rw [← hv],by rw [← hv],mulS (by rw [p64];omega) (by rw [p64];omega),_,rfl,50021,v,rfl,by rw [← hv],mulS (by decide) (by rw [p64];omega),_,_,rfl,rfl,_,_,rfl,rfl,(by show (2147483587:Int)≠0;decide),?_⟩;refine ⟨_,rfl,_,_,rfl,rfl,⟨by decide,Xl (by decide)⟩,_,rfl,_,_,rfl,rfl,hm0,?_⟩;exact q _ _ (Int.fmod_nonneg_of_pos _ hm) (Int.fmod_lt_of_pos _ hm) (Keep.upd.trans Keep.upd) ⟨_,u,_,by rw [← hs];exact Zc,u0,by omega⟩
abbrev Zau:Stmt:=top 45
theorem Zf1 (F:Fun K "_law_order" "_law_order" Zau f fd) (Ca_:a28_ P w K mg base):FnOk P w K mg base CX0 2 f fd ["_law_state_here","_law_many"] Zkg:=by
 have sc:FnScope ["_law_state_here","_law_many","_law_left","_law_found"] ["_law_state_here","_law_many"] (Zf Zau):=fsc (by decide +kernel);refine F.ok sc (fun vs H Q E h=>by obtain ⟨l,n,rfl,_⟩:=h;rfl) fun cdv A outer s H vs Q E hr h=>?_;obtain ⟨l,n,rfl,hl,h60,q⟩:=h;have nd:=sc.nd;have hu:=Zm9 hr;have hu1:=Nat.lt_of_succ_lt hu;refine' ⟨_,?term,?read⟩
 case term=>refine' Zd (Zu1 rfl nd (i:=2) (j:=3) rfl rfl (by decide) rfl rfl (Za (Zs (Zeb rfl) rfl T.b_list Zfl (Za (Zmw rfl T.b_range (Za (pv 1) Zb rfl)) Zb rfl)) (Za (Y8 Zb) Zb rfl) rfl) rfl) (Zd (Zj9 PassesOwn.never (Ye (Zvd hu1) (pv 2) (Y8 Zb) (Yo _)) (Zi (Zam (Zhe PySem.F.plainAttrs_list PySem.F.slot_list_append PySem.F.type_list_append Zbz (pv 3) (Za (Zhe PySem.F.plainAttrs_list PySem.F.slot_list_pop PySem.F.type_list_pop Zqb (pv 2) (Za (Zk Ca_ hr (by decide) rfl (Za (pv 0) (Za (Zj Zq rfl T.b_len Yt (Za (pv 2) Zb rfl)) Zb rfl) rfl)) Zb rfl)) Zb rfl))))) (Zi (Zo (pv 3))))
 refine ⟨_,rfl,n,rfl,fun R nR=>?_⟩;refine ⟨R,n,rfl,Zc,by omega,fun L nL=>?_⟩;have s1:Same H (upd H R (.rng 0 n)):=Same.new nR;generalize upd H R (.rng 0 n)=H1 at s1 nL ⊢
 have nL0:H L=none:=by
  cases e:H L with
  | none=>rfl
  | some o=>rw [s1 _ _ e] at nL;cases nL
 generalize gG:upd H1 L (.lst ((List.range n).map fun i:Nat=>V.int i))=H2;obtain ⟨s2,e2⟩:=gen_upd gG nL;refine ⟨z0_,fun F nF=>?_⟩;have s3:Same H2 (upd H2 F (.lst [])):=Same.new nF;have e3:upd H2 F (.lst []) F=some (.lst []):=Zc;have nLF:L≠F:=Zg e2 nF;generalize upd H2 F (.lst [])=H3 at s3 e3 ⊢;have s03:=s1.trans (s2.trans s3)
 have nF0:H F=none:=by
  cases e:H F with
  | none=>rfl
  | some o=>rw [s2 _ _ (s1 _ _ e)] at nF;cases nF
 have nLl:L≠l:=hl.neN nL0;have nFl:F≠l:=hl.neN nF0;refine ⟨_,_,rfl,?_⟩;refine Zju (fun σ H2=>σ=[some (.ref l),some (.int n),some (.ref L),some (.ref F)]∧Keep l H H2∧StAt H2 l∧∃ xs ys:List Int,H2 L=some (.lst (xs.map V.int))∧H2 F=some (.lst (ys.map V.int))∧(ys++xs).Perm ((List.range n).map fun i:Nat=>(i:Int))) (fun σ H2=>match H2 L with|some (.lst xs)=>xs.length|_=>0) ⟨rfl,s03.keep,hl.same s03,(List.range n).map fun i:Nat=>(i:Int),[],?_,e3,.refl _⟩ ?_ ?_
 · rw [n44_];exact s3 _ _ e2
 · rintro σ H4 ⟨rfl,k4,l4,xs,ys,eL,eF,pm⟩
   refine ⟨_,rfl,z0_,fun E nE=>?_⟩;generalize gG:upd H4 E (.lst [])=H5;obtain ⟨s5,e5⟩:=gen_upd gG nE;refine ⟨L,E,_,rfl,rfl,SqL.of (s5 _ _ eL),SqL.of e5,_,rfl,?_⟩;cases xs with
   | nil =>
     refine iteF ?_;refine ⟨_,rfl,q H5 F ys (k4.trans s5.keep) (l4.same s5) nF0 (s5 _ _ eF) ?_⟩
     simpa using pm
   | cons x xs =>
     refine iteT ?_
     have len:ys.length+(x :: xs).length=n:=by
      have:=pm.length_eq
      simpa using this
     have l5:=l4.same s5;refine ⟨_,rfl,.inl ⟨rfl,_,SqL.of (s5 _ _ eF)⟩,_,rfl,.inl ⟨rfl,_,SqL.of (s5 _ _ eL)⟩,_,rfl,_,rfl,L,_,rfl,.inl (SqL.of (s5 _ _ eL)),l,_,rfl,l5,?_,?_,fun r H6 r0 r1 k6 l6=>?_⟩
     · simp
     · rw [n5_];refine Xl ?_;show _<18446744073709551616
       simp at len ⊢;omega
     · rw [n5_] at r1;have hr:r.toNat<(x :: xs).length:=by omega
       have eL6:=k6 _ _ nLl (s5 _ _ eL);have eF6:=k6 _ _ nFl (s5 _ _ eF);refine ⟨L,_,r,r.toNat,.int ((x :: xs)[r.toNat]),rfl,rfl,eL6,by omega,?_,seqI r0 (by rw [n5_];exact r1),by rw [n6_,n1_ hr];rfl,?_⟩
       · have:(n:Int)≤60:=by omega
         have:((x :: xs).length:Int)≤n:=by omega
         omega
       · refine ⟨F,_,_,rfl,rfl,by rw [Zh nLF.symm];exact eF6,?_,?_⟩
         · rw [n5_,sizeLine_eq];omega
         · have eL7:∀ o,upd (upd H6 L (.lst (((x :: xs).map V.int).eraseIdx r.toNat))) F o L=some (.lst (((x :: xs).map V.int).eraseIdx r.toNat)):=fun o=>by rw [Zh nLF,Zc]
           refine ⟨⟨rfl,?_,?_,(x :: xs).eraseIdx r.toNat,ys++[(x :: xs)[r.toNat]],?_,?_,?_⟩,?_⟩
           · intro b o nb e;rw [Zh (Zg e nF0),Zh (Zg e nL0)];exact k6 _ _ nb (s5 _ _ (k4 _ _ nb e))
           · obtain ⟨a,b,c,e,r⟩:=l6;exact ⟨a,b,c,by rw [Zh nFl.symm,Zh nLl.symm];exact e,r⟩
           · rw [eL7,Zhs]
           · rw [Zc,n48_];rfl
           · refine List.Perm.trans ?_ pm;rw [n57_];refine List.Perm.append_left ys ?_;exact X3 _ _ hr
           · rw [eL7,eL];dsimp only;rw [List.length_eraseIdx_of_lt (by rw [n5_];exact hr)]
             simp
 · rintro σ H' Q1 Q2 hq ⟨v,e,z,f⟩
   refine ⟨v,e,z,fun p np=>?_⟩;obtain ⟨a,b,xs,e1,e2,h1,h2,k,t,q'⟩:=f p np;exact ⟨a,b,xs,e1,e2,h1,h2,k,t,hq _ _ q'⟩
abbrev X5:Stmt:=top 46
theorem Zd7 (F:Fun K "_law_shapes" "_law_shapes" X5 f fd):FnOk P w K mg base CX0 1 f fd [] Zib:=by
 have sc:FnScope ["_law_one","_law_two","_law_hub","_law_hinge","_law_apart","_law_strip","_law_cross","_law_chain"] [] (Zf X5):=fsc (by decide +kernel);refine F.ok sc (fun vs H Q E h=>by obtain ⟨rfl,_⟩:=h;rfl) fun cdv A outer s H vs Q E hr h=>?_;obtain ⟨rfl,q⟩:=h;have nd:=sc.nd;refine' ⟨_,?term,?read⟩
 case term=>refine' Zd ?g1 ?g2;(case g1=>refine' @Zy _ _ (0) _ _ _ _ nd rfl (Or.inl rfl) ?g3 (by rfl) (by first|exact Or.inl rfl|exact Or.inr rfl|assumption);case g3=>refine' @Xv _ _ (([(0,0),(2,0),(0,3)],[[0,1,2]])) rfl);case g2=>refine' Zd ?g4 ?g5;(case g4=>refine' @Zy _ _ (1) _ _ _ _ nd rfl (Or.inl rfl) ?g6 (by rfl) (by first|exact Or.inl rfl|exact Or.inr rfl|assumption);case g6=>refine' @Xv _ _ (([(0,0),(3,0),(3,2),(0,2)],[[0,1,2],[0,2,3]])) rfl);case g5=>refine' Zd ?g7 ?g8;(case g7=>refine' @Zy _ _ (2) _ _ _ _ nd rfl (Or.inl rfl) ?g9 (by rfl) (by first|exact Or.inl rfl|exact Or.inr rfl|assumption);case g9=>refine' @Xv _ _ (([(0,0),(6,0),(0,6),(2,1)],[[0,1,3],[0,2,3],[1,2,3]])) rfl);case g8=>refine' Zd ?ga ?gb;(case ga=>refine' @Zy _ _ (3) _ _ _ _ nd rfl (Or.inl rfl) ?gc (by rfl) (by first|exact Or.inl rfl|exact Or.inr rfl|assumption);case gc=>refine' @Xv _ _ (([(0,0),(2,1),(2,-1),(-2,1),(-3,-1)],[[0,1,2],[0,3,4]])) rfl);case gb=>refine' Zd ?gd ?ge;(case gd=>refine' @Zy _ _ (4) _ _ _ _ nd rfl (Or.inl rfl) ?gf (by rfl) (by first|exact Or.inl rfl|exact Or.inr rfl|assumption);case gf=>refine' @Xv _ _ (([(0,0),(2,0),(0,2),(4,0),(6,1),(4,3)],[[0,1,2],[3,4,5]])) rfl);case ge=>refine' Zd ?gg ?gh;(case gg=>refine' @Zy _ _ (5) _ _ _ _ nd rfl (Or.inl rfl) ?gi (by rfl) (by first|exact Or.inl rfl|exact Or.inr rfl|assumption);case gi=>refine' @Xv _ _ (([(0,0),(0,2),(2,0),(3,2),(5,0)],[[0,1,2],[1,2,3],[2,3,4]])) rfl);case gh=>refine' Zd ?gj ?gk;(case gj=>refine' @Zy _ _ (6) _ _ _ _ nd rfl (Or.inl rfl) ?gl (by rfl) (by first|exact Or.inl rfl|exact Or.inr rfl|assumption);case gl=>refine' @Xv _ _ (([(0,0),(2,0),(0,3),(-2,0),(0,-1)],[[0,1,2],[0,2,3],[0,3,4],[0,1,4]])) rfl);case gk=>refine' Zd ?gm ?gn;(case gm=>refine' @Zy _ _ (7) _ _ _ _ nd rfl (Or.inl rfl) ?go (by rfl) (by first|exact Or.inl rfl|exact Or.inr rfl|assumption);case go=>refine' @Xv _ _ (([(0,0),(1,2),(2,0),(3,2),(4,0),(5,3)],[[0,1,2],[2,3,4],[3,4,5]])) rfl);case gn=>refine' Zi ?gp;case gp=>refine' Zo ?gq;case gq=>refine' Y8 (Za (pv 0) (Za (pv 1) (Za (pv 3) (Za (pv 4) (Za (pv 2) (Za (pv 5) (Za (pv 7) (Za (pv 6) Zb rfl) rfl) rfl) rfl) rfl) rfl) rfl) rfl)
 intro H1 v_one s1 h_one;intro H2 v_two s2 h_two;intro H3 v_hub s3 h_hub;intro H4 v_hinge s4 h_hinge;intro H5 v_apart s5 h_apart;intro H6 v_strip s6 h_strip;intro H7 v_cross s7 h_cross;intro H8 v_chain s8 h_chain;replace h_one:=h_one.tk s2.tk;replace h_one:=h_one.tk s3.tk;replace h_one:=h_one.tk s4.tk;replace h_one:=h_one.tk s5.tk;replace h_one:=h_one.tk s6.tk;replace h_one:=h_one.tk s7.tk;replace h_one:=h_one.tk s8.tk;replace h_two:=h_two.tk s3.tk;replace h_two:=h_two.tk s4.tk;replace h_two:=h_two.tk s5.tk;replace h_two:=h_two.tk s6.tk;replace h_two:=h_two.tk s7.tk;replace h_two:=h_two.tk s8.tk;replace h_hub:=h_hub.tk s4.tk;replace h_hub:=h_hub.tk s5.tk;replace h_hub:=h_hub.tk s6.tk;replace h_hub:=h_hub.tk s7.tk;replace h_hub:=h_hub.tk s8.tk;replace h_hinge:=h_hinge.tk s5.tk;replace h_hinge:=h_hinge.tk s6.tk;replace h_hinge:=h_hinge.tk s7.tk;replace h_hinge:=h_hinge.tk s8.tk;replace h_apart:=h_apart.tk s6.tk;replace h_apart:=h_apart.tk s7.tk;replace h_apart:=h_apart.tk s8.tk;replace h_strip:=h_strip.tk s7.tk;replace h_strip:=h_strip.tk s8.tk;replace h_cross:=h_cross.tk s8.tk;refine ⟨_,rfl,_,rfl,_,rfl,_,rfl,_,rfl,_,rfl,_,rfl,_,rfl,by show 8≤sizeLine;decide,fun r nr=>?_⟩;have s9:Same H8 (upd H8 r (.lst [v_one,v_two,v_hinge,v_apart,v_hub,v_strip,v_chain,v_cross])):=Same.new nr;have s08:=(((((((s1.trans s2).trans s3).trans s4).trans s5).trans s6).trans s7).trans s8);refine q _ r _ (s08.trans s9) ?_ Zc ?_
 · cases e:H r with
   | none=>rfl
   | some o=>rw [s08 _ _ e] at nr;cases nr
 · exact (.cons (h_one.tk s9.tk) (.cons (h_two.tk s9.tk) (.cons (h_hinge.tk s9.tk) (.cons (h_apart.tk s9.tk) (.cons (h_hub.tk s9.tk) (.cons (h_strip.tk s9.tk) (.cons (h_chain.tk s9.tk) (.cons (h_cross.tk s9.tk) .nil))))))))
abbrev Y1:Stmt:=top 47
theorem Zfw (F:Fun K "_law_plate" "_law_plate" Y1 f fd) (Ca_:a28_ P w K mg base) (Ci_:a29_ P w K mg base) (Cx_:a30_ P w K mg base):FnOk P w K mg base CX0 3 f fd ["_law_state_here","_law_most"] Zhk:=by
 have sc:FnScope ["_law_state_here","_law_most","_law_points","_law_pieces","_law_a","_law_b","_law_c","_law_d","_law_s","_law_t","_law_order_here","_law_corners","_law_at","_law_x","_law_y","_law_rows","_law_thicks"] ["_law_state_here","_law_most"] (Zf Y1):=fsc (by decide +kernel);refine F.ok sc (fun vs H Q E h=>by obtain ⟨l,rfl,_⟩:=h;rfl) fun cdv A outer s H vs Q E hr h=>?_;obtain ⟨l,rfl,hl,q'⟩:=h;have nd:=sc.nd;refine' ⟨_,?term,?read⟩
 case term=>refine' Zd ?g1 ?g2;(case g1=>refine' Zah ?g3 (Ys (n:=2) rfl (Zl (Zm (i:=2) nd rfl (Or.inl rfl)) (Zl (Zm (i:=3) nd rfl (Or.inl rfl)) Z7)));case g3=>refine' Zu Ym (Zss Cx_ hr (by decide) rfl) (Zk Ca_ hr (by decide) rfl (Za (pv 0) (Za (pv 1) Zb rfl) rfl)) (fun _ _=>rfl));case g2=>refine' Zd (Zng rfl nd (i:=4) (j:=5) (k:=6) rfl rfl rfl (by decide) (by decide) (by decide) rfl rfl rfl (Za (Zw Y7 Ze (Zk Ca_ hr (by decide) rfl (Za (pv 0) (Za Ze Zb rfl) rfl))) (Za (Zw Xw (Zk Ca_ hr (by decide) rfl (Za (pv 0) (Za Ze Zb rfl) rfl)) Ze) (Za (Zw Xw (Zk Ca_ hr (by decide) rfl (Za (pv 0) (Za Ze Zb rfl) rfl)) Ze) Zb rfl) rfl) rfl) rfl) ?g4;case g4=>refine' Zd (Zng rfl nd (i:=7) (j:=8) (k:=9) rfl rfl rfl (by decide) (by decide) (by decide) rfl rfl rfl (Za (Zw Xw (Zk Ca_ hr (by decide) rfl (Za (pv 0) (Za Ze Zb rfl) rfl)) Ze) (Za (Zw Xw (Zk Ca_ hr (by decide) rfl (Za (pv 0) (Za Ze Zb rfl) rfl)) Ze) (Za (Zw Xw (Zk Ca_ hr (by decide) rfl (Za (pv 0) (Za Ze Zb rfl) rfl)) Ze) Zb rfl) rfl) rfl) rfl) ?g5;case g5=>refine' Zd ?g6 ?g7;(case g6=>refine' Xp (Ye Zlt (Zw Yl (pv 4) (pv 7)) (Zw Yl (pv 5) (pv 6)) (Yo _)) ?g8 Z4;case g8=>refine' Zi ?g9;case g9=>refine' Zah ?ga (Ys (n:=4) rfl (Zl (Zm (i:=4) nd rfl (Or.inl rfl)) (Zl (Zm (i:=5) nd rfl (Or.inl rfl)) (Zl (Zm (i:=6) nd rfl (Or.inl rfl)) (Zl (Zm (i:=7) nd rfl (Or.inl rfl)) Z7)))));case ga=>refine' Yb ?gb;case gb=>refine' Za Ze (Za (pv 5) (Za Ze (Za Ze Zb rfl) rfl) rfl) rfl);case g7=>refine' Zd (Zy (i:=10) nd rfl (Or.inr rfl) (Zk Ci_ hr (by decide) rfl (Za (pv 0) (Za (Zj Zq rfl T.b_len Yt (Za (pv 2) Zb rfl)) Zb rfl) rfl))) ?gc;case gc=>refine' Zd (Zy (i:=11) nd rfl (Or.inl rfl) (Zw Zrl (Y8 (Za (Yb (Za Ze (Za Ze Zb rfl) rfl)) Zb rfl)) (Zj Zq rfl T.b_len Yt (Za (pv 2) Zb rfl)))) ?gd;case gd=>refine' Zd ?ge ?gf;(case ge=>refine' Zav PassesOwn.never rfl (Zfn .t rfl T.b_enumerate (Za (pv 2) Zb rfl)) (Ys (n:=2) rfl (Zl (Zm (i:=12) nd rfl (Or.inl rfl)) (Zl (Ys (n:=2) rfl (Zl (Zm (i:=13) nd rfl (Or.inl rfl)) (Zl (Zm (i:=14) nd rfl (Or.inl rfl)) Z7))) Z7))) ?gg;case gg=>refine' Zi ?gh;case gh=>refine' Zah (Yb (Za (Zw Y7 (Zw Y7 (Zw Yl (pv 4) (pv 13)) (Zw Yl (pv 5) (pv 14))) (pv 8)) (Za (Zw Y7 (Zw Y7 (Zw Yl (pv 6) (pv 13)) (Zw Yl (pv 7) (pv 14))) (pv 9)) Zb rfl) rfl)) ?gi;case gi=>refine' Zhc (pv 11) ?gj Zbt;case gj=>refine' Zu Ym (pv 10) (pv 12) (fun _ _=>rfl));case gf=>refine' Zd ?gk ?gl;(case gk=>refine' Zy (i:=15) nd rfl (Or.inl rfl) ?gm;case gm=>refine' Zj Zcq rfl T.b_sorted Z2 ?gn;case gn=>refine' Za ?go Zb rfl;case go=>refine' Yq (N:=["_law_piece","_law_order_here"]) (fr:=[none,some 10]) rfl (Zv (XN:=["_law_state_here","_law_most","_law_points","_law_pieces","_law_a","_law_b","_law_c","_law_d","_law_s","_law_t","_law_order_here","_law_corners","_law_at","_law_x","_law_y","_law_rows","_law_thicks"]) (Scope.names (Zf Y1)) rfl rfl rfl (fun _ h=>Zr h) (by decide +kernel) rfl) (Y6 (pv 3)) (fun _ _ _ _=>pgB 0) (fun _ _ _ _=>Zp) (fun _ _ _ _=>Zs (Yi K rfl) rfl T.b_tuple Z5 (Za (Zj (Y3 K rfl) rfl T.b_sorted Z2 (Za (Yq (N:=["_law_at","_law_order_here"]) (fr:=[none,some 1]) rfl (Zv (XN:=["_law_piece","_law_order_here"]) (relN _ (Scope.names (Zf Y1))) rfl rfl rfl (fun _ h=>Za0 (by decide +kernel) h) (by decide +kernel) rfl) (Zb9 K rfl (pv 0)) (fun _ _ _ _=>pgB 0) (fun _ _ _ _=>Zp) (fun _ _ _ _=>Zu (Xh K rfl) (pv 1) (pv 0) (fun _ _=>rfl))) Zb rfl)) Zb rfl)));case gl=>refine' Zd ?gp ?gq;(case gp=>refine' Zy (i:=16) nd rfl (Or.inl rfl) ?gr;case gr=>refine' Zs Zx rfl T.b_tuple Z5 ?gs;case gs=>refine' Za ?gt Zb rfl;case gt=>refine' Yq (N:=["_law_row","_law_state_here"]) (fr:=[none,some 0]) rfl (Zv (XN:=["_law_state_here","_law_most","_law_points","_law_pieces","_law_a","_law_b","_law_c","_law_d","_law_s","_law_t","_law_order_here","_law_corners","_law_at","_law_x","_law_y","_law_rows","_law_thicks"]) (Scope.names (Zf Y1)) rfl rfl rfl (fun _ h=>Zr h) (by decide +kernel) rfl) (Yg (pv 15)) (fun _ _ _ _=>pgB 0) (fun _ _ _ _=>Zp) (fun _ _ _ _=>Zw Y7 Ze (Zk Ca_ hr (by decide) rfl (Za (pv 1) (Za (Zu (Xh K rfl) (Y8 (Za Ze (Za Ze Zb rfl) rfl)) (Zk Ca_ hr (by decide) rfl (Za (pv 1) (Za Ze Zb rfl) rfl)) (fun _ _=>rfl)) Zb rfl) rfl))));case gq=>refine' Zi ?gu;case gu=>refine' Zo ?gv;case gv=>refine' Yb ?gw;case gw=>refine' Za (Zs Zx rfl T.b_tuple Z5 (Za (pv 11) Zb rfl)) (Za (Zs Zx rfl T.b_tuple Z5 (Za (pv 15) Zb rfl)) (Za (pv 16) (Za (Yb (Za (Zk Ca_ hr (by decide) rfl (Za (pv 0) (Za Ze Zb rfl) rfl)) (Za (Zw Y7 Ze (Zk Ca_ hr (by decide) rfl (Za (pv 0) (Za Ze Zb rfl) rfl))) Zb rfl) rfl)) Zb rfl) rfl) rfl) rfl
 refine ⟨rfl,fun H0 R us0 s0 nR eR al0=>?_⟩;have nRl:R≠l:=hl.neN nR;refine ⟨_,rfl,_,rfl,l,8,rfl,hl.same s0,by decide,Xl (by decide),fun r0 H1 r00 r01 k1 l1=>?_⟩;have al1:Al (IsSh H1) us0 Zdg:=al0.imp fun v x r=>r.tk (tkS k1 (hl.same s0));obtain ⟨u,sh,eu,hsh,msh⟩:=Zqe al1 r00 r01;have B:=Zll msh;obtain ⟨pts,pcs⟩:=sh;obtain ⟨a0,c,p,rfl,ha0,hc0,hp0⟩:=hsh;obtain ⟨c,cvs,rfl,hc7,cal⟩:=hc0;obtain ⟨p,pvs,rfl,hp7,pal⟩:=hp0;replace cal:Al (IsP H1) cvs pts:=cal;replace pal:Al (IsI H1) pvs pcs:=pal;replace B:Base pts pcs:=B;have n6:pts.length≤6:=B.n6;have clen:=cal.1;refine ⟨R,us0,_,_,rfl,rfl,SqL.of (k1 _ _ nRl eR),eu,?_⟩;refine ⟨a0,_,rfl,SqT.of ha0,rfl,_,_,rfl,_,_,rfl,rfl,?_⟩;refine ⟨_,rfl,l,3,rfl,l1,by decide,Xl (by decide),fun r1 H2 r10 r11 k2 l2=>⟨_,_,rfl,rfl,?_⟩⟩;refine ⟨_,rfl,l,5,rfl,l2,by decide,Xl (by decide),fun r2 H3 r20 r21 k3 l3=>⟨_,_,rfl,rfl,?_⟩⟩;refine ⟨_,rfl,l,5,rfl,l3,by decide,Xl (by decide),fun r3 H4 r30 r31 k4 l4=>⟨_,_,rfl,rfl,?_⟩⟩;refine ⟨_,_,_,rfl,?_⟩;refine ⟨_,rfl,l,7,rfl,l4,by decide,Xl (by decide),fun r4 H5 r40 r41 k5 l5=>⟨_,_,rfl,rfl,?_⟩⟩;refine ⟨_,rfl,l,41,rfl,l5,by decide,Xl (by decide),fun r5 H6 r50 r51 k6 l6=>⟨_,_,rfl,rfl,?_⟩⟩;refine ⟨_,rfl,l,9,rfl,l6,by decide,Xl (by decide),fun r6 H7 r60 r61 k7 l7=>⟨_,_,rfl,rfl,?_⟩⟩;refine ⟨_,_,_,rfl,?_⟩;have k17:=k2.trans (k3.trans (k4.trans (k5.trans (k6.trans k7))));have t7:Tk H1 H7:=tkS k17 l1;have kk:Keep l H H7:=s0.keep.trans (k1.trans k17);dsimp only;refine Zuz (R:=fun σ Hn=>∃ A:Aff,σ=[some (.ref l),some (.int 8),some (.ref c),some (.ref p),some (.int A.a),some (.int A.b),some (.int A.c),some (.int A.d),some (.int A.s),some (.int A.t),none,none,none,none,none,none,none]∧A.det≠0∧Small A∧(A.s.natAbs≤20∧A.t.natAbs≤20)∧Same H7 Hn) ?_ ?_ ?_ ?_ ?_
 · refine ⟨_,rfl,_,rfl,_,_,rfl,rfl,mul4 (by omega) (by omega),_,rfl,_,rfl,_,_,rfl,rfl,mul4 (by omega) (by omega),rfl,_,rfl,?_⟩;refine ite2 (fun hd=>?_) (fun hd=>?_)
   · refine ⟨_,rfl,z4_,fun Z nZ=>?_⟩;exact ⟨Z,_,rfl,SqT.of Zc,rfl,_,_,rfl,_,_,rfl,_,_,rfl,_,_,rfl,rfl,Aff.mk 1 (r2-2) 0 1 (r5-20) (r6-4),rfl,by show (1:Int)*1-(r2-2)*0≠0;omega,⟨by show (1:Int).natAbs≤3;decide,by show (r2-2).natAbs≤3;omega,by show (0:Int).natAbs≤3;decide,by show (1:Int).natAbs≤3;decide,by show (r5-20).natAbs≤30;omega,by show (r6-4).natAbs≤30;omega⟩,⟨by show (r5-20).natAbs≤20;omega,by show (r6-4).natAbs≤20;omega⟩,Same.new nZ⟩
   · refine ⟨Aff.mk (1+r1) (r2-2) (r3-2) (r4-3) (r5-20) (r6-4),rfl,fun z=>?_,⟨by show (1+r1).natAbs≤3;omega,by show (r2-2).natAbs≤3;omega,by show (r3-2).natAbs≤3;omega,by show (r4-3).natAbs≤3;omega,by show (r5-20).natAbs≤30;omega,by show (r6-4).natAbs≤30;omega⟩,⟨by show (r5-20).natAbs≤20;omega,by show (r6-4).natAbs≤20;omega⟩,Same.refl _⟩;refine hd (n29_ (congrArg V.int ?_));have z':(1+r1)*(r4-3)-(r2-2)*(r3-2)=0:=z;omega
 · rintro Q1 Q2 hq ⟨v1,e1,v2,e2,i1,j1,f1,f2,m1,v3,e3,v4,e4,i2,j2,f3,f4,m2,f5,k,f6,q6⟩
   exact ⟨v1,e1,v2,e2,i1,j1,f1,f2,m1,v3,e3,v4,e4,i2,j2,f3,f4,m2,f5,k,f6,hq _ _ q6⟩
 · rintro key H1' ⟨v1,e1,z1,f1⟩
   refine ⟨v1,e1,z1,fun Z nZ=>?_⟩;obtain ⟨b1,xs1,g1,g2,g3,x1,y1,g4,x2,y2,g5,x3,y3,g6,x4,y4,g7,g8,q8⟩:=f1 Z nZ;exact ⟨b1,xs1,g1,g2,g3,x1,y1,g4,x2,y2,g5,x3,y3,g6,x4,y4,g7,g8,key _ _ q8⟩
 · exact fun key H1' r=>key _ _ r
 rintro σ H7n ⟨A,rfl,hdet,W,W2,s7n⟩
 replace t7:=t7.trans s7n.tk;replace kk:=kk.trans s7n.keep;replace l7:=l7.same s7n;clear k1 k2 k3 k4 k5 k6 k7 k17;have Wa:=W.a;have Wb:=W.b;have Wc:=W.c;have Wd:=W.d;obtain ⟨Aa,Ab,Ac,Ad,As,At⟩:=A;replace Wa:Aa.natAbs≤1000:=n74_ Wa (by decide);replace Wb:Ab.natAbs≤1000:=n74_ Wb (by decide);replace Wc:Ac.natAbs≤1000:=n74_ Wc (by decide);replace Wd:Ad.natAbs≤1000:=n74_ Wd (by decide);refine ⟨_,rfl,_,rfl,c,cvs,rfl,.inr (SqT.of (t7 _ _ hc7)),l,cvs.length,rfl,l7,by omega,fun H8 O o k8 l8 nO eO pm=>?_⟩;rw [cal.1] at pm;have CO:=Zrg pm;have t8:Tk H1 H8:=t7.trans (tkS k8 l7);refine ⟨z2_,fun z nz=>?_⟩;generalize gG:upd H8 z (.tup [.int 0,.int 0])=H9;obtain ⟨s9,e9⟩:=gen_upd gG nz;refine ⟨z1_,fun y ny=>?_⟩;generalize gG:upd H9 y (.lst [.ref z])=H10;obtain ⟨s10,e10⟩:=gen_upd gG ny;have t10:Tk H1 H10:=t8.trans (s9.trans s10).tk;refine ⟨_,rfl,c,cvs,rfl,.inr (SqT.of (t10 _ _ hc7)),y,cvs.length,_,rfl,rfl,e10,by omega,by omega,by simp;rw [sizeLine_eq];omega,fun C nC=>?_⟩;rw [n62_,Zfi];have s11:Same H10 (upd H10 C (.lst (List.replicate cvs.length (.ref z)))):=Same.new nC;have e11:upd H10 C (.lst (List.replicate cvs.length (.ref z))) C=some (.lst (List.replicate cvs.length (.ref z))):=Zc;have nCl:C≠l:=(l8.same (s9.trans s10)).neN nC;generalize upd H10 C (.lst (List.replicate cvs.length (.ref z)))=H11 at s11 e11 ⊢;have s811:=s9.trans (s10.trans s11);have t11:Tk H1 H11:=t8.trans s811.tk;have l11:=l8.same s811;have k11:Keep l H H11:=(kk.trans k8).trans s811.keep;have eO11:=s811 _ _ eO;have nOC:O≠C:=Zg (s9.trans s10 _ _ eO) nC
 have nC0:H C=none:=by
  cases e:H C with
  | none=>rfl
  | some ob =>
    have:=(kk.trans k8).trans (s9.trans s10).keep _ _ nCl e
    rw [this] at nC;cases nC
 refine ⟨_,rfl,c,rfl,⟨_,SqT.of (t11 _ _ hc7)⟩,?_⟩;refine Zb0 (n:=pts.length) (fun i σ H2=>Keep C H11 H2∧(∃ x1 x2 x3,σ=[some (.ref l),some (.int 8),some (.ref c),some (.ref p),some (.int Aa),some (.int Ab),some (.int Ac),some (.int Ad),some (.int As),some (.int At),some (.ref O),some (.ref C),x1,x2,x3,none,none])∧∃ us cs,H2 C=some (.lst us)∧Al (IsP H2) us cs∧cs.length=pts.length∧∀ j:Nat,j<i→cs[(o.getD j 0).toNat]? = some ((Aff.mk Aa Ab Ac Ad As At).at (pts.getD j (0,0)))) ⟨Keep.refl _ _,⟨_,_,_,rfl⟩,_,List.replicate cvs.length (0,0),e11,Zrt ⟨z,rfl,s11 _ _ (s10 _ _ e9)⟩ _,by simp [cal.1],fun j hj=>absurd hj (Nat.not_lt_zero _)⟩ (fun i σ H2 hi p=>?_) (fun σ H2 p=>?_) (fun i x σ H2 H3 hi y p=>?_) (fun σ H2 p=>?_)
 · have t2:Tk H11 H2:=Tk.of_keep p.1 e11;exact ⟨cvs,cvs[i]'(by rw [cal.1];exact hi),SqT.of (t2 _ _ (t11 _ _ hc7)),n1_ _⟩
 · have t2:Tk H11 H2:=Tk.of_keep p.1 e11;exact ⟨cvs,SqT.of (t2 _ _ (t11 _ _ hc7)),cal.1⟩
 · obtain ⟨k2,⟨x1,x2,x3,rfl⟩,us,cs,eC,alc,lc,hc⟩:=p;obtain ⟨g,x,rfl,ng,rfl,y1⟩:=y;have t2:Tk H11 H2:=Tk.of_keep k2 e11;have ex:=y1 cvs (SqT.of (t2 _ _ (t11 _ _ hc7)));obtain ⟨pt,ept,b,rfl,hb⟩:=cal.get ex;have hpt:=Zqi (B.bd pt (n7_ ept));generalize gG:upd H2 g (.tup [.int i,.ref b])=H3;obtain ⟨sg,eg⟩:=gen_upd gG ng;have hb3:=sg _ _ (t2 _ _ (t11 _ _ hb));refine ⟨g,_,rfl,SqT.of eg,rfl,_,_,rfl,_,_,rfl,⟨b,_,rfl,SqT.of hb3,rfl,_,_,rfl,_,_,rfl,rfl,rfl,?_⟩⟩;refine ⟨_,rfl,_,rfl,_,_,rfl,rfl,mul4 Wa hpt.1,_,rfl,_,rfl,_,_,rfl,rfl,mul4 Wb hpt.2,_,_,rfl,rfl,_,rfl,_,_,rfl,rfl,?_⟩;refine ⟨_,rfl,_,rfl,_,_,rfl,rfl,mul4 Wc hpt.1,_,rfl,_,rfl,_,_,rfl,rfl,mul4 Wd hpt.2,_,_,rfl,rfl,_,rfl,_,_,rfl,rfl,?_⟩;refine ⟨z2_,fun w nw=>?_⟩;generalize hH4:upd H3 w _=H4;have sw:Same H3 H4:=by (rw [← hH4];exact Same.new nw)
   have ew0:=(congrFun hH4 w).symm;rw [Zc] at ew0;have ew:H4 w=some (.tup [.int (Aa*pt.1+Ab*pt.2+As),.int (Ac*pt.1+Ad*pt.2+At)]):=ew0;clear ew0 hH4;have s24:=sg.trans sw;have eO4:H4 O=some (.lst (o.map V.int)):=s24 _ _ (k2 _ _ nOC eO11);have bo:=CO.bd i hi;have eC4:=s24 _ _ eC;refine ⟨_,rfl,_,rfl,_,rfl,O,_,(i:Int),_,rfl,rfl,SqL.of eO4,o_at CO (Int.natCast_nonneg i) (Int.ofNat_lt.mpr hi),?_⟩;have ulen:us.length=pts.length:=by rw [alc.1,lc]
   refine ⟨C,us,_,(o.getD i 0).toNat,rfl,rfl,eC4,Zno bo.1 (by rw [ulen];exact bo.2),?_⟩;have tC:Tk H4 (upd H4 C (.lst (us.set (o.getD i 0).toNat (.ref w)))):=Tk.upd_lst eC4;refine ⟨fun b' o' nb e=>?_,⟨_,_,_,rfl⟩,_,cs.set (o.getD i 0).toNat ((Aff.mk Aa Ab Ac Ad As At).at pt),Zc,?_,by simp [lc],fun j hj=>?_⟩
   · rw [Zh nb];exact s24 _ _ (k2 _ _ nb e)
   · exact Zvm (alc.imp fun v x r=>r.tk (s24.tk.trans tC)) _ ⟨w,rfl,tC _ _ ew⟩
   · rw [List.getElem?_set]
     by_cases hji:j=i
     · subst hji;rw [if_pos rfl,if_pos (by rw [lc];omega),n2_ (l:=pts),ept];rfl
     · rw [if_neg (fun z=>hji (CO.inj j i (by omega) hi (by have b2:=CO.bd j (by omega);omega)))];exact hc j (by omega)
 · obtain ⟨k2,⟨x1,x2,x3,rfl⟩,us,cs,eC,alc,lc,hc⟩:=p;have t2:Tk H11 H2:=Tk.of_keep k2 e11;have t12:=t11.trans t2;have eO2:=k2 _ _ nOC eO11
   have l2:StAt H2 l:=by
    obtain ⟨a',b',c',e,r⟩:=l11;exact ⟨a',b',c',k2 _ _ nCl.symm e,r⟩
   have k02:Keep l H H2:=fun b' o' nb e=>k2 _ _ (Zg e nC0) (k11 _ _ nb e);have hp2:=t12 _ _ hp7;refine ⟨_,rfl,p,rfl,⟨_,SqT.of hp2⟩,fun D nD=>?_⟩;refine lc_T (k:=.t) (vs:=pvs) (fun H v pc=>∃ r,IsI H v r∧(r.Perm (pc.map (oAt o))∧r.Pairwise (·≤·))) (fun H1 H2 v x t r=>let ⟨r',i,j⟩:=r;⟨r',i.tk t,j⟩) pcs (by rw [pal.1]) (by rw [pal.1];have:=B.p4;omega) nD hp2 (fun i w H4 C' hw s4 c'=>?_) (fun H4 vs s4 e4 a4=>?_)
   · obtain ⟨pc,epc,b,rfl,hb⟩:=pal.get hw;have hb4:=s4 _ _ (t12 _ _ hb);obtain ⟨i1,j1,k1,rfl,bi,bj,bk,_⟩:=Zqw (B.pc _ (n7_ epc));refine ⟨_,rfl,b,rfl,⟨_,SqT.of hb4⟩,fun E nE=>?_⟩;refine lc_T (k:=.t) (vs:=[i1,j1,k1].map V.int) RI hRI ([i1,j1,k1].map (oAt o)) (by simp) (by simp) nE hb4 (fun n x H6 C6 hx s6 c6=>?_) (fun H6 us6 s6 e6 a6=>?_)
     · rw [n6_] at hx;obtain ⟨y,ey,rfl⟩:=n10_.mp hx
       have by':0≤y∧y<(pts.length:Int):=by
        have:=n7_ ey
        simp only [n12_,n16_,or_false] at this
        rcases this with rfl|rfl|rfl<;>assumption
       exact ⟨_,rfl,_,rfl,O,_,y,_,rfl,rfl,SqL.of (s6 _ _ (s4 _ _ eO2)),o_at CO by'.1 by'.2,c6 _ _ _ (Same.refl _) (by rw [n6_,ey];rfl) rfl⟩
     · rw [a6.ints] at e6;refine ⟨E,_,rfl,SqL.of e6,by simp,fun L ns' nL pm' so'=>?_⟩;have s7:Same H6 (upd H6 L (.lst (ns'.map V.int))):=Same.new nL;have e7:upd H6 L (.lst (ns'.map V.int)) L=some (.lst (ns'.map V.int)):=Zc;generalize upd H6 L (.lst (ns'.map V.int))=H7' at s7 e7 ⊢;refine ⟨L,_,rfl,.inl ⟨SqL.of e7,fun T' nT=>?_⟩⟩;exact c' _ _ [i1,j1,k1] (s6.trans (s7.trans (Same.new nT))) epc ⟨ns',⟨T',rfl,Zc⟩,pm',so'⟩
   · obtain ⟨kl,klen,kal,kT⟩:=Zos a4;have DR:∀ q:List Nat,q.Perm (List.range pcs.length)→Drawn pts pcs (Aff.mk Aa Ab Ac Ad As At) o cs kl q:=fun q hq=>⟨B,hdet,W,CO,lc,hc,klen,fun i hi=>kT i hi,hq⟩;have D0:=DR _ (List.Perm.refl _);have p4:=B.p4;refine ⟨D,vs,kl,3,rfl,SqL.of e4,kal.1,fun i v hv=>?_,D0.knd,by rw [klen];omega,fun k hk=>?_,by decide,fun L q nL qp rise=>?_⟩
     · obtain ⟨k,ek,b,rfl,hb⟩:=kal.get hv;exact ⟨b,k,rfl,ek,hb⟩
     · obtain ⟨n,hn,rfl⟩:=n50_ hk;rw [klen] at hn;obtain ⟨_,_,_,x,y,z,_,e,_⟩:=D0.piece hn
       have:kl[n]=[x,y,z]:=by rw [← e,n2_,n1_ (by rw [klen];exact hn)];rfl
       rw [this];rfl
     · rw [klen] at qp;have D1:=DR q qp;have s5:Same H4 (upd H4 L (.lst (q.map fun i=>vs.getD i .non))):=Same.new nL;have e5:upd H4 L (.lst (q.map fun i=>vs.getD i .non)) L=some (.lst (q.map fun i=>vs.getD i .non)):=Zc;have nLl:L≠l:=(l2.same s4).neN nL;generalize upd H4 L (.lst (q.map fun i=>vs.getD i .non))=H5 at s5 e5 ⊢;have s25:=s4.trans s5;have l5:=l2.same s25;have k05:=k02.trans s25.keep;have qlen:q.length=pcs.length:=by rw [qp.length_eq,n69_]
       refine ⟨_,rfl,L,rfl,⟨_,SqL.of e5⟩,fun E nE=>?_⟩;refine Zsd (n:=pcs.length) (l:=l) (fun H v (x:Int)=>v=.int x∧1≤x∧x≤9) (fun _ _ _ _ _ r=>r) (by omega) (fun σ=>∃ u,σ=[u,some (.ref l)]) ⟨_,rfl⟩ nE l5 (fun i H6 k6 hi=>⟨_,_,SqL.of (k6 _ _ nLl e5),n1_ (by simp [qlen];exact hi)⟩) (fun H6 k6=>⟨_,SqL.of (k6 _ _ nLl e5),by simp [qlen]⟩) (fun i x σ2 H6 H7' C' hi k6 l6 y o' c'=>?_) (fun H6 ts ys k6 l6 e6 hy a6=>?_)
       · obtain ⟨u,rfl⟩:=o';obtain ⟨rfl,y2⟩:=y;refine ⟨_,rfl,z2_,fun W' nW=>?_⟩;have s8':Same H7' (upd H7' W' (.lst [.int 9,.int 2])):=Same.new nW;have e8':upd H7' W' (.lst [.int 9,.int 2]) W'=some (.lst [.int 9,.int 2]):=Zc;have nWl:W'≠l:=l6.neN nW;generalize upd H7' W' (.lst [.int 9,.int 2])=H8' at s8' e8' ⊢;refine ⟨_,rfl,l,2,rfl,l6.same s8',by decide,Xl (by decide),fun r9 H9' r90 r91 k9 l9=>?_⟩;have hr9:r9=0∨r9=1:=by omega
         have fin:∀ m:Int,0<m→m≤9→Zdn [.ref l,.int m] H9' (fun v H=>∃ i j,V.int 1=.int i∧v=.int j∧C' [some x,some (.ref l)] (.int (i+j)) H) E0:=fun m m0 m9=>⟨l,m,rfl,l9,m0,Xl (by show _<18446744073709551616;omega),fun r10 H10' ra rb k10 l10=>⟨_,_,rfl,rfl,c' _ _ _ _ ⟨_,rfl⟩ (s8'.keep.trans (k9.trans k10)) l10 ⟨rfl,by omega,by omega⟩⟩⟩
         rcases hr9 with rfl|rfl
         · exact ⟨W',_,_,_,rfl,rfl,SqL.of (k9 _ _ nWl e8'),rfl,fin 9 (by decide) (by decide)⟩
         · exact ⟨W',_,_,_,rfl,rfl,SqL.of (k9 _ _ nWl e8'),rfl,fin 2 (by decide) (by decide)⟩
       · have ets:ts=ys.map V.int:=by
          refine (Al.ints (ns:=ys) ?_);exact a6.imp fun v x r=>r.1
         refine ⟨E,ts,rfl,.inl ⟨SqL.of e6,fun T' nT=>?_⟩⟩;have s7:Same H6 (upd H6 T' (.tup ts)):=Same.new nT;have e7:upd H6 T' (.tup ts) T'=some (.tup (ys.map V.int)):=by rw [Zc,ets]
         generalize upd H6 T' (.tup ts)=H7' at s7 e7 ⊢;have t57:Tk H5 H7':=(tkS k6 l5).trans s7.tk;have t27:Tk H2 H7':=s25.tk.trans t57;have k07:=k05.trans (k6.trans s7.keep);have l7':=l6.same s7;have nDl:C≠l:=nCl;have eC7:H7' C=some (.lst us):=s7 _ _ (k6 _ _ nCl (s25 _ _ eC));have eL7:H7' L=some (.lst (q.map fun i=>vs.getD i .non)):=s7 _ _ (k6 _ _ nLl e5);refine ⟨_,rfl,C,us,rfl,.inl ⟨SqL.of eC7,fun T1 n1=>?_⟩⟩;generalize gG:upd H7' T1 (.tup us)=G1;obtain ⟨u1,f1⟩:=gen_upd gG n1;refine ⟨_,rfl,L,_,rfl,.inl ⟨SqL.of (u1 _ _ eL7),fun T2 n2=>?_⟩⟩;generalize gG:upd G1 T2 (.tup (q.map fun i=>vs.getD i .non))=G2;obtain ⟨u2,f2⟩:=gen_upd gG n2;have u02:=u1.trans u2;refine ⟨_,rfl,_,rfl,l,10,rfl,l7'.same u02,by decide,Xl (by decide),fun rl G3 rl0 rl1 k3' l3'=>?_⟩;refine ⟨_,rfl,l,9,rfl,l3',by decide,Xl (by decide),fun rm G4 rm0 rm1 k4' l4'=>⟨_,_,rfl,rfl,z2_,fun T4 n4=>?_⟩⟩;generalize gG:upd G4 T4 (.tup [.int rl,.int (1+rm)])=G5;obtain ⟨u5,f5⟩:=gen_upd gG n4;refine ⟨z4_,fun T5 n5=>?_⟩;have u6:Same G5 (upd G5 T5 (.tup [.ref T1,.ref T2,.ref T',.ref T4])):=Same.new n5;have w24:Tk G2 G4:=(tkS k3' (l7'.same u02)).trans (tkS k4' l3');have w26:Tk G2 (upd G5 T5 (.tup [.ref T1,.ref T2,.ref T',.ref T4])):=w24.trans (u5.trans u6).tk;have w76:=u02.tk.trans w26;refine q' _ _ ⟨cs,q.map fun i=>kl.getD i [],ys,rl,1+rm⟩ (k07.trans (u02.keep.trans (k3'.trans (k4'.trans (u5.trans u6).keep)))) (l4'.same (u5.trans u6)) ⟨T5,_,_,_,_,rfl,Zc,⟨T1,us,rfl,w26 _ _ (u2 _ _ f1),alc.imp fun v x r=>r.tk (t27.trans w76)⟩,⟨T2,_,rfl,w26 _ _ f2,?_⟩,⟨T',rfl,w76 _ _ e7⟩,⟨T4,rfl,u6 _ _ f5⟩⟩ (D1.ok rise (by rw [hy]) (fun t ht=>?_) ⟨rl0,by omega⟩ ⟨by omega,by omega⟩) (show (q.map fun i=>kl.getD i []).length≤4 by rw [n5_,qlen];exact p4) (show cs.length≤6 by rw [lc];exact n6) ⟨pts,pcs,_,o,kl,q,D1,rfl,W2⟩
         · refine (Zv4 kal (q:=q) fun i hi=>?_).imp fun v x r=>r.tk (s5.tk.trans (t57.trans w76));rw [klen];exact n24_.mp (qp.mem_iff.mp hi)
         · obtain ⟨i,hi,e⟩:=n50_ ht;obtain ⟨v,_,r⟩:=a6.got (show ys[i]? = some t by rw [n1_ hi,e]);exact r.2
abbrev X2:Stmt:=top 48
theorem Zjd (F:Fun K "_law_led" "_law_led" X2 f fd):FnOk P w K mg base CX0 2 f fd ["_law_plate_here","_law_order_here","_law_matrix","_law_shift"] Zrc:=by
 have sc:FnScope ["_law_plate_here","_law_order_here","_law_matrix","_law_shift","_law_a","_law_b","_law_c","_law_d","_law_points","_law_at","_law_x","_law_y","_law_rows"] ["_law_plate_here","_law_order_here","_law_matrix","_law_shift"] (Zf X2):=fsc (by decide +kernel);refine F.ok sc (fun vs H Q E h=>by obtain ⟨v,P',O,m,o2,M,rfl,_⟩:=h;rfl) fun cdv A outer s H vs Q E hr h=>?_;obtain ⟨v,P',O,m,o2,M,rfl,⟨a,c,p,t,st,rfl,ha,⟨c,cvs,rfl,hc,cal⟩,⟨p,pvs,rfl,hp,pal⟩,⟨t,rfl,ht⟩,⟨st,rfl,hst⟩⟩,ok,p4,c6,⟨pts,pcs,A',o,kl,q,D,hps,hs⟩,hO,CO,hm,hM,hMt,k'⟩:=h;have nd:=sc.nd;refine' ⟨_,?term,?read⟩
 case term=>refine' Zd (Zah (pv 2) (Ys (n:=4) rfl (Zl (Zm (i:=4) nd rfl (Or.inl rfl)) (Zl (Zm (i:=5) nd rfl (Or.inl rfl)) (Zl (Zm (i:=6) nd rfl (Or.inl rfl)) (Zl (Zm (i:=7) nd rfl (Or.inl rfl)) Z7)))))) ?g1;case g1=>refine' Zd (Zy (i:=8) nd rfl (Or.inl rfl) (Zw Zrl (Y8 (Za (Yb (Za Ze (Za Ze Zb rfl) rfl)) Zb rfl)) (Zj Zq rfl T.b_len Yt (Za (pv 1) Zb rfl)))) ?g2;case g2=>refine' Zd ?g3 ?g4;(case g3=>refine' Zav PassesOwn.never rfl (Zfn .t rfl T.b_enumerate (Za (Zu Z1 (pv 0) Ze (fun _ _=>rfl)) Zb rfl)) (Ys (n:=2) rfl (Zl (Zm (i:=9) nd rfl (Or.inl rfl)) (Zl (Ys (n:=2) rfl (Zl (Zm (i:=10) nd rfl (Or.inl rfl)) (Zl (Zm (i:=11) nd rfl (Or.inl rfl)) Z7))) Z7))) (Zi (Zah (Yb (Za (Zw Y7 (Zw Y7 (Zw Yl (pv 4) (pv 10)) (Zw Yl (pv 5) (pv 11))) (pv 3)) (Za (Zw Xw (Zw Y7 (Zw Yl (pv 6) (pv 10)) (Zw Yl (pv 7) (pv 11))) (pv 3)) Zb rfl) rfl)) (Zhc (pv 8) (Zu Ym (pv 1) (pv 9) (fun _ _=>rfl)) Zbt))));case g4=>refine' Zd (Ze5 (g:=(gTup K 2 (X0 (Y2 0) (X0 (Y2 1) gNil)))) (N:=["_law_piece","_law_thick","_law_order_here"]) (fr:=[none,none,some 1]) rfl rfl (Zm (i:=12) nd rfl (Or.inl rfl)) (Zv (XN:=["_law_plate_here","_law_order_here","_law_matrix","_law_shift","_law_a","_law_b","_law_c","_law_d","_law_points","_law_at","_law_x","_law_y","_law_rows"]) (Scope.names (Zf X2)) rfl rfl rfl (fun _ h=>Zr h) (by decide +kernel) rfl) (Zow .t .t rfl T.b_zip (Za (Zu Z1 (pv 0) Ze (fun _ _=>rfl)) (Za (Zu Z1 (pv 0) Ze (fun _ _=>rfl)) Zb rfl) rfl)) (fun _ _ _ _=>Ys (n:=2) rfl (Zl (pgB 0) (Zl (pgB 1) Z7))) (fun _ _ _ _=>Zp) (fun _ _ _ _=>Yb (Za (Zs (Yi K rfl) rfl T.b_tuple Z5 (Za (Zj (Y3 K rfl) rfl T.b_sorted Z2 (Za (Yq (N:=["_law_one","_law_order_here"]) (fr:=[none,some 2]) rfl (Zv (XN:=["_law_piece","_law_thick","_law_order_here"]) (relN _ (Scope.names (Zf X2))) rfl rfl rfl (fun _ h=>Za0 (by decide +kernel) h) (by decide +kernel) rfl) (Zb9 K rfl (pv 0)) (fun _ _ _ _=>pgB 0) (fun _ _ _ _=>Zp) (fun _ _ _ _=>Zu (Xh K rfl) (pv 1) (pv 0) (fun _ _=>rfl))) Zb rfl)) Zb rfl)) (Za (pv 1) Zb rfl) rfl))) ?g5;case g5=>refine' Zd (Zy (i:=12) nd rfl (Or.inl rfl) (Zj (Zg6 (hq3 hr)) rfl T.b_sorted Z2 (Za (pv 12) Zb rfl))) ?g6;case g6=>refine' Zi ?g7;case g7=>refine' Zo ?g8;case g8=>refine' Yb ?g9;case g9=>refine' Za (Zs Zx rfl T.b_tuple Z5 (Za (pv 8) Zb rfl)) ?ga rfl;case ga=>refine' Za (Zs Zx rfl T.b_tuple Z5 (Za (Yq (N:=["_law_row"]) (fr:=[none]) rfl (Yn (by decide) rfl (by decide) rfl rfl) (Yg (pv 12)) (fun _ _ _ _=>pgB 0) (fun _ _ _ _=>Zp) (fun _ _ _ _=>Zu (Xb K rfl) (pv 0) Ze (fun _ _=>rfl))) Zb rfl)) ?gb rfl;case gb=>refine' Za (Zs Zx rfl T.b_tuple Z5 (Za (Yq (N:=["_law_row"]) (fr:=[none]) rfl (Yn (by decide) rfl (by decide) rfl rfl) (Yg (pv 12)) (fun _ _ _ _=>pgB 0) (fun _ _ _ _=>Zp) (fun _ _ _ _=>Zu (Xb K rfl) (pv 0) Ze (fun _ _=>rfl))) Zb rfl)) (Za (Zu Z1 (pv 0) Ze (fun _ _=>rfl)) Zb rfl) rfl
 have lo:=CO.len;have cl:=cal.1;have pl:=pal.1;have t1:=ok.t1;refine ⟨_,rfl,m,_,rfl,SqT.of hm,rfl,_,_,rfl,_,_,rfl,_,_,rfl,_,_,rfl,rfl,?_⟩;refine ⟨z2_,fun z nz=>?_⟩;generalize gG:upd H z (.tup [.int 0,.int 0])=H1;obtain ⟨s1,e1⟩:=gen_upd gG nz;refine ⟨z1_,fun y ny=>?_⟩;generalize gG:upd H1 y (.lst [.ref z])=H2;obtain ⟨s2,e2⟩:=gen_upd gG ny;have s02:=s1.trans s2;refine ⟨_,rfl,O,_,rfl,.inl (SqL.of (s02 _ _ hO)),y,(o2.map V.int).length,_,rfl,rfl,e2,by omega,by rw [n5_];omega,by simp;rw [sizeLine_eq];omega,fun C nC=>?_⟩;rw [n62_,Zfi,n5_,lo];have s3:Same H2 (upd H2 C (.lst (List.replicate P'.cs.length (.ref z)))):=Same.new nC;have e3:upd H2 C (.lst (List.replicate P'.cs.length (.ref z))) C=some (.lst (List.replicate P'.cs.length (.ref z))):=Zc;have nC0:=Yu s02 nC;generalize upd H2 C (.lst (List.replicate P'.cs.length (.ref z)))=H3 at s3 e3 ⊢;have s03:=s02.trans s3;have e1':=s3 _ _ (s2 _ _ e1);have M1:M.a.natAbs≤1000∧M.b.natAbs≤1000∧M.c.natAbs≤1000∧M.d.natAbs≤1000:=Zdr hM fun a b c d e1 e2 e3 e4 hh=>by omega
 refine ⟨_,rfl,a,_,0,_,rfl,rfl,SqT.of (s03 _ _ ha),rfl,c,rfl,⟨_,SqT.of (s03 _ _ hc)⟩,?_⟩;refine Zb0 (n:=P'.cs.length) (fun i σ G=>∃ x1 x2 x3 us cs2,σ=[some (.ref a),some (.ref O),some (.ref m),some (.int M.s),some (.int M.a),some (.int M.b),some (.int M.c),some (.int M.d),some (.ref C),x1,x2,x3,none]∧Same H G∧G C=some (.lst us)∧Al (IsP G) us cs2∧cs2.length=P'.cs.length∧∀ j:Nat,j<i→cs2[(o2.getD j 0).toNat]? = some (M.at (P'.cs.getD j (0,0)))) ⟨_,_,_,_,List.replicate P'.cs.length (0,0),rfl,s03,e3,⟨by simp,fun i v x h1 h2=>?_⟩,by simp,fun j hj=>by omega⟩ (fun i σ G hi pp=>?_) (fun σ G pp=>?_) (fun i x σ G G' hi y' pp=>?_) (fun σ G pp=>?_)
 · rw [List.getElem?_replicate] at h1 h2;split at h1
   · rename_i hh
     rw [if_pos hh] at h2;cases h1;cases h2
     exact ⟨z,rfl,e1'⟩
   · cases h1
 · obtain ⟨_,_,_,_,_,_,sG,_⟩:=pp;exact ⟨cvs,cvs[i]'(by omega),SqT.of (sG _ _ hc),n1_ (by omega)⟩
 · obtain ⟨_,_,_,_,_,_,sG,_⟩:=pp;exact ⟨cvs,SqT.of (sG _ _ hc),by omega⟩
 · obtain ⟨x1,x2,x3,us,cs2,rfl,sG,eC,alc,lc,hc2⟩:=pp;obtain ⟨g,x,rfl,ng,rfl,y1⟩:=y';have ex:=y1 cvs (SqT.of (sG _ _ hc));obtain ⟨pt,ept,b,rfl,hb⟩:=cal.get ex;obtain ⟨⟨n1,n2⟩,n3,n4⟩:=ok.nr pt (n7_ ept);generalize gG:upd G g (.tup [.int i,.ref b])=G1;obtain ⟨sg,eg⟩:=gen_upd gG ng;have hb1:=sg _ _ (sG _ _ hb);refine ⟨g,_,rfl,SqT.of eg,rfl,_,_,rfl,_,_,rfl,⟨b,_,rfl,SqT.of hb1,rfl,_,_,rfl,_,_,rfl,rfl,rfl,?_⟩⟩;refine ⟨_,rfl,_,rfl,_,_,rfl,rfl,mul3 M1.1 (by omega),_,rfl,_,rfl,_,_,rfl,rfl,mul3 M1.2.1 (by omega),_,_,rfl,rfl,_,rfl,_,_,rfl,rfl,?_⟩;refine ⟨_,rfl,_,rfl,_,_,rfl,rfl,mul3 M1.2.2.1 (by omega),_,rfl,_,rfl,_,_,rfl,rfl,mul3 M1.2.2.2 (by omega),_,_,rfl,rfl,_,rfl,_,_,rfl,rfl,?_⟩;refine ⟨z2_,fun w' nw=>?_⟩;generalize hG2:upd G1 w' _=G2;have sw:Same G1 G2:=by (rw [← hG2];exact Same.new nw)
   have ew:=(congrFun hG2 w').symm;rw [Zc] at ew;clear hG2;have s24:=sg.trans sw;have eO4:G2 O=some (.lst (o2.map V.int)):=s24 _ _ (sG _ _ hO);have bo:=CO.bd i hi;have eC4:=s24 _ _ eC;refine ⟨_,rfl,_,rfl,_,rfl,O,_,(i:Int),_,rfl,rfl,SqL.of eO4,o_at CO (Int.natCast_nonneg i) (Int.ofNat_lt.mpr hi),?_⟩;have ulen:us.length=P'.cs.length:=by rw [alc.1,lc]
   refine ⟨C,us,_,(o2.getD i 0).toNat,rfl,rfl,eC4,Zno bo.1 (by rw [ulen];exact bo.2),?_⟩;have tC:Tk G2 (upd G2 C (.lst (us.set (o2.getD i 0).toNat (.ref w')))):=Tk.upd_lst eC4;refine ⟨_,_,_,_,cs2.set (o2.getD i 0).toNat (M.at pt),rfl,fun b' o' e=>?_,Zc,?_,by simp [lc],fun j hj=>?_⟩
   · rw [Zh (Zg e nC0)];exact s24 _ _ (sG _ _ e)
   · refine Zvm (alc.imp fun v x r=>r.tk (s24.tk.trans tC)) _ ⟨w',rfl,tC _ _ ?_⟩;rw [ew];unfold Aff.at;rw [hMt,← Int.sub_eq_add_neg];rfl
   · rw [List.getElem?_set]
     by_cases hji:j=i
     · subst hji;rw [if_pos rfl,if_pos (by rw [lc];omega),n2_ (l:=P'.cs),ept];rfl
     · rw [if_neg (fun z=>hji (CO.inj j i (by omega) hi (by have b2:=CO.bd j (by omega);omega)))];exact hc2 j (by omega)
 · obtain ⟨x1,x2,x3,us,cs2,rfl,sG,eC,alc,lc,hc2⟩:=pp;have zl:min pvs.length (P'.ts.map V.int).length=P'.ps.length:=by rw [n5_];omega
   refine ⟨_,rfl,a,_,1,_,rfl,rfl,SqT.of (sG _ _ ha),rfl,_,rfl,a,_,2,_,rfl,rfl,SqT.of (sG _ _ ha),rfl,p,t,rfl,⟨_,SqT.of (sG _ _ hp)⟩,⟨_,SqT.of (sG _ _ ht)⟩,fun D1 nD1=>?_⟩;refine lc_Z (k:=.t) (l:=.t) (vs:=pvs) (ws:=P'.ts.map V.int) IsPr Zvz ((P'.ps.zip P'.ts).map fun x=>(ph (oAt o2) x.1,x.2)) (by rw [n5_,List.length_zip,zl];omega) (by omega) nD1 (sG _ _ hp) (sG _ _ ht) (fun i v w G1 C1 hv hw s4 c'=>?_) (fun G1 us1 s4 e4 a4=>?_)
   · obtain ⟨p',ep,pa,rfl,hpa⟩:=pal.get hv;rw [n6_] at hw;obtain ⟨t',et,rfl⟩:=n10_.mp hw;have pk:=ok.pc p' (n7_ ep);have pb:=pk.bd;refine ⟨_,rfl,pa,rfl,⟨_,SqT.of (s4 _ _ (sG _ _ hpa))⟩,fun E nE=>?_⟩;refine lc_T (k:=.t) (vs:=p'.map V.int) RI hRI (p'.map (oAt o2)) (by simp) (by rw [n5_,pk.len];decide) nE (s4 _ _ (sG _ _ hpa)) (fun n x G2 C6 hx s6 c6=>?_) (fun G2 us6 s6 e6 a6=>?_)
     · rw [n6_] at hx;obtain ⟨y,ey,rfl⟩:=n10_.mp hx;have by':=pb y (n7_ ey)
       exact ⟨_,rfl,_,rfl,O,_,y,_,rfl,rfl,SqL.of (s6 _ _ (s4 _ _ (sG _ _ hO))),o_at CO by'.1 (by omega),c6 _ _ _ (Same.refl _) (by rw [n6_,ey];rfl) rfl⟩
     · rw [a6.ints] at e6;refine ⟨E,_,rfl,SqL.of e6,by rw [n5_,pk.len];decide,fun L ns' nL pm' so'=>?_⟩;generalize gG:upd G2 L (.lst (ns'.map V.int))=G3;obtain ⟨s7,e7⟩:=gen_upd gG nL;refine ⟨L,_,rfl,.inl ⟨SqL.of e7,fun T' nT=>?_⟩⟩;generalize gG:upd G3 T' (.tup (ns'.map V.int))=G4;obtain ⟨s8,e8⟩:=gen_upd gG nT;refine ⟨_,rfl,z2_,fun U nU=>?_⟩;have s9:Same G4 (upd G4 U (.tup [.ref T',.int t'])):=Same.new nU;refine c' _ _ (ph (oAt o2) p',t') (s6.trans (s7.trans (s8.trans s9))) ?_ ⟨U,T',rfl,Zc,?_⟩
       · have ez:(P'.ps.zip P'.ts)[i]? = some (p',t'):=List.getElem?_zip_eq_some.mpr ⟨ep,et⟩;rw [n6_,ez];rfl
       · rw [show ph (oAt o2) p'=ns' from (Zay pm' so').symm];exact s9 _ _ e8
   obtain ⟨al,rfl,pi,ey⟩:=Zrp a4
   have ek:al.map (·.k)=P'.ps.map (ph (oAt o2)):=by
    have h1:=congrArg (List.map Prod.fst) ey;rw [n44_,n44_] at h1;have h2:(P'.ps.zip P'.ts).map Prod.fst=P'.ps:=List.map_fst_zip (by omega);rw [← h2,n44_];exact h1
   have en:al.map (·.n)=P'.ts:=by
    have h1:=congrArg (List.map Prod.snd) ey;rw [n44_,n44_] at h1;have h2:(P'.ps.zip P'.ts).map Prod.snd=P'.ts:=List.map_snd_zip (by omega);rw [← h2];exact h1
   have la:al.length=P'.ps.length:=by have:=congrArg List.length ek;simpa using this
   have O2:=Zma CO;have pbd:∀ x∈P'.ps,inR P'.cs.length x:=fun x hx i hi=>by have:=(ok.pc x hx).bd i hi;omega
   have knd:(al.map (·.k)).Nodup:=by
    rw [ek,n20_,n43_];exact n54_ (fun {x y} hx hy ne e=>ne (Ze0 O2 (Tri3.pw ⟨(ok.pc x hx).len,(ok.pc x hx).rise⟩) (Tri3.pw ⟨(ok.pc y hy).len,(ok.pc y hy).rise⟩) (pbd x hx) (pbd y hy) e)) (n20_.mp ok.pnd)
   refine ⟨_,rfl,D1,al,rfl,SqL.of e4,pi,knd,by omega,fun L ql nL pm rise=>?_⟩;have s5:Same G1 (upd G1 L (.lst (Zca ql))):=Same.new nL;have e5:upd G1 L (.lst (Zca ql)) L=some (.lst (Zca ql)):=Zc;have pi5:∀ x∈ql,pi2 (upd G1 L (.lst (Zca ql))) x:=fun x hx=>⟨s5 _ _ (pi x (pm.mem_iff.mp hx)).1,s5 _ _ (pi x (pm.mem_iff.mp hx)).2⟩;generalize upd G1 L (.lst (Zca ql))=G2 at s5 e5 pi5 ⊢;have lq:ql.length=P'.ps.length:=by rw [pm.length_eq,la]
   have s45:=s4.trans s5;refine ⟨_,rfl,C,us,rfl,.inl ⟨SqL.of (s45 _ _ eC),fun T1 nT1=>?_⟩⟩;generalize gG:upd G2 T1 (.tup us)=G3;obtain ⟨s6,e6⟩:=gen_upd gG nT1;refine ⟨_,rfl,L,rfl,⟨_,SqL.of (s6 _ _ e5)⟩,fun D2 nD2=>?_⟩;refine lc_T (k:=.l) (vs:=Zca ql) IsI hRII (ql.map (·.k)) (by simp) (by rw [n5_];omega) nD2 (s6 _ _ e5) (fun i w G4 C4 hw s7 c'=>?_) (fun G4 us4 s7 e7 a7=>?_)
   · rw [n6_] at hw;obtain ⟨x,ex,rfl⟩:=n10_.mp hw;have px:=pi5 x (n7_ ex);exact ⟨_,rfl,x.t,_,0,_,rfl,rfl,SqT.of (s7 _ _ (s6 _ _ px.1)),rfl,c' _ _ x.k (Same.refl _) (by rw [n6_,ex];rfl) ⟨x.a,rfl,s7 _ _ (s6 _ _ px.2)⟩⟩
   refine ⟨D2,_,rfl,.inl ⟨SqL.of e7,fun T2 nT2=>?_⟩⟩;generalize gG:upd G4 T2 (.tup us4)=G5;obtain ⟨s8,e8⟩:=gen_upd gG nT2;have s35:=s7.trans s8;have e5':=s35 _ _ (s6 _ _ e5);refine ⟨_,rfl,L,rfl,⟨_,SqL.of e5'⟩,fun D3 nD3=>?_⟩;refine lc_T (k:=.l) (vs:=Zca ql) RI hRI (ql.map (·.n)) (by simp) (by rw [n5_];omega) nD3 e5' (fun i w G6 C6 hw s9 c'=>?_) (fun G6 us6 s9 e9 a9=>?_)
   · rw [n6_] at hw;obtain ⟨x,ex,rfl⟩:=n10_.mp hw;have px:=pi5 x (n7_ ex);exact ⟨_,rfl,x.t,_,1,_,rfl,rfl,SqT.of (s9 _ _ (s35 _ _ (s6 _ _ px.1))),rfl,c' _ _ x.n (Same.refl _) (by rw [n6_,ex];rfl) rfl⟩
   rw [a9.ints] at e9;refine ⟨D3,_,rfl,.inl ⟨SqL.of e9,fun T3 nT3=>?_⟩⟩;generalize gG:upd G6 T3 (.tup ((ql.map (·.n)).map V.int))=G7;obtain ⟨s10,e10⟩:=gen_upd gG nT3;have s57:=s9.trans s10;have s37:=s35.trans s57;have s17:=(s5.trans s6).trans s37;have sG7:=sG.trans (s4.trans s17);refine ⟨_,rfl,a,_,3,_,rfl,rfl,SqT.of (sG7 _ _ ha),rfl,z4_,fun T4 nT4=>?_⟩;have s11:Same G7 (upd G7 T4 (.tup [.ref T1,.ref T2,.ref T3,.ref st])):=Same.new nT4
   have er:al=(List.range al.length).map fun i=>al.getD i pD:=by
    refine n46_ (by simp) fun i h1 h2=>?_;simp [n2_,h1]
   obtain ⟨q2,f1,f2⟩:=Zbe pm (List.range al.length) er;rw [la] at f2
   have qk:ql.map (·.k)=q2.map fun i=>ph (oAt o2) (P'.ps.getD i []):=by
    rw [f1,n44_];refine n52_ fun i hi=>?_;have hi':i<P'.ps.length:=n24_.mp (f2.mem_iff.mp hi);have h1:(al.map (·.k))[i]? = (P'.ps.map (ph (oAt o2)))[i]?:=by rw [ek]
    rw [n6_,n6_,n1_ hi',n1_ (by omega)] at h1;show (al.getD i pD).k=_
    rw [n2_,n1_ (by omega),n2_,n1_ hi'];exact Option.some.inj h1
   have LR:=Zt8 ok D hps hs hM CO lc hc2 f2 (ts2:=ql.map (·.n)) (by rw [n5_];omega) (fun t ht=>ok.t9 t (by rw [← en];exact (pm.map (·.n)).mem_iff.mp ht)) (by rw [← qk];exact n43_.mpr rise);have s7T:=s57.trans s11;refine k' _ _ ⟨cs2,q2.map fun i=>ph (oAt o2) (P'.ps.getD i []),ql.map (·.n),P'.l,P'.m⟩ (sG7.trans s11) ⟨T4,_,_,_,_,rfl,Zc,⟨T1,us,rfl,(s37.trans s11) _ _ e6,alc.imp fun v x r=>r.tk ((s4.trans s17).trans s11).tk⟩,⟨T2,us4,rfl,s7T _ _ e8,?_⟩,⟨T3,rfl,s11 _ _ e10⟩,⟨st,rfl,(sG7.trans s11) _ _ hst⟩⟩ LR;rw [← qk];exact a7.imp fun v x r=>r.tk (s8.trans s7T).tk
abbrev Yx:Stmt:=top 49
theorem Zb5 (F:Fun K "_law_sides_led" "_law_sides_led" Yx f fd):FnOk P w K mg base CX0 2 f fd ["_law_rows","_law_order_here"] Zoy:=by
 have sc:FnScope ["_law_rows","_law_order_here"] ["_law_rows","_law_order_here"] (Zf Yx):=fsc (by decide +kernel);refine F.ok sc (fun vs H Q E h=>by obtain ⟨r,O,al,o2,n,rfl,_⟩:=h;rfl) fun cdv A outer s H vs Q E hr h=>?_;obtain ⟨r,O,al,o2,n,rfl,hR,tp,hO,CO,l2,nk,l64,q⟩:=h;refine' ⟨_,?term,?read⟩
 case term=>refine' Zi (Zo (Zj Zcq rfl T.b_sorted Z2 (Za (Yq (g:=(gTup K 2 (X0 (Y2 0) (X0 (Y2 1) gNil)))) (N:=["_law_a","_law_b","_law_order_here"]) (fr:=[none,none,some 1]) rfl (Zv (XN:=["_law_rows","_law_order_here"]) (Scope.names (Zf Yx)) rfl rfl rfl (fun _ h=>Zr h) (by decide +kernel) rfl) (Yg (pv 0)) (fun _ _ _ _=>Ys (n:=2) rfl (Zl (pgB 0) (Zl (pgB 1) Z7))) (fun _ _ _ _=>Zp) (fun _ _ _ _=>Zs (Yi K rfl) rfl T.b_tuple Z5 (Za (Zj (Y3 K rfl) rfl T.b_sorted Z2 (Za (Y8 (Za (Zu (Xh K rfl) (pv 2) (pv 0) (fun _ _=>rfl)) (Za (Zu (Xh K rfl) (pv 2) (pv 1) (fun _ _=>rfl)) Zb rfl) rfl)) Zb rfl)) Zb rfl))) Zb rfl)))
 refine ⟨_,rfl,r,rfl,⟨_,SqL.of hR⟩,fun D nD=>?_⟩;refine Zsr (k:=.l) (vs:=refs al) IsI hRII ((al.map (·.2)).map (ph (oAt o2))) (by simp) (by rw [n5_];omega) nD hR (fun i w hw=>?_) (fun i p x y H2 C hw hp s2 c=>?_) (fun H2 us s2 e2 a2=>?_)
 · rw [n6_] at hw;obtain ⟨z,ez,rfl⟩:=n10_.mp hw;obtain ⟨u,v,e⟩:=two2 (l2 z (n7_ ez)).1;have hz:=tp z (n7_ ez);rw [tpl,e] at hz;exact ⟨_,_,_,rfl,hz⟩
 · rw [n6_] at hw;obtain ⟨z,ez,ew⟩:=n10_.mp hw;cases ew
   obtain ⟨lz,bz⟩:=l2 z (n7_ ez);obtain ⟨u,v,e⟩:=two2 lz;have hz:=tp z (n7_ ez);rw [tpl,e,hp] at hz;cases hz
   have b1:=bz u (by rw [e];simp);have b2:=bz v (by rw [e];simp);refine ⟨_,rfl,_,rfl,O,_,u,_,rfl,rfl,SqL.of (s2 _ _ hO),o_at CO b1.1 b1.2,_,rfl,_,rfl,O,_,v,_,rfl,rfl,SqL.of (s2 _ _ hO),o_at CO b2.1 b2.2,z2_,fun E nE=>?_⟩;have s3:Same H2 (upd H2 E (.lst [.int (oAt o2 u),.int (oAt o2 v)])):=Same.new nE;have e3:upd H2 E (.lst [.int (oAt o2 u),.int (oAt o2 v)]) E=some (.lst ([oAt o2 u,oAt o2 v].map V.int)):=Zc;generalize upd H2 E (.lst [.int (oAt o2 u),.int (oAt o2 v)])=H3 at s3 e3 ⊢;refine ⟨E,[oAt o2 u,oAt o2 v],rfl,SqL.of e3,by show 2<64;decide,fun L ns' nL pm' so'=>?_⟩;generalize gG:upd H3 L (.lst (ns'.map V.int))=H4;obtain ⟨s7,e7⟩:=gen_upd gG nL;refine ⟨L,_,rfl,.inl ⟨SqL.of e7,fun T' nT=>?_⟩⟩;refine c _ _ (ph (oAt o2) z.2) (s3.trans (s7.trans (Same.new nT))) (by rw [n6_,n6_,ez];rfl) ⟨T',rfl,?_⟩;rw [show ph (oAt o2) z.2=ns' by rw [e];exact (Zay pm' so').symm];exact Zc
 · obtain ⟨bl,rfl,tb,eb⟩:=Zhy a2;have lb:bl.length=al.length:=by have:=congrArg List.length eb;simpa using this
   refine ⟨D,refs bl,bl.map (·.2),2,rfl,SqL.of e2,by simp,fun i v hv=>?_,by rw [eb];exact nk,by rw [n5_];omega,fun k hk=>?_,by decide,fun l q2 nl pm rs=>?_⟩
   · rw [n6_] at hv;obtain ⟨z,ez,rfl⟩:=n10_.mp hv;exact ⟨z.1,z.2,rfl,by rw [n6_,ez];rfl,tb z (n7_ ez)⟩
   · rw [eb,n44_] at hk;obtain ⟨z,hz,rfl⟩:=n18_.mp hk;show (ph (oAt o2) z.2).length=2
     rw [(Yh _).length_eq,n5_,(l2 z hz).1]
   · have s3:Same H2 (upd H2 l (.lst (q2.map fun i=>(refs bl).getD i .non))):=Same.new nl;have hi:∀ i∈q2,i<bl.length:=fun i hi=>by have:=n24_.mp (pm.mem_iff.mp hi);rwa [n5_] at this
     have ev:(q2.map fun i=>(refs bl).getD i .non)=refs (q2.map fun i=>bl.getD i (0,[])):=by
      unfold refs;rw [n44_];refine n52_ fun i h=>?_;simp [n2_,hi i h]
     have ek:(q2.map fun i=>(bl.map (·.2)).getD i [])=(q2.map fun i=>bl.getD i (0,[])).map (·.2):=by
      rw [n44_];refine n52_ fun i h=>?_;simp [n2_,hi i h]
     rw [ek] at rs;rw [ev] at s3 ⊢
     have er:bl=(List.range bl.length).map fun i=>bl.getD i (0,[]):=by
      refine n46_ (by simp) fun i h1 h2=>?_;simp [n2_,h1]
     have pq:(q2.map fun i=>bl.getD i (0,[])).Perm bl:=by
      refine List.Perm.trans ((pm.trans (.of_eq (by rw [n5_]))).map _) (.of_eq er.symm)
     exact q _ l _ (s2.trans s3) Zc (fun x hx=>s3 _ _ (tb x (pq.mem_iff.mp hx))) rs fun k=>by rw [(pq.map (·.2)).mem_iff,eb]
abbrev Yd:Stmt:=top 50
theorem Zfo (F:Fun K "_law_alone" "_law_alone" Yd f fd):FnOk P w K mg base CX0 2 f fd ["_law_plate_here","_law_lot"] Zkr:=by
 have sc:FnScope ["_law_plate_here","_law_lot","_law_pieces","_law_used","_law_rows","_law_points"] ["_law_plate_here","_law_lot"] (Zf Yd):=fsc (by decide +kernel);refine F.ok sc (fun vs H Q E h=>by obtain ⟨v,P',lt,l,rfl,_⟩:=h;rfl) fun cdv A outer s H vs Q E hr h=>?_;obtain ⟨v,P',lt,l,rfl,⟨a,c,p,t,st,rfl,ha,⟨c,cvs,rfl,hc,cal⟩,⟨p,pvs,rfl,hp,pal⟩,⟨t,rfl,ht⟩,⟨st,rfl,hst⟩⟩,ok,p4,hl,rise,ne,bd,q⟩:=h;have nd:=sc.nd;refine' ⟨_,?term,?read⟩
 case term=>refine' Zd (Ze5 (N:=["_law_at","_law_plate_here"]) (fr:=[none,some 0]) rfl rfl (Zm (i:=2) nd rfl (Or.inl rfl)) (Zv (XN:=["_law_plate_here","_law_lot","_law_pieces","_law_used","_law_rows","_law_points"]) (Scope.names (Zf Yd)) rfl rfl rfl (fun _ h=>Zr h) (by decide +kernel) rfl) (Y6 (pv 1)) (fun _ _ _ _=>pgB 0) (fun _ _ _ _=>Zp) (fun _ _ _ _=>Zu (Xb K rfl) (Zu (Xb K rfl) (pv 1) Ze (fun _ _=>rfl)) (pv 0) (fun _ _=>rfl))) ?g1;case g1=>refine' Zd (Zy (i:=3) nd rfl (Or.inr rfl) (Zj (Zg3 rfl) rfl T.b_sorted Z2 (Za (Zs (Zm8 rfl) rfl T.b_set Zq6 (Za (Zj (Zgw rfl) rfl T.b_sum Znc (Za (Yq (N:=["_law_piece"]) (fr:=[none]) rfl (Yn (by decide) rfl (by decide) rfl rfl) (Yg (pv 2)) (fun _ _ _ _=>pgB 0) (fun _ _ _ _=>Zp) (fun _ _ _ _=>Zs (Zdk K rfl) rfl T.b_list Zfl (Za (pv 0) Zb rfl))) (Za (Y8 Zb) Zb rfl) rfl)) Zb rfl)) Zb rfl))) ?g2;case g2=>refine' Zd (Zy (i:=4) nd rfl (Or.inl rfl) (Zs Zx rfl T.b_tuple Z5 (Za (Yq (N:=["_law_piece","_law_used"]) (fr:=[none,some 3]) rfl (Zv (XN:=["_law_plate_here","_law_lot","_law_pieces","_law_used","_law_rows","_law_points"]) (Scope.names (Zf Yd)) rfl rfl rfl (fun _ h=>Zr h) (by decide +kernel) rfl) (Yg (pv 2)) (fun _ _ _ _=>pgB 0) (fun _ _ _ _=>Zp) (fun _ _ _ _=>Zs (Yi K rfl) rfl T.b_tuple Z5 (Za (Yq (N:=["_law_one","_law_used"]) (fr:=[none,some 1]) rfl (Zv (XN:=["_law_piece","_law_used"]) (relN _ (Scope.names (Zf Yd))) rfl rfl rfl (fun _ h=>Za0 (by decide +kernel) h) (by decide +kernel) rfl) (Zb9 K rfl (pv 0)) (fun _ _ _ _=>pgB 0) (fun _ _ _ _=>Zp) (fun _ _ _ _=>Zrr K rfl (Zhe PySem.F.plainAttrs_list PySem.F.slot_list_index PySem.F.type_list_index (Zn2 Zjl Zty (hq1 hr)) (pv 1) (Za (pv 0) Zb rfl)))) Zb rfl))) Zb rfl))) ?g3;case g3=>refine' Zd (Zy (i:=5) nd rfl (Or.inl rfl) (Zs Zx rfl T.b_tuple Z5 (Za (Yq (N:=["_law_one","_law_plate_here"]) (fr:=[none,some 0]) rfl (Zv (XN:=["_law_plate_here","_law_lot","_law_pieces","_law_used","_law_rows","_law_points"]) (Scope.names (Zf Yd)) rfl rfl rfl (fun _ h=>Zr h) (by decide +kernel) rfl) (Yg (pv 3)) (fun _ _ _ _=>pgB 0) (fun _ _ _ _=>Zp) (fun _ _ _ _=>Zu (Xb K rfl) (Zu (Xb K rfl) (pv 1) Ze (fun _ _=>rfl)) (pv 0) (fun _ _=>rfl))) Zb rfl))) ?g4;case g4=>refine' Zi ?g5;case g5=>refine' Zo ?g6;case g6=>refine' Yb ?g7;case g7=>refine' Za ?g8 (Za (pv 3) Zb rfl) rfl;case g8=>refine' Yb ?g9;case g9=>refine' Za (pv 5) ?ga rfl;case ga=>refine' Za (pv 4) ?gb rfl;case gb=>refine' Za (Zs Zx rfl T.b_tuple Z5 (Za (Yq (N:=["_law_at","_law_plate_here"]) (fr:=[none,some 0]) rfl (Zv (XN:=["_law_plate_here","_law_lot","_law_pieces","_law_used","_law_rows","_law_points"]) (Scope.names (Zf Yd)) rfl rfl rfl (fun _ h=>Zr h) (by decide +kernel) rfl) (Y6 (pv 1)) (fun _ _ _ _=>pgB 0) (fun _ _ _ _=>Zp) (fun _ _ _ _=>Zu (Xb K rfl) (Zu (Xb K rfl) (pv 1) Ze (fun _ _=>rfl)) (pv 0) (fun _ _=>rfl))) Zb rfl)) (Za (Zu Z1 (pv 0) Ze (fun _ _=>rfl)) Zb rfl) rfl
 have nd:l.Nodup:=rise.imp fun {x y} z=>by omega
 have ll:l.length≤P'.ps.length:=Zh9 nd bd;have ld:(l.map V.int).length=l.length:=n5_ ..
 have at_:∀ (i:Nat) (w:V),(l.map V.int)[i]? = some w→∃ m:Nat,w=.int (m:Int)∧l[i]? = some (m:Int)∧m<P'.ps.length:=fun i w hw=>by
  rw [n6_] at hw;obtain ⟨x,ex,rfl⟩:=n10_.mp hw;obtain ⟨m,rfl,hm⟩:=bd x (n7_ ex);exact ⟨m,rfl,ex,hm⟩
 have p3:∀ p∈pcsA P' l,p.length=3:=fun p hp=>by
  obtain ⟨i,hi,rfl⟩:=n18_.mp hp;obtain ⟨m,rfl,hm⟩:=bd i hi;exact (ok.pc _ (getm hm)).len
 have f3:=Zuh (pcsA P' l) p3;have lp:(pcsA P' l).length=l.length:=n5_ ..;refine ⟨_,rfl,lt,rfl,⟨_,SqT.of hl⟩,fun D nD=>?_⟩;refine lc_T (k:=.t) (vs:=l.map V.int) IsI hRII (pcsA P' l) (by simp) (by omega) nD hl (fun i w H2 C hw s2 c'=>?_) (fun H1 us1 s1 e1 a1=>?_)
 · obtain ⟨m,rfl,ex,hm⟩:=at_ i w hw
   obtain ⟨x,evx,rx⟩:=pal.got (n1_ hm);exact ⟨_,rfl,a,_,1,_,rfl,rfl,SqT.of (s2 _ _ ha),rfl,_,rfl,p,_,(m:Int),_,rfl,rfl,SqT.of (s2 _ _ hp),Xk evx,c' _ _ _ (Same.refl _) (by rw [n6_,ex];show some (P'.ps.getD m [])=_;rw [n2_,n1_ hm];rfl) (rx.tk s2.tk)⟩
 have lu1:us1.length=l.length:=by rw [a1.1,lp]
 refine ⟨_,rfl,D,rfl,⟨_,SqL.of e1⟩,fun D2 nD2=>?_⟩;refine lc_L (k:=.l) (vs:=us1) (fun i=>((pcsA P' l).getD i []).map V.int) (by omega) nD2 e1 (fun i w H2 C hw s2 c'=>?_) (fun H2 as s2 las e2 e3=>?_)
 · obtain ⟨x,ex,b,rfl,hb⟩:=a1.get hw;refine ⟨_,rfl,b,x.map V.int,rfl,.inr (SqT.of (s2 _ _ hb)),fun e ne _=>?_⟩
   have:=c' e ne
   rwa [n2_,ex] at this
 refine ⟨z0_,fun B nB=>?_⟩;generalize gG:upd H2 B (.lst [])=H3;obtain ⟨s3,e4⟩:=gen_upd gG nB;refine ⟨D2,B,as,(pcsA P' l).map fun x=>x.map V.int,[],rfl,s3 _ _ e2,e4,Zde _ _ (by rw [n5_];omega) (fun i b hb=>?_),?_,fun L hL=>?_⟩
 · rw [s3 _ _ (e3 i b hb)];have hi:=(n9_.mp hb).1;have ei:(pcsA P' l)[i]? = some _:=n1_ (show i<(pcsA P' l).length by omega);rw [n2_,n2_,n6_ (l:=pcsA P' l),ei];rfl
 · rw [List.nil_append,Zao,n5_];omega
 rw [List.nil_append,Zao]
 have s4:Same H2 (upd H3 L (.lst ((pcsA P' l).flatten.map V.int))):=fun b o e=>by
  have:b≠L:=by
   rcases hL with h|h
   · exact Zg (s3 _ _ e) h
   · rw [h];exact Zg e nB
  rw [Zh this];exact s3 _ _ e
 have e5:upd H3 L (.lst ((pcsA P' l).flatten.map V.int)) L=some (.lst ((pcsA P' l).flatten.map V.int)):=Zc;generalize upd H3 L (.lst ((pcsA P' l).flatten.map V.int))=H4 at s4 e5 ⊢;refine ⟨L,(pcsA P' l).flatten,rfl,SqL.of e5,by omega,fun S nS=>?_⟩;generalize hH5:upd H4 S _=H5;have s5:Same H4 H5:=by (rw [← hH5];exact Same.new nS)
 have e6:=(congrFun hH5 S).symm;rw [Zc] at e6;clear hH5;refine ⟨S,_,rfl,e6,by have:=Zgg (pcsA P' l).flatten;omega,fun U u nU pm le=>?_⟩;generalize gG:upd H5 U (.lst (u.map V.int))=H6;obtain ⟨s6,e7⟩:=gen_upd gG nU;have AO:AlnOk P' l u:=⟨ok,rise,ne,bd,Zab le (pm.nodup_iff.mpr (Zsb _)),fun x=>pm.mem_iff.trans Zpi⟩;have ul:u.length≤30:=by have:=Zgg (pcsA P' l).flatten;have:=pm.length_eq;omega
 have s16:=s2.trans (s4.trans (s5.trans s6));have s06:=s1.trans s16;have e16:=s16 _ _ e1;refine ⟨_,rfl,D,rfl,⟨_,SqL.of e16⟩,fun D3 nD3=>?_⟩;refine lc_T (k:=.l) (vs:=us1) IsI hRII ((pcsA P' l).map fun p=>p.map (ixA u)) (by simp;omega) (by omega) nD3 e16 (fun i w H7 C hw s7 c'=>?_) (fun H7 us7 s7 e7' a7=>?_)
 · obtain ⟨x,ex,b,rfl,hb⟩:=a1.get hw;have hx:=n7_ ex;have hb7:=s7 _ _ (s16 _ _ hb);refine ⟨_,rfl,b,rfl,⟨_,SqT.of hb7⟩,fun D4 nD4=>?_⟩;refine lc_T (k:=.t) (vs:=x.map V.int) RI hRI (x.map (ixA u)) (by simp) (by rw [n5_,p3 x hx];decide) nD4 hb7 (fun n w H8 C8 hw8 s8 c8=>?_) (fun H8 us8 s8 e8 a8=>?_)
   · rw [n6_] at hw8;obtain ⟨y,ey,rfl⟩:=n10_.mp hw8;obtain ⟨i1,i2⟩:=Zqy ((AO.mem hx).2 y (n7_ ey));exact ⟨_,rfl,.inl ⟨rfl,_,SqL.of (s8 _ _ (s7 _ _ e7))⟩,_,rfl,U,_,u,.int y,y,_,rfl,rfl,s8 _ _ (s7 _ _ e7),Zrh u (H:=H8),rfl,i1,i2,by omega,c8 _ _ _ (Same.refl _) (by rw [n6_,ey];rfl) rfl⟩
   · rw [a8.ints] at e8;refine ⟨D4,_,rfl,.inl ⟨SqL.of e8,fun T' nT=>?_⟩⟩;exact c' _ _ _ (s8.trans (Same.new nT)) (by rw [n6_,ex];rfl) ⟨T',rfl,Zc⟩
 refine ⟨D3,_,rfl,.inl ⟨SqL.of e7',fun T1 nT1=>?_⟩⟩;generalize gG:upd H7 T1 (.tup us7)=H8;obtain ⟨s8,e8⟩:=gen_upd gG nT1;have s68:=s7.trans s8;have s08:=s06.trans s68;have eU8:=s68 _ _ e7;refine ⟨_,rfl,U,rfl,⟨_,SqL.of eU8⟩,fun D5 nD5=>?_⟩;refine lc_T (k:=.l) (vs:=u.map V.int) IsP hRP (u.map (cAt P'.cs)) (by simp) (by rw [n5_];omega) nD5 eU8 (fun n w H9 C9 hw9 s9 c9=>?_) (fun H9 us9 s9 e9 a9=>?_)
 · rw [n6_] at hw9;obtain ⟨y,ey,rfl⟩:=n10_.mp hw9;have by':=AO.ub (n7_ ey)
   have hy:y.toNat<P'.cs.length:=by omega
   obtain ⟨x,evx,rx⟩:=cal.got (n1_ hy);refine ⟨_,rfl,a,_,0,_,rfl,rfl,SqT.of (s9 _ _ (s08 _ _ ha)),rfl,_,rfl,c,_,y,_,rfl,rfl,SqT.of (s9 _ _ (s08 _ _ hc)),by rw [show y=((y.toNat:Nat):Int) by omega];exact Xk evx,c9 _ _ _ (Same.refl _) (by rw [n6_,ey];show some (cAt P'.cs y)=some _;unfold cAt;rw [n2_,n1_ hy];rfl) (rx.tk (s08.trans s9).tk)⟩
 refine ⟨D5,_,rfl,.inl ⟨SqL.of e9,fun T2 nT2=>?_⟩⟩;generalize gG:upd H9 T2 (.tup us9)=H10;obtain ⟨s10,e10⟩:=gen_upd gG nT2;have s810:=s9.trans s10;have s010:=s08.trans s810;refine ⟨_,rfl,_,rfl,?_⟩;refine ⟨_,rfl,lt,rfl,⟨_,SqT.of (s010 _ _ hl)⟩,fun D6 nD6=>?_⟩;refine lc_T (k:=.t) (vs:=l.map V.int) RI hRI (l.map fun i=>P'.ts.getD i.toNat 0) (by simp) (by omega) nD6 (s010 _ _ hl) (fun i w H11 C hw s11 c'=>?_) (fun H11 us11 s11 e11 a11=>?_)
 · obtain ⟨m,rfl,ex,hm⟩:=at_ i w hw
   have hm':m<P'.ts.length:=by rw [ok.t1];exact hm
   exact ⟨_,rfl,a,_,2,_,rfl,rfl,SqT.of (s11 _ _ (s010 _ _ ha)),rfl,_,rfl,t,_,(m:Int),_,rfl,rfl,SqT.of (s11 _ _ (s010 _ _ ht)),Xk (by rw [n6_,n1_ hm'];rfl),c' _ _ _ (Same.refl _) (by rw [n6_,ex];show some (P'.ts.getD m 0)=_;rw [n2_,n1_ hm'];rfl) rfl⟩
 rw [a11.ints] at e11;refine ⟨D6,_,rfl,.inl ⟨SqL.of e11,fun T3 nT3=>?_⟩⟩;generalize hH12:upd H11 T3 _=H12;have s12:Same H11 H12:=by (rw [← hH12];exact Same.new nT3)
 have e12:=(congrFun hH12 T3).symm;rw [Zc] at e12;clear hH12;have s1012:=s11.trans s12;have s012:=s010.trans s1012;refine ⟨_,rfl,a,_,3,_,rfl,rfl,SqT.of (s012 _ _ ha),rfl,z4_,fun T4 nT4=>?_⟩;generalize hH13:upd H12 T4 _=H13;have s13:Same H12 H13:=by (rw [← hH13];exact Same.new nT4)
 have e13:=(congrFun hH13 T4).symm;rw [Zc] at e13;clear hH13;refine ⟨_,rfl,z2_,fun T5 nT5=>?_⟩;generalize hH14:upd H13 T5 _=H14;have s14:Same H13 H14:=by (rw [← hH14];exact Same.new nT5)
 have e14:=(congrFun hH14 T5).symm;rw [Zc] at e14;clear hH14;have s1014:=s1012.trans (s13.trans s14);have s814:=s810.trans s1014;exact q H14 T5 U (.ref T4) u (s08.trans s814) e14 (s814 _ _ eU8) ⟨T4,_,_,_,_,rfl,s14 _ _ e13,⟨T2,us9,rfl,s1014 _ _ e10,a9.imp fun v x r=>r.tk (s10.trans s1014).tk⟩,⟨T1,us7,rfl,s814 _ _ e8,a7.imp fun v x r=>r.tk (s8.trans s814).tk⟩,⟨T3,rfl,(s13.trans s14) _ _ e12⟩,⟨st,rfl,(s08.trans s814) _ _ hst⟩⟩ AO
abbrev Zt:Stmt:=top 51
theorem Zbp (F:Fun K "_law_lots_right" "_law_lots_right" Zt f fd) (Cab_:a31_ P w K mg base) (Ce_:a21_ P w K mg base) (Co_:a32_ P w K mg base) (Cq_:a33_ P w K mg base) (Cac_:a34_ P w K mg base) (Cf_:a35_ P w K mg base):FnOk P w K mg base CX0 8 f fd ["_law_plate_here","_law_other","_law_order_here"] Zj2:=by
 have sc:FnScope ["_law_plate_here","_law_other","_law_order_here","_law_pieces","_law_lots","_law_size","_law_lot","_law_alone_here","_law_used","_law_sent"] ["_law_plate_here","_law_other","_law_order_here"] (Zf Zt):=fsc (by decide +kernel);refine F.ok sc (fun vs H Q E h=>by obtain ⟨v,v',P',P'',O,o2,rfl,_⟩:=h;rfl) fun cdv A outer s H vs Q E hr h=>?_;obtain ⟨v,v',P',P'',O,o2,rfl,hv,hv',ok,p4,LR,hO,CO,q'⟩:=h;have nd:=sc.nd;refine' ⟨_,?term,?read⟩
 case term=>refine' Zd (Zy (i:=3) nd rfl (Or.inr rfl) (Yq (N:=["_law_piece","_law_order_here"]) (fr:=[none,some 2]) rfl (Zv (XN:=["_law_plate_here","_law_other","_law_order_here","_law_pieces","_law_lots","_law_size","_law_lot","_law_alone_here","_law_used","_law_sent"]) (Scope.names (Zf Zt)) rfl rfl rfl (fun _ h=>Zr h) (by decide +kernel) rfl) (Y6 (Zu (Xb K rfl) (pv 0) Ze (fun _ _=>rfl))) (fun _ _ _ _=>pgB 0) (fun _ _ _ _=>Zp) (fun _ _ _ _=>Zs (Yi K rfl) rfl T.b_tuple Z5 (Za (Zj (Y3 K rfl) rfl T.b_sorted Z2 (Za (Yq (N:=["_law_one","_law_order_here"]) (fr:=[none,some 1]) rfl (Zv (XN:=["_law_piece","_law_order_here"]) (relN _ (Scope.names (Zf Zt))) rfl rfl rfl (fun _ h=>Za0 (by decide +kernel) h) (by decide +kernel) rfl) (Zb9 K rfl (pv 0)) (fun _ _ _ _=>pgB 0) (fun _ _ _ _=>Zp) (fun _ _ _ _=>Zu (Xh K rfl) (pv 1) (pv 0) (fun _ _=>rfl))) Zb rfl)) Zb rfl)))) ?g1;case g1=>refine' Zd (Zy (i:=4) nd rfl (Or.inl rfl) (Zj Zcp rfl T.b_sorted Z2 (Za (Yq (N:=["_law_lot","_law_other","_law_pieces"]) (fr:=[none,some 1,some 3]) rfl (Zv (XN:=["_law_plate_here","_law_other","_law_order_here","_law_pieces","_law_lots","_law_size","_law_lot","_law_alone_here","_law_used","_law_sent"]) (Scope.names (Zf Zt)) rfl rfl rfl (fun _ h=>Zr h) (by decide +kernel) rfl) (Yg (Zk Co_ hr (by decide) rfl (Za (pv 0) Zb rfl))) (fun _ _ _ _=>pgB 0) (fun _ _ _ _=>Zp) (fun _ _ _ _=>Zs (Yi K rfl) rfl T.b_tuple Z5 (Za (Zj (Y3 K rfl) rfl T.b_sorted Z2 (Za (Yq (N:=["_law_at","_law_other","_law_pieces"]) (fr:=[none,some 1,some 2]) rfl (Zv (XN:=["_law_lot","_law_other","_law_pieces"]) (relN _ (Scope.names (Zf Zt))) rfl rfl rfl (fun _ h=>Za0 (by decide +kernel) h) (by decide +kernel) rfl) (Zb9 K rfl (pv 0)) (fun _ _ _ _=>pgB 0) (fun _ _ _ _=>Zp) (fun _ _ _ _=>Zrr K rfl (Zhe PySem.F.plainAttrs_tuple PySem.F.slot_tuple_index PySem.F.type_tuple_index (Zok Zge Zi4 (hq2 hr)) (Zu (Xb K rfl) (pv 1) Ze (fun _ _=>rfl)) (Za (Zu (Xh K rfl) (pv 2) (pv 0) (fun _ _=>rfl)) Zb rfl)))) Zb rfl)) Zb rfl))) Zb rfl))) ?g2;case g2=>refine' Zd ?g3 ?g4;(case g3=>refine' Xp ?g5 (Zi (Zo Xf)) Z4;case g5=>refine' PW.pt ?g6;case g6=>refine' Zd0 (Ye (Zbb Zge (hq2 hr)) (pv 4) (Zk Co_ hr (by decide) rfl (Za (pv 1) Zb rfl)) (Yo _)) ?g7;case g7=>refine' Za9 ?g8;case g8=>refine' Ye (Zbb Zjl (hq1 hr)) (Zj Zcg rfl T.b_sorted Z2 (Za (Zj (Zgw rfl) rfl T.b_sum Znc (Za (Yq (N:=["_law_lot"]) (fr:=[none]) rfl (Yn (by decide) rfl (by decide) rfl rfl) (Yg (pv 4)) (fun _ _ _ _=>pgB 0) (fun _ _ _ _=>Zp) (fun _ _ _ _=>Zs (Zdk K rfl) rfl T.b_list Zfl (Za (pv 0) Zb rfl))) (Za (Y8 Zb) Zb rfl) rfl)) Zb rfl)) (Zs (Zeb rfl) rfl T.b_list Zfl (Za (Zmw rfl T.b_range (Za (Zj Zq rfl T.b_len Yt (Za (Zu (Xb K rfl) (pv 0) Ze (fun _ _=>rfl)) Zb rfl)) Zb rfl)) Zb rfl)) (Yo _));case g4=>refine' Zd (Zy (i:=5) nd rfl (Or.inl rfl) Ze) ?g9;case g9=>refine' Zd ?ga (Zi (Zo (Zfr Zlt Zlt (pv 5) (Zk Cac_ hr (by decide) rfl (Za (pv 0) Zb rfl)) (Zk Cac_ hr (by decide) rfl (Za (pv 1) Zb rfl)))));case ga=>refine' Zav PassesOwn.never rfl (Yg (Zk Co_ hr (by decide) rfl (Za (pv 0) Zb rfl))) (Zm (i:=6) nd rfl (Or.inl rfl)) ?gb;case gb=>refine' Zd (Zah (Zk Cab_ hr (by decide) rfl (Za (pv 0) (Za (pv 6) Zb rfl) rfl)) (Ys (n:=2) rfl (Zl (Zm (i:=7) nd rfl (Or.inl rfl)) (Zl (Zm (i:=8) nd rfl (Or.inr rfl)) Z7)))) ?gc;case gc=>refine' Zd (Xp (PW.pt (Zd0 (Ye Zeu (Zk Ce_ hr (by decide) rfl (Za (pv 7) Zb rfl)) Xf (Yo _)) (Za9 (Ye (Zbb Zge (hq2 hr)) (Zk Co_ hr (by decide) rfl (Za (pv 7) Zb rfl)) (Y8 (Za (Zs (Zlz rfl) rfl T.b_tuple Z5 (Za (Zmw rfl T.b_range (Za (Zj Zq rfl T.b_len Yt (Za (pv 6) Zb rfl)) Zb rfl)) Zb rfl)) Zb rfl)) (Yo _))))) (Zi (Zo Xf)) Z4) ?gd;case gd=>refine' Zd (Ze5 (g:=(gTup K 2 (X0 (Y2 0) (X0 (Y2 1) gNil)))) (N:=["_law_a","_law_b","_law_used"]) (fr:=[none,none,some 8]) rfl rfl (Zm (i:=9) nd rfl (Or.inl rfl)) (Zv (XN:=["_law_plate_here","_law_other","_law_order_here","_law_pieces","_law_lots","_law_size","_law_lot","_law_alone_here","_law_used","_law_sent"]) (Scope.names (Zf Zt)) rfl rfl rfl (fun _ h=>Zr h) (by decide +kernel) rfl) (Yg (Zk Cf_ hr (by decide) rfl (Za (pv 7) Zb rfl))) (fun _ _ _ _=>Ys (n:=2) rfl (Zl (pgB 0) (Zl (pgB 1) Z7))) (fun _ _ _ _=>Zp) (fun _ _ _ _=>Yb (Za (Zu (Xh K rfl) (pv 2) (pv 0) (fun _ _=>rfl)) (Za (Zu (Xh K rfl) (pv 2) (pv 1) (fun _ _=>rfl)) Zb rfl) rfl))) (Zd (Xp (PW.pt (Zd0 (Ye (Zbb Zge (hq2 hr)) (Yq (N:=["_law_one","_law_plate_here"]) (fr:=[none,some 0]) rfl (Zv (XN:=["_law_plate_here","_law_other","_law_order_here","_law_pieces","_law_lots","_law_size","_law_lot","_law_alone_here","_law_used","_law_sent"]) (Scope.names (Zf Zt)) rfl rfl rfl (fun _ h=>Zr h) (by decide +kernel) rfl) (Yg (pv 9)) (fun _ _ _ _=>pgB 0) (fun _ _ _ _=>Zc2 (Ye (Zg8 Zge Zi4 (hq2 hr)) (pv 0) (Zk Cf_ hr (by decide) rfl (Za (pv 1) Zb rfl)) rfl)) (fun _ _ _ _=>pv 0)) (Y8 Zb) (Yo _)) (Za9 (Ye Zu4 (Zj Zq rfl T.b_len Yt (Za (Zk Cq_ hr (by decide) rfl (Za (pv 7) Zb rfl)) Zb rfl)) (Zj Zq rfl T.b_len Yt (Za (Zk Cf_ hr (by decide) rfl (Za (pv 7) Zb rfl)) Zb rfl)) (Yo _))))) (Zi (Zo Xf)) Z4) (Zi (Zy (i:=5) nd rfl (Or.inl rfl) (Zw Y7 (pv 5) (Zk Cac_ hr (by decide) rfl (Za (pv 7) Zb rfl))))))
 obtain ⟨a,c,p,t,st,rfl,ha,hc,⟨p,pvs,rfl,hp,pal⟩,ht,hst⟩:=id hv;obtain ⟨a',c',p',t',st',rfl,ha',hc',⟨p',pvs',rfl,hp',pal'⟩,ht',hst'⟩:=id hv';have L:=LR.led;have Ll:=L.len;have lpv:=pal.1;have lpv':=pal'.1;have q20:P''.ps.length≤20:=by omega
 have p20:P'.ps.length≤20:=by omega
 refine ⟨_,rfl,a,_,1,_,rfl,rfl,SqT.of ha,rfl,p,rfl,⟨_,SqT.of hp⟩,fun D nD=>?_⟩;refine lc_T (k:=.t) (vs:=pvs) IsI hRII (P'.ps.map (ph (oAt o2))) (by simp;omega) (by omega) nD hp (fun i w H2 C hw s2 c=>?_) (fun H1 us1 s1 e1 a1=>?_)
 · obtain ⟨x,ex,b,rfl,hb⟩:=pal.get hw;have pk:=ok.pc x (n7_ ex);refine ⟨_,rfl,b,rfl,⟨_,SqT.of (s2 _ _ hb)⟩,fun E nE=>?_⟩;refine lc_T (k:=.t) (vs:=x.map V.int) RI hRI (x.map (oAt o2)) (by simp) (by rw [n5_,pk.len];decide) nE (s2 _ _ hb) (fun n w H3 C6 hx s6 c6=>?_) (fun H3 us6 s6 e6 a6=>?_)
   · rw [n6_] at hx;obtain ⟨y,ey,rfl⟩:=n10_.mp hx;have by':=pk.bd y (n7_ ey)
     exact ⟨_,rfl,_,rfl,O,_,y,_,rfl,rfl,SqL.of (s6 _ _ (s2 _ _ hO)),o_at CO by'.1 (by omega),c6 _ _ _ (Same.refl _) (by rw [n6_,ey];rfl) rfl⟩
   · rw [a6.ints] at e6;refine ⟨E,_,rfl,SqL.of e6,by rw [n5_,pk.len];decide,fun L' ns' nL pm' so'=>?_⟩;generalize gG:upd H3 L' (.lst (ns'.map V.int))=H4;obtain ⟨s7,e7⟩:=gen_upd gG nL;refine ⟨L',_,rfl,.inl ⟨SqL.of e7,fun T' nT=>?_⟩⟩;exact c _ _ _ (s6.trans (s7.trans (Same.new nT))) (by rw [n6_,ex];rfl) ⟨T',rfl,by rw [show ph (oAt o2) x=ns' from (Zay pm' so').symm];exact Zc⟩
 refine ⟨_,rfl,.ref a,P',rfl,hv.tk s1.tk,ok,p20,fun H2 r1 al1 s2 nr1 er1 tp1 PO1=>?_⟩;have s02:=s1.trans s2
 have l1:al1.length≤20:=by
  have:=Zhr PO1
  rw [n5_] at this;omega
 refine ⟨r1,rfl,⟨_,SqL.of er1⟩,fun D2 nD2=>?_⟩;refine lc_T (k:=.l) (vs:=refs al1) IsI hRII ((al1.map (·.2)).map (psi (oAt o2) P'.ps P''.ps)) (by simp) (by rw [n5_];omega) nD2 er1 (fun i w H3 C hw s3 c=>?_) (fun H3 us3 s3 e3 a3=>?_)
 · rw [n6_] at hw;obtain ⟨z,ez,rfl⟩:=n10_.mp hw;have zm:=n7_ ez;have hz:=s3 _ _ (tp1 z zm);obtain ⟨i0,hi0,PA⟩:=(PO1.mem z.2).mp (n39_ zm);have zl:=PA.len;refine ⟨_,rfl,z.1,rfl,⟨_,SqT.of hz⟩,fun E nE=>?_⟩;refine lc_T (k:=.t) (vs:=z.2.map V.int) RI hRI (z.2.map fun x=>((pix (oAt o2) P'.ps P''.ps x.toNat:Nat):Int)) (by simp) (by rw [n5_];omega) nE hz (fun n w H4 C6 hx s6 c6=>?_) (fun H4 us6 s6 e6 a6=>?_)
   · rw [n6_] at hx;obtain ⟨y,ey,rfl⟩:=n10_.mp hx;obtain ⟨m,rfl,hm,_⟩:=(PA.mem y).mp (n7_ ey);have s34:=s3.trans s6;have s24:=s2.trans s34;have s04:=s1.trans s24;obtain ⟨vx,evx,rx⟩:=a1.got (show (P'.ps.map (ph (oAt o2)))[m]? = some (ph (oAt o2) (P'.ps.getD m [])) by rw [n6_,n2_,n1_ hm];rfl);obtain ⟨i1,i2⟩:=Zqy (l:=P''.ps) (x:=ph (oAt o2) (P'.ps.getD m [])) (L.pm.mem_iff.mpr (n39_ (getm hm)));exact ⟨_,rfl,a',_,1,_,rfl,rfl,SqT.of (s04 _ _ ha'),rfl,.inr (.inl ⟨rfl,.inr ⟨_,s04 _ _ hp'⟩⟩),_,rfl,_,rfl,D,us1,(m:Int),vx,rfl,rfl,SqL.of (s24 _ _ e1),Xk evx,p',_,P''.ps,vx,_,_,rfl,rfl,s04 _ _ hp',pal'.imp fun v x r=>r.tk s04.tk,rx.tk s24.tk,i1,i2,by omega,c6 _ _ _ (Same.refl _) (by rw [n6_,ey];rfl) rfl⟩
   · rw [a6.ints] at e6;refine ⟨E,_,rfl,SqL.of e6,by rw [n5_];omega,fun L' ns' nL pm' so'=>?_⟩;generalize gG:upd H4 L' (.lst (ns'.map V.int))=H5;obtain ⟨s7,e7⟩:=gen_upd gG nL;refine ⟨L',_,rfl,.inl ⟨SqL.of e7,fun T' nT=>?_⟩⟩;exact c _ _ _ (s6.trans (s7.trans (Same.new nT))) (by rw [n6_,n6_,ez];rfl) ⟨T',rfl,by rw [show psi (oAt o2) P'.ps P''.ps z.2=ns' from (Zay pm' so').symm];exact Zc⟩
 obtain ⟨bl,rfl,tb,eb⟩:=Zhy a3;have lb:bl.length=al1.length:=by have:=congrArg List.length eb;simpa using this
 refine ⟨D2,bl,rfl,SqL.of e3,tb,by rw [eb];exact L.psi_nd PO1,fun x hx=>?_,by omega,fun LL ql nL pm rs=>?_⟩
 · have hx':x.2∈(al1.map (·.2)).map (psi (oAt o2) P'.ps P''.ps):=by rw [← eb];exact n39_ hx
   obtain ⟨l,hl,e⟩:=n18_.mp hx';obtain ⟨i0,hi0,PA⟩:=(PO1.mem l).mp hl;rw [← e,(Yh _).length_eq,n5_];exact List.length_pos_of_mem ((PA.mem _).mpr ⟨i0,rfl,hi0,.refl⟩)
 have s4:Same H3 (upd H3 LL (.lst (refs ql))):=Same.new nL;have e4:upd H3 LL (.lst (refs ql)) LL=some (.lst (refs ql)):=Zc;have tq:∀ x∈ql,tpl (upd H3 LL (.lst (refs ql))) x:=fun x hx=>s4 _ _ (tb x (pm.mem_iff.mp hx));generalize upd H3 LL (.lst (refs ql))=H4 at s4 e4 tq ⊢;have s04:=s02.trans (s3.trans s4);have lq:ql.length≤20:=by rw [pm.length_eq];omega
 refine ⟨_,rfl,_,rfl,.ref a',P'',rfl,hv'.tk s04.tk,LR.ok,q20,fun H5 r2 al2 s5 nr2 er2 tp2 PO2=>?_⟩;have e45:=s5 _ _ e4;have s05:=s04.trans s5;have E1:ql.map (·.2)=al2.map (·.2):=L.parts PO1 PO2 (Yp rs) fun k=>by rw [(pm.map (·.2)).mem_iff,eb]
 refine ⟨LL,r2,_,_,_,_,rfl,rfl,e45,er2,Xc (fun x hx=>s5 _ _ (tq x hx)),Xc tp2,false,by rw [if_pos rfl,n29_ E1];rfl,iteF ?_⟩;refine ⟨_,rfl,LL,rfl,⟨_,SqL.of e45⟩,fun D5 nD5=>?_⟩;refine lc_L (k:=.l) (vs:=refs ql) (fun i=>((ql.map (·.2)).getD i []).map V.int) (by rw [n5_];omega) nD5 e45 (fun i w G C hw s6 c'=>?_) (fun H6 as s6 las e6 e6'=>?_)
 · rw [n6_] at hw;obtain ⟨z,ez,rfl⟩:=n10_.mp hw;refine ⟨_,rfl,z.1,z.2.map V.int,rfl,.inr (SqT.of (s6 _ _ (s5 _ _ (tq z (n7_ ez))))),fun e ne _=>?_⟩
   have:=c' e ne
   rwa [n2_,n6_,ez] at this
 refine ⟨z0_,fun B nB=>?_⟩;generalize gG:upd H6 B (.lst [])=H7;obtain ⟨s7,e7⟩:=gen_upd gG nB;have fl:(ql.map (·.2)).flatten.Perm ((List.range P''.ps.length).map fun (i:Nat)=>(i:Int)):=by rw [E1];exact Zh6 PO2
 have fll:(ql.map (·.2)).flatten.length=P''.ps.length:=by rw [fl.length_eq];simp
 have las':as.length=ql.length:=by rw [las,n5_]
 refine ⟨D5,B,as,(ql.map (·.2)).map fun x=>x.map V.int,[],rfl,s7 _ _ e6,e7,Zde _ _ (by rw [n5_,n5_];omega) (fun i b hb=>?_),?_,fun M hM=>?_⟩
 · rw [s7 _ _ (e6' i b hb)];have hi:=(n9_.mp hb).1;have ei:(ql.map (·.2))[i]? = some _:=n1_ (show i<(ql.map (·.2)).length by rw [n5_];omega);rw [n2_,n2_,n6_ (l:=ql.map (·.2)),ei];rfl
 · rw [List.nil_append,Zao,n5_];omega
 rw [List.nil_append,Zao]
 have s8:Same H6 (upd H7 M (.lst ((ql.map (·.2)).flatten.map V.int))):=fun b o e=>by
  have:b≠M:=by
   rcases hM with h|h
   · exact Zg (s7 _ _ e) h
   · rw [h];exact Zg e nB
  rw [Zh this];exact s7 _ _ e
 have e8:upd H7 M (.lst ((ql.map (·.2)).flatten.map V.int)) M=some (.lst ((ql.map (·.2)).flatten.map V.int)):=Zc;generalize upd H7 M (.lst ((ql.map (·.2)).flatten.map V.int))=H8 at s8 e8 ⊢;refine ⟨M,_,rfl,SqL.of e8,by omega,fun N ns nN pmN le=>?_⟩;generalize gG:upd H8 N (.lst (ns.map V.int))=H9;obtain ⟨s9,e9⟩:=gen_upd gG nN;have s09:=s05.trans (s6.trans (s8.trans s9));refine ⟨_,rfl,a,_,1,_,rfl,rfl,SqT.of (s09 _ _ ha),rfl,p,pvs,rfl,.inr (SqT.of (s09 _ _ hp)),pvs.length,rfl,fun r3 nr3=>?_⟩;generalize gG:upd H9 r3 (.rng 0 pvs.length)=H10;obtain ⟨s10,e10⟩:=gen_upd gG nr3;refine ⟨r3,pvs.length,rfl,e10,by omega,fun l4 nl4=>?_⟩;generalize gG:upd H10 l4 (.lst ((List.range pvs.length).map fun i:Nat=>V.int i))=H11;obtain ⟨s11,e11⟩:=gen_upd gG nl4;have s011:=s09.trans (s10.trans s11)
 have E2:ns=(List.range pvs.length).map fun i:Nat=>(i:Int):=by
  rw [lpv,← Ll,Zay pmN le];exact (Zay fl.symm (by rw [n43_];exact List.pairwise_lt_range.imp fun {x y} h=>by omega)).symm
 refine ⟨N,l4,_,_,_,_,rfl,rfl,(s10.trans s11) _ _ e9,e11,Zrh ns (H:=H11),Zuu (H:=H11) _,false,by rw [if_pos rfl,n29_ E2];rfl,iteF ?_⟩;refine ⟨_,rfl,.ref a,P',rfl,hv.tk s011.tk,ok,p20,fun H12 r5 al5 s12 nr5 er5 tp5 PO5=>⟨r5,rfl,⟨_,SqL.of er5⟩,?_⟩⟩;have s012:=s011.trans s12;refine Zc1 (xs:=refs al5) (fun m σ G=>∃ w6 w7 w8 w9,σ=[some (.ref a),some (.ref a'),some (.ref O),some (.ref D),some (.ref LL),some (.int (((al5.map (·.2)).take m).map (rl P')).sum),w6,w7,w8,w9]∧Same H12 G) ⟨_,_,_,_,rfl,Same.refl _⟩ ?_ ?_ ?_
 · rintro m σ G _ ⟨_,_,_,_,_,sG⟩
   exact SqL.of (sG _ _ er5)
 · rintro m w0 σ G hw ⟨w6,w7,w8,w9,rfl,sG⟩
   rw [n6_] at hw;obtain ⟨z,ez,rfl⟩:=n10_.mp hw;have zm:=n7_ ez;obtain ⟨i0,hi0,PA⟩:=(PO5.mem z.2).mp (n39_ zm);have gz:tpl G z:=sG _ _ (tp5 z zm);have sHG:=s012.trans sG;have ez2:(al5.map (·.2))[m]? = some z.2:=by rw [n6_,ez];rfl
   refine ⟨_,rfl,_,rfl,.ref a,P',z.1,z.2,rfl,hv.tk sHG.tk,ok,p4,gz,PA.rise,List.ne_nil_of_mem ((PA.mem _).mpr ⟨i0,rfl,hi0,.refl⟩),fun i hi=>?_,fun G1 r ua w u g1 er eu hw' AO=>?_⟩
   · obtain ⟨m',e,h,_⟩:=(PA.mem i).mp hi;exact ⟨m',e,h⟩
   refine ⟨r,_,rfl,SqT.of er,rfl,_,_,rfl,_,_,rfl,rfl,?_⟩;have la:(Z9 P' z.2 u).ps.length=z.2.length:=by simp [Z9]
   have zl:=PA.len;have a20:(Z9 P' z.2 u).ps.length≤20:=by omega
   refine ⟨_,rfl,w,_,rfl,hw',AO.pl,fun G2 g2=>⟨true,rfl,rfl,false,rfl,iteF ?_⟩⟩;refine ⟨_,rfl,w,_,rfl,hw'.tk g2.tk,AO.pl,a20,fun G3 r6 al6 g3 nr6 er6 tp6 PO6=>?_⟩;have g13:=g2.trans g3;have g03:=g1.trans g13;refine ⟨_,rfl,z.1,_,rfl,.inr (SqT.of (g03 _ _ gz)),z.2.length,by rw [n5_],fun R nR=>?_⟩;generalize gG:upd G3 R (.rng 0 z.2.length)=G4;obtain ⟨g4,eR⟩:=gen_upd gG nR;refine ⟨R,z.2.length,rfl,eR,by omega,fun T nT=>?_⟩;generalize gG:upd G4 T (.tup ((List.range z.2.length).map fun i:Nat=>V.int i))=G5;obtain ⟨g5,eT⟩:=gen_upd gG nT;refine ⟨z1_,fun Y nY=>?_⟩;generalize gG:upd G5 Y (.lst [.ref T])=G6;obtain ⟨g6,eY⟩:=gen_upd gG nY;have g36:=g4.trans (g5.trans g6);have E3:=AO.parts PA hi0 PO6
   refine ⟨r6,Y,_,_,al6.map (·.2),[(List.range z.2.length).map fun i:Nat=>(i:Int)],rfl,rfl,g36 _ _ er6,eY,Xc (fun x hx=>g36 _ _ (tp6 x hx)),Xc (al:=[(T,(List.range z.2.length).map fun i:Nat=>(i:Int))]) (fun x hx=>by
    rw [n22_.mp hx];show G6 T=some (.tup (((List.range z.2.length).map fun i:Nat=>(i:Int)).map V.int))
    rw [n44_];exact g6 _ _ eT),false,by rw [if_pos rfl,n29_ E3];rfl,iteF ?_⟩
   have g16:=g13.trans g36;refine ⟨_,rfl,w,_,rfl,hw'.tk g16.tk,AO.pl,a20,fun G7 r7 al7 g7 nr7 er7 tp7 ri7 me7=>⟨r7,rfl,⟨_,SqL.of er7⟩,fun D7 nD7=>?_⟩⟩;have g17:=g16.trans g7
   have l7:al7.length≤60:=by
    have:=Zas (Zbx (Yp ri7)) (ys:=Zn (Z9 P' z.2 u).ps) fun x hx=>(me7 x).mp hx
    rw [n5_,Za1] at this;omega
   have sm:∀ x∈al7,∃ i j:Nat,x.2=[(i:Int),(j:Int)]∧i<u.length∧j<u.length∧[u.getD i 0,u.getD j 0]∈Zn P'.ps:=fun x hx=>AO.sent ((me7 x.2).mp (n39_ hx));refine Zsr (k:=.l) (vs:=refs al7) IsI hRII (al7.map fun x=>[u.getD (x.2.getD 0 0).toNat 0,u.getD (x.2.getD 1 0).toNat 0]) (by simp) (by rw [n5_];omega) nD7 er7 (fun i w hw=>?_) (fun i p x y G8 C hw hp g8 c=>?_) (fun G8 us8 g8 e8 a8=>?_)
   · rw [n6_] at hw;obtain ⟨x,ex,rfl⟩:=n10_.mp hw;obtain ⟨i,j,e,_⟩:=sm x (n7_ ex);have hx:=tp7 x (n7_ ex);rw [tpl,e] at hx;exact ⟨_,_,_,rfl,hx⟩
   · rw [n6_] at hw;obtain ⟨x',ex,ew⟩:=n10_.mp hw;cases ew
     obtain ⟨i1,j1,e,hi1,hj1,_⟩:=sm x' (n7_ ex);have hx:=tp7 x' (n7_ ex);rw [tpl,e,hp] at hx;cases hx
     have ua8:=SqL.of (K:=K) (g8 _ _ (g17 _ _ eu));have at_:∀ k:Nat,k<u.length→atI (u.map V.int) (k:Int)=some (.int (u.getD k 0)):=fun k hk=>Xk (by rw [n6_,n2_,n1_ hk];rfl)
     refine ⟨_,rfl,_,rfl,ua,_,(i1:Int),_,rfl,rfl,ua8,at_ i1 hi1,_,rfl,_,rfl,ua,_,(j1:Int),_,rfl,rfl,ua8,at_ j1 hj1,z2_,fun E nE=>?_⟩;exact c _ _ [u.getD i1 0,u.getD j1 0] (Same.new nE) (by rw [n6_,ex];show some [_,_]=_;rw [e];rfl) ⟨E,rfl,Zc⟩
   have g18:=g17.trans g8;have lu8:us8.length=al7.length:=by rw [a8.1,n5_]
   refine ⟨_,rfl,D7,rfl,⟨_,SqL.of e8⟩,fun D8 nD8=>?_⟩;refine lc_F (k:=.l) (vs:=us8) IsI hRII (fun _=>none) (by omega) nD8 e8 (fun i w0 G9 C N hw g9 c n=>?_) (fun G9 us9 g9 e9 a9=>?_)
   · obtain ⟨x,ex,b,rfl,hb⟩:=a8.get hw;rw [n6_] at ex;obtain ⟨x',ex',rfl⟩:=n10_.mp ex;obtain ⟨i1,j1,e,hi1,hj1,hin⟩:=sm x' (n7_ ex');refine ⟨_,rfl,_,rfl,.ref a,P',rfl,hv.tk (sHG.trans (g1.trans (g18.trans g9))).tk,ok,p20,fun G10 r8 al8 g10 nr8 er8 tp8 ri8 me8=>?_⟩;have hin':[u.getD (x'.2.getD 0 0).toNat 0,u.getD (x'.2.getD 1 0).toNat 0]∈al8.map (·.2):=(me8 _).mpr (by rw [e];exact hin);exact ⟨r8,_,al8.map (·.2),_,rfl,er8,Xc tp8,⟨b,rfl,g10 _ _ (g9 _ _ hb)⟩,false,by rw [if_pos rfl];exact congrArg (fun b=>V.bl !b) (@decide_eq_true _ (_) hin'),iteF (n _ g10 rfl)⟩
   have a9':Al (IsI G9) us9 []:=by
    rwa [show (List.range us8.length).filterMap (fun _=>(none:Option (List Int)))=[] by simp] at a9
   refine ⟨z0_,fun Z nZ=>?_⟩;generalize gG:upd G9 Z (.lst [])=G10;obtain ⟨g10,eZ⟩:=gen_upd gG nZ;refine ⟨D8,Z,us9,[],[],[],rfl,rfl,g10 _ _ e9,eZ,a9'.imp fun v x r=>r.tk g10.tk,.nil,false,rfl,iteF ?_⟩;have g110:=g18.trans (g9.trans g10);refine ⟨_,rfl,w,_,rfl,hw'.tk g110.tk,AO.pl,a20,fun G11 r9 al9 g11 nr9 er9 tp9 ri9 me9=>⟨r9,_,rfl,.inl (SqL.of er9),?_⟩⟩;refine ⟨_,rfl,w,_,rfl,hw'.tk (g110.trans g11).tk,AO.pl,a20,fun G12 r10 al10 g12 nr10 er10 tp10 ri10 me10=>⟨r10,_,rfl,.inl (SqL.of er10),_,_,rfl,rfl,false,?_,iteF ?_⟩⟩
   · have:=Zas (Zbx (Yp ri9)) (ys:=al10.map (·.2)) fun x hx=>(me10 x).mpr ((me9 x).mp hx).1
     rw [n5_,n5_] at this;rw [n5_,n5_];exact congrArg V.bl (n33_ (by omega))
   have g112:=g110.trans (g11.trans g12);refine ⟨_,rfl,_,rfl,w,_,rfl,hw'.tk g112.tk,AO.pl,a20,fun G13 g13=>⟨_,_,rfl,rfl,?_⟩⟩
   have hS:(((al5.map (·.2)).take (m+1)).map (rl P')).sum=(((al5.map (·.2)).take m).map (rl P')).sum+Zcf (Z9 P' z.2 u):=by
    rw [List.take_succ,ez2,n48_,List.sum_append,Zqa AO];simp
   exact ⟨_,_,_,_,by rw [hS];rfl,sG.trans (g1.trans (g112.trans g13))⟩
 · rintro σ G ⟨w6,w7,w8,w9,rfl,sG⟩
   have sHG:=s012.trans sG;refine ⟨_,rfl,_,rfl,.ref a,P',rfl,hv.tk sHG.tk,ok,p20,fun G2 g2=>⟨rfl,true,?_,?_⟩⟩
   · rw [n72_ (by rw [n5_,n5_];exact n14_ _),Zu9 PO5,n29_ rfl]
   rw [if_pos rfl];refine ⟨_,rfl,.ref a',P'',rfl,hv'.tk (sHG.trans g2).tk,LR.ok,q20,fun G3 g3=>⟨rfl,?_⟩⟩;rw [LR.room,n29_ rfl];exact q' _ (sHG.trans (g2.trans g3))
abbrev Zdy:Stmt:=top 52
theorem Zt3 (F:Fun K "law" "law" Zdy f fd) (Ca_:a28_ P w K mg base) (Cam_:a36_ P w K mg base) (Cp_:a37_ P w K mg base) (Ci_:a29_ P w K mg base) (Cad_:a38_ P w K mg base) (Cj_:a39_ P w K mg base) (Cae_:a40_ P w K mg base) (Ce_:a21_ P w K mg base) (Cq_:a33_ P w K mg base) (Cf_:a35_ P w K mg base):FnOk P w K mg base CX0 10 f fd ["_law_script"] (Zjw K):=by
 have sc:FnScope ["_law_script","_law_k","_law_state_here","_law_matrix","_law_plate_here","_law_order_here","_law_other"] ["_law_script"] (Zf Zdy):=fsc (by decide +kernel);refine F.ok sc (fun vs H Q E h=>by obtain ⟨a,ns,rfl,_⟩:=h;rfl) fun cdv A outer s H vs Q E hr h=>?_;obtain ⟨a,ns,rfl,hS,hlen,q⟩:=h;have nd:=sc.nd;refine' ⟨_,?term,?read⟩
 case term=>refine' Zd ?g1 (Zi (Zo Xf));case g1=>refine' Zav PassesOwn.never rfl (Zhl rfl T.b_range (Za (Zj (Zh7 rfl) rfl T.b_max Zq5 (Za Ze (Za (Zj (Zm1 rfl) rfl T.b_min Zub (Za (Zj Zq rfl T.b_len Yt (Za (pv 0) Zb rfl)) (Za Ze Zb rfl) rfl)) Zb rfl) rfl)) Zb rfl)) (Zm (i:=1) nd rfl (Or.inl rfl)) ?g2;case g2=>refine' Zd (Zy (i:=2) nd rfl (Or.inl rfl) (Zk Cae_ hr (by decide) rfl (Za (pv 0) (Za (pv 1) Zb rfl) rfl))) ?g3;case g3=>refine' Zd ?g4 ?g5;(case g4=>refine' Zy (i:=3) nd rfl (Or.inl rfl) ?g6;case g6=>refine' Zu Ym ?g7 (Zk Ca_ hr (by decide) rfl (Za (pv 2) (Za Ze Zb rfl) rfl)) (fun _ _=>rfl);case g7=>refine' Y8 ?g8;case g8=>refine' Za ?g9 ?ga rfl;(case g9=>refine' Yb ?gb;case gb=>refine' Za Ze (Za Ze (Za Ze (Za Ze Zb rfl) rfl) rfl) rfl);case ga=>refine' Za ?gc ?gd rfl;(case gc=>refine' Yb ?ge;case ge=>refine' Za Ze (Za Ze (Za Ze (Za Ze Zb rfl) rfl) rfl) rfl);case gd=>refine' Za ?gf ?gg rfl;(case gf=>refine' Yb ?gh;case gh=>refine' Za Ze (Za (Zly Zea Ze) (Za Ze (Za Ze Zb rfl) rfl) rfl) rfl);case gg=>refine' Za ?gi ?gj rfl;(case gi=>refine' Yb ?gk;case gk=>refine' Za (Zly Zea Ze) (Za Ze (Za Ze (Za (Zly Zea Ze) Zb rfl) rfl) rfl) rfl);case gj=>refine' Za ?gl Zb rfl;case gl=>refine' Yb ?gm;case gm=>refine' Za Ze (Za Ze (Za Ze (Za (Zly Zea Ze) Zb rfl) rfl) rfl) rfl);case g5=>refine' Zd (Zy (i:=4) nd rfl (Or.inr rfl) (Zk Cad_ hr (by decide) rfl (Za (pv 2) (Za Ze Zb rfl) rfl))) ?gn;case gn=>refine' Zd ?go ?gp;(case go=>refine' Zy (i:=5) nd rfl (Or.inl rfl) ?gq;case gq=>refine' Zk Ci_ hr (by decide) rfl ?gr;case gr=>refine' Za (pv 2) ?gs rfl;case gs=>refine' Za ?gt Zb rfl;case gt=>refine' Zj Zq rfl T.b_len Yt ?gu;case gu=>refine' Za ?gv Zb rfl;case gv=>refine' Zu Z1 (pv 4) Ze (fun _ _=>rfl));case gp=>refine' Zd ?gw ?gx;(case gw=>refine' Zy (i:=6) nd rfl (Or.inl rfl) ?gy;case gy=>refine' Zk Cam_ hr (by decide) rfl ?gz;case gz=>refine' Za (pv 4) (Za (pv 5) (Za (pv 3) (Za (Zw Xw (Zk Ca_ hr (by decide) rfl (Za (pv 2) (Za Ze Zb rfl) rfl)) Ze) Zb rfl) rfl) rfl) rfl);case gx=>refine' Zd (Xp (PW.pt (Zd0 (Ye Zeu (Zk Ce_ hr (by decide) rfl (Za (pv 6) Zb rfl)) Xf (Yo _)) (Za9 (Ye (Zbb Zge (hq2 hr)) (Zk Cj_ hr (by decide) rfl (Za (Zk Cf_ hr (by decide) rfl (Za (pv 4) Zb rfl)) (Za (pv 5) Zb rfl) rfl)) (Zk Cf_ hr (by decide) rfl (Za (pv 6) Zb rfl)) (Yo _))))) (Zi (Zo Xf)) Z4) ?g10;case g10=>refine' Zd ?g11 ?g12;(case g11=>refine' Xp ?g13 (Zi (Zo Xf)) Z4;case g13=>refine' PW.pt ?g14;case g14=>refine' Zd0 (Ye (Zbb Zge (hq2 hr)) (Zk Cj_ hr (by decide) rfl (Za (Zk Cq_ hr (by decide) rfl (Za (pv 4) Zb rfl)) (Za (pv 5) Zb rfl) rfl)) (Zk Cq_ hr (by decide) rfl (Za (pv 6) Zb rfl)) (Yo _)) ?g15;case g15=>refine' Za9 ?g16;case g16=>refine' Xe ?g17;case g17=>refine' Zz (Zk Cp_ hr (by decide) rfl (Za (pv 4) (Za (pv 6) (Za (pv 5) Zb rfl) rfl) rfl)) (fun _=>rfl));case g12=>refine' Zi ?g18;case g18=>refine' Xp ?g19 (Zi (Zo Xf)) Z4;case g19=>refine' Ye (Zbb Zge (hq2 hr)) ?g1a (Y8 Zb) (Yo _);case g1a=>refine' Yq (N:=["_law_one","_law_plate_here"]) (fr:=[none,some 4]) rfl (Zv (XN:=["_law_script","_law_k","_law_state_here","_law_matrix","_law_plate_here","_law_order_here","_law_other"]) (Scope.names (Zf Zdy)) rfl rfl rfl (fun _ h=>Zr h) (by decide +kernel) rfl) (Yg (Zk Cq_ hr (by decide) rfl (Za (pv 4) Zb rfl))) (fun _ _ _ _=>pgB 0) (fun _ _ _ _=>Zc2 (Ye (Zg8 Zge Zi4 (hq2 hr)) (pv 0) (Zk Cf_ hr (by decide) rfl (Za (pv 1) Zb rfl)) rfl)) (fun _ _ _ _=>pv 0)
 refine ⟨_,rfl,a,_,rfl,.inl hS,_,_,rfl,_,_,rfl,_,rfl,?_,?_,?_⟩
 · split<;>(try split)<;>omega
 · rw [n5_];split<;>(try split)<;>omega
 refine Zor (fun i σ H2=>∃ v1 v2 v3 v4 v5 v6:Option V,σ=[some (.ref a),v1,v2,v3,v4,v5,v6]∧Same H H2) ⟨_,_,_,_,_,_,rfl,Same.refl H⟩ ?_ ?_
 rotate_left
 · rintro σ H9 ⟨v1,v2,v3,v4,v5,v6,rfl,s9⟩
   exact q H9
 rintro i σ H2 _ ⟨v1,v2,v3,v4,v5,v6,rfl,s2⟩
 refine ⟨_,rfl,_,rfl,a,ns,i,by rw [Int.zero_add],s2.seq hS,fun l H3 nl s3 st3=>?_⟩;refine ⟨z4_,fun m1 n1=>?_⟩;generalize gG:upd H3 m1 (.tup [.int 1,.int 0,.int 0,.int 1])=G1;obtain ⟨t1,f1⟩:=gen_upd gG n1;refine ⟨z4_,fun m2 n2=>?_⟩;generalize gG:upd G1 m2 (.tup [.int 0,.int 1,.int 1,.int 0])=G2;obtain ⟨t2,f2⟩:=gen_upd gG n2;refine ⟨_,rfl,z4_,fun m3 n3=>?_⟩;generalize gG:upd G2 m3 (.tup [.int 0,.int (-1),.int 1,.int 0])=G3;obtain ⟨t3,f3⟩:=gen_upd gG n3;refine ⟨_,rfl,_,rfl,z4_,fun m4 n4=>?_⟩;generalize gG:upd G3 m4 (.tup [.int (-1),.int 0,.int 0,.int (-1)])=G4;obtain ⟨t4,f4⟩:=gen_upd gG n4;refine ⟨_,rfl,z4_,fun m5 n5=>?_⟩;generalize gG:upd G4 m5 (.tup [.int 1,.int 0,.int 0,.int (-1)])=G5;obtain ⟨t5,f5⟩:=gen_upd gG n5;refine ⟨z5_,fun ML nML=>?_⟩;generalize gG:upd G5 ML (.lst [.ref m1,.ref m2,.ref m3,.ref m4,.ref m5])=G6;obtain ⟨t6,f6⟩:=gen_upd gG nML;have t56:=t5.trans t6;have t46:=t4.trans t56;have t36:=t3.trans t46;have t26:=t2.trans t36;have t06:=t1.trans t26;have st6':=st3.same t06;have nMLl:ML≠l:=(st3.same (t1.trans (t2.trans (t3.trans (t4.trans t5))))).neN nML;refine ⟨_,rfl,l,5,rfl,st6',by decide,Xl (by decide),fun r H4 r0 r1 k4 st4=>?_⟩;have t64:Tk G6 H4:=tkS k4 st6'
 have eX:∃ (m:Addr) (ma mb mc md:Int),atI [V.ref m1,V.ref m2,V.ref m3,V.ref m4,V.ref m5] r=some (.ref m)∧H4 m=some (.tup [.int ma,.int mb,.int mc,.int md])∧(ma,mb,mc,md)∈([(1,0,0,1),(0,1,1,0),(0,-1,1,0),(-1,0,0,-1),(1,0,0,-1)]:List (Int×Int×Int×Int)):=by
  have hr5:r=0∨r=1∨r=2∨r=3∨r=4:=by omega
  rcases hr5 with rfl|rfl|rfl|rfl|rfl
  · exact ⟨m1,1,0,0,1,rfl,t64 _ _ (t26 _ _ f1),by decide⟩
  · exact ⟨m2,0,1,1,0,rfl,t64 _ _ (t36 _ _ f2),by decide⟩
  · exact ⟨m3,0,-1,1,0,rfl,t64 _ _ (t46 _ _ f3),by decide⟩
  · exact ⟨m4,-1,0,0,-1,rfl,t64 _ _ (t56 _ _ f4),by decide⟩
  · exact ⟨m5,1,0,0,-1,rfl,t64 _ _ (t6 _ _ f5),by decide⟩
 obtain ⟨m,ma,mb,mc,md,eat,em,hM⟩:=eX;refine ⟨ML,_,r,_,rfl,rfl,SqL.of (k4 _ _ nMLl f6),eat,?_⟩;refine ⟨_,rfl,l,rfl,st4,fun H5 x P1 k5 st5 hP ok p4 c6 dr=>?_⟩;obtain ⟨pa,c,p,t,st,rfl,ha,⟨c,cvs,rfl,hc,cal⟩,hp,ht,hst⟩:=id hP;refine ⟨_,rfl,_,rfl,pa,_,0,_,rfl,rfl,SqT.of ha,rfl,c,cvs,rfl,.inr (SqT.of hc),l,cvs.length,rfl,st5,by have:=cal.1;omega,fun H6 O o k6 st6 nO eO pm=>?_⟩;have CO:CoOrd P1.cs.length o:=by have:=Zrg pm;rwa [cal.1] at this
 have nOl:O≠l:=st5.neN nO;refine ⟨_,rfl,_,rfl,_,rfl,_,rfl,l,9,rfl,st6,by decide,Xl (by decide),fun r2 H7 r20 r21 k7 st7=>⟨_,_,rfl,rfl,?_⟩⟩;have t57:Tk H5 H7:=(tkS k6 st5).trans (tkS k7 st6);have eO7:=k7 _ _ nOl eO;have hP7:=hP.tk t57;have em7:=t57 _ _ (tkS k5 st4 _ _ em);refine ⟨.ref pa,P1,O,m,o,⟨ma,mb,mc,md,r2-4,-(r2-4)⟩,rfl,hP7,ok,p4,c6,dr,eO7,CO,em7,⟨hM,by show (r2-4).natAbs≤4;omega,by show (-(r2-4)).natAbs≤4;omega⟩,rfl,fun H8 x' P2 s8 hP2 LR=>?_⟩
 have K8:Same H H8:=fun b o e=>by
  have e2:=s2 _ _ e;have nb:=Zg e2 nl;exact s8 _ _ (k7 _ _ nb (k6 _ _ nb (k5 _ _ nb (k4 _ _ nb (t06 _ _ (s3 _ _ e2))))))
 have hP8:=hP7.tk s8.tk;have eO8:=s8 _ _ eO7;have L:=LR.led;have Ll:=L.len;have p20:P1.ps.length≤20:=by omega
 have q20:P2.ps.length≤20:=by omega
 refine ⟨_,rfl,x',P2,rfl,hP2,LR.ok,fun H9 s9=>⟨true,rfl,rfl,false,rfl,iteF ?_⟩⟩;refine ⟨_,rfl,.ref pa,P1,rfl,hP8.tk s9.tk,ok,p20,fun H10 r1' al1 s10 nr1 er1 tp1 ri1 me1=>?_⟩;have z10:=s9.trans s10;obtain ⟨b1,b2,b3⟩:=Zjt L ri1 (fun k hk=>(me1 k).mp hk) p4;refine ⟨_,rfl,r1',O,al1,o,P1.cs.length,rfl,er1,tp1,z10 _ _ eO8,CO,b1,b2,b3,fun H11 r3 ql s11 e11 tq rq mq=>?_⟩;have z11:=z10.trans s11;refine ⟨_,rfl,x',P2,rfl,hP2.tk z11.tk,LR.ok,q20,fun H12 r4 al3 s12 nr3 er3 tp3 ri3 me3=>?_⟩;have E1:ql.map (·.2)=al3.map (·.2):=L.sides me1 (Yp ri3) me3 rq mq;refine ⟨r3,r4,_,_,_,_,rfl,rfl,s12 _ _ e11,er3,Xc (fun x hx=>s12 _ _ (tq x hx)),Xc tp3,false,by rw [if_pos rfl,n29_ E1];rfl,iteF ?_⟩;have z12:=z11.trans s12;clear E1 mq rq tq e11 b1 b2 b3 me3 ri3 tp3 er3 nr3;refine ⟨_,rfl,.ref pa,P1,rfl,hP8.tk z12.tk,ok,p20,fun H13 r5 al5 s13 nr5 er5 tp5 ri5 me5=>?_⟩;have z13:=z12.trans s13;obtain ⟨b1,b2,b3⟩:=Zjt L ri5 (fun k hk=>((me5 k).mp hk).1) p4;refine ⟨_,rfl,r5,O,al5,o,P1.cs.length,rfl,er5,tp5,z13 _ _ eO8,CO,b1,b2,b3,fun H14 r6 ql6 s14 e14 tq6 rq6 mq6=>?_⟩;have z14:=z13.trans s14;refine ⟨_,rfl,x',P2,rfl,hP2.tk z14.tk,LR.ok,q20,fun H15 r7 al7 s15 nr7 er7 tp7 ri7 me7=>?_⟩;have E2:ql6.map (·.2)=al7.map (·.2):=L.rims me5 (Yp ri7) me7 rq6 mq6;refine ⟨r6,r7,_,_,_,_,rfl,rfl,s15 _ _ e14,er7,Xc (fun x hx=>s15 _ _ (tq6 x hx)),Xc tp7,false,by rw [if_pos rfl,n29_ E2];rfl,iteF ?_⟩;have z15:=z14.trans s15;refine ⟨_,rfl,_,rfl,_,rfl,.ref pa,x',P1,P2,O,o,rfl,hP8.tk z15.tk,hP2.tk z15.tk,ok,p4,LR,z15 _ _ eO8,CO,fun H16 s16=>⟨true,rfl,iteF ?_⟩⟩;have z16:=z15.trans s16;refine ⟨_,rfl,.ref pa,P1,rfl,hP8.tk z16.tk,ok,p20,fun H17 r8 al8 s17 nr8 er8 tp8 ri8 me8=>?_⟩;have z17:=z16.trans s17
 have l8:al8.length≤60:=by
  have:=Zas (Zbx (Yp ri8)) fun k hk=>((me8 k).mp hk).1
  rw [n5_,Za1] at this;omega
 refine ⟨r8,rfl,⟨_,SqL.of er8⟩,fun D nD=>?_⟩;refine lc_F (k:=.l) (vs:=refs al8) IsI hRII (fun _=>none) (by rw [n5_];omega) nD er8 (fun j w H18 C N hw s18 cc n=>?_) (fun H18 us s18 e18 a18=>?_)
 · rw [n6_] at hw;obtain ⟨z,ez,rfl⟩:=n10_.mp hw;have zm:=n7_ ez;refine ⟨_,rfl,_,rfl,.ref pa,P1,rfl,hP8.tk (z17.trans s18).tk,ok,p20,fun H19 r9 al9 s19 nr9 er9 tp9 ri9 me9=>?_⟩;have hin:z.2∈al9.map (·.2):=(me9 _).mpr ((me8 _).mp (n39_ zm)).1;exact ⟨r9,_,al9.map (·.2),z.2,rfl,er9,Xc tp9,⟨z.1,rfl,s19 _ _ (s18 _ _ (tp8 z zm))⟩,false,by rw [if_pos rfl];exact congrArg (fun b=>V.bl !b) (@decide_eq_true _ (_) hin),iteF (n _ s19 rfl)⟩
 have a18':Al (IsI H18) us []:=by
  rwa [show (List.range (refs al8).length).filterMap (fun _=>(none:Option (List Int)))=[] by simp] at a18
 refine ⟨z0_,fun Z nZ=>?_⟩;generalize gG:upd H18 Z (.lst [])=H20;obtain ⟨s20,eZ⟩:=gen_upd gG nZ;refine ⟨D,Z,us,[],[],[],rfl,rfl,s20 _ _ e18,eZ,a18'.imp fun v x r=>r.tk s20.tk,.nil,false,rfl,iteF ?_⟩;exact ⟨_,_,_,_,_,_,rfl,K8.trans (z17.trans (s18.trans s20))⟩
end
structure Lk (K:PySem.W.Frag) (b:Str) (st:Stmt) (f:Addr):Prop where
 fn:∃ fd,Fun K b b st f fd
 a:PySem.W.nsIn K mainGlobals b=some (some (.ref f))
 k:PySem.W.keepIn K (.ref f)=true
theorem Zvw {K:PySem.W.Frag} {b:Str} {st:Stmt} {f:Addr} {od an:Option Addr} {sl:Array (Option Value)} {oc kV dc pm cd ct:Value} (a:PySem.W.nsIn K mainGlobals b=some (some (.ref f))) (l:K.lookup f=some ⟨oc,od,.func (PySem.W.fnOf b b (X1 st) (Xo st) (Zf st) .none kV dc pm an cd ct),sl⟩) (c:PySem.W.codeIn K cd b=true) (k:PySem.W.keepIn K (.ref f)=true):Lk K b st f:=⟨⟨_,Zq4 (st:=st) l c k⟩,a,k⟩
theorem Lk.cal {P:Program} {w:World} {K:PySem.W.Frag} {h:Heap} {mg:Str→Option Value} {base:Heap} {b:Str} {st:Stmt} {f:Addr} {k:Nat} {ps:List Str} {sp:Sp} (L:Lk K b st f) (X:K.In h) (G:h.Ns mainGlobals mg) (ok:∀ {fd},Fun K b b st f fd→FnOk P w K mg base CX0 k f fd ps sp) (hb:∀ (kV doc pm:Value) (an:Option Addr) (cdv ct:Value) (us:List Value),us.length=ps.length→bindArgs (PySem.W.fnOf b b (X1 st) (Xo st) (Zf st) .none kV doc pm an cdv ct) ⟨us,[]⟩=pure (ps.zip us)):Cal P w K mg base b k ps sp :=
 let ⟨_,F⟩:=L.fn
 ⟨f,_,ok F,PySem.W.mg_of X G L.a,L.k,F.binds (ps:=ps) hb⟩
theorem ln1 {P:List Value→Prop} (h:∀ x0,P [x0]):∀ us:List Value,us.length=1→P us:=fun us e=>match us,e with|[x0],_=>h x0
theorem ln2 {P:List Value→Prop} (h:∀ x0 x1,P [x0,x1]):∀ us:List Value,us.length=2→P us:=fun us e=>match us,e with|[x0,x1],_=>h x0 x1
theorem ln3 {P:List Value→Prop} (h:∀ x0 x1 x2,P [x0,x1,x2]):∀ us:List Value,us.length=3→P us:=fun us e=>match us,e with|[x0,x1,x2],_=>h x0 x1 x2
theorem ln4 {P:List Value→Prop} (h:∀ x0 x1 x2 x3,P [x0,x1,x2,x3]):∀ us:List Value,us.length=4→P us:=fun us e=>match us,e with|[x0,x1,x2,x3],_=>h x0 x1 x2 x3
theorem Zve {l:PySem.W.OpenLaw} {w:World} {K:PySem.W.Frag} {h:Heap} {mg:Str→Option Value} {fa:Addr} (X:K.In h) (G:h.Ns mainGlobals mg) (hfa:mg "law" = some (.ref fa))
 {f_0:Addr} (h_0:Lk K "is_whole" Zb4 f_0)
 {f_1:Addr} (h_1:Lk K "is_between" Zaz f_1)
 {f_2:Addr} (h_2:Lk K "is_row" Zga f_2)
 {f_3:Addr} (h_3:Lk K "are_rising" X6 f_3)
 {f_4:Addr} (h_4:Lk K "is_corner" Zbd f_4)
 {f_5:Addr} (h_5:Lk K "are_corners" Zag f_5)
 {f_6:Addr} (h_6:Lk K "turn" Znm f_6)
 {f_7:Addr} (h_7:Lk K "turn_of" Zc8 f_7)
 {f_8:Addr} (h_8:Lk K "is_piece" Za5 f_8)
 {f_9:Addr} (h_9:Lk K "are_pieces" Xu f_9)
 {f_10:Addr} (h_10:Lk K "are_thicks" Zax f_10)
 {f_11:Addr} (h_11:Lk K "is_stuff" Zb1 f_11)
 {f_12:Addr} (h_12:Lk K "triangle" Za4 f_12)
 {f_13:Addr} (h_13:Lk K "edges" Ziu f_13)
 {f_14:Addr} (h_14:Lk K "lies_in" Zbk f_14)
 {f_15:Addr} (h_15:Lk K "parts_from" Xs f_15)
 {f_16:Addr} (h_16:Lk K "are_apart" Zbc f_16)
 {f_17:Addr} (h_17:Lk K "every_corner_is_used" Yj f_17)
 {f_18:Addr} (h_18:Lk K "no_strange_corner" Z3 f_18)
 {f_19:Addr} (h_19:Lk K "fit_together" Yw f_19)
 {f_20:Addr} (h_20:Lk K "is_plate" Zb2 f_20)
 {f_21:Addr} (h_21:Lk K "look_at_plate" Xn f_21)
 {f_22:Addr} (h_22:Lk K "sides_of" Zb3 f_22)
 {f_23:Addr} (h_23:Lk K "owners" Zf5 f_23)
 {f_24:Addr} (h_24:Lk K "sides" Zi1 f_24)
 {f_25:Addr} (h_25:Lk K "rim" Zqj f_25)
 {f_26:Addr} (h_26:Lk K "neighbours" Zar f_26)
 {f_27:Addr} (h_27:Lk K "part_of" Zdp f_27)
 {f_28:Addr} (h_28:Lk K "parts" Zf3 f_28)
 {f_29:Addr} (h_29:Lk K "room" Zki f_29)
 {f_30:Addr} (h_30:Lk K "_law_cell_at" Xz f_30)
 {f_31:Addr} (h_31:Lk K "_law_state" Zaw f_31)
 {f_32:Addr} (h_32:Lk K "_law_choice" X9 f_32)
 {f_33:Addr} (h_33:Lk K "_law_order" Zau f_33)
 {f_34:Addr} (h_34:Lk K "_law_shapes" X5 f_34)
 {f_35:Addr} (h_35:Lk K "_law_plate" Y1 f_35)
 {f_36:Addr} (h_36:Lk K "_law_led" X2 f_36)
 {f_37:Addr} (h_37:Lk K "_law_sides_led" Yx f_37)
 {f_38:Addr} (h_38:Lk K "_law_alone" Yd f_38)
 {f_39:Addr} (h_39:Lk K "_law_lots_right" Zt f_39)
 {f_law:Addr} {od_law an_law:Option Addr} {sl_law:Array (Option Value)} {oc_law kV_law dc_law pm_law cd_law ct_law:Value}
 (a_law:PySem.W.nsIn K mainGlobals "law" = some (some (.ref f_law)))
 (l_law:K.lookup f_law=some ⟨oc_law,od_law,.func (PySem.W.fnOf "law" "law" (X1 Zdy) (Xo Zdy) (Zf Zdy) .none kV_law dc_law pm_law an_law cd_law ct_law),sl_law⟩)
 (c_law:PySem.W.codeIn K cd_law "law" = true) (k_law:PySem.W.keepIn K (.ref f_law)=true)
 (z_abs:PySem.W.nsIn K mainGlobals "abs" = some none)
 (z_all:PySem.W.nsIn K mainGlobals "all" = some none)
 (z_any:PySem.W.nsIn K mainGlobals "any" = some none)
 (z_bool:PySem.W.nsIn K mainGlobals "bool" = some none)
 (z_enumerate:PySem.W.nsIn K mainGlobals "enumerate" = some none)
 (z_int:PySem.W.nsIn K mainGlobals "int" = some none)
 (z_isinstance:PySem.W.nsIn K mainGlobals "isinstance" = some none)
 (z_len:PySem.W.nsIn K mainGlobals "len" = some none)
 (z_list:PySem.W.nsIn K mainGlobals "list" = some none)
 (z_max:PySem.W.nsIn K mainGlobals "max" = some none)
 (z_min:PySem.W.nsIn K mainGlobals "min" = some none)
 (z_range:PySem.W.nsIn K mainGlobals "range" = some none)
 (z_set:PySem.W.nsIn K mainGlobals "set" = some none)
 (z_sorted:PySem.W.nsIn K mainGlobals "sorted" = some none)
 (z_sum:PySem.W.nsIn K mainGlobals "sum" = some none)
 (z_tuple:PySem.W.nsIn K mainGlobals "tuple" = some none)
 (z_zip:PySem.W.nsIn K mainGlobals "zip" = some none)
 {tn_FARTHEST:Tok} (n_FARTHEST:PySem.W.nsIn K mainGlobals "FARTHEST" = some (some (.int 100 tn_FARTHEST)))
 {tn_FEWEST_CORNERS:Tok} (n_FEWEST_CORNERS:PySem.W.nsIn K mainGlobals "FEWEST_CORNERS" = some (some (.int 3 tn_FEWEST_CORNERS)))
 {tn_MOST_CORNERS:Tok} (n_MOST_CORNERS:PySem.W.nsIn K mainGlobals "MOST_CORNERS" = some (some (.int 30 tn_MOST_CORNERS)))
 {tn_MOST_PIECES:Tok} (n_MOST_PIECES:PySem.W.nsIn K mainGlobals "MOST_PIECES" = some (some (.int 40 tn_MOST_PIECES)))
 {tn_MOST_STUFF:Tok} (n_MOST_STUFF:PySem.W.nsIn K mainGlobals "MOST_STUFF" = some (some (.int 9 tn_MOST_STUFF)))
 {tn_THICKEST:Tok} (n_THICKEST:PySem.W.nsIn K mainGlobals "THICKEST" = some (some (.int 9 tn_THICKEST)))
 : ∃ fd:FuncData,(∀ (s:Shared) (v:Value),BindsTo s fd ⟨[v],[]⟩ [("_law_script",v)])∧∀ base:Heap,K.In base→base.Ns mainGlobals mg→FnOk l.prog w K mg base CX0 10 fa fd ["_law_script"] (Zjw K):=by
 have e:=hfa.symm.trans (PySem.W.mg_of X G a_law);cases e
 have T:Bt mg:=⟨n42_ X G z_abs,n42_ X G z_all,n42_ X G z_any,n42_ X G z_bool,n42_ X G z_enumerate,n42_ X G z_int,n42_ X G z_isinstance,n42_ X G z_len,n42_ X G z_list,n42_ X G z_max,n42_ X G z_min,n42_ X G z_range,n42_ X G z_set,n42_ X G z_sorted,n42_ X G z_sum,n42_ X G z_tuple,n42_ X G z_zip,⟨_,PySem.W.mg_of X G n_FARTHEST⟩,⟨_,PySem.W.mg_of X G n_FEWEST_CORNERS⟩,⟨_,PySem.W.mg_of X G n_MOST_CORNERS⟩,⟨_,PySem.W.mg_of X G n_MOST_PIECES⟩,⟨_,PySem.W.mg_of X G n_MOST_STUFF⟩,⟨_,PySem.W.mg_of X G n_THICKEST⟩⟩;have F_law:=Zq4 (st:=Zdy) l_law c_law k_law;refine ⟨PySem.W.fnOf "law" "law" (X1 Zdy) (Xo Zdy) (Zf Zdy) .none kV_law dc_law pm_law an_law cd_law ct_law,fun s v=>.of_eq rfl,fun base _ _=>?_⟩;have C_0:a0_ l.prog w K mg base:=h_0.cal X G (fun F=>Zji T F) fun _ _ _ _ _ _=>ln1 fun _=>rfl;have C_1:a1_ l.prog w K mg base:=h_1.cal X G (fun F=>Zf0 T F C_0) fun _ _ _ _ _ _=>ln3 fun _ _ _=>rfl;have C_2:a2_ l.prog w K mg base:=h_2.cal X G (fun F=>Zof T F) fun _ _ _ _ _ _=>ln3 fun _ _ _=>rfl;have C_x3:a5_ l.prog w K mg base:=h_3.cal X G (fun F=>Zd1 T F) fun _ _ _ _ _ _=>ln1 fun _=>rfl;have C_x4:a7_ l.prog w K mg base:=h_3.cal X G (fun F=>Zdx T F) fun _ _ _ _ _ _=>ln1 fun _=>rfl;have C_4:a3_ l.prog w K mg base:=h_4.cal X G (fun F=>Zgj T F C_1 C_2) fun _ _ _ _ _ _=>ln1 fun _=>rfl;have C_5:a15_ l.prog w K mg base:=h_5.cal X G (fun F=>Zd2 T F C_4 C_2) fun _ _ _ _ _ _=>ln1 fun _=>rfl;have C_6:a4_ l.prog w K mg base:=h_6.cal X G (fun F=>Ztf T F) fun _ _ _ _ _ _=>ln3 fun _ _ _=>rfl;have C_7:a6_ l.prog w K mg base:=h_7.cal X G (fun F=>Zls T F C_6) fun _ _ _ _ _ _=>ln2 fun _ _=>rfl;have C_8:a8_ l.prog w K mg base:=h_8.cal X G (fun F=>Zi0 T F C_x3 C_1 C_2 C_7) fun _ _ _ _ _ _=>ln2 fun _ _=>rfl;have C_9:a16_ l.prog w K mg base:=h_9.cal X G (fun F=>Zfc T F C_x4 C_8 C_2) fun _ _ _ _ _ _=>ln2 fun _ _=>rfl;have C_10:a17_ l.prog w K mg base:=h_10.cal X G (fun F=>Zf2 T F C_1 C_2) fun _ _ _ _ _ _=>ln2 fun _ _=>rfl;have C_11:a20_ l.prog w K mg base:=h_11.cal X G (fun F=>Zjj T F C_1 C_2) fun _ _ _ _ _ _=>ln1 fun _=>rfl;have C_12:a14_ l.prog w K mg base:=h_12.cal X G (fun F=>Zi6 T F C_6) fun _ _ _ _ _ _=>ln2 fun _ _=>rfl
 have C_13:a9_ l.prog w K mg base:=h_13.cal X G (fun F=>Zqq T F) fun _ _ _ _ _ _=>ln1 fun _=>rfl;have C_14:a11_ l.prog w K mg base:=h_14.cal X G (fun F=>Zln T F C_13 C_6) fun _ _ _ _ _ _=>ln2 fun _ _=>rfl;have C_15:a10_ l.prog w K mg base:=h_15.cal X G (fun F=>Zfd T F C_13 C_6) fun _ _ _ _ _ _=>ln2 fun _ _=>rfl;have C_16:a12_ l.prog w K mg base:=h_16.cal X G (fun F=>Zih T F C_15) fun _ _ _ _ _ _=>ln2 fun _ _=>rfl;have C_17:a18_ l.prog w K mg base:=h_17.cal X G (fun F=>X8 T F) fun _ _ _ _ _ _=>ln2 fun _ _=>rfl;have C_18:a13_ l.prog w K mg base:=h_18.cal X G (fun F=>Za6 T F C_14) fun _ _ _ _ _ _=>ln3 fun _ _ _=>rfl;have C_19:a19_ l.prog w K mg base:=h_19.cal X G (fun F=>Zc9 T F C_16 C_18 C_12) fun _ _ _ _ _ _=>ln2 fun _ _=>rfl;have C_20:a21_ l.prog w K mg base:=h_20.cal X G (fun F=>Ziv T F C_5 C_9 C_10 C_17 C_19 C_2 C_11) fun _ _ _ _ _ _=>ln1 fun _=>rfl;have C_21:a23_ l.prog w K mg base:=h_21.cal X G (fun F=>Zcv T F C_20) fun _ _ _ _ _ _=>ln1 fun _=>rfl;have C_22:a22_ l.prog w K mg base:=h_22.cal X G (fun F=>Ziz T F) fun _ _ _ _ _ _=>ln1 fun _=>rfl;have C_23:a24_ l.prog w K mg base:=h_23.cal X G (fun F=>Zot T F C_22) fun _ _ _ _ _ _=>ln1 fun _=>rfl;have C_24:a35_ l.prog w K mg base:=h_24.cal X G (fun F=>Zqr T F C_21 C_23) fun _ _ _ _ _ _=>ln1 fun _=>rfl;have C_25:a33_ l.prog w K mg base:=h_25.cal X G (fun F=>Zt4 T F C_21 C_23) fun _ _ _ _ _ _=>ln1 fun _=>rfl;have C_26:a25_ l.prog w K mg base:=h_26.cal X G (fun F=>Zfv T F C_23) fun _ _ _ _ _ _=>ln1 fun _=>rfl;have C_27:a26_ l.prog w K mg base:=h_27.cal X G (fun F=>Zli T F) fun _ _ _ _ _ _=>ln2 fun _ _=>rfl;have C_28:a32_ l.prog w K mg base:=h_28.cal X G (fun F=>Zqo T F C_21 C_26 C_27) fun _ _ _ _ _ _=>ln1 fun _=>rfl;have C_29:a34_ l.prog w K mg base:=h_29.cal X G (fun F=>Ztc T F C_21 C_7) fun _ _ _ _ _ _=>ln1 fun _=>rfl;have C_30:a27_ l.prog w K mg base:=h_30.cal X G (fun F=>Zdl T F) fun _ _ _ _ _ _=>ln2 fun _ _=>rfl;have C_31:a40_ l.prog w K mg base:=h_31.cal X G (fun F=>Zff T F C_30) fun _ _ _ _ _ _=>ln2 fun _ _=>rfl;have C_32:a28_ l.prog w K mg base:=h_32.cal X G (fun F=>Zd5 T F) fun _ _ _ _ _ _=>ln2 fun _ _=>rfl
 have C_33:a29_ l.prog w K mg base:=h_33.cal X G (fun F=>Zf1 T F C_32) fun _ _ _ _ _ _=>ln2 fun _ _=>rfl;have C_34:a30_ l.prog w K mg base:=h_34.cal X G (fun F=>Zd7 T F) fun _ _ _ _ _ _=>fun us hl=>match us,hl with|[],_=>rfl
 have C_35:a38_ l.prog w K mg base:=h_35.cal X G (fun F=>Zfw T F C_32 C_33 C_34) fun _ _ _ _ _ _=>ln2 fun _ _=>rfl;have C_36:a36_ l.prog w K mg base:=h_36.cal X G (fun F=>Zjd T F) fun _ _ _ _ _ _=>ln4 fun _ _ _ _=>rfl;have C_37:a39_ l.prog w K mg base:=h_37.cal X G (fun F=>Zb5 T F) fun _ _ _ _ _ _=>ln2 fun _ _=>rfl;have C_38:a31_ l.prog w K mg base:=h_38.cal X G (fun F=>Zfo T F) fun _ _ _ _ _ _=>ln2 fun _ _=>rfl;have C_39:a37_ l.prog w K mg base:=h_39.cal X G (fun F=>Zbp T F C_38 C_20 C_28 C_25 C_29 C_24) fun _ _ _ _ _ _=>ln3 fun _ _ _=>rfl;exact Zt3 T F_law C_32 C_36 C_39 C_33 C_35 C_37 C_31 C_20 C_25 C_24
theorem walk {l:PySem.W.OpenLaw} {q:Program} {loose:List Str} {XP:(Str→Option Value)→Heap→Prop} {YP:World→Heap→Prop} {d:DefRec} {K:Params→PySem.W.Frag} (hn:l.most=some 63) (hdf:d.params.defaults=[])
 (hY:∀ (w:World) (h:Heap),YP w h→(K w.params).In h)
 (F:∀ (w:World) (mg:Str→Option Value) (fa:Addr) (h:Heap),(K w.params).In h→h.Ns mainGlobals mg→mg d.name=some (.ref fa) →
   ∃ fd:FuncData,(∀ (s:Shared) (u:Value),BindsTo s fd ⟨[u],[]⟩ [("_law_script",u)])∧∀ base:Heap,(K w.params).In base→base.Ns mainGlobals mg→FnOk l.prog w (K w.params) mg base CX0 10 fa fd ["_law_script"] (Zjw (K w.params))) (him:importsNone q=true:=by decide +kernel) :
 PySem.W.WalkO q loose XP YP l.row.toRowW d [] (fun f vs=>PySem.call f vs) :=
 L2.Zsh (n:=63) (k:=10) (x := "_law_script") (CX:=fun _=>CX0) (sp:=fun w=>Zjw (K w.params)) hn (by decide) hdf ⟨rfl,by decide,by decide,rfl⟩ hY F (fun _ _ a ns hl _ hS=>⟨a,ns,rfl,hS,hl,fun _=>rfl⟩) (fun _ _ _ _ _ z=>z) him
end My

namespace My
open PySem PySem.W PyProof.Rows L2
set_option maxRecDepth 1000000
set_option maxHeartbeats 0
def gE (P:Params) (n:Str) (t:Tok) (v:Value):DictEntry:=⟨PySem.PyData.keyHash P n,.str n t,v⟩
def gR (P:Params) (n:Str) (t:Tok) (a:Addr):DictEntry:=gE P n t (.ref a)
def fO (n:Str) (i:Nat) (m:Str) (mt:Tok) (c:Addr) (dv:Value):Obj:={ cls:=.type "function",data:=.func (PySem.W.fnOf n n (X1 (top i)) (Xo (top i)) (Zf (top i)) dv .none .none (.str m mt) none (.ref c) .none) }
def cO (n:Str) (a:Tok) (l k:Int) (r s:Addr) (u v:Value) (t:Nat):Obj:={ cls:=.type "code",data:=.fields (Array.mk [.str n a,.str n (a+1),.str "/claim/cut.py" (a+2),.int l 0,.int k 0,.int 0 0,.int 0 0,.int 3 0,.ref r,.bool true,.int 181 0,.ref (r+1),.none,u,v,.ref s,.int t 0,.int l 0,.str "/claim/cut.py" (t+1)]) }
def dR (n:Str) (i:Nat) (m:Str) (mt a:Tok) (l k:Int) (r:Addr) (t:Nat):Frag:=[(r+6,fO n i m mt (r+5) .none),(r+5,cO n a l k r (r+4) (.ref (r+2)) (.ref (r+3)) t)]
def dN (n:Str) (i:Nat) (m:Str) (mt a:Tok) (l k:Int) (r:Addr) (t:Nat):Frag:=[(r+4,fO n i m mt (r+3) .none),(r+3,cO n a l k r (r+2) .none .none t)]
def Zun (s:Stmt):Pos:=match s with|.FunctionDef _ _ _ _ _ _ _ _ _ p=>p|_=>⟨0,0,0,0⟩
def m0:Str := "platerest.quotients"
def m1:Str := "platerest.plates"
def m2:Str := "law_platerest_k19_whole_plates_numbered_othe"
noncomputable def kK (P:Params):Frag:=(3,{ cls:=.type "dict",data:=(.dict #[gE P "__name__" 165 (.str "law_platerest_k19_whole_plates_numbered_othe" 458),
gE P "__doc__" 166 (.none),
gE P "__package__" 167 (.none),
gE P "__loader__" 168 (.builtin "__main__.__loader__#opaque"),
gE P "__spec__" 169 (.none),
gR P "__annotations__" 170 6,
gR P "__builtins__" 171 4,
gE P "__file__" 173 (.str "/claim/cut.py" 172),
gE P "__cached__" 174 (.none),
gR P "PlateError" 206 24,
gR P "NoPlate" 222 37,
gR P "is_whole" 231 46,
gE P "FEWEST_CORNERS" 235 (.int 3 234),
gE P "MOST_CORNERS" 237 (.int 30 236),
gE P "FARTHEST" 239 (.int 100 238),
gE P "MOST_PIECES" 241 (.int 40 240),
gE P "THICKEST" 243 (.int 9 242),
gE P "MOST_STUFF" 245 (.int 9 244),
gR P "is_between" 254 53,
gR P "is_row" 263 60,
gR P "are_rising" 269 65,
gR P "is_corner" 275 70,
gR P "are_corners" 281 75,
gR P "turn" 291 82,
gR P "turn_of" 299 89,
gR P "is_piece" 305 94,
gR P "are_pieces" 311 99,
gR P "are_thicks" 317 104,
gR P "is_stuff" 324 111,
gR P "triangle" 330 116,
gR P "edges" 337 123,
gR P "lies_in" 343 128,
gR P "parts_from" 349 133,
gR P "are_apart" 357 140,
gR P "every_corner_is_used" 363 145,
gR P "no_strange_corner" 369 150,
gR P "fit_together" 375 155,
gR P "is_plate" 386 162,
gR P "look_at_plate" 393 169,
gR P "sides_of" 403 176,
gR P "owners" 414 183,
gR P "sides" 421 190,
gR P "rim" 427 195,
gR P "neighbours" 433 200,
gR P "part_of" 445 207,
gR P "parts" 451 212,
gR P "room" 457 217,
gR P "_law_cell_at" 467 224,
gR P "_law_state" 476 231,
gR P "_law_choice" 486 238,
gR P "_law_order" 496 245,
gR P "_law_shapes" 510 252,
gR P "_law_plate" 516 257,
gR P "_law_led" 522 262,
gR P "_law_sides_led" 528 267,
gR P "_law_alone" 534 272,
gR P "_law_lots_right" 540 277,
gR P "law" 546 282] 58) }) :: (dR "is_whole" 4 m0 223 225 7 1 40 229 ++
dR "is_between" 12 m1 232 246 16 3 47 252 ++
dR "is_row" 13 m1 232 255 18 3 54 261 ++
dN "are_rising" 14 m1 232 264 20 1 61 267 ++
dN "is_corner" 15 m1 232 270 22 1 66 273 ++
dN "are_corners" 16 m1 232 276 24 1 71 279 ++
dR "turn" 17 m1 232 282 28 3 76 289 ++
dR "turn_of" 18 m1 232 292 31 2 83 297 ++
dN "is_piece" 19 m1 232 300 33 2 90 303 ++
dN "are_pieces" 20 m1 232 306 37 2 95 309 ++
dN "are_thicks" 21 m1 232 312 41 2 100 315 ++
dR "is_stuff" 22 m1 232 318 45 1 105 322 ++
dN "triangle" 23 m1 232 325 49 2 112 328 ++
dR "edges" 24 m1 232 331 54 1 117 335 ++
dN "lies_in" 25 m1 232 338 56 2 124 341 ++
dN "parts_from" 26 m1 232 344 58 2 129 347 ++
dR "are_apart" 27 m1 232 350 63 2 134 355 ++
dN "every_corner_is_used" 28 m1 232 358 65 2 141 361 ++
dN "no_strange_corner" 29 m1 232 364 67 3 146 367 ++
dN "fit_together" 30 m1 232 370 70 2 151 373 ++
dR "is_plate" 31 m1 232 376 78 1 156 384 ++
dR "look_at_plate" 32 m1 232 387 87 1 163 391 ++
dR "sides_of" 33 m1 232 394 90 1 170 401 ++
dR "owners" 34 m1 232 404 93 1 177 412 ++
dR "sides" 35 m1 232 415 99 1 184 419 ++
dN "rim" 36 m1 232 422 102 1 191 425 ++
dN "neighbours" 37 m1 232 428 106 1 196 431 ++
dR "part_of" 38 m1 232 434 112 2 201 443 ++
dN "parts" 39 m1 232 446 122 1 208 449 ++
dN "room" 40 m1 232 452 126 1 213 455 ++
dR "_law_cell_at" 42 m2 458 460 130 2 218 465 ++
dR "_law_state" 43 m2 458 468 134 2 225 474 ++
dR "_law_choice" 44 m2 458 477 137 2 232 484 ++
dR "_law_order" 45 m2 458 487 147 2 239 494 ++
dR "_law_shapes" 46 m2 458 497 152 0 246 508 ++
dN "_law_plate" 47 m2 458 511 162 2 253 514 ++
dN "_law_led" 48 m2 458 517 175 4 258 520 ++
dN "_law_sides_led" 49 m2 458 523 183 2 263 526 ++
dN "_law_alone" 50 m2 458 529 185 2 268 532 ++
dN "_law_lots_right" 51 m2 458 535 191 3 273 538 ++
dN "law" 52 m2 458 541 206 1 278 544)
def kA:List Addr:=[3,46,45,53,52,60,59,65,64,70,69,75,74,82,81,89,88,94,93,99,98,104,103,111,110,116,115,123,122,128,127,133,132,140,139,145,144,150,149,155,154,162,161,169,168,176,175,183,182,190,189,195,194,200,199,207,206,212,211,217,216,224,223,231,230,238,237,245,244,252,251,257,256,262,261,267,266,272,271,277,276,282,281]
theorem kAs:∀ P,kA=(kK P).map (·.1):=fun _=>by kernel_rfl
theorem h3:∀ w os,(topK pw 3432 w os).map (fun s=>kA.map s.abs.heap.get?)=some ((kK w.params).map fun p=>some p.2):=fun w os=>by
  unfold topK topStub;rw [PySem.W.Fast.te4652649595001227023,PySem.W.Fast.te14364793385576792824,PySem.W.Fast.te17154629097778926822,PySem.W.Fast.te12822647523644345616]
  kernel_rfl
theorem left:LeftO pw qq ll (fun s=>xlAt qq [] s&&recOk (RowW.records (OpenRow.toRowW rr)) s) (Hook.obs (kHook kK kA kAs)) (Hook.val (kHook kK kA kAs)) 3432 :=
  Zjg (T0:=bootT) (life:={}) (by kernel_rfl) (by kernel_rfl) (fun s=>by kernel_rfl) Zp6 Zn0 (Zh2 (R:=topK pw 3432) h1 h2 h3)
theorem lk4 {P:Params} {b:Str} {i:Nat} {f:Addr} (c:Addr) (m:Str) (mt:Tok) (h:((kK P).lookup f,PySem.W.nsIn (kK P) mainGlobals b,PySem.W.codeIn (kK P) (.ref c) b,PySem.W.keepIn (kK P) (.ref f))=(some (fO b i m mt c .none),some (some (.ref f)),true,true)):Lk (kK P) b (top i) f:=Zvw (Prod.mk.inj (Prod.mk.inj h).2).1 (Prod.mk.inj h).1 (Prod.mk.inj (Prod.mk.inj (Prod.mk.inj h).2).2).1 (Prod.mk.inj (Prod.mk.inj (Prod.mk.inj h).2).2).2
theorem Zt6 (P:Params):(kK P).lookup 282=some (fO "law" 52 m2 458 281 .none):=by kernel_rfl
theorem Zup (P:Params):PySem.W.nsIn (kK P) mainGlobals "law" = some (some (.ref 282)):=by kernel_rfl
theorem Zva (P:Params):PySem.W.codeIn (kK P) (.ref 281) "law" = true:=by kernel_rfl
theorem Zur (P:Params):PySem.W.keepIn (kK P) (.ref 282)=true:=by kernel_rfl
def dL:DefRec:=⟨"law",X1 (top 52),Xo (top 52),Zf (top 52),Zun (top 52)⟩
theorem hdL:defOf qq (OpenRow.toRowW rr).name=some (dL,[]):=by kernel_rfl
theorem hpL:(OpenRow.toRowW rr).prog.theDef (OpenRow.toRowW rr).name=some (dL.params,dL.body,dL.scope):=by kernel_rfl
theorem hkL:kwWritten? dL.params.kwonlyargs dL.params.kw_defaults=some []:=by kernel_rfl
theorem okL:(chainsOk qq&&opensWell (OpenRow.toRowW rr).prog&&(frees (OpenRow.toRowW rr)&&(OpenRow.toRowW rr).within.isEmpty))=true:=by kernel_rfl
theorem dfL:dL.params.defaults=[]:=by kernel_rfl
theorem wkL:WalkO qq ll (XL qq []) (Hook.says (kHook kK kA kAs)) (OpenRow.toRowW rr) dL [] (fun f vs=>PySem.call f vs):=by
  refine My.walk (l:=PySem.Challenge.rw_platerest_k19_whole_plates_numbered_othe) rfl dfL (fun w h Y=>PySem.W.kIn_of Y) ?F;intro w mg fa h KX G hmg;exact Zve KX G hmg (lk4 (f:=46) 45 m0 223 (by kernel_rfl)) (lk4 (f:=53) 52 m1 232 (by kernel_rfl)) (lk4 (f:=60) 59 m1 232 (by kernel_rfl)) (lk4 (f:=65) 64 m1 232 (by kernel_rfl)) (lk4 (f:=70) 69 m1 232 (by kernel_rfl)) (lk4 (f:=75) 74 m1 232 (by kernel_rfl)) (lk4 (f:=82) 81 m1 232 (by kernel_rfl)) (lk4 (f:=89) 88 m1 232 (by kernel_rfl)) (lk4 (f:=94) 93 m1 232 (by kernel_rfl)) (lk4 (f:=99) 98 m1 232 (by kernel_rfl)) (lk4 (f:=104) 103 m1 232 (by kernel_rfl)) (lk4 (f:=111) 110 m1 232 (by kernel_rfl)) (lk4 (f:=116) 115 m1 232 (by kernel_rfl)) (lk4 (f:=123) 122 m1 232 (by kernel_rfl)) (lk4 (f:=128) 127 m1 232 (by kernel_rfl)) (lk4 (f:=133) 132 m1 232 (by kernel_rfl)) (lk4 (f:=140) 139 m1 232 (by kernel_rfl)) (lk4 (f:=145) 144 m1 232 (by kernel_rfl)) (lk4 (f:=150) 149 m1 232 (by kernel_rfl)) (lk4 (f:=155) 154 m1 232 (by kernel_rfl)) (lk4 (f:=162) 161 m1 232 (by kernel_rfl)) (lk4 (f:=169) 168 m1 232 (by kernel_rfl)) (lk4 (f:=176) 175 m1 232 (by kernel_rfl)) (lk4 (f:=183) 182 m1 232 (by kernel_rfl)) (lk4 (f:=190) 189 m1 232 (by kernel_rfl)) (lk4 (f:=195) 194 m1 232 (by kernel_rfl)) (lk4 (f:=200) 199 m1 232 (by kernel_rfl)) (lk4 (f:=207) 206 m1 232 (by kernel_rfl)) (lk4 (f:=212) 211 m1 232 (by kernel_rfl)) (lk4 (f:=217) 216 m1 232 (by kernel_rfl)) (lk4 (f:=224) 223 m2 458 (by kernel_rfl)) (lk4 (f:=231) 230 m2 458 (by kernel_rfl)) (lk4 (f:=238) 237 m2 458 (by kernel_rfl)) (lk4 (f:=245) 244 m2 458 (by kernel_rfl)) (lk4 (f:=252) 251 m2 458 (by kernel_rfl)) (lk4 (f:=257) 256 m2 458 (by kernel_rfl)) (lk4 (f:=262) 261 m2 458 (by kernel_rfl)) (lk4 (f:=267) 266 m2 458 (by kernel_rfl)) (lk4 (f:=272) 271 m2 458 (by kernel_rfl)) (lk4 (f:=277) 276 m2 458 (by kernel_rfl)) (Zup _) (Zt6 _) (Zva _) (Zur _) (by kernel_rfl) (by kernel_rfl) (by kernel_rfl) (by kernel_rfl) (by kernel_rfl) (by kernel_rfl) (by kernel_rfl) (by kernel_rfl) (by kernel_rfl) (by kernel_rfl) (by kernel_rfl) (by kernel_rfl) (by kernel_rfl) (by kernel_rfl) (by kernel_rfl) (by kernel_rfl) (by kernel_rfl) (tn_FARTHEST:=238) (by kernel_rfl) (tn_FEWEST_CORNERS:=234) (by kernel_rfl) (tn_MOST_CORNERS:=236) (by kernel_rfl) (tn_MOST_PIECES:=240) (by kernel_rfl) (tn_MOST_STUFF:=244) (by kernel_rfl) (tn_THICKEST:=242) (by kernel_rfl)
end My
open PySem PySem.W PyProof.Rows
set_option maxRecDepth 1000000 in
set_option maxHeartbeats 0 in
theorem PySem.Challenge.cw_platerest_k19_whole_plates_numbered_othe_holds : PySem.Challenge.rw_platerest_k19_whole_plates_numbered_othe.Holds := by
  refine holds_law My.ws fun said=>?_;refine holds_open (q:=My.qq) (loose:=My.ll) (Xt:=fun s=>xlAt My.qq [] s&&recOk (RowW.records (OpenRow.toRowW My.rr)) s) (XP:=XL My.qq []) (Yf:=Hook.obs (kHook My.kK My.kA My.kAs)) (Ya:=Hook.val (kHook My.kK My.kA My.kAs)) (YP:=Hook.says (kHook My.kK My.kA My.kAs)) My.left (Hook.of (kHook My.kK My.kA My.kAs)) (Hook.keeps (kHook My.kK My.kA My.kAs)) (fun s e=>xl_of s (Bool.and_eq_true_iff.mp e).1) XL.keeps My.hdL My.hpL My.hkL (fun s e=>recFacts_of (Bool.and_eq_true_iff.mp e).2) rfl said My.okL ⟨rfl,rfl,rfl,rfl,rfl,by decide +kernel⟩ ?hw My.wkL
  case hw=>w_witness2
