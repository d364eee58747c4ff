import PyProof.Rows.All
import Wide.All
import Wide.FinOn
import KE.BitLaws
import KE.KNestM
import KE.KRevSl
import KE.KUnpackStar
import KE.KTops
import KE.KLam
import KE.KDictSum
import KE.KMinBuiltin
import KE.KTupSum
import KE.KFromBytes
import KE.KIntText
import KE.KPairComp
import KE.KRevIter
import KE.KSortTup
import KE.KStateDown
import KE.KStrWords
import KE.KTryMore
import KE.RegKTryMore
import KE.KTypeOf
import KE.KItemsList
import PySem.Challenge.RW_crewpay_k82_articles_as_texts
set_option Elab.async false
set_option linter.all false
set_option maxRecDepth 100000
def PySem.W.Fast.tw6862982618537447744:=0
def PySem.W.Fast.tw6980661794542259744:=0
def PySem.W.Fast.tw16421321327799346880:=0
def PySem.W.Fast.tw4034842506319246753:=0
def PySem.W.Fast.tw13685669045394553729:=0
def PySem.W.Fast.tw12069045007402411106:=0
def PySem.W.Fast.tw2298580396393361538:=0
def PySem.W.Fast.tw11842825723777048546:=0
def PySem.W.Fast.tw6848847855334674563:=0
def PySem.W.Fast.tw9991222452826376003:=0
def PySem.W.Fast.tw3129414165929655235:=0
def PySem.W.Fast.tw9802695381095062532:=0
def PySem.W.Fast.tw7271980144792770628:=0
def PySem.W.Fast.tw17920435925212205509:=0
def PySem.W.Fast.tw4998629337285924934:=0
def PySem.W.Fast.tw6430692656213455718:=0
def PySem.W.Fast.tw6847488407815881544:=0
def PySem.W.Fast.tw4276376698856236937:=0
def PySem.W.Fast.tw8016440094741492330:=0
def PySem.W.Fast.tw12662866709235381900:=0
def PySem.W.Fast.tw12310174988436059373:=0
def PySem.W.Fast.tw15330813127041604526:=0
def PySem.W.Fast.tw14436606100878013231:=0
def PySem.W.Fast.tw7836492190974659664:=0
def PySem.W.Fast.tw12687207963941042000:=0
def PySem.W.Fast.tw3740606973544191121:=0
def PySem.W.Fast.tw8047476844194867121:=0
def PySem.W.Fast.tw8469320692154641361:=0
def PySem.W.Fast.tw5291031602767534290:=0
def PySem.W.Fast.tw6866632295308798354:=0
def PySem.W.Fast.tw13934219277309576082:=0
def PySem.W.Fast.tw11749126314747866259:=0
def PySem.W.Fast.tw5132686216503744179:=0
def PySem.W.Fast.tw2169963568683165012:=0
def PySem.W.Fast.tw3353368430128622964:=0
def PySem.W.Fast.tw118243705871395636:=0
def PySem.W.Fast.tw1339758880064939413:=0
def PySem.W.Fast.tw4832391913502669175:=0
def PySem.W.Fast.tw3697289239192194487:=0
def PySem.W.Fast.tw13597484264479914583:=0
def PySem.W.Fast.tw14627566302302753463:=0
def PySem.W.Fast.tw4361255141004268311:=0
def PySem.W.Fast.tw18311717979082171287:=0
def PySem.W.Fast.tw14394094698987738520:=0
def PySem.W.Fast.tw17048976890995057176:=0
def PySem.W.Fast.tw9308155125380595288:=0
def PySem.W.Fast.tw7847781257579636057:=0
def PySem.W.Fast.tw10423003377409083993:=0
def PySem.W.Fast.tw2822089635176509337:=0
def PySem.W.Fast.tw18034424429212004027:=0
def PySem.W.Fast.tw18033705287634654107:=0
def PySem.W.Fast.tw7863782735016688668:=0
def PySem.W.Fast.tw8792509316434624412:=0
def PySem.W.Fast.tw17187001467171149917:=0
def PySem.W.Fast.tw7075172500981957277:=0
def PySem.W.Fast.tw15910080114774816062:=0
def PySem.W.Fast.tw13503170139079566046:=0
def PySem.W.Fast.tw3917099501868028063:=0
set_option maxHeartbeats 0 in
open_top ztp for PySem.Challenge.rw_crewpay_k82_articles_as_texts
abbrev lh:=@List.take_length
abbrev lj:=@PySem.Heap.get?_push_of_some
abbrev lq:=@PySem.Heap.lt_size
abbrev lu:=@List.mem_cons
abbrev lx:=@PySem.W.mg_of
abbrev lz:=@PySem.Heap.get?_push_size
abbrev lA:=@List.mem_cons_of_mem
abbrev lB:=@List.length_map
abbrev lC:=@List.mem_cons_self
abbrev lD:=@Nat.le_refl
abbrev lE:=@Bool.false_ne_true
abbrev lF:=@List.size_toArray
abbrev lG:=@Bool.and_eq_true
abbrev lH:=@List.length_append
abbrev lI:=@List.getElem?_eq_some_iff
abbrev lJ:=@List.getElem?_cons_succ
abbrev lK:=@List.length_take
abbrev lL:=@List.mem_map
abbrev lM:=@Nat.lt_of_lt_of_le
abbrev lN:=@List.getElem?_cons_zero
abbrev lO:=@List.length_cons
abbrev lP:=@List.not_mem_nil
abbrev lQ:=@Nat.le_trans
abbrev lR:=@Array.length_toList
abbrev lT:=@PySem.Heap.size_push
abbrev lU:=@List.map_cons
abbrev lV:=@List.getElem?_set_ne
abbrev lW:=@List.getElem?_set_self
abbrev lX:=@List.mem_append_right
abbrev lY:=@Nat.ne_of_lt
abbrev lZ:=@PySem.mem_of_lookup
abbrev ya:=@List.getElem?_map
abbrev yb:=@List.all_eq_true
abbrev yc:=@List.getD_eq_getElem?_getD
abbrev yd:=@List.mem_append
abbrev ye:=@PySem.Heap.get?_update_other
abbrev yf:=@PySem.Heap.SameBut.update
abbrev yg:=@PySem.Heap.get?_update_self
abbrev yh:=@List.length_nil
abbrev yi:=@List.getElem?_eq_getElem
abbrev yj:=@PySem.W.mg_none_of
abbrev yk:=@List.take_of_length_le
abbrev ym:=@List.length_drop
abbrev yn:=@List.append_nil
abbrev yo:=@List.nil_append
abbrev yp:=@List.pairwise_cons
abbrev yq:=@Array.getElem?_eq_none_iff
abbrev yt:=@List.getElem?_eq_none
abbrev yu:=@List.getElem?_append_left
abbrev yw:=@PySem.W.kia_one
abbrev yx:=@Nat.zero_le
abbrev yz:=@Bool.false_eq_true
abbrev yA:=@Array.getElem?_toList
abbrev yB:=@List.mem_append_left
abbrev yC:=@List.filter_eq_self
abbrev yD:=@List.append_assoc
abbrev yE:=@Bool.eq_false_iff
abbrev yF:=@Nat.lt_irrefl
abbrev yG:=@List.getElem?_take_of_lt
abbrev yH:=@PySem.SeqAt.canLay_of_shaped
abbrev yI:=@PySem.F.called_set
abbrev yJ:=@Nat.lt_of_le_of_lt
abbrev yK:=@Option.bind_some
abbrev yL:=@Int.toNat_natCast
abbrev yM:=@Nat.lt_succ_of_lt
abbrev yN:=@Bool.not_eq_true'
abbrev yO:=@PySem.Around.under_plainId
abbrev yP:=@List.map_map
abbrev yQ:=@List.replicate_succ
abbrev yR:=@List.drop_eq_getElem_cons
abbrev yS:=@List.drop_length
abbrev yT:=@List.mem_singleton
abbrev yU:=@Nat.le_of_eq
abbrev yV:=@PySem.Obj.data_mapFields
abbrev yW:=@List.drop_zero
abbrev yX:=@List.mem_of_mem_drop
abbrev yY:=@Ne.symm
abbrev yZ:=@List.map_append
abbrev y3:=@PySem.Paired.length
abbrev y4:=@PyProof.Rows.F.plain_set_update_loop
abbrev y6:=@PyProof.Rows.callWith_type1
abbrev y8:=@PySem.Obj.isFreed_of_fields
abbrev y9:=@List.lookup_cons
abbrev La:=@Bool.eq_iff_iff
abbrev Lb:=@List.nodup_cons
abbrev Lc:=@List.flatten_cons
abbrev Ld:=@List.map_nil
abbrev Le:=@List.length_range
abbrev Lf:=@List.mem_of_mem_take
abbrev Lg:=@Option.isSome_iff_exists
abbrev Lh:=@PyProof.Rows.slot_tuple_getitem
abbrev Li:=@List.filterMap_cons
abbrev Lj:=@List.length_reverse
abbrev Lk:=@Bool.and_false
abbrev Ll:=@Nat.le_add_right
abbrev Lm:=@Nat.le_succ
abbrev Ln:=@Nat.ne_of_gt
abbrev Lo:=@PySem.F.slot_str_split
abbrev Lp:=@Int.emod_lt_of_pos
abbrev Lq:=@List.find?_cons
abbrev Lr:=@List.headD_cons
abbrev Ls:=@Option.map_some
abbrev Lu:=@List.any_cons
abbrev Lv:=@List.all_cons
abbrev Lw:=@Bool.true_and
abbrev Lx:=@PySem.PassesOwn.never
abbrev Ly:=@List.reverse_cons
abbrev Lz:=@List.getElem?_append_right
abbrev LA:=@PySem.Calls.evalArgs_plain
abbrev LB:=@Nat.lt_succ_self
abbrev LC:=@Nat.zero_add
abbrev LD:=@PySem.Value.isStrOf_shape
abbrev LF:=@List.getElem?_zip_eq_some
abbrev LG:=@List.pairwise_iff_getElem
abbrev LH:=@List.mem_take_iff_getElem
abbrev LI:=@List.mem_drop_iff_getElem
abbrev LJ:=@List.length_pos_iff
abbrev LK:=@PyProof.Rows.F.entry_set_update_loop
abbrev LL:=@PySem.Heap.IsSliceOf.new
abbrev LM:=@PySem.F.args_str_split_2
abbrev LN:=@List.mem_filter
abbrev LO:=@List.foldl_cons
abbrev LP:=@Int.emod_nonneg
abbrev LQ:=@Array.all_eq_true'
abbrev LR:=@PySem.F.entry_str_split
abbrev LS:=@PySem.F.plainAttrs_list
abbrev LU:=@List.findIdx?_eq_some_iff_getElem
abbrev LV:=@List.mem_range
abbrev LW:=@PySem.Calls.Name_function_global
abbrev LX:=@Bool.false_and
abbrev LY:=@PySem.W.cellsFrom_some
abbrev LZ:=@PyProof.Rows.IsTup.new
abbrev L3:=@Nat.le_of_succ_le
abbrev L4:=@List.drop_left
abbrev L5:=@PySem.F.slot_range_iterator_next
abbrev L6:=@List.nodup_append
abbrev L7:=@List.filter_eq_nil_iff
abbrev L8:=@List.getElem?_toArray
abbrev L9:=@List.getElem_mem
abbrev Ya:=@Option.getD_some
abbrev Yb:=@List.sum_cons
abbrev Yc:=@List.of_mem_zip
abbrev Yd:=@List.length_set
abbrev Ye:=@PySem.Calls.callWith_builtin
abbrev Yf:=@List.take_succ_cons
abbrev Yg:=@Nat.le_of_lt
abbrev Yh:=@Array.getD_eq_getD_getElem?
abbrev Yi:=@List.mem_filterMap
abbrev Yj:=@PySem.W.kitx_tuple
abbrev Yk:=@PySem.W.callWith_K
abbrev Yl:=@List.take_left
abbrev Ym:=@PySem.F.slot_str_partition
abbrev Yn:=@Array.getElem?_eq_some_iff
abbrev Yo:=@PySem.F.excAttr_ValueError
abbrev Yp:=@PySem.F.excBase_ValueError
abbrev Yq:=@PySem.W.KFB.if_not
abbrev Yr:=@List.nodup_nil
abbrev Ys:=@List.extract_eq_take_drop
abbrev Yt:=@List.findIdx?_eq_none_iff
abbrev Yu:=@PySem.F.plain_extend_loop
abbrev Yv:=@Option.isSome_map
abbrev Yw:=@List.not_lt
abbrev Yx:=@Array.toList_push
abbrev Yy:=@PySem.Calls.spliced_cons
abbrev Yz:=@PySem.F.args_tuple_add_2
abbrev YA:=@PySem.F.slot_list_append
abbrev YB:=@PySem.F.slot_list_insert
abbrev YC:=@List.filterMap_cons_some
abbrev YD:=@List.getD_nil
abbrev YE:=@Bool.and_self
abbrev YF:=@PySem.Calls.spliced_nil
abbrev YG:=@List.getElem?_replicate
abbrev YH:=@PySem.F.entry_tuple_add
abbrev YI:=@Option.getD_none
abbrev YJ:=@Nat.succ_le_succ
abbrev YK:=@Array.toList_inj
abbrev YL:=@Nat.toDigits_of_lt_base
abbrev YM:=@PySem.StrLaws.found_one
abbrev YN:=@List.pairwise_singleton
abbrev YO:=@PySem.Heap.SameBut.refl
abbrev YQ:=@List.length_eq_zero_iff
abbrev YR:=@PySem.F.plain_list_iadd
abbrev YS:=@Int.eq_ofNat_of_zero_le
abbrev YT:=@List.cons_append
abbrev YU:=@PySem.F.slot_tuple_add
abbrev YV:=@List.range_succ_eq_map
abbrev YW:=@List.all_map
abbrev YX:=@Nat.sub_zero
abbrev YY:=@Int.le_trans
abbrev YZ:=@List.pairwise_lt_range
abbrev Y0:=@Bool.or_eq_true
abbrev Y2:=@List.sum_append
abbrev lad:=@List.drop_drop
abbrev lae:=@List.Perm.refl
namespace L2
open PySem PySem.Spec PyProof.Rows
abbrev Key:=Sum Int Str
def zeg:Key->Value->Bool
 | .inl k,v=>Value.isInt k v
 | .inr x,v=>Value.isStrOf x v
def zos(w:World):Key->Int
 | .inl k=>hashInt k
 | .inr x=>hashStr w x
theorem jN:∀{k:Key} {v:Value},zeg k v=true->(∃i t,k=Sum.inl i/\v=Value.int i t)\/(∃x t,k=Sum.inr x/\v=Value.str x t)
 | .inl i,v,h=>by obtain⟨t,e⟩:=Value.isInt_shape (k:=i) (v:=v) h;exact .inl ⟨i,t,rfl,e⟩
 | .inr x,v,h=>by obtain⟨t,e⟩:=LD (x:=x) (v:=v) h;exact .inr ⟨x,t,rfl,e⟩
theorem zeF(i:Int)(t:Tok):zeg (.inl i) (.int i t)=true:=by simp [zeg,Value.isInt]
theorem zf1(x:Str)(t:Tok):zeg (.inr x) (.str x t)=true:=by simp [zeg,Value.isStrOf]
theorem zkJ(a b:Int):decide ((Sum.inl a:Key)=Sum.inl b)=(a==b):=by
 by_cases e:a=b
 ·subst e;simp
 ·have h:¬(Sum.inl a:Key)=Sum.inl b:=λq=>e (Sum.inl.inj q)
  rw [decide_eq_false h];exact(beq_eq_false_iff_ne.mpr e).symm
theorem zkR(a b:Str):decide ((Sum.inr a:Key)=Sum.inr b)=decide (a=b):=by
 by_cases e:a=b
 ·subst e;simp
 ·have h:¬(Sum.inr a:Key)=Sum.inr b:=λq=>e (Sum.inr.inj q)
  rw [decide_eq_false h,decide_eq_false e]
theorem zls(a:Int)(b:Str):decide ((Sum.inl a:Key)=Sum.inr b)=false:=decide_eq_false (λq=>nomatch q)
theorem zlG(a:Str)(b:Int):decide ((Sum.inr a:Key)=Sum.inl b)=false:=decide_eq_false (λq=>nomatch q)
def Zv(prog:Program)(w:World):PySem.KeyKind prog w Key where
 is:=zeg
 hash:=zos w
 inj:=λv a b ha hb=>by
  rcases jN ha with⟨i,t,rfl,rfl⟩|⟨x,t,rfl,rfl⟩
  ·rcases jN hb with⟨j,u,rfl,e⟩|⟨y,u,rfl,e⟩
   ·injection e with e1 _;rw [e1]
   ·exact nomatch e
  ·rcases jN hb with⟨j,u,rfl,e⟩|⟨y,u,rfl,e⟩
   ·exact nomatch e
   ·injection e with e1 _;rw [e1]
 byValue:=λk v h=>by rcases jN h with⟨i,t,rfl,rfl⟩|⟨x,t,rfl,rfl⟩ <;> rfl
 pyHash:=λhv h=>by
  rcases jN hv with⟨i,t,rfl,rfl⟩|⟨x,t,rfl,rfl⟩
  ·exact wpAny_pyHash_int h
  ·exact wpAny_pyHash_str h
 eqBool:=λhu hv h=>by
  rcases jN hu with⟨i,t,rfl,rfl⟩|⟨x,t,rfl,rfl⟩
  ·rcases jN hv with⟨j,u,rfl,rfl⟩|⟨y,u,rfl,rfl⟩
   ·rw [zkJ] at h;exact wpAny_eqBool_int h
   ·rw [zls] at h;exact SeqAt.EqAt.int_str i t y u _ _ _ _ h
  ·rcases jN hv with⟨j,u,rfl,rfl⟩|⟨y,u,rfl,rfl⟩
   ·rw [zlG] at h;exact SeqAt.EqAt.str_int x t j u _ _ _ _ h
   ·rw [zkR] at h;exact wpAny_eqBool_str h
 «strs»:=λk x t v h=>by
  rcases jN h with⟨i,u,rfl,e⟩|⟨y,u,rfl,e⟩
  ·exact nomatch e
  ·injection e with e1 _
   subst e1;cases v <;> rfl
theorem zcS(prog:Program)(w:World)(i:Int)(t:Tok):(Zv prog w).is (.inl i) (.int i t)=true:=zeF i t
theorem zcT(prog:Program)(w:World)(x:Str)(t:Tok):(Zv prog w).is (.inr x) (.str x t)=true:=zf1 x t
inductive V where
 |non|bl (b:Bool)|int (i:Int)|str (x:Str)|byt (b:Array UInt8)|flt (b:UInt64)|ref (a:Addr)|ty (n:String)
 deriving DecidableEq
def RelV:V->Value->Prop
 | .non,u=>u=Value.none
 | .bl b,u=>u=Value.bool b
 | .int i,u=>∃t,u=Value.int i t
 | .str x,u=>∃t,u=Value.str x t
 | .byt b,u=>∃t,u=Value.bytes b t
 | .flt b,u=>∃t,u=Value.float b t
 | .ref a,u=>u=Value.ref a
 | .ty n,u=>u=Value.type n
abbrev Vals:List V->List Value->Prop:=Paired RelV
theorem Vals.length{xs:List V}{us:List Value}(r:Vals xs us):xs.length=us.length:=y3 r
theorem Vals.get:∀{xs:List V} {us:List Value} {i:Nat} {x:V},Vals xs us->xs[i]? =some x->∃u,us[i]? =some u/\RelV x u
 |_,_,_,_,.nil,e=>by simp at e
 |_,_,0,_,.cons r _,e=>by simp at e;subst e;exact⟨_,rfl,r⟩
 |_,_,i+1,x,.cons _ t,e=>by obtain⟨u,h1,h2⟩:=Vals.get (i:=i) (x:=x) t (by simpa using e);exact⟨u,by simpa using h1,h2⟩
theorem Vals.set{x:V}{u:Value}(r:RelV x u):∀{xs:List V} {us:List Value} (i:Nat),Vals xs us->Vals (xs.set i x) (us.set i u)
 |_,_,_,.nil=>.nil
 |_,_,0,.cons _ t=>.cons r t
 |_,_,i+1,.cons q t=>.cons q (Vals.set r i t)
theorem Vals.append:∀{xs ys:List V} {us ws:List Value},Vals xs us->Vals ys ws->Vals (xs++ys) (us++ws)
 |_,_,_,_,.nil,s=>s
 |_,_,_,_,.cons r t,s=>.cons r (Vals.append t s)
theorem Vals.take:∀{xs:List V} {us:List Value} (n:Nat),Vals xs us->Vals (xs.take n) (us.take n)
 |_,_,0,_=>.nil
 |_,_,_+1,.nil=>.nil
 |_,_,n+1,.cons r t=>.cons r (Vals.take n t)
theorem Vals.drop:∀{xs:List V} {us:List Value} (n:Nat),Vals xs us->Vals (xs.drop n) (us.drop n)
 |_,_,0,r=>r
 |_,_,_+1,.nil=>.nil
 |_,_,n+1,.cons _ t=>Vals.drop n t
def zhI:Option V->Option Value->Prop
 |some v,some u=>RelV v u
 |none,none=>True
 |_,_=>False
def KV{κ:Type}:List (κ×V)->List (κ×Value)->Prop:=Paired λ(p:κ×V) (q:κ×Value)=>p.1=q.1/\RelV p.2 q.2
def kV:Key->V
 | .inl i=>.int i
 | .inr x=>.str x
inductive HO where
 |lst (xs:List V)
 |tup (xs:List V)
 |dK (kvs:List (Key×V))|dT (kvs:List (List Key×V))
 |set (S:Int->Bool) (n:Nat)
 |ins (C dx:Addr) (fs:List (Str×V))
 |own (x:Addr)
 |xd (fs:List (Str×V))
 |met (f x:Addr)
 |rng (lo hi:Int)
 |frz (o:Obj) (u:HO)
 |tbl (ps:Array Value)
 |ext (φ:Heap->Prop)
abbrev Hp:=Addr->Option HO
def upd(H:Hp)(a:Addr)(o:HO):Hp:=λb=>if b=a then some o else H b
theorem xT{H:Hp}{a:Addr}{o:HO}:upd H a o a=some o:=by unfold upd;rw [if_pos rfl]
theorem zJ{H:Hp}{a b:Addr}{o:HO}(h:b≠a):upd H a o b=H b:=by unfold upd;rw [if_neg h]
theorem zu{H:Hp}{a b:Addr}{o:HO}(h:H a=some o)(h':H b=none):a≠b:=by intro e;subst e;rw [h] at h';cases h'
section
variable (P:Program) (w:World)
def kE(H:Hp)(h:Heap)(a:Addr):HO->Prop
 | .lst xs=>xs.length<=sizeLine/\∃(its:List Value) (n:Nat),Vals xs its/\h.get? a=some {cls:=.type "list",data:=.seq its.toArray n}
 | .tup xs=>xs.length<=sizeLine/\∃its:List Value,Vals xs its/\IsTup h a its.toArray
 | .dK kvs=>kvs.length<=sizeLine/\(a==sysModules)=false/\∃vs,KV kvs vs/\h.DictOf (Zv P w) a vs
 | .dT kvs=>kvs.length<=sizeLine/\(a==sysModules)=false/\∃xs:List (List Key×Addr×Value),
     Paired (λ(p:List Key×V) (q:List Key×Addr×Value)=>p.1=q.1/\H q.2.1=some (.tup (p.1.map kV))/\RelV p.2 q.2.2) kvs xs/\
     ∃o es ep,h.get? a=some o/\o.ExactDict/\o.data= .dict es ep/\es.toList=xs.map (entryOfKey (tupleKind (Zv P w)))/\(xs.map (·.1)).Nodup
 | .set S n=>h.SetOf (intKind P w) a S n
 | .ins C dx fs=>H dx=some (.own a)/\fs.length<=1000/\dx≠a/\h.get? a=some (PySem.W.instObj C dx)/\
     ∃mA,h.Ns1 dx mA/\(∀f,zhI (fs.lookup f) (mA f))/\PySem.Within mA (fs.map (·.1))
 | .own _=>∃o,h.get? a=some o
 | .xd fs=>∃mA,h.Ns1 a mA/\∀f,zhI (fs.lookup f) (mA f)
 | .rng lo hi=>∃t u v,h.get? a=some {cls:=.type "range",data:=.fields #[.int lo t,.int hi u,.int 1 v]}
 | .frz o u=>h.get? a=some o/\kE H h a u
 | .tbl ps=>h.get? a=some {cls:=.none,data:=.fields ps}
 | .met f x=>h.get? a=some (PySem.W.methodObj (.ref f) (.ref x))
 | .ext φ=>φ h/\(∃o,h.get? a=some o)/\∀h1 h2:Heap,φ h1->(∀o,h1.get? a=some o->h2.get? a=some o)->φ h2
def HOk(H:Hp)(h:Heap):Prop:=∀a o,H a=some o->kE P w H h a o
end
section
variable {P:Program} {w:World} {H H':Hp} {h h':Heap} {a:Addr} {o:HO}
theorem kE.lt(x:kE P w H h a o):a<h.objs.size:=by
 cases o with
 |lst xs=>obtain⟨_,_,_,_,e⟩:=x;exact lq e
 |tup xs=>obtain⟨_,_,_,p⟩:=x;exact p.lt
 |dK kvs=>obtain⟨_,_,_,_,o,_,_,e,_⟩:=x;exact lq e
 |dT kvs=>obtain⟨_,_,_,_,o,_,_,e,_⟩:=x;exact lq e
 |set S n=>obtain⟨o,_,_,_,e,_⟩:=x;exact lq e
 |ins C dx fs=>obtain⟨_,_,_,e,_⟩:=x;exact lq e
 |own y=>obtain⟨_,e⟩:=x;exact lq e
 |xd fs=>obtain⟨_,⟨_,_,_,e,_⟩,_⟩:=x;exact lq e
 |rng lo hi=>obtain⟨_,_,_,e⟩:=x;exact lq e
 |frz ob u=>obtain⟨e,_⟩:=x;exact lq e
 |tbl ps=>exact lq (show h.get? a=some _ from x)
 |met f y=>exact lq (show h.get? a=some _ from x)
 |ext φ=>obtain⟨_,⟨_,e⟩,_⟩:=x;exact lq e
theorem Paired.mapP{α β:Type}{F G:α->β->Prop}:∀{l₁:List α} {l₂:List β},Paired F l₁ l₂->(∀a b,F a b->G a b)->Paired G l₁ l₂
 |_,_,.nil,_=>.nil
 |_,_,.cons r t,f=>.cons (f _ _ r) (Paired.mapP t f)
theorem kE.stay(x:kE P w H h a o)(k:∀b u,(b=a\/H b=some (.own a))->h.get? b=some u->h'.get? b=some u)
 (ho:∀b,H b=some (.own a)->H' b=some (.own a)) (ht:∀b xs,H b=some (.tup xs)->H' b=some (.tup xs)):kE P w H' h' a o:=by
 induction o with
 |lst xs=>obtain⟨z,its,n,r,e⟩:=x;exact⟨z,its,n,r,k _ _ (.inl rfl) e⟩
 |tup xs=>obtain⟨z,its,r,ob,e,c⟩:=x;exact⟨z,its,r,ob,k _ _ (.inl rfl) e,c⟩
 |dK kvs=>obtain⟨z,y,vs,r,ob,es,ep,e,c⟩:=x;exact⟨z,y,vs,r,ob,es,ep,k _ _ (.inl rfl) e,c⟩
 |dT kvs=>
  obtain⟨z,y,xs,r,ob,es,ep,e,c⟩:=x;exact⟨z,y,xs,Paired.mapP r λp q z=>⟨z.1,ht _ _ z.2.1,z.2.2⟩,ob,es,ep,k _ _ (.inl rfl) e,c⟩
 |set S n=>obtain⟨ob,es,ep,t,e,c⟩:=x;exact⟨ob,es,ep,t,k _ _ (.inl rfl) e,c⟩
 |ins C dx fs=>
  obtain⟨d,z,ne,e,mA,⟨od,es,ep,e2,c⟩,r⟩:=x;exact⟨ho _ d,z,ne,k _ _ (.inl rfl) e,mA,⟨od,es,ep,k _ _ (.inr d) e2,c⟩,r⟩
 |own y=>obtain⟨ob,e⟩:=x;exact⟨ob,k _ _ (.inl rfl) e⟩
 |xd fs=>obtain⟨mA,⟨od,es,ep,e,c⟩,r⟩:=x;exact⟨mA,⟨od,es,ep,k _ _ (.inl rfl) e,c⟩,r⟩
 |rng lo hi=>obtain⟨t,u,v,e⟩:=x;exact⟨t,u,v,k _ _ (.inl rfl) e⟩
 |frz ob u ih=>obtain⟨e,q⟩:=x;exact⟨k _ _ (.inl rfl) e,ih q⟩
 |tbl ps=>
  have e:h.get? a=some {cls:=.none,data:=.fields ps}:=x;show h'.get? a=some {cls:=.none,data:=.fields ps};exact k a _ (.inl rfl) e
 |met f y=>
  have e:h.get? a=some (PySem.W.methodObj (.ref f) (.ref y)):=x;show h'.get? a=some (PySem.W.methodObj (.ref f) (.ref y));exact k a _ (.inl rfl) e
 |ext φ=>obtain⟨p,⟨o,e⟩,st⟩:=x;exact⟨st _ _ p λo q=>k _ _ (.inl rfl) q,⟨o,k _ _ (.inl rfl) e⟩,st⟩
theorem HOk.lt(x:HOk P w H h)(e:H a=some o):a<h.objs.size:=(x a o e).lt
theorem HOk.fresh(x:HOk P w H h)(e:h.objs.size<=a):H a=none:=by
 cases q:H a with
 |none=>rfl
 |some u=>exact absurd (lM (x.lt q) e) (yF _)
theorem HOk.kept(x:HOk P w H h)(k:∀b u,h.get? b=some u->h'.get? b=some u):HOk P w H h':=λa o e=>
 (x a o e).stay (λb u _ q=>k b u q) (λ_ q=>q) λ_ _ q=>q
theorem HOk.laid(x:HOk P w H h)(k:∀b u,h.get? b=some u->h'.get? b=some u)(hp:h.objs.size<=a)(new:kE P w (upd H a o) h' a o):HOk P w (upd H a o) h':=λb u e=>by
 have hn:=x.fresh hp;by_cases hb:b=a
 ·subst hb;rw [xT] at e;cases e;exact new
 ·rw [zJ hb] at e;exact(x b u e).stay (λc v _ q=>k c v q) (λc q=>by rw [zJ (zu q hn)];exact q) λc xs q=>by rw [zJ (zu q hn)];exact q
end
def Rd(H:Hp)(a:Addr)(u:HO):Prop:=H a=some u\/∃o,H a=some (.frz o u)
theorem Rd.ok{P:Program}{w:World}{H:Hp}{h:Heap}{a:Addr}{u:HO}(r:Rd H a u)(x:HOk P w H h):kE P w H h a u:=by
 rcases r with r|⟨o,r⟩
 ·exact x a u r
 ·obtain⟨_,q⟩:=x a _ r;exact q
def Mut:Option HO->Prop
 |some (.lst _)=>True
 |some (.dK _)=>True
 |some (.dT _)=>True
 |some (.set _ _)=>True
 |some (.ins _ _ _)=>True
 |some (.ext _)=>True
 |_=>False
section
variable {P:Program} {w:World} {H:Hp} {h h':Heap} {x e:Addr} {o':HO}
theorem HOk.write(ok:HOk P w H h)(mu:Mut (H x))(he:e=x\/H e=some (.own x))(k:∀b u,b≠e->h.get? b=some u->h'.get? b=some u)(heo:∃u,h'.get? e=some u)
 (new:kE P w (upd H x o') h' x o'):HOk P w (upd H x o') h':=λb u q=>by
 have nown:∀c y,H c=some (.own y)->c≠x:=λc y r z=>by subst z;rw [r] at mu;exact mu
 have ntup:∀c xs,H c=some (.tup xs)->c≠x:=λc xs r z=>by subst z;rw [r] at mu;exact mu
 by_cases hb:b=x
 ·subst hb;rw [xT] at q;cases q;exact new
 ·rw [zJ hb] at q;by_cases hbe:b=e
  ·have q':H b=some (.own x):=by
    rcases he with z|z
    ·exact absurd (hbe.trans z) hb
    ·rw [hbe];exact z
   rw [q] at q';cases q';obtain⟨v,hv⟩:=heo;exact⟨v,by rw [hbe];exact hv⟩
  ·refine(ok b u q).stay (λc v hc r=>k c v ?_ r) (λc r=>by rw [zJ (nown c b r)];exact r) λc xs r=>by rw [zJ (ntup c xs r)];exact r
   rcases hc with rfl|hc
   ·exact hbe
   ·rintro rfl;rcases he with z|z
    ·exact nown c b hc z
    ·rw [hc] at z;cases z;exact hb rfl
end
structure Un (fs ex:List Addr) (H H':Hp) (h h':Heap):Prop where
 keep:∀b o,h.get? b=some o->H b=none->b∉fs->b∉ex->h'.get? b=some o
 slot:∀b o,h.get? b=some o->H b=none->b∈fs->b∉ex->∃sl,h'.get? b=some {o with slots:=sl}
 free:∀b o,h.get? b=some o->H b=none->b∉ex->H' b=none
 there:∀b o,h.get? b=some o->b∉ex->∃o',h'.get? b=some o'
 tups:∀b xs,H b=some (.tup xs)->H' b=some (.tup xs)
 frzs:∀b o u,H b=some (.frz o u)->H' b=some (.frz o u)
 tbls:∀b ps,H b=some (.tbl ps)->∃more,H' b=some (.tbl (ps++more))
section
variable {fs fs' ex ex':List Addr} {H H1 H2:Hp} {h h1 h2 h':Heap} {a x e:Addr} {o:HO}
theorem Un.any(u:Un fs ex H H1 h h1){b:Addr}{ob:Obj}(q:h.get? b=some ob)(n:H b=none)(hx:b∉ex):∃sl,h1.get? b=some {ob with slots:=sl}:=by
 by_cases hb:b∈fs
 ·exact u.slot b ob q n hb hx
 ·exact⟨ob.slots,u.keep b ob q n hb hx⟩
theorem Un.kept(k:∀b u,h.get? b=some u->h'.get? b=some u):Un fs ex H H h h':=
 ⟨λb ob q _ _ _=>k b ob q,λb ob q _ _ _=>⟨ob.slots,k b ob q⟩,λ_ _ _ n _=>n,λb ob q _=>⟨ob,k b ob q⟩,λ_ _ q=>q,λ_ _ _ q=>q,λ_ ps q=>⟨#[],by rw [q];simp⟩⟩
theorem Un.refl:Un fs ex H H h h:=Un.kept λ_ _ q=>q
theorem Un.laid(k:∀b u,h.get? b=some u->h'.get? b=some u)(hp:h.objs.size<=a)(hn:H a=none):Un fs ex H (upd H a o) h h' where
 keep:=λb u q _ _ _=>k b u q
 slot:=λb u q _ _ _=>⟨u.slots,k b u q⟩
 free:=λb u q n _=>by rw [zJ (lY (lM (lq q) hp))];exact n
 there:=λb u q _=>⟨u,k b u q⟩
 tups:=λb xs q=>by rw [zJ (zu q hn)];exact q
 frzs:=λb u xs q=>by rw [zJ (zu q hn)];exact q
 tbls:=λb ps q=>⟨#[],by rw [zJ (zu q hn),q];simp⟩
theorem Un.write(mu:Mut (H x))(he:e=x\/H e=some (.own x))(k:∀b u,b≠e->h.get? b=some u->h'.get? b=some u)(heo:∃u,h'.get? e=some u):Un fs ex H (upd H x o) h h':=by
 have hx:∀b,H b=none->b≠x:=λb n z=>by subst z;rw [n] at mu;exact mu
 have hb:∀b,H b=none->b≠e:=λb n z=>by
  subst z;rcases he with r|r
  ·exact hx b n r
  ·rw [n] at r;cases r
 have hm:∀b u,H b=some u->¬Mut (some u)->b≠x:=λb u q nm z=>by subst z;rw [q] at mu;exact nm mu
 refine⟨λb u q n _ _=>k b u (hb b n) q,λb u q n _ _=>⟨u.slots,k b u (hb b n) q⟩,λb u q n _=>by rw [zJ (hx b n)];exact n,λb u q _=>?_,
  λb xs q=>by rw [zJ (hm b _ q λz=>z)];exact q,λb u xs q=>by rw [zJ (hm b _ q λz=>z)];exact q,λb ps q=>⟨#[],by rw [zJ (hm b _ q λz=>z),q];simp⟩⟩
 by_cases hbe:b=e
 ·subst hbe;exact heo
 ·exact⟨u,k b u hbe q⟩
end
def trk(h:Heap)(H:Hp):List Addr:=(List.range h.objs.size).filter λa=>(H a).isSome
def zgJ(h:Heap)(H:Hp):Heap:=PySem.W.hideAll h (trk h H)
theorem zgm(h:Heap)(H:Hp):(zgJ h H).objs.size=h.objs.size:=PySem.W.hideAll_size _ _
theorem zhV{h:Heap}{H:Hp}{b:Addr}{o:Obj}(e:h.get? b=some o)(n:H b=none):(zgJ h H).get? b=some o:=
 PySem.W.hideAll_get _ e λhm=>by have q:(H b).isSome=true:=(LN.mp hm).2;rw [n] at q;simp at q
theorem zjX{h:Heap}{H:Hp}{b:Addr}{o:Obj}(e:(zgJ h H).get? b=some o):h.get? b=some o/\H b=none:=by
 have e':h.get? b=some o:=PySem.W.of_hideAll (trk h H) e;refine⟨e',?_⟩;cases q:H b with
 |none=>rfl
 |some x=>
  have hm:b∈trk h H:=LN.mpr ⟨LV.mpr (lq e'),by simp [q]⟩;have z:(zgJ h H).get? b=none:=PySem.W.hideAll_none (trk h H) hm;rw [z] at e;cases e
def zjv(g h:Heap)(L:Addr):List (Addr×Obj):=(List.range h.objs.size).filterMap λa=>if a=L\/(g.get? a).isSome=true then none else(h.get? a).map λo=>(a,o)
def rest(g h:Heap)(L d:Addr):List (Addr×Obj):=(zjv g h L).filter λp=>decide (p.1≠d)
structure Mod (K:PySem.W.Frag) (mg:Str->Option Value) (base:Heap):Prop where
 kin:K.In base
 glob:base.Ns mainGlobals mg
 blt:∃mb,base.Ns builtinsNs mb/\∀x:Str,x≠"__name__"->mb x=bootBuiltins x
 nolimit:base.NoLimit
structure Cx where
 prog:Program
 w:World
 K:PySem.W.Frag
 mg:Str->Option Value
 base:Heap
 A:Around
 N:List Str
 s_0:Shared
 H_0:Hp
 env:Env
 outer:List Env
 stack:List Env
 ex:List Addr
 fn:Str->Bool
 calm:Bool
 pn:List (Addr×Obj)
 xe:Value->Shared->Prop
def frs(l:List Env):List Addr:=l.filterMap (·.frame)
abbrev Cx.fs(X:Cx):List Addr:=frs X.outer
def Vis(sc:Scope)(x:Str):Prop:=sc.names.lookup x=some .local\/sc.names.lookup x=some .cell\/sc.names.lookup x=some .free
def Loc(sc:Scope)(x:Str):Prop:=sc.names.lookup x=some .local\/sc.names.lookup x=some .cell
def Look(env:Env)(h:Heap)(m:Str->Option Value)(x:Str)(u:Value):Prop:=
 (env.kindOf x=some .local/\m x=some u)\/((env.kindOf x=some .cell\/env.kindOf x=some .free)/\∃c,env.cells.lookup x=some c/\h.IsCell c (some u))
structure Cx.Ok (X:Cx):Prop where
 mod:Mod X.K X.mg X.base
 kind:X.env.scope.kind= .function
 glob:X.env.globals=mainGlobals
 blt:X.env.builtins=builtinsNs
 above:X.s_0.heap.objs.size<=X.env.locals
 inj:∀x y c,X.env.cells.lookup x=some c->X.env.cells.lookup y=some c->x=y
 has:∀x,(X.env.kindOf x=some .cell\/X.env.kindOf x=some .free)->∃c,X.env.cells.lookup x=some c
 cab:∀x c,X.fn x=true->X.env.cells.lookup x=some c->X.s_0.heap.objs.size<=c
 hd:X.calm=true->X.A.handled=none
 frames:X.A.frames=some X.stack
 stk:X.stack=X.outer\/(X.stack=X.env::X.outer/\X.env.frame=some X.env.locals)
 exf:∀b∈X.ex,b≠X.env.locals/\∀x c,X.env.cells.lookup x=some c->c≠b
 bs:∀b o,X.base.get? b=some o->X.s_0.heap.get? b=some o/\X.H_0 b=none
 bsz:X.base.objs.size<=X.s_0.heap.objs.size
 noex:∀b o,X.base.get? b=some o->b∉X.ex
 exfs:∀b∈X.ex,b∉X.fs
 funs:X.s_0.heap.FunFrames X.base X.outer
 frf:∀b∈X.fs,X.H_0 b=none
structure Inv (X:Cx) (pins:List (Addr×Obj)) (σ:List (Option V)) (H:Hp) (s:Shared):Prop where
 ok:X.Ok
 os:s.os=X.s_0.os
 bare:AllBare s.gens
 base:Un X.fs X.ex X.H_0 H X.s_0.heap s.heap
 loc:∃m,s.heap.Ns X.env.locals m/\∀(i:Nat) (x:Str) (v:V),X.N[i]? =some x->σ[i]? =some (some v)->Vis X.env.scope x->∃u,RelV v u/\Look X.env s.heap m x u
 cell:∀x c,X.env.cells.lookup x=some c->∃v,s.heap.IsCell c v
 free:H X.env.locals=none
 freeC:∀x c,X.env.cells.lookup x=some c->H c=none
 pin:∀p∈X.pn++pins,s.heap.get? p.1=some p.2/\H p.1=none/\p.1≠X.env.locals/\p.1∉X.fs/\∀v,p.2.data≠ .cell v
 hok:HOk X.prog X.w H s.heap
 len:σ.length=X.N.length
section
variable {X:Cx} {pins:List (Addr×Obj)} {σ:List (Option V)} {H H':Hp} {s:Shared} {h':Heap}
theorem Cx.Ok.nofr(ok:X.Ok){b:Addr}{o:Obj}(e:X.base.get? b=some o):b∉X.fs:=λhb=>by have:=(ok.funs.mem hb).1;rw [e] at this;cases this
theorem Inv.bs(I:Inv X pins σ H s):∀b o,X.base.get? b=some o->s.heap.get? b=some o/\H b=none:=λb o e=>
 ⟨I.base.keep b o (I.ok.bs b o e).1 (I.ok.bs b o e).2 (I.ok.nofr e) (I.ok.noex b o e),I.base.free b o (I.ok.bs b o e).1 (I.ok.bs b o e).2 (I.ok.noex b o e)⟩
theorem Inv.bk(I:Inv X pins σ H s):∀b o,X.base.get? b=some o->s.heap.get? b=some o:=λb o e=>(I.bs b o e).1
theorem Inv.mod(I:Inv X pins σ H s):Mod X.K X.mg X.base:=I.ok.mod
theorem Inv.kIn(I:Inv X pins σ H s):X.K.In s.heap:=I.ok.mod.kin.keeps I.bk
theorem Inv.nolimit(I:Inv X pins σ H s):s.heap.NoLimit:=I.ok.mod.nolimit.keeps I.bk
theorem Inv.fr(I:Inv X pins σ H s):∃m,Fr X.base X.env.locals s.heap m:=
 let⟨m,hn,_⟩:=I.loc
 ⟨m,hn,I.bk,lQ I.ok.bsz I.ok.above⟩
theorem Inv.lt(I:Inv X pins σ H s):X.env.locals<s.heap.objs.size:=let⟨_,hn,_⟩:=I.loc;hn.lt
theorem Inv.sz(I:Inv X pins σ H s):X.s_0.heap.objs.size<=s.heap.objs.size:=lQ I.ok.above (Yg I.lt)
theorem Inv.nofs(I:Inv X pins σ H s){a:Addr}(h:s.heap.objs.size<=a):a∉X.fs:=λhb=>by obtain⟨_,o,ho,_⟩:=I.ok.funs.mem hb;exact absurd (lM (lq ho) (lQ I.sz h)) (yF _)
theorem Inv.cne(I:Inv X pins σ H s):∀x c,X.env.cells.lookup x=some c->c≠X.env.locals:=λx c e z=>by obtain⟨v,o,ho,hd⟩:=I.cell x c e;obtain⟨m,⟨o',es,ep,ho',hd',_⟩,_⟩:=I.loc;rw [z,ho'] at ho;cases ho;rw [hd'] at hd;cases hd
theorem Inv.funs(I:Inv X pins σ H s):s.heap.FunFrames X.base X.outer:=by
 have all:∀(l:List Env),(∀b∈frs l,b∈X.fs)->X.s_0.heap.FunFrames X.base l->s.heap.FunFrames X.base l:=by
  intro l;induction l with
  |nil=>intro _ _;trivial
  |cons env r ih=>
   intro hs hl;obtain⟨hk,⟨L,o,hf,hn,ho,hd⟩,hr⟩:=hl;have hL:L∈X.fs:=hs L (by unfold frs;rw [Li,hf];exact lC);obtain⟨sl,e⟩:=I.base.slot L o ho (I.ok.frf L hL) hL λz=>I.ok.exfs L z hL
   exact⟨hk,⟨L,_,hf,hn,e,hd⟩,ih (λb hb=>hs b (by unfold frs;rw [Li,hf];exact lA _ hb)) hr⟩
 exact all X.outer (λ_ hb=>hb) I.ok.funs
theorem Inv.stack(I:Inv X pins σ H s):s.heap.FunFrames X.base X.stack:=by
 rcases I.ok.stk with e|⟨e,hf⟩
 ·rw [e];exact I.funs
 ·rw [e];obtain⟨m,hn,_⟩:=I.loc;refine .cons (by rw [I.ok.kind];decide) hf hn ?_ I.funs;exact Heap.get?_none_of_le (lQ I.ok.bsz I.ok.above)
theorem Inv.stkSub(I:Inv X pins σ H s):∀b∈frs X.stack,b∈X.env.locals::X.fs:=λb hb=>by
 rcases I.ok.stk with e|⟨e,hf⟩
 ·rw [e] at hb;exact lA _ hb
 ·rw [e] at hb;unfold frs at hb;rw [Li,hf] at hb;exact hb
theorem Inv.stkFree(I:Inv X pins σ H s):∀b∈frs X.stack,H b=none:=λb hb=>by
 rcases lu.mp (I.stkSub b hb) with e|hb
 ·rw [e];exact I.free
 ·obtain⟨_,o,ho,_⟩:=I.ok.funs.mem hb;exact I.base.free b o ho (I.ok.frf b hb) λz=>I.ok.exfs b z hb
theorem Inv.step{g':Array GenState}{t':Nat}{d':Drawn}{ch:List Addr}(I:Inv X pins σ H s)
 (hch:∀b∈ch,(b∈X.ex\/X.s_0.heap.objs.size<=b)/\b≠X.env.locals/\(∀x c,X.env.cells.lookup x=some c->c≠b)/\∀p∈X.pn++pins,p.1≠b)
 (keep:∀b o,b≠X.env.locals->b∉X.fs->b∉ch->s.heap.get? b=some o->H b=none->h'.get? b=some o)
 (slot:∀b o,b≠X.env.locals->b∈X.fs->b∉ch->s.heap.get? b=some o->H b=none->∃sl,h'.get? b=some {o with slots:=sl}) (free:∀b o,b∉ch->s.heap.get? b=some o->H b=none->H' b=none)
 (there:∀b o,b∉ch->s.heap.get? b=some o->∃o',h'.get? b=some o')
 (tups:∀b xs,H b=some (.tup xs)->H' b=some (.tup xs)) (frzs:∀b o u,H b=some (.frz o u)->H' b=some (.frz o u)) (tbls:∀b ps,H b=some (.tbl ps)->∃more,H' b=some (.tbl (ps++more)))
 (ns:∀m,s.heap.Ns X.env.locals m->h'.Ns X.env.locals m) (hok:HOk X.prog X.w H' h') (hg:AllBare g'):
 Inv X pins σ H' {s with heap:=h',gens:=g',drawn:=d',toks:=t'}:=by
 have neL:∀b o,X.s_0.heap.get? b=some o->b≠X.env.locals:=λb o e=>lY (lM (lq e) I.ok.above)
 have neC:∀b o,X.s_0.heap.get? b=some o->b∉X.ex->b∉ch:=λb o e hx hb=>by
  rcases(hch b hb).1 with z|z
  ·exact hx z
  ·exact absurd (lM (lq e) z) (yF _)
 have cellK:∀x c,X.env.cells.lookup x=some c->∀v,s.heap.IsCell c v->h'.IsCell c v:=λx c e v ⟨o,ho,hd⟩=>by
  have nch:c∉ch:=λz=>(hch c z).2.2.1 x c e rfl
  by_cases hc:c∈X.fs
  ·obtain⟨sl,q⟩:=slot c o (I.cne x c e) hc nch ho (I.freeC x c e);exact⟨_,q,hd⟩
  ·exact⟨o,keep c o (I.cne x c e) hc nch ho (I.freeC x c e),hd⟩
 refine⟨I.ok,I.os,hg,⟨λb o e n hb hx=>?_,λb o e n hb hx=>?_,λb o e n hx=>?_,λb o e hx=>?_,λb xs e=>tups b xs (I.base.tups b xs e),λb o xs e=>frzs b o xs (I.base.frzs b o xs e),λb ps e=>?_⟩,?_,λx c e=>?_,?_,λx c e=>?_,λp hp=>?_,hok,I.len⟩
 ·exact keep b o (neL b o e) hb (neC b o e hx) (I.base.keep b o e n hb hx) (I.base.free b o e n hx)
 ·obtain⟨sl,e1⟩:=I.base.slot b o e n hb hx;obtain⟨sl',e2⟩:=slot b _ (neL b o e) hb (neC b o e hx) e1 (I.base.free b o e n hx);exact⟨sl',e2⟩
 ·obtain⟨o',e1⟩:=I.base.there b o e hx;exact free b o' (neC b o e hx) e1 (I.base.free b o e n hx)
 ·obtain⟨o',e1⟩:=I.base.there b o e hx;exact there b o' (neC b o e hx) e1
 ·obtain⟨m1,e1⟩:=I.base.tbls b ps e;obtain⟨m2,e2⟩:=tbls b _ e1;exact⟨m1++m2,by rw [e2,Array.append_assoc]⟩
 ·obtain⟨m,hn,hl⟩:=I.loc;refine⟨m,ns m hn,λi x v e1 e2 e3=>?_⟩;obtain⟨u,r,l⟩:=hl i x v e1 e2 e3;refine⟨u,r,?_⟩;rcases l with l|⟨k,c,e,z⟩
  ·exact .inl l
  ·exact .inr ⟨k,c,e,cellK x c e _ z⟩
 ·obtain⟨v,z⟩:=I.cell x c e;exact⟨v,cellK x c e v z⟩
 ·obtain⟨m,⟨o,_,_,ho,_⟩,_⟩:=I.loc;exact free _ o (λz=>(hch _ z).2.1 rfl) ho I.free
 ·obtain⟨v,o,ho,hd⟩:=I.cell x c e;exact free c o (λz=>(hch c z).2.2.1 x c e rfl) ho (I.freeC x c e)
 ·obtain⟨e,n,ne,nf,d⟩:=I.pin p hp;have nch:p.1∉ch:=λz=>(hch p.1 z).2.2.2 p hp rfl
  exact⟨keep p.1 p.2 ne nf nch e n,free p.1 p.2 nch e n,ne,nf,d⟩
theorem Inv.un{t':Nat}(I:Inv X pins σ H s)(u:Un X.fs [] H H' s.heap h')(hok:HOk X.prog X.w H' h'):Inv X pins σ H' {s with heap:=h',toks:=t'}:=by obtain⟨m,⟨o,es,ep,ho,r⟩,_⟩:=id I.loc;obtain⟨sl,hL⟩:=u.any ho I.free (by simp);exact I.step (g':=s.gens) (d':=s.drawn) (ch:=[]) (λ_ z=>nomatch z) (λb o _ hb _ e n=>u.keep b o e n hb (by simp)) (λb o _ hb _ e n=>u.slot b o e n hb (by simp)) (λb o _ e n=>u.free b o e n (by simp)) (λb o _ e=>u.there b o e (by simp)) u.tups u.frzs u.tbls (λm' hm=>by obtain⟨o',es',ep',ho',r'⟩:=hm;rw [ho] at ho';cases ho';exact⟨_,es',ep',hL,r'⟩) hok I.bare
theorem Inv.call{g':Array GenState}{t':Nat}{d':Drawn}{ch:List Addr}(I:Inv X pins σ H s)(u:Un (frs X.stack) ch H H' s.heap h')(hok:HOk X.prog X.w H' h')(hg:AllBare g')
 (hch:∀b∈ch,(b∈X.ex\/X.s_0.heap.objs.size<=b)/\b≠X.env.locals/\(∀x c,X.env.cells.lookup x=some c->c≠b)/\∀p∈X.pn++pins,p.1≠b):
 Inv X pins σ H' {s with heap:=h',gens:=g',drawn:=d',toks:=t'}:=by
 obtain⟨m,⟨o,es,ep,ho,r⟩,_⟩:=id I.loc;obtain⟨sl,hL⟩:=u.any ho I.free λz=>(hch _ z).2.1 rfl
 exact I.step (ch:=ch) hch (λb o hL hb hc e n=>u.keep b o e n (λz=>(lu.mp (I.stkSub b z)).elim hL hb) hc) (λb o _ _ hc e n=>u.any e n hc) (λb o hc e n=>u.free b o e n hc) (λb o hc e=>u.there b o e hc) u.tups u.frzs u.tbls (λm' hm=>by obtain⟨o',es',ep',ho',r'⟩:=hm;rw [ho] at ho';cases ho';exact⟨_,es',ep',hL,r'⟩) hok hg
theorem Inv.turned{t':Nat}{it:Addr}(I:Inv X pins σ H s)(k:∀b o,b≠it->s.heap.get? b=some o->h'.get? b=some o)(hn:H it=none)(hL:it≠X.env.locals)
 (h1:it∈X.ex\/X.s_0.heap.objs.size<=it) (h2:∀x c,X.env.cells.lookup x=some c->c≠it) (h3:∀p∈X.pn++pins,p.1≠it):Inv X pins σ H {s with heap:=h',toks:=t'}:=by
 have nit:∀b u,H b=some u->b≠it:=λb u e z=>by rw [z,hn] at e;cases e
 refine I.step (g':=s.gens) (d':=s.drawn) (ch:=[it]) (λb hb=>?_) (λb o _ _ hc e _=>k b o (λz=>hc (by simp [z])) e) (λb o _ _ hc e _=>⟨o.slots,k b o (λz=>hc (by simp [z])) e⟩) (λ_ _ _ _ n=>n)
  (λb o hc e=>⟨o,k b o (λz=>hc (by simp [z])) e⟩) (λ_ _ e=>e) (λ_ _ _ e=>e) (λb ps e=>⟨#[],by rw [e];simp⟩) (λm hm=>?_) (λb u e=>?_) I.bare
 ·have e:b=it:=by simpa using hb
  subst e;exact⟨h1,hL,h2,h3⟩
 ·obtain⟨o,es,ep,ho,r⟩:=hm;exact⟨o,es,ep,k _ o (yY hL) ho,r⟩
 ·refine(I.hok b u e).stay (λc v hc q=>k c v ?_ q) (λ_ q=>q) λ_ _ q=>q
  rcases hc with z|z
  ·rw [z];exact nit b u e
  ·exact nit c _ z
theorem Inv.tok(I:Inv X pins σ H s)(t:Nat):Inv X pins σ H {s with toks:=t}:=I.un (h':=s.heap) (t':=t) Un.refl I.hok
theorem Inv.kept{t':Nat}(I:Inv X pins σ H s)(k:∀b u,s.heap.get? b=some u->h'.get? b=some u):Inv X pins σ H {s with heap:=h',toks:=t'}:=I.un (Un.kept k) (I.hok.kept k)
theorem Inv.laid{a:Addr}{o:HO}{t':Nat}(I:Inv X pins σ H s)(k:∀b u,s.heap.get? b=some u->h'.get? b=some u)(hp:s.heap.objs.size<=a)(new:kE X.prog X.w (upd H a o) h' a o):
 Inv X pins σ (upd H a o) {s with heap:=h',toks:=t'}:=I.un (Un.laid k hp (I.hok.fresh hp)) (I.hok.laid k hp new)
theorem Inv.write{x e:Addr}{o:HO}{t':Nat}(I:Inv X pins σ H s)(mu:Mut (H x))(he:e=x\/H e=some (.own x))(k:∀b u,b≠e->s.heap.get? b=some u->h'.get? b=some u)(heo:∃u,h'.get? e=some u)
 (new:kE X.prog X.w (upd H x o) h' x o):Inv X pins σ (upd H x o) {s with heap:=h',toks:=t'}:=I.un (Un.write mu he k heo) (I.hok.write mu he k heo new)
theorem Inv.weak{σ':List (Option V)}(I:Inv X pins σ H s)(hl:σ'.length=σ.length)(w:∀(i:Nat) v,σ'[i]? =some (some v)->σ[i]? =some (some v)):Inv X pins σ' H s:=
 ⟨I.ok,I.os,I.bare,I.base,let⟨m,hn,hl'⟩:=I.loc;⟨m,hn,λi x v e1 e2 e3=>hl' i x v e1 (w i v e2) e3⟩,I.cell,I.free,I.freeC,I.pin,I.hok,hl.trans I.len⟩
theorem Inv.pins_of{pins':List (Addr×Obj)}(I:Inv X pins σ H s)(h:∀p∈pins',s.heap.get? p.1=some p.2/\H p.1=none/\p.1≠X.env.locals/\p.1∉X.fs/\∀v,p.2.data≠ .cell v):Inv X pins' σ H s:=
 ⟨I.ok,I.os,I.bare,I.base,I.loc,I.cell,I.free,I.freeC,λp hp=>(yd.mp hp).elim (λz=>I.pin p (yB _ z)) (h p),I.hok,I.len⟩
theorem Kg{N:List Str}(hN:N.Nodup){i j:Nat}{x:Str}(a:N[i]? =some x)(b:N[j]? =some x):i=j:=by obtain⟨h1,e1⟩:=lI.mp a;obtain⟨h2,e2⟩:=lI.mp b;exact(List.getElem_inj hN).mp (e1.trans e2.symm)
theorem zbB{M:Model}{A:Around}{E:Value->Shared->Prop}{i:Nat}{x:Str}{v:V}{u:Value}{Q:Unit->Shared->Prop}(I:Inv X pins σ H s)(hN:X.N.Nodup)(hi:X.N[i]? =some x)(hx:Loc X.env.scope x)(r:RelV v u)
 (h:∀s',Inv X pins (σ.set i (some v)) H s'->(∃a,Heap.SameBut a s.heap s'.heap/\(a=X.env.locals\/X.env.cells.lookup x=some a))->Q () s') (hf:X.fn x=true\/X.env.scope.names.lookup x=some .local:=by first|exact .inl rfl|exact .inr rfl|assumption):wpAny M A (storeName X.env x u) Q E s:=by
 obtain⟨m,hn,hl⟩:=id I.loc;have hcls:(X.env.scope.kind== .class||(X.env.scope.kind== .module&&X.env.locals !=X.env.globals))=false:=by rw [I.ok.kind];rfl
 have hiσ:i<σ.length:=by rw [I.len];exact(lI.mp hi).1
 have cne:=I.cne
 have tracked:∀{a:Addr} {h':Heap},(∃o,s.heap.get? a=some o/\H a=none)->Heap.SameBut a s.heap h'->HOk X.prog X.w H h':=λ{a h'} ha hs b ob e=>by
  obtain⟨_,_,hfree⟩:=ha;refine(I.hok b ob e).stay (λc w' hc q=>(hs.2 c ?_).trans q) (λ_ q=>q) λ_ _ q=>q
  rintro rfl;rcases hc with rfl|hc
  ·rw [hfree] at e;cases e
  ·rw [hfree] at hc;cases hc
 rcases hx with hk|hk
 ·refine wpAny_storeName_local hk hn (λh' hn' hs=>?_) hcls;obtain⟨oL,_,_,hoL,_⟩:=id hn;refine h _ ⟨I.ok,I.os,I.bare,⟨λb o e n hb hx=>?_,λb o e n hb hx=>?_,I.base.free,λb o e hx=>?_,I.base.tups,I.base.frzs,I.base.tbls⟩,⟨_,hn',λj y v' e1 e2 e3=>?_⟩,λy c e=>?_,I.free,I.freeC,λp hp=>?_,tracked ⟨oL,hoL,I.free⟩ hs,by simpa using I.len⟩ ⟨_,hs,.inl rfl⟩
  ·exact(hs.2 b (lY (lM (lq e) I.ok.above))).trans (I.base.keep b o e n hb hx)
  ·obtain⟨sl,e1⟩:=I.base.slot b o e n hb hx;exact⟨sl,(hs.2 b (lY (lM (lq e) I.ok.above))).trans e1⟩
  ·obtain⟨o',e1⟩:=I.base.there b o e hx;exact⟨o',(hs.2 b (lY (lM (lq e) I.ok.above))).trans e1⟩
  ·by_cases hj:j=i
   ·subst hj;rw [hi] at e1;cases e1;rw [lW hiσ] at e2;cases e2;exact⟨u,r,.inl ⟨hk,by simp⟩⟩
   ·rw [lV (yY hj)] at e2;obtain⟨u',r',q⟩:=hl j y v' e1 e2 e3;refine⟨u',r',?_⟩;rcases q with⟨k,e⟩|⟨k,c,e,z⟩
    ·refine .inl ⟨k,?_⟩;have:y≠x:=λe=>hj (Kg hN e1 (e▸hi))
     simp [this,e]
    ·exact .inr ⟨k,c,e,z.sameBut hs (cne y c e)⟩
  ·obtain⟨w',z⟩:=I.cell y c e;exact⟨w',z.sameBut hs (cne y c e)⟩
  ·obtain⟨e,n,ne,nf,d⟩:=I.pin p hp;exact⟨(hs.2 p.1 ne).trans e,n,ne,nf,d⟩
 ·have hfn:X.fn x=true:=by
   rcases hf with z|z
   ·exact z
   ·rw [z] at hk;cases hk
  obtain⟨c,hc⟩:=I.ok.has x (.inl hk);obtain⟨w',z⟩:=I.cell x c hc;refine wpAny_storeName_cell I.ok.kind hk hc z (λh' hc' hs=>?_);obtain⟨oc,hoc,hocd⟩:=id z;refine h {s with heap:=h'} ⟨I.ok,I.os,I.bare,⟨λb o e n hb hx=>?_,λb o e n hb hx=>?_,I.base.free,λb o e hx=>?_,I.base.tups,I.base.frzs,I.base.tbls⟩,⟨m,hn.sameBut hs (yY (cne x c hc)),λj y v' e1 e2 e3=>?_⟩,λy c' e=>?_,I.free,I.freeC,λp hp=>?_,tracked ⟨oc,hoc,I.freeC x c hc⟩ hs,by simpa using I.len⟩ ⟨c,hs,.inr hc⟩
  ·exact(hs.2 b (lY (lM (lq e) (I.ok.cab x c hfn hc)))).trans (I.base.keep b o e n hb hx)
  ·obtain⟨sl,e1⟩:=I.base.slot b o e n hb hx;exact⟨sl,(hs.2 b (lY (lM (lq e) (I.ok.cab x c hfn hc)))).trans e1⟩
  ·obtain⟨o',e1⟩:=I.base.there b o e hx;exact⟨o',(hs.2 b (lY (lM (lq e) (I.ok.cab x c hfn hc)))).trans e1⟩
  ·by_cases hj:j=i
   ·subst hj;rw [hi] at e1;cases e1;rw [lW hiσ] at e2;cases e2;exact⟨u,r,.inr ⟨.inl hk,c,hc,hc'⟩⟩
   ·rw [lV (yY hj)] at e2;obtain⟨u',r',q⟩:=hl j y v' e1 e2 e3;refine⟨u',r',?_⟩;rcases q with q|⟨k,c',e,z'⟩
    ·exact .inl q
    ·refine .inr ⟨k,c',e,z'.sameBut hs ?_⟩;rintro rfl;exact hj (Kg hN e1 (I.ok.inj _ _ _ e hc▸hi))
  ·by_cases hcc:c'=c
   ·subst hcc;exact⟨_,hc'⟩
   ·obtain⟨w2,z2⟩:=I.cell y c' e;exact⟨w2,z2.sameBut hs hcc⟩
  ·obtain⟨e,n,ne,nf,d⟩:=I.pin p hp;refine⟨(hs.2 p.1 ?_).trans e,n,ne,nf,d⟩;intro q;rw [q,hoc] at e;have q':oc=p.2:=Option.some.inj e;exact d w' (by rw [<-q'];exact hocd)
theorem Kf{M:Model}{A:Around}{E:Value->Shared->Prop}{i:Nat}{x:Str}{v:V}{u:Value}{Q:Unit->Shared->Prop}(I:Inv X pins σ H s)(hN:X.N.Nodup)(hi:X.N[i]? =some x)(hx:Loc X.env.scope x)(r:RelV v u)
 (h:∀s',Inv X pins (σ.set i (some v)) H s'->Q () s') (hf:X.fn x=true\/X.env.scope.names.lookup x=some .local:=by first|exact .inl rfl|exact .inr rfl|assumption):wpAny M A (storeName X.env x u) Q E s:=
 zbB I hN hi hx r (λs' I' _=>h s' I') hf
theorem Inv.call'{s':Shared}{ch:List Addr}(I:Inv X pins σ H s)(ho:s'.os=s.os)(u:Un (frs X.stack) ch H H' s.heap s'.heap)(hok:HOk X.prog X.w H' s'.heap)(hg:AllBare s'.gens)
 (hch:∀b∈ch,(b∈X.ex\/X.s_0.heap.objs.size<=b)/\b≠X.env.locals/\(∀x c,X.env.cells.lookup x=some c->c≠b)/\∀p∈X.pn++pins,p.1≠b):Inv X pins σ H' s':=by
 obtain⟨h',g',d',t',o'⟩:=s';have e:o'=s.os:=ho;subst e;exact I.call (g':=g') (t':=t') (d':=d') u hok hg hch
end
abbrev XK:=Value->Option Addr->Hp->Prop
abbrev St:=List (Option V)
abbrev VK:=V->Hp->Prop
abbrev TE:=St->Hp->VK->Prop
abbrev TT:=St->Hp->(Bool->Hp->Prop)->Prop
abbrev TA:=St->Hp->(List V->Hp->Prop)->Prop
structure Ends where
 nx:St->Hp->Prop
 rt:VK
 bk:St->Hp->Prop:=λ_ _=>False
 ct:St->Hp->Prop:=λ_ _=>False
abbrev TS:=Ends->St->Hp->Prop
def EP(X:Cx)(pins:List (Addr×Obj))(σ:St)(Q:VK)(u:Value)(s':Shared):Prop:=∃v H',Inv X pins σ H' s'/\RelV v u/\Q v H'
def TP(X:Cx)(pins:List (Addr×Obj))(σ:St)(Q:Bool->Hp->Prop)(b:Bool)(s':Shared):Prop:=∃H',Inv X pins σ H' s'/\Q b H'
def AP(X:Cx)(pins:List (Addr×Obj))(σ:St)(Q:List V->Hp->Prop)(us:List Value)(s':Shared):Prop:=∃vs H',Inv X pins σ H' s'/\Vals vs us/\Q vs H'
def SP(X:Cx)(pins:List (Addr×Obj))(D:Ends)(f:Flow)(s':Shared):Prop:=
 match f with
 | .next=>∃σ' H',Inv X pins σ' H' s'/\D.nx σ' H'
 | .brk=>∃σ' H',Inv X pins σ' H' s'/\D.bk σ' H'
 | .cont=>∃σ' H',Inv X pins σ' H' s'/\D.ct σ' H'
 | .ret u=>∃v σ' H',Inv X pins σ' H' s'/\RelV v u/\D.rt v H'
def PE(X:Cx)(e:Expr)(t:TE):Prop:=
 ∀(pins:List (Addr×Obj)) (s:Shared) (σ:St) (H:Hp) (Q:VK),Inv X pins σ H s->t σ H Q->wpAny (model X.prog X.w) X.A (eval e X.env) (EP X pins σ Q) X.xe s
def PT(X:Cx)(e:Expr)(t:TT):Prop:=
 ∀(pins:List (Addr×Obj)) (s:Shared) (σ:St) (H:Hp) (Q:Bool->Hp->Prop),Inv X pins σ H s->t σ H Q->wpAny (model X.prog X.w) X.A (isTrue e X.env (eval e X.env)) (TP X pins σ Q) X.xe s
def PW(X:Cx)(e:Expr)(t:TT):Prop:=
 ∀(whole:Sem Value) (pins:List (Addr×Obj)) (s:Shared) (σ:St) (H:Hp) (Q:Bool->Hp->Prop),Inv X pins σ H s->t σ H Q->wpAny (model X.prog X.w) X.A (isTrue e X.env whole) (TP X pins σ Q) X.xe s
theorem PW.pt{X:Cx}{e:Expr}{t:TT}(h:PW X e t):PT X e t:=h _
def PA(X:Cx)(es:List Expr)(t:TA):Prop:=
 ∀(pos:Pos) (pins:List (Addr×Obj)) (s:Shared) (σ:St) (H:Hp) (Q:List V->Hp->Prop),Inv X pins σ H s->t σ H Q->wpAny (model X.prog X.w) X.A (spliced (backTo pos (starEach es X.env))) (AP X pins σ Q) X.xe s
def PS(X:Cx)(st:Stmt)(t:TS):Prop:=
 ∀(pins:List (Addr×Obj)) (s:Shared) (σ:St) (H:Hp) (D:Ends),Inv X pins σ H s->t D σ H->wpAny (model X.prog X.w) X.A (exec st X.env) (SP X pins D) X.xe s
def PSs(X:Cx)(st:List Stmt)(t:TS):Prop:=
 ∀(pins:List (Addr×Obj)) (s:Shared) (σ:St) (H:Hp) (D:Ends),Inv X pins σ H s->t D σ H->wpAny (model X.prog X.w) X.A (execs st X.env) (SP X pins D) X.xe s
theorem thn{α:Type}{t:Sem α}{Q Q':α->Shared->Prop}{M:Model}{A:Around}{E:Value->Shared->Prop}{s:Shared}(h:wpAny M A t Q E s)(hQ:∀a s,Q a s->Q' a s):wpAny M A t Q' E s:=wpAny_mono h hQ λ_ _ x=>x
section
variable {X:Cx}
theorem bin{a b:Expr}{ta tb:TE}(ha:PE X a ta)(hb:PE X b tb){pins:List (Addr×Obj)}{s:Shared}{σ:St}{H:Hp}{R:V->V->Hp->Prop}(I:Inv X pins σ H s)(h:ta σ H λx H1=>tb σ H1 λy H2=>R x y H2)
 {α:Type} {Q:α->Shared->Prop} {f:Value->Value->Sem α}
 (hf:∀v u s2 x y H2,Inv X pins σ H2 s2->RelV x v->RelV y u->R x y H2->wpAny (model X.prog X.w) X.A (f v u) Q X.xe s2):
 wpAny (model X.prog X.w) X.A (eval a X.env) (λv s₁=>wpAny (model X.prog X.w) X.A (eval b X.env) (λu s₂=>wpAny (model X.prog X.w) X.A (f v u) Q X.xe s₂) X.xe s₁) X.xe s:=by
 refine thn (ha pins s σ H _ I h) λv s1 ⟨x,H1,I1,r1,q1⟩=>?_
 refine thn (hb pins s1 σ H1 _ I1 q1) λu s2 ⟨y,H2,I2,r2,q2⟩=>?_
 exact hf v u s2 x y H2 I2 r1 r2 q2
def zoc(i:Nat):TE:=λσ H Q=>∃v,σ[i]? =some (some v)/\Q v H
def tC(v:V):TE:=λ_ H Q=>Q v H
theorem zlO{i:Nat}{x:Str}{pos:Pos}(hN:X.N[i]? =some x)(hv:Vis X.env.scope x)(hd:(x==("__debug__":Str))=false:=by decide)(hcd:(x==("__classdict__":Str))=false:=by decide):PE X (.Name x pos) (zoc i):=by
 intro pins s σ H Q I h;obtain⟨v,e,h⟩:=h;obtain⟨m,hn,hl⟩:=I.loc;obtain⟨u,r,l⟩:=hl i x v hN e hv;have fin:EP X pins σ Q u s:=⟨v,H,I,r,h⟩;rcases l with⟨hk,hm⟩|⟨hk,c,hc,hcell⟩
 ·exact wpAny_Name (wpAny_loadName_local I.ok.kind hk hn hm fin) hd
 ·rcases hk with hk|hk
  ·exact wpAny_Name (wpAny_loadName_cell I.ok.kind hk hc hcell fin) hd
  ·exact wpAny_Name (wpAny_loadName_free I.ok.kind hk hc hcell fin hcd) hd
theorem ziC{i j pos}:PE X (.Constant (.int i) j pos) (tC (.int i)):=λ_ _ _ H _ I h=>wpAny_Constant_int ⟨.int i,H,I.tok _,⟨_,rfl⟩,h⟩
theorem znv{b j pos}:PE X (.Constant (.bool b) j pos) (tC (.bl b)):=λ_ _ _ H _ I h=>Constant_bool ⟨.bl b,H,I,rfl,h⟩
theorem zlh{j pos}:PE X (.Constant .none j pos) (tC .non):=λ_ _ _ H _ I h=>Constant_none ⟨.non,H,I,rfl,h⟩
theorem zkQ{x j pos}:PE X (.Constant (.str x) j pos) (tC (.str x)):=λ_ _ _ H _ I h=>Calls.Constant_str ⟨.str x,H,I.tok _,⟨_,rfl⟩,h⟩
def Gl(X:Cx)(x:Str):Prop:=X.env.kindOf x=some .globalImplicit
theorem Jb{E:Value->Shared->Prop}{pins:List (Addr×Obj)}{s:Shared}{σ:St}{H:Hp}{x:Str}{u:Value}{pos:Pos}{Q:Value->Shared->Prop}(I:Inv X pins σ H s)(hg:Gl X x)(hm:X.mg x=some u)(h:Q u s)
 (hd:(x==("__debug__":Str))=false:=by decide):wpAny (model X.prog X.w) X.A (eval (.Name x pos) X.env) Q E s:=
 LW I.ok.kind hg (Calls.loadGlobal_global (by rw [I.ok.glob];exact I.mod.glob.keeps I.bk) hm h) hd
theorem VS{E:Value->Shared->Prop}{pins:List (Addr×Obj)}{s:Shared}{σ:St}{H:Hp}{x:Str}{u:Value}{pos:Pos}{Q:Value->Shared->Prop}(I:Inv X pins σ H s)(hg:Gl X x)(hm:X.mg x=none)(hv:bootBuiltins x=some u)(h:Q u s)
 (hn:x≠"__name__":=by decide) (hd:(x==("__debug__":Str))=false:=by decide):wpAny (model X.prog X.w) X.A (eval (.Name x pos) X.env) Q E s:=by
 obtain⟨mb,h1,h2⟩:=I.mod.blt;exact LW I.ok.kind hg (Calls.loadGlobal_builtin (by rw [I.ok.glob];exact I.mod.glob.keeps I.bk) hm (by rw [I.ok.blt];exact h1.keeps I.bk) ((h2 x hn).trans hv) h) hd
theorem zcw{x:Str}{v:V}{u:Value}{pos:Pos}(hg:Gl X x)(hm:X.mg x=some u)(r:RelV v u)(hd:(x==("__debug__":Str))=false:=by decide):PE X (.Name x pos) (tC v):=
 λ_ _ _ H _ I h=>Jb I hg hm ⟨v,H,I,r,h⟩ hd
theorem ze0{x:Str}{v:V}{u:Value}{pos:Pos}(hg:Gl X x)(hm:X.mg x=none)(hv:bootBuiltins x=some u)(r:RelV v u)(hn:x≠"__name__":=by decide)(hd:(x==("__debug__":Str))=false:=by decide):PE X (.Name x pos) (tC v):=
 λ_ _ _ H _ I h=>VS I hg hm hv ⟨v,H,I,r,h⟩ hn hd
variable {a b:Expr} {ta tb:TE} {pos:Pos}
def PC(X:Cx)(op:CmpOp)(a b:Expr)(t:TE):Prop:=
 ∀(pins:List (Addr×Obj)) (s:Shared) (σ:St) (H:Hp) (Q:VK),Inv X pins σ H s->t σ H Q->
  wpAny (model X.prog X.w) X.A (eval a X.env) (λv s₁=>wpAny (model X.prog X.w) X.A (eval b X.env) (λu s₂=>wpAny (model X.prog X.w) X.A (compareOp op v u) (EP X pins σ Q) X.xe s₂) X.xe s₁) X.xe s
theorem zg8(b:Expr){op:CmpOp}(h:op≠ .In)(h2:op≠ .NotIn):behindInMarks op b=false:=by
 have e1:(op==CmpOp.In)=false:=by cases op <;> first|rfl|exact absurd rfl h
 have e2:(op==CmpOp.NotIn)=false:=by cases op <;> first|rfl|exact absurd rfl h2
 cases b <;> simp [behindInMarks,e1,e2]
def tB(t:TE):TT:=λσ H Q=>t σ H λx H1=>∃c,x= .bl c/\Q c H1
theorem zn2{op:CmpOp}{t:TE}(h:PC X op a b t)(h1:behindInMarks op b=false:=by first|exact zg8 _ (by decide) (by decide)|rfl):PT X (.Compare a [op] [b] pos) (tB t):=by intro pins s σ H Q I hw;refine wpAny_isTrue_Compare1 (thn (h pins s σ H _ I hw) λv s1 h1=>thn h1 λu s2 h2=>thn h2 λc s3 ⟨x,H1,I1,r1,q1⟩=>?_) h1;obtain⟨d,rfl,q⟩:=q1;cases r1;exact wpAny_truthy_bool ⟨H1,I1,q⟩
theorem zl9{e:Expr}{t:TE}(h:PE X e t)(he:∀whole,isTrue e X.env whole=(do let v<-whole;standAt e.pos;holding [v] (truthy v)):=by intro _;rfl):PT X e (tB t):=by intro pins s σ H Q I hw;refine isTrue_plain (thn (h pins s σ H _ I hw) λv s1 ⟨x,H1,I1,r1,q1⟩=>?_) (he _);obtain⟨d,rfl,q⟩:=q1;cases r1;exact wpAny_truthy_bool ⟨H1,I1,q⟩
variable {tA tB':TT} {rest:List Expr}
def zoH(t u:TT):TT:=λσ H Q=>t σ H λc H1=>if c=true then u σ H1 Q else Q false H1
def tOr(t u:TT):TT:=λσ H Q=>t σ H λc H1=>if c=true then Q true H1 else u σ H1 Q
def zoz(t:TT):TT:=λσ H Q=>t σ H λc H1=>Q (!c) H1
theorem pw_and1(ha:PT X a tA):PW X (.BoolOp .And [a] pos) tA:=by
 intro wh pins s σ H Q I h;refine isTrue_and (thn (ha pins s σ H Q I h) λc s1 e=>?_);cases c with
 |true=>exact isTrue_and_nil e
 |false=>exact e
theorem pw_or1(ha:PT X a tA):PW X (.BoolOp .Or [a] pos) tA:=by
 intro wh pins s σ H Q I h;refine isTrue_or (thn (ha pins s σ H Q I h) λc s1 e=>?_);cases c with
 |false=>exact isTrue_or_nil e
 |true=>exact e
theorem pw_and(ha:PT X a tA)(hb:PW X (.BoolOp .And (b::rest) pos) tB'):PW X (.BoolOp .And (a::b::rest) pos) (zoH tA tB'):=by
 intro wh pins s σ H Q I h;refine isTrue_and (thn (ha pins s σ H _ I h) λc s1 ⟨H1,I1,q1⟩=>?_);cases c with
 |true=>exact hb wh pins s1 σ H1 Q I1 q1
 |false=>exact⟨H1,I1,q1⟩
theorem pw_or(ha:PT X a tA)(hb:PW X (.BoolOp .Or (b::rest) pos) tB'):PW X (.BoolOp .Or (a::b::rest) pos) (tOr tA tB'):=by
 intro wh pins s σ H Q I h;refine isTrue_or (thn (ha pins s σ H _ I h) λc s1 ⟨H1,I1,q1⟩=>?_);cases c with
 |true=>exact⟨H1,I1,q1⟩
 |false=>exact hb wh pins s1 σ H1 Q I1 q1
theorem zmm(ha:PT X a tA):PT X (.UnaryOp .Not a pos) (zoz tA):=by intro pins s σ H Q I h;exact isTrue_not (ha pins s σ H (λc H1=>Q (!c) H1) I h)
def zmW(ta tb:TE):TE:=λσ H Q=>ta σ H λx H1=>∃c,x= .bl c/\if c=true then tb σ H1 Q else Q (.bl false) H1
def zmV(ta:TE):TE:=λσ H Q=>ta σ H λx H1=>∃c,x= .bl c/\Q (.bl (!c)) H1
theorem zmo{op}{t:TE}(h:PE X a t):PE X (.BoolOp op [a] pos) t:=λpins s σ H Q I hw=>BoolOp_one (h pins s σ H Q I hw)
theorem zlV(ha:PE X a ta)(hb:PE X (.BoolOp .And (b::rest) pos) tb):PE X (.BoolOp .And (a::b::rest) pos) (zmW ta tb):=by
 intro pins s σ H Q I h;refine BoolOp_and (thn (ha pins s σ H _ I h) λv s1 ⟨x,H1,I1,r1,q1⟩=>?_);obtain⟨c,rfl,q1⟩:=q1;cases r1;refine wpAny_truthy_bool ?_;cases c with
 |true=>exact hb pins s1 σ H1 Q I1 q1
 |false=>exact⟨.bl false,H1,I1,rfl,q1⟩
theorem zlD(ha:PE X a ta):PE X (.UnaryOp .Not a pos) (zmV ta):=by intro pins s σ H Q I h;refine UnaryOp_ (thn (ha pins s σ H _ I h) λv s1 ⟨x,H1,I1,r1,q1⟩=>?_);obtain⟨c,rfl,q1⟩:=q1;cases r1;exact not_of (wpAny_truthy_bool ⟨.bl (!c),H1,I1,rfl,q1⟩)
def tIf(t:TT)(ta tb:TE):TE:=λσ H Q=>t σ H λc H1=>if c=true then ta σ H1 Q else tb σ H1 Q
theorem zhN{c:Expr}(hc:PT X c tA)(ha:PE X a ta)(hb:PE X b tb):PE X (.IfExp c a b pos) (tIf tA ta tb):=by
 intro pins s σ H Q I h;refine wpAny_IfExp (thn (hc pins s σ H _ I h) λd s1 ⟨H1,I1,q1⟩=>?_);cases d with
 |true=>exact ha pins s1 σ H1 Q I1 q1
 |false=>exact hb pins s1 σ H1 Q I1 q1
end
def SqL(K:PySem.W.Frag)(H:Hp)(a:Addr)(xs:List V):Prop:=
 Rd H a (.lst xs)\/
  ∃(o:Obj) (its:Array Value) (n:Nat),K.lookup a=some o/\o.cls= .type "list"/\o.dict=none/\o.data= .seq its n/\its.size<=sizeLine/\Vals xs its.toList
def SqT(K:PySem.W.Frag)(H:Hp)(a:Addr)(xs:List V):Prop:=
 Rd H a (.tup xs)\/
  ∃(o:Obj) (its:Array Value) (n:Nat),K.lookup a=some o/\o.cls= .type "tuple"/\o.data= .seq its n/\its.size<=sizeLine/\Vals xs its.toList
def zn9:Value->Option V
 | .none=>some .non
 | .bool b=>some (.bl b)
 | .int i _=>some (.int i)
 | .str x _=>some (.str x)
 | .bytes b _=>some (.byt b)
 | .float b _=>some (.flt b)
 | .ref a=>some (.ref a)
 | .type n=>some (.ty n)
 |_=>none
theorem RelV.abs{x:V}{u:Value}(r:RelV x u):zn9 u=some x:=by
 cases x with
 |non=>cases r;rfl
 |bl _=>cases r;rfl
 |int _=>obtain⟨t,rfl⟩:=r;rfl
 |str _=>obtain⟨t,rfl⟩:=r;rfl
 |byt _=>obtain⟨t,rfl⟩:=r;rfl
 |flt _=>obtain⟨t,rfl⟩:=r;rfl
 |ref _=>cases r;rfl
 |ty _=>cases r;rfl
theorem RelV.inj{x y:V}{u:Value}(r:RelV x u)(q:RelV y u):x=y:=Option.some.inj (r.abs.symm.trans q.abs)
theorem Vals.inj:∀{xs ys:List V} {us:List Value},Vals xs us->Vals ys us->xs=ys
 |_,_,_,.nil,.nil=>rfl
 |_,_,_,.cons r t,.cons r' t'=>by rw [r.inj r',Vals.inj t t']
section
variable {X:Cx} {pins:List (Addr×Obj)} {σ:St} {H:Hp} {s:Shared} {a:Addr} {xs ys:List V}
theorem SqL.of{K:PySem.W.Frag}(h:H a=some (.lst xs)):SqL K H a xs:=.inl (.inl h)
theorem SqT.of{K:PySem.W.Frag}(h:H a=some (.tup xs)):SqT K H a xs:=.inl (.inl h)
theorem Inv.list(I:Inv X pins σ H s)(h:SqL X.K H a xs):∃its:List Value,Vals xs its/\PlainL s.heap a its.toArray/\xs.length<=sizeLine:=by
 rcases h with h|⟨o,its,n,hk,hc,hd,hs,hz,r⟩
 ·obtain⟨z,its,n,r,e⟩:=h.ok I.hok;exact⟨its,r,⟨_,n,e,rfl,rfl,rfl⟩,z⟩
 ·refine⟨its.toList,r,⟨o,n,I.kIn a o hk,hc,hd,by simpa using hs⟩,?_⟩;have e:=r.length;simp only [lR] at e;omega
theorem Inv.tuple(I:Inv X pins σ H s)(h:SqT X.K H a xs):∃its:List Value,Vals xs its/\IsTup s.heap a its.toArray/\xs.length<=sizeLine:=by
 rcases h with h|⟨o,its,n,hk,hc,hs,hz,r⟩
 ·obtain⟨z,its,r,p⟩:=h.ok I.hok;exact⟨its,r,p,z⟩
 ·refine⟨its.toList,r,⟨o,I.kIn a o hk,hc,n,by simpa using hs⟩,?_⟩;have e:=r.length;simp only [lR] at e;omega
theorem Inv.list_inj(I:Inv X pins σ H s)(h:SqL X.K H a xs)(h':SqL X.K H a ys):xs=ys:=by
 obtain⟨its,r,⟨o,n,e,_,_,d⟩,_⟩:=I.list h;obtain⟨its',r',⟨o',n',e',_,_,d'⟩,_⟩:=I.list h';rw [e] at e';cases e';rw [d] at d';injection d' with d1 _
 have:its=its':=by simpa using congrArg Array.toList d1
 subst this;exact r.inj r'
theorem Inv.tuple_inj(I:Inv X pins σ H s)(h:SqT X.K H a xs)(h':SqT X.K H a ys):xs=ys:=by
 obtain⟨its,r,⟨o,e,_,n,d⟩,_⟩:=I.tuple h;obtain⟨its',r',⟨o',e',_,n',d'⟩,_⟩:=I.tuple h';rw [e] at e';cases e';rw [d] at d';injection d' with d1 _
 have:its=its':=by simpa using congrArg Array.toList d1
 subst this;exact r.inj r'
end
abbrev Cx.wish(X:Cx)(E:Value->Shared->Prop):Cx:={X with xe:=E}
abbrev Cx.nox(X:Cx):Cx:=X.wish λ_ _=>False
theorem Cx.Ok.wish{X:Cx}(ok:X.Ok)(E:Value->Shared->Prop):(X.wish E).Ok:=
 ⟨ok.mod,ok.kind,ok.glob,ok.blt,ok.above,ok.inj,ok.has,ok.cab,ok.hd,ok.frames,ok.stk,ok.exf,ok.bs,ok.bsz,ok.noex,ok.exfs,ok.funs,ok.frf⟩
theorem Cx.Ok.unwish{X:Cx}{E:Value->Shared->Prop}(ok:(X.wish E).Ok):X.Ok:=
 ⟨ok.mod,ok.kind,ok.glob,ok.blt,ok.above,ok.inj,ok.has,ok.cab,ok.hd,ok.frames,ok.stk,ok.exf,ok.bs,ok.bsz,ok.noex,ok.exfs,ok.funs,ok.frf⟩
section
variable {X:Cx} {pins:List (Addr×Obj)} {σ:St} {H:Hp} {s:Shared} {E:Value->Shared->Prop}
theorem Inv.wish(I:Inv X pins σ H s)(E:Value->Shared->Prop):Inv (X.wish E) pins σ H s:=⟨I.ok.wish E,I.os,I.bare,I.base,I.loc,I.cell,I.free,I.freeC,I.pin,I.hok,I.len⟩
theorem Inv.unwish(I:Inv (X.wish E) pins σ H s):Inv X pins σ H s:=⟨I.ok.unwish,I.os,I.bare,I.base,I.loc,I.cell,I.free,I.freeC,I.pin,I.hok,I.len⟩
theorem SP.unwish{D:Ends}{f:Flow}{s':Shared}(h:SP (X.wish E) pins D f s'):SP X pins D f s':=by
 cases f with
 |next=>obtain⟨σ',H',I,q⟩:=h;exact⟨σ',H',I.unwish,q⟩
 |brk=>obtain⟨σ',H',I,q⟩:=h;exact⟨σ',H',I.unwish,q⟩
 |cont=>obtain⟨σ',H',I,q⟩:=h;exact⟨σ',H',I.unwish,q⟩
 |ret u=>obtain⟨v,σ',H',I,r,q⟩:=h;exact⟨v,σ',H',I.unwish,r,q⟩
theorem PSs.nox{st:List Stmt}{t:TS}(h:PSs X.nox st t):PSs X st t:=λpins s σ H D I hw=>
 wpAny_mono (h pins s σ H D (I.wish _) hw) (λ_ _ q=>q.unwish) λ_ _ z=>False.elim z
end
section
variable {X:Cx} {st:Stmt} {rest:List Stmt} {t u:TS} {e:Expr} {te:TE} {pos:Pos}
def znA:TS:=λD σ H=>D.nx σ H
def zob(t u:TS):TS:=λD σ H=>t {D with nx:=u D} σ H
theorem zf7:PSs X [] znA:=λ_ _ σ H _ I h=>wpAny_execs_nil ⟨σ,H,I,h⟩
theorem zdH(h1:PS X st t)(h2:PSs X rest u):PSs X (st::rest) (zob t u):=by
 intro pins s σ H D I h;refine wpAny_execs_cons (thn (h1 pins s σ H {D with nx:=u D} I h) λf s1 q=>?_);cases f with
 |next=>
  obtain⟨σ',H',I',q⟩:=q;exact h2 pins s1 σ' H' D I' q
 |ret v=>exact q
 |brk=>exact q
 |cont=>exact q
theorem Inv.quiet{pins:List (Addr×Obj)}{σ:St}{H:Hp}{s:Shared}(I:Inv X pins σ H s):interactive X.env=false:=by simp [interactive,I.ok.kind]
def znh(te:TE):TS:=λD σ H=>te σ H λ_ H1=>D.nx σ H1
theorem zjA(he:PE X e te)(hs:swapsWith e none pos.line X.env=pure false:=by rfl):PS X (.Expr e pos) (znh te):=by intro pins s σ H D I h;exact wpAny_Expr_any (thn (he pins s σ H _ I h) λv s1 ⟨x,H1,I1,r1,q1⟩=>⟨σ,H1,I1,q1⟩) I.quiet hs
def zof(te:TE):TS:=λD σ H=>te σ H D.rt
theorem zkS(he:PE X e te):PS X (.Return (some e) pos) (zof te):=by intro pins s σ H D I h;exact wpAny_Return_some (thn (he pins s σ H _ I h) λv s1 ⟨x,H1,I1,r1,q1⟩=>⟨x,σ,H1,I1,r1,q1⟩)
def zoY(c:TT)(t u:TS):TS:=λD σ H=>c σ H λb H1=>if b=true then t D σ H1 else u D σ H1
theorem zm4{c:Expr}{a b:List Stmt}{tc:TT}(hc:PT X c tc)(ha:PSs X a t)(hb:PSs X b u):PS X (.If c a b pos) (zoY tc t u):=by
 intro pins s σ H D I h;refine wpAny_If (thn (hc pins s σ H _ I h) λd s1 ⟨H1,I1,q1⟩=>?_);cases d with
 |true=>exact ha pins s1 σ H1 D I1 q1
 |false=>exact hb pins s1 σ H1 D I1 q1
end
abbrev TG:=V->St->Hp->(St->Hp->Prop)->Prop
abbrev TGs:=List V->St->Hp->(St->Hp->Prop)->Prop
def PG(X:Cx)(target:Expr)(t:TG):Prop:=
 ∀(pins:List (Addr×Obj)) (s:Shared) (σ:St) (H:Hp) (v:V) (u:Value) (Q:St->Hp->Prop),Inv X pins σ H s->RelV v u->t v σ H Q->
  wpAny (model X.prog X.w) X.A (assign target X.env u) (λ_ s'=>∃σ' H',Inv X pins σ' H' s'/\Q σ' H') X.xe s
def PGs(X:Cx)(ts:List Expr)(t:TGs):Prop:=
 ∀(pins:List (Addr×Obj)) (s:Shared) (σ:St) (H:Hp) (vs:List V) (us:List Value) (Q:St->Hp->Prop),Inv X pins σ H s->Vals vs us->t vs σ H Q->
  wpAny (model X.prog X.w) X.A (assignInOrder ((assignEach ts X.env).map (·.2)) us) (λ_ s'=>∃σ' H',Inv X pins σ' H' s'/\Q σ' H') X.xe s
abbrev zm3:=V->V->V->Hp->(Hp->Prop)->Prop
def zn8(X:Cx)(t:zm3):Prop:=
 ∀(pins:List (Addr×Obj)) (s:Shared) (σ:St) (H:Hp) (o i v:V) (ov iv u:Value) (Q:Hp->Prop),Inv X pins σ H s->RelV o ov->RelV i iv->RelV v u->t o i v H Q->
  wpAny (model X.prog X.w) X.A (setItem ov iv u) (λ_ s'=>∃H',Inv X pins σ H' s'/\Q H') X.xe s
section
variable {X:Cx} {pos:Pos}
def zij(i:Nat):TG:=λv σ H Q=>Q (σ.set i (some v)) H
theorem zkh{i:Nat}{x:Str}(hN:X.N.Nodup)(hi:X.N[i]? =some x)(hx:Loc X.env.scope x)(hf:X.fn x=true\/X.env.scope.names.lookup x=some .local:=by first|exact .inl rfl|exact .inr rfl|assumption):PG X (.Name x pos) (zij i):=by intro pins s σ H v u Q I r h;exact wpAny_assign_Name (Kf I hN hi hx r (λs' I'=>⟨_,H,I',h⟩) hf)
def zon:TGs:=λvs σ H Q=>vs= []/\Q σ H
def zmQ(t:TG)(u:TGs):TGs:=λvs σ H Q=>∃v r,vs=v::r/\t v σ H λσ' H'=>u r σ' H' Q
theorem zjq:PGs X [] zon:=by intro pins s σ H vs us Q I r h;obtain⟨e,h⟩:=h;subst e;cases r;exact assignInOrder_nil ⟨σ,H,I,h⟩
theorem zgN{e:Expr}{es:List Expr}{t:TG}{u:TGs}(h1:PG X e t)(h2:PGs X es u)
 (hs:(assignEach (e::es) X.env).map (·.2)=assign e X.env::(assignEach es X.env).map (·.2):=by rfl):PGs X (e::es) (zmQ t u):=by
 intro pins s σ H vs us Q I r h;obtain⟨v,vr,e1,h⟩:=h;subst e1;cases r with
 |cons r rr=>
  rw [hs];refine assignInOrder_cons (thn (h1 pins s σ H _ _ _ I r h) λ_ s1 ⟨σ1,H1,I1,q1⟩=>?_);exact h2 pins s1 σ1 H1 _ _ Q I1 rr q1
def zo0(K:PySem.W.Frag)(n:Nat)(t:TGs):TG:=λv σ H Q=>∃a xs,v= .ref a/\SqT K H a xs/\xs.length=n/\t xs σ H Q
theorem zmq{es:List Expr}{k:Nat}{t:TGs}{n:Nat}(hc:X.calm=true)(h:PGs X es t)
 (hn:(assignEach es X.env).length=n:=by rfl) (hst:(assignEach es X.env).findIdx? (·.1)=none:=by rfl):PG X (.Tuple es k pos) (zo0 X.K n t):=by
 intro pins s σ H v u Q I r hw;obtain⟨a,xs,e1,hq,hl,hw⟩:=hw;subst e1;cases r;obtain⟨its,rv,ht,hz⟩:=I.tuple hq;refine assign_Tuple_tuple (I.ok.hd hc) ht (by simp [hn,<-hl,rv.length]) hst λh' hx=>?_
 have I1:Inv X pins σ H {s with heap:=h'}:=I.kept (t':=s.toks) λb o e=>hx b o (lY (lq e)) e
 exact h pins _ σ H xs _ Q I1 (by simpa using rv) hw
def zoI(to ti:TE)(t:zm3):TG:=λv σ H Q=>to σ H λo H1=>ti σ H1 λi H2=>t o i v H2 λH3=>Q σ H3
theorem zme{o i:Expr}{to ti:TE}{t:zm3}(ho:PE X o to)(hi:PE X i ti)(hs:zn8 X t)
 (ha:∀v,assign (.Subscript o i pos) X.env v=(do
   let ov<-holding [v] (eval o X.env)
   let iv<-holding [v,ov] (eval i X.env)
   standAt pos
   holding [v,ov,iv] (setItem ov iv v)
   release [v,ov,iv] []):=by intro _;rfl):PG X (.Subscript o i pos) (zoI to ti t):=by
 intro pins s σ H v u Q I r h;rw [ha];refine wpAny_bind (wpAny_holding (thn (ho pins s σ H _ I h) λov s1 ⟨x,H1,I1,r1,q1⟩=>?_));refine wpAny_bind (wpAny_holding (thn (hi pins s1 σ H1 _ I1 q1) λiv s2 ⟨y,H2,I2,r2,q2⟩=>?_));refine wpAny_bind (wpAny_standAt (wpAny_bind (wpAny_holding (thn (hs pins s2 σ H2 x y v ov iv u _ I2 r1 r2 r q2) λ_ s3 ⟨H3,I3,q3⟩=>?_))));exact wpAny_release ⟨σ,H3,I3,q3⟩
def znE(te:TE)(g:TG):TS:=λD σ H=>te σ H λx H1=>g x σ H1 D.nx
theorem zeK{tg e:Expr}{te:TE}{g:TG}(he:PE X e te)(hg:PG X tg g)(hs:swapsWithSole [tg] e pos.line X.env=pure false:=by rfl)(hw:swappedStores [tg] e X.env=pure none:=by rfl)
 (h1:(assignEach [tg] X.env).map (·.2)= [assign tg X.env]:=by rfl):PS X (.Assign [tg] e pos) (znE te g):=by
 intro pins s σ H D I h;refine wpAny_Assign_stores (thn (he pins s σ H _ I h) λv s1 ⟨x,H1,I1,r1,q1⟩=>?_) hs hw;rw [h1];exact thn (hg pins s1 σ H1 x v _ I1 r1 q1) λ_ s2 q=>q
theorem ziK{i:Nat}{x:Str}{e:Expr}{te:TE}{pos':Pos}(hN:X.N.Nodup)(hi:X.N[i]? =some x)(hx:Loc X.env.scope x)(he:PE X e te)(hs:swapsWith e (some (.Name x pos')) pos.line X.env=pure false:=by rfl)(hf:X.fn x=true\/X.env.scope.names.lookup x=some .local:=by first|exact .inl rfl|exact .inr rfl|assumption):
 PS X (.Assign [.Name x pos'] e pos) (znE te (zij i)):=by
 intro pins s σ H D I h;refine wpAny_Assign_Name (thn (he pins s σ H _ I h) λv s1 ⟨y,H1,I1,r1,q1⟩=>?_) hs;exact Kf I1 hN hi hx r1 (λs2 I2=>⟨_,H1,I2,q1⟩) hf
def zkV(c:TT)(tb:TS):TS:=λD σ H=>∃W:Nat->St->Hp->Prop,(∃m,W m σ H)/\∀m σ H,W m σ H->
 c σ H λb H1=>if b=true then ∃N:St->Hp->Prop,(∀σ' H',N σ' H'->∃m',m'<m/\W m' σ' H')/\tb {D with nx:=N,ct:=N,bk:=D.nx} σ H1 else D.nx σ H1
theorem zg5{c:Expr}{body:List Stmt}{tc:TT}{tb:TS}(hp:PassesOwn (model X.prog X.w) X.A X.env X.xe)(hc:PT X c tc)(hb:PSs X body tb):PS X (.While c body [] pos) (zkV tc tb):=by
 intro pins s σ H D I h;obtain⟨W,⟨m0,w0⟩,turn⟩:=h;refine wpAny_While (codeAny_whileLoop (λn s'=>∃σ' H',Inv X pins σ' H' s'/\W n σ' H') ?_ m0 ⟨σ,H,I,w0⟩);rintro n s1 ⟨σ1,H1,I1,w1⟩;refine wpAny_passesOwn hp (thn (hc pins s1 σ1 H1 _ I1 (turn n σ1 H1 w1)) λb s2 ⟨H2,I2,q2⟩=>?_);cases b with
 |true=>
  obtain⟨N,hN,q2⟩:=q2;rw [if_pos rfl];refine wpAny_passesOwn hp (thn (hb pins s2 σ1 H2 _ I2 q2) λf s3 q3=>?_);cases f with
  |next=>
   obtain⟨σ3,H3,I3,n3⟩:=q3;obtain⟨m',hm,w3⟩:=hN σ3 H3 n3;exact⟨m',hm,σ3,H3,I3,w3⟩
  |cont=>
   obtain⟨σ3,H3,I3,n3⟩:=q3;obtain⟨m',hm,w3⟩:=hN σ3 H3 n3;exact⟨m',hm,σ3,H3,I3,w3⟩
  |brk=>exact q3
  |ret v=>exact q3
 |false=>
  rw [if_neg lE];exact wpAny_execs_nil ⟨σ1,H2,I2,q2⟩
end
structure It where
 go:Nat->Hp->Prop
 yld:Nat->Hp->V->Hp->Prop
 stop:Nat->Hp->Prop
def KA(X:Cx)(pins:List (Addr×Obj))(H:Hp)(b:Addr):Prop:=
 H b=none/\b≠X.env.locals/\b∉X.fs/\(b∈X.ex\/X.s_0.heap.objs.size<=b)/\(∀x c,X.env.cells.lookup x=some c->c≠b)/\∀p∈X.pn++pins,p.1≠b
theorem Inv.fpOk{X:Cx}{pins:List (Addr×Obj)}{σ:St}{H H':Hp}{s:Shared}{b:Addr}(I:Inv X pins σ H s)(hb:s.heap.objs.size<=b)(hn:H' b=none):KA X pins H' b:=by
 refine⟨hn,Ln (lM I.lt hb),I.nofs hb,.inr (lQ I.sz hb),λx c e z=>?_,λp hp z=>?_⟩
 ·obtain⟨v,q⟩:=I.cell x c e;exact absurd (lM q.lt (by rw [z];exact hb)) (yF _)
 ·exact absurd (lM (lq (I.pin p hp).1) (by rw [z];exact hb)) (yF _)
structure Turn (P:Program) (w:World) (K:PySem.W.Frag) (tg:Expr) (J:It) (fp:List Addr) (it:Addr) (tn:Nat->Heap->Prop):Prop where
 mem:it∈fp
 obj:∀i h,tn i h->∀b∈fp,∃o,h.get? b=some o/\∀v,o.data≠ .cell v
 keep:∀i h h',tn i h->(∀b∈fp,∀o,h.get? b=some o->h'.get? b=some o)->tn i h'
 item:∀(X:Cx),X.prog=P->X.w=w->X.K=K->X.calm=true->∀(i:Nat) (pins:List (Addr×Obj)) (s:Shared) (σ:St) (H:Hp) (E:Value->Shared->Prop),Inv X pins σ H s->(∀b∈fp,KA X pins H b)->tn i s.heap->J.go i H->
  wpAny (model P w) X.A (pyNext (.ref it)) (λr s1=>∃u,r=some u/\
   wpAny (model P w) X.A (letOwnedTupleGo tg (.ref it) u) (λ_ s2=>∃x H',Inv X pins σ H' s2/\RelV x u/\J.yld i H x H'/\tn (i+1) s2.heap/\∀b∈fp,H' b=none) E s1) E s
 done:∀(X:Cx),X.prog=P->X.w=w->X.K=K->X.calm=true->∀(i:Nat) (pins:List (Addr×Obj)) (s:Shared) (σ:St) (H:Hp) (E:Value->Shared->Prop),Inv X pins σ H s->(∀b∈fp,KA X pins H b)->tn i s.heap->J.stop i H->
  wpAny (model P w) X.A (pyNext (.ref it)) (λr s1=>r=none/\Inv X pins σ H s1) E s
 self:∀(A:Around) (i:Nat) (s:Shared) (Q:Value->Shared->Prop) (E:Value->Shared->Prop),tn i s.heap->Q (.ref it) s->wpAny (model P w) A (pyIter (.ref it)) Q E s
abbrev TI:=St->Hp->(It->Hp->Prop)->Prop
def PIE(X:Cx)(pins:List (Addr×Obj))(σ:St)(tg:Expr)(R:It->Hp->Prop)(itv:Value)(s2:Shared):Prop:=
 ∃(it:Addr) (fp:List Addr) (tn:Nat->Heap->Prop) (J:It) (H':Hp),itv= .ref it/\Inv X pins σ H' s2/\Turn X.prog X.w X.K tg J fp it tn/\tn 0 s2.heap/\(∀b∈fp,KA X pins H' b)/\R J H'
def PI(X:Cx)(tg iter:Expr)(wi:TI):Prop:=
 ∀(pins:List (Addr×Obj)) (s:Shared) (σ:St) (H:Hp) (R:It->Hp->Prop),Inv X pins σ H s->wi σ H R->
  wpAny (model X.prog X.w) X.A (eval iter X.env) (λv s1=>wpAny (model X.prog X.w) X.A (pyIter v) (PIE X pins σ tg R) X.xe s1) X.xe s
theorem zgg{M:Model}{A:Around}{E:Value->Shared->Prop}{s:Shared}{tg:Expr}{it:Addr}{u:Value}{o:Obj}{n:String}{vs:Array Value}{Q:Unit->Shared->Prop}(ho:s.heap.get? it=some o)(hc:o.cls= .type n)(hd:o.data= .fields vs)
 (hn: ["enumerate","zip","dict_itemiterator","dict_reverseitemiterator","odict_iterator","itertools.zip_longest","itertools.pairwise"].contains n=false) (hQ:Q () s):wpAny M A (letOwnedTupleGo tg (.ref it) u) Q E s:=by
 unfold letOwnedTupleGo
 cases tg <;> first
  |exact wpAny_pure hQ
  |(cases u <;> first
     |exact wpAny_pure hQ
     |(refine wpAny_bind (wpAny_load ho ?_)
       rw [hc,hd];show wpAny M A (if (["enumerate","zip","dict_itemiterator","dict_reverseitemiterator","odict_iterator","itertools.zip_longest","itertools.pairwise"].contains n&&vs[0]? ==some (rawInt _))=true then _ else _) Q E s;rw [if_neg (by intro h;rw [hn,LX] at h;cases h)];exact wpAny_pure hQ))
def Itl(K:PySem.W.Frag)(a:Addr):It:=
 ⟨λi H=>∃xs x,SqL K H a xs/\xs[i]? =some x,λi H x H'=>H'=H/\∀xs,SqL K H a xs->xs[i]? =some x,λi H=>∃xs,SqL K H a xs/\xs.length<=i⟩
def Itt(K:PySem.W.Frag)(a:Addr):It:=
 ⟨λi H=>∃xs x,SqT K H a xs/\xs[i]? =some x,λi H x H'=>H'=H/\∀xs,SqT K H a xs->xs[i]? =some x,λi H=>∃xs,SqT K H a xs/\xs.length<=i⟩
def Itr(lo:Int)(n:Nat):It:=⟨λi _=>i<n,λi H x H'=>H'=H/\x= .int (lo+i),λi _=>n<=i⟩
theorem zfs{P:Program}{w:World}{K:PySem.W.Frag}{tg:Expr}(a it:Addr):Turn P w K tg (Itl K a) [it] it (λi h=>h.IsListIter it a i) where
 mem:=by simp
 obj:=λi h st b hb=>by
  have e:b=it:=by simpa using hb
  subst e;obtain⟨o,e,c,d⟩:=st;exact⟨o,e,λv z=>by rw [d] at z;cases z⟩
 keep:=λi h h' st k=>st.at λo e=>k it (by simp) o e
 item:=by
  intro X hP hw hK hc i pins s σ H E I hf st hg;subst hP hw hK;obtain⟨xs,x,hq,hx⟩:=hg;obtain⟨its,rv,p,hz⟩:=I.list hq;obtain⟨u,hu,ru⟩:=rv.get hx;obtain⟨f0,f1,f2,f3,f4,f5⟩:=hf it (by simp);refine wpAny_pyNext_list_item st p.isList (x:=u) (by simpa using hu) λh' st' sb=>?_
  have I1:Inv X pins σ H {s with heap:=h'}:=I.turned (t':=s.toks) (λb o hb e=>(sb.2 b hb).trans e) f0 f1 f3 f4 f5;obtain⟨o,e,c,d⟩:=id st';exact⟨u,rfl,zgg (s:={s with heap:=h'}) e c d (by decide) ⟨x,H,I1,ru,⟨rfl,λys hy=>by rw [I.list_inj hy hq];exact hx⟩,st',λb hb=>(hf b hb).1⟩⟩
 done:=by intro X hP hw hK hc i pins s σ H E I hf st hg;subst hP hw hK;obtain⟨xs,hq,hx⟩:=hg;obtain⟨its,rv,p,hz⟩:=I.list hq;obtain⟨f0,f1,f2,f3,f4,f5⟩:=hf it (by simp);have hl:=rv.length;exact wpAny_pyNext_list_end (I.ok.hd hc) st p.isList (by simp;omega) λh' eb=>⟨rfl,I.turned (t':=s.toks) (λb o hb e=>eb b o hb e) f0 f1 f3 f4 f5⟩
 self:=λ_ _ _ _ _ st h=>wpAny_pyIter_listiter st h
theorem zd2{P:Program}{w:World}{K:PySem.W.Frag}{tg:Expr}(a it:Addr):Turn P w K tg (Itt K a) [it] it (λi h=>h.IsTupleIter it a i) where
 mem:=by simp
 obj:=λi h st b hb=>by
  have e:b=it:=by simpa using hb
  subst e;obtain⟨o,e,c,d⟩:=st;exact⟨o,e,λv z=>by rw [d] at z;cases z⟩
 keep:=λi h h' st k=>st.at λo e=>k it (by simp) o e
 item:=by
  intro X hP hw hK hc i pins s σ H E I hf st hg;subst hP hw hK;obtain⟨xs,x,hq,hx⟩:=hg;obtain⟨its,rv,p,hz⟩:=I.tuple hq;obtain⟨u,hu,ru⟩:=rv.get hx;obtain⟨f0,f1,f2,f3,f4,f5⟩:=hf it (by simp);refine wpAny_pyNext_tuple_item st (show s.heap.IsTuple a its.toArray from p) (x:=u) (by simpa using hu) λh' st' sb=>?_
  have I1:Inv X pins σ H {s with heap:=h'}:=I.turned (t':=s.toks) (λb o hb e=>(sb.2 b hb).trans e) f0 f1 f3 f4 f5;obtain⟨o,e,c,d⟩:=id st';exact⟨u,rfl,zgg (s:={s with heap:=h'}) e c d (by decide) ⟨x,H,I1,ru,⟨rfl,λys hy=>by rw [I.tuple_inj hy hq];exact hx⟩,st',λb hb=>(hf b hb).1⟩⟩
 done:=by intro X hP hw hK hc i pins s σ H E I hf st hg;subst hP hw hK;obtain⟨xs,hq,hx⟩:=hg;obtain⟨its,rv,p,hz⟩:=I.tuple hq;obtain⟨f0,f1,f2,f3,f4,f5⟩:=hf it (by simp);have hl:=rv.length;exact wpAny_pyNext_tuple_end (I.ok.hd hc) st (show s.heap.IsTuple a its.toArray from p) (by simp;omega) λh' eb=>⟨rfl,I.turned (t':=s.toks) (λb o hb e=>eb b o hb e) f0 f1 f3 f4 f5⟩
 self:=λ_ _ _ _ _ st h=>wpAny_pyIter_tupleiter st h
theorem zdS{P:Program}{w:World}{K:PySem.W.Frag}{tg:Expr}(it:Addr)(lo:Int)(n:Nat):Turn P w K tg (Itr lo n) [it] it (λi h=>IsRangeIter h it (lo+(i:Nat)*1) ((n:Int)-(i:Nat)) 1) where
 mem:=by simp
 obj:=λi h st b hb=>by
  have e:b=it:=by simpa using hb
  subst e;exact⟨_,st,λv z=>by have z':Data.fields _=Data.cell v:=z;cases z'⟩
 keep:=λi h h' st k=>k it (by simp) _ st
 item:=by
  intro X hP hw hK hc i pins s σ H E I hf st hg;subst hP hw hK;obtain⟨f0,f1,f2,f3,f4,f5⟩:=hf it (by simp);have W:=Walks.range (prog:=X.prog) (w:=X.w) (I.ok.hd hc) it lo 1 n;refine W.item i s _ _ hg st λv h' tk hv st' kk=>?_
  obtain⟨t,rfl⟩:=hv;have I1:Inv X pins σ H {s with heap:=h',toks:=tk}:=I.turned (λb o hb e=>kk b o (by simpa using hb) e) f0 f1 f3 f4 f5;refine⟨_,rfl,zgg (s:={s with heap:=h',toks:=tk}) (n:="range_iterator") st' rfl rfl (by decide) ⟨.int (lo+i),H,I1,⟨t,?_⟩,⟨rfl,rfl⟩,st',λb hb=>(hf b hb).1⟩⟩;rw [Int.mul_one]
 done:=by intro X hP hw hK hc i pins s σ H E I hf st hg;subst hP hw hK;obtain⟨f0,f1,f2,f3,f4,f5⟩:=hf it (by simp);exact wpAny_pyNext_range_end (I.ok.hd hc) st (by have:n<=i:=hg;omega) λh' eb=>⟨rfl,I.turned (t':=s.toks) (λb o hb e=>eb b o hb e) f0 f1 f3 f4 f5⟩
 self:=λ_ _ _ _ _ st h=>wpAny_pyIter_rangeiter st h
section
variable {X:Cx} {tg:Expr}
def zns(K:PySem.W.Frag)(tl:TE):TI:=λσ H R=>tl σ H λx H1=>∃a,x= .ref a/\(∃xs,SqL K H1 a xs)/\R (Itl K a) H1
def zoi(K:PySem.W.Frag)(tl:TE):TI:=λσ H R=>tl σ H λx H1=>∃a,x= .ref a/\(∃xs,SqT K H1 a xs)/\R (Itt K a) H1
theorem zcy{l:Expr}{tl:TE}(hl:PE X l tl):PI X tg l (zns X.K tl):=by
 intro pins s σ H R I h;refine thn (hl pins s σ H _ I h) λv s1 ⟨x,H1,I1,r1,q1⟩=>?_
 obtain⟨a,e,⟨xs,hq⟩,q⟩:=q1;subst e;cases r1;obtain⟨its,rv,p,hz⟩:=I1.list hq;refine wpAny_pyIter_list p.isList ?_;refine⟨s1.heap.objs.size,[s1.heap.objs.size],_,_,H1,rfl,I1.kept (t':=s1.toks) λb o e=>lj _ e,zfs a _,⟨_,lz _ rfl,rfl,rfl⟩,λb hb=>?_,q⟩;have e:b=s1.heap.objs.size:=by simpa using hb
 subst e;exact I1.fpOk (lD _) (I1.hok.fresh (lD _))
theorem zk9{l:Expr}{tl:TE}(hl:PE X l tl):PI X tg l (zoi X.K tl):=by
 intro pins s σ H R I h;refine thn (hl pins s σ H _ I h) λv s1 ⟨x,H1,I1,r1,q1⟩=>?_
 obtain⟨a,e,⟨xs,hq⟩,q⟩:=q1;subst e;cases r1;obtain⟨its,rv,p,hz⟩:=I1.tuple hq;refine wpAny_pyIter_tuple (show s1.heap.IsTuple a its.toArray from p) ?_;refine⟨s1.heap.objs.size,[s1.heap.objs.size],_,_,H1,rfl,I1.kept (t':=s1.toks) λb o e=>lj _ e,zd2 a _,⟨_,lz _ rfl,rfl,rfl⟩,λb hb=>?_,q⟩;have e:b=s1.heap.objs.size:=by simpa using hb
 subst e;exact I1.fpOk (lD _) (I1.hok.fresh (lD _))
theorem zhH{pins:List (Addr×Obj)}{σ:St}{H:Hp}{s:Shared}{R:It->Hp->Prop}{E:Value->Shared->Prop}{lo hi:Int}{t u v:Tok}{tk:Nat}(I:Inv X pins σ H s)(h1: -(2^62)<=lo)(h2:lo<2^62)(h3: -(2^62)<=hi)(h4:hi<2^62)
 (q:R (Itr lo (hi-lo).toNat) H):wpAny (model X.prog X.w) X.A (pyIter (.ref s.heap.objs.size)) (PIE X pins σ tg R) E {s with heap:=s.heap.push {cls:=.type "range",data:=.fields #[.int lo t,.int hi u,.int 1 v]},toks:=tk}:=by
 refine wpAny_pyIter_range (IsRange.new ..) (small_one h1 h2 h3 h4) ?_;have I1:Inv X pins σ H {s with heap:=s.heap.push {cls:=.type "range",data:=.fields #[.int lo t,.int hi u,.int 1 v]},toks:=tk}:=I.kept λb o e=>lj _ e
 refine⟨(s.heap.push {cls:=.type "range",data:=.fields #[.int lo t,.int hi u,.int 1 v]}).objs.size,[(s.heap.push {cls:=.type "range",data:=.fields #[.int lo t,.int hi u,.int 1 v]}).objs.size],_,_,H,rfl,
  I1.kept (t':=tk) λb o e=>lj _ e,zdS _ lo (hi-lo).toNat,?_,λb hb=>?_,q⟩
 ·have e1:lo+((0:Nat):Int)*1=lo:=by simp
  have e2:(((hi-lo).toNat:Nat):Int)-((0:Nat):Int)=Builtin.Range.rangeSize lo hi 1:=by rw [rangeSize_one];split <;> omega
  show IsRangeIter _ _ (lo+((0:Nat):Int)*1) ((((hi-lo).toNat:Nat):Int)-((0:Nat):Int)) 1;rw [e1,e2];exact lz _ rfl
 ·have e:b=(s.heap.push {cls:=.type "range",data:=.fields #[.int lo t,.int hi u,.int 1 v]}).objs.size:=by simpa using hb
  subst e;exact I1.fpOk (lD _) (I1.hok.fresh (lD _))
def zmk(ta:TA):TI:=λσ H R=>ta σ H λvs H1=>∃j:Int,vs= [.int j]/\ -(2^62)<=j/\j<2^62/\R (Itr 0 j.toNat) H1
theorem zfh{a:Expr}{ta:TA}{p pos:Pos}(hg:Gl X "range")(hm:X.mg "range"=none)(ha:PA X [a] ta)(hs:starEach [a] X.env= [(false,eval a X.env)]:=by rfl):PI X tg (.Call (.Name "range" p) [a] [] pos) (zmk ta):=by
 intro pins s σ H R I h;refine Call_ (VS I hg hm boot_range (y6 (thn (ha pos pins s σ H _ I h) λus s1 ⟨vs,H1,I1,r1,q1⟩=>?_) hs rfl));obtain⟨j,e,q1,q2,q⟩:=q1;subst e;cases r1 with
 |cons r rr=>
  cases rr;obtain⟨t,rfl⟩:=r;exact call_range_1 (zhH I1 (by omega) (by omega) q1 q2 (by simpa using q))
def zoU(wi:TI)(g:TG)(tb:TS):TS:=λD σ H=>wi σ H λJ H1=>∃W:Nat->Nat->St->Hp->Prop,(∃m,W 0 m σ H1)/\∀i m σ H,W i m σ H->
 (J.stop i H/\D.nx σ H)\/(J.go i H/\∃N:St->Hp->Prop,(∀σ' H',N σ' H'->∃m',m'<m/\W (i+1) m' σ' H')/\∀x H',J.yld i H x H'->g x σ H' λσ2 H2=>tb {D with nx:=N,ct:=N,bk:=D.nx} σ2 H2)
def K9(fp:List Addr)(h:Heap):List (Addr×Obj):=fp.filterMap λb=>(h.get? b).map λo=>(b,o)
theorem ZV{fp:List Addr}{h:Heap}{b:Addr}{o:Obj}(hb:b∈fp)(e:h.get? b=some o):(b,o)∈K9 fp h:=Yi.mpr ⟨b,hb,by rw [e];rfl⟩
theorem zfQ{fp:List Addr}{h:Heap}{p:Addr×Obj}(hp:p∈K9 fp h):p.1∈fp/\h.get? p.1=some p.2:=by
 obtain⟨b,hb,e⟩:=Yi.mp hp;cases q:h.get? b with
 |none=>rw [q] at e;cases e
 |some o=>
  rw [q] at e;have e':(b,o)=p:=Option.some.inj e;subst e';exact⟨hb,q⟩
theorem Inv.pinned{pins:List (Addr×Obj)}{σ:St}{H:Hp}{s:Shared}{fp:List Addr}(I:Inv X pins σ H s)(hf:∀b∈fp,KA X pins H b)(ho:∀b∈fp,∃o,s.heap.get? b=some o/\∀v,o.data≠ .cell v):Inv X (pins++K9 fp s.heap) σ H s:=
 I.pins_of λp hp=>(yd.mp hp).elim (λz=>I.pin p (lX _ z)) λz=>by obtain⟨hb,e⟩:=zfQ z;obtain⟨f0,f1,f2,_⟩:=hf p.1 hb;obtain⟨o,e',d⟩:=ho p.1 hb;rw [e] at e';cases e';exact⟨e,f0,f1,f2,d⟩
theorem Inv.unpinned{pins pl:List (Addr×Obj)}{σ:St}{H:Hp}{s:Shared}(I:Inv X (pins++pl) σ H s):Inv X pins σ H s:=I.pins_of λp hp=>I.pin p (lX _ (yB _ hp))
theorem zmh{iter:Expr}{body:List Stmt}{wi:TI}{g:TG}{tb:TS}{pos:Pos}(hp:PassesOwn (model X.prog X.w) X.A X.env X.xe)(hc:X.calm=true)(hi:PI X tg iter wi)(hg:PG X tg g)(hb:PSs X body tb)
 (hs:∀x,foldedSetIterable iter X.env x=pure x:=by intro _;rfl):PS X (.For tg iter body [] pos) (zoU wi g tb):=by
 intro pins s σ H D I h;refine wpAny_For (thn (hi pins s σ H _ I h) λv s1 h1=>thn h1 λitv s2 h2=>?_) hs;obtain⟨it,fp,tn,J,H2,e,I2,T,st2,f2,W,⟨m0,w0⟩,turn⟩:=h2;subst e;have stat:∀{H':Hp},(∀b∈fp,H' b=none)->∀b∈fp,KA X pins H' b:=λhn b hb=>⟨hn b hb,(f2 b hb).2⟩
 refine codeAny_forLoop_any (λn s'=>∃i σ' H',Inv X pins σ' H' s'/\tn i s'.heap/\(∀b∈fp,H' b=none)/\W i n σ' H') ?_ m0 ⟨0,σ,H2,I2,st2,λb hb=>(f2 b hb).1,w0⟩;rintro n s3 ⟨i,σ3,H3,I3,st3,fr3,w3⟩;rcases turn i n σ3 H3 w3 with⟨stop,qn⟩|⟨go,N,hN,step⟩
 ·refine wpAny_passesOwn hp (thn (T.done X rfl rfl rfl hc i pins s3 σ3 H3 X.xe I3 (stat fr3) st3 stop) λr s4 ⟨hr,I4⟩=>?_);subst hr;exact wpAny_execs_nil ⟨σ3,H3,I4,qn⟩
 ·refine wpAny_passesOwn hp (thn (T.item X rfl rfl rfl hc i pins s3 σ3 H3 X.xe I3 (stat fr3) st3 go) λr s4 ⟨u,hr,h4⟩=>?_);subst hr;refine wpAny_passesOwn hp (thn h4 λ_ s5 ⟨x,H5,I5,r5,y5,st5,fr5⟩=>?_);have I5':=I5.pinned (stat fr5) (T.obj _ _ st5);refine wpAny_passesOwn hp (thn (hg _ s5 σ3 H5 x u _ I5' r5 (step x H5 y5)) λ_ s6 ⟨σ6,H6,I6,q6⟩=>?_);refine wpAny_passesOwn hp (thn (hb _ s6 σ6 H6 _ I6 q6) λf s7 q7=>?_);have again:∀{σ7:St} {H7:Hp},Inv X (pins++K9 fp s5.heap) σ7 H7 s7->N σ7 H7->∃m,m<n/\∃i σ' H',Inv X pins σ' H' s7/\tn i s7.heap/\(∀b∈fp,H' b=none)/\W i m σ' H':=λ{σ7 H7} I7 n7=>by obtain⟨m',hm,w7⟩:=hN σ7 H7 n7;refine⟨m',hm,i+1,σ7,H7,I7.unpinned,T.keep _ _ _ st5 λb hb o e=>(I7.pin (b,o) (lX _ (lX _ (ZV hb e)))).1,λb hb=>?_,w7⟩;obtain⟨o,e,d⟩:=T.obj _ _ st5 b hb;exact(I7.pin (b,o) (lX _ (lX _ (ZV hb e)))).2.1
  cases f with
  |next=>obtain⟨σ7,H7,I7,n7⟩:=q7;exact again I7 n7
  |cont=>obtain⟨σ7,H7,I7,n7⟩:=q7;exact again I7 n7
  |brk=>obtain⟨σ7,H7,I7,q7⟩:=q7;exact⟨σ7,H7,I7.unpinned,q7⟩
  |ret v=>obtain⟨x7,σ7,H7,I7,r7,q7⟩:=q7;exact⟨x7,σ7,H7,I7.unpinned,r7,q7⟩
end
abbrev R2:=V->V->Hp->VK->Prop
def OpR(X:Cx)(f:Value->Value->Sem Value)(r:R2):Prop:=
 ∀(pins:List (Addr×Obj)) (s:Shared) (σ:St) (H:Hp) (x y:V) (v u:Value) (Q:VK),Inv X pins σ H s->RelV x v->RelV y u->r x y H Q->
  wpAny (model X.prog X.w) X.A (f v u) (EP X pins σ Q) X.xe s
def UnR(X:Cx)(f:Value->Sem Value)(r:V->Hp->VK->Prop):Prop:=
 ∀(pins:List (Addr×Obj)) (s:Shared) (σ:St) (H:Hp) (x:V) (v:Value) (Q:VK),Inv X pins σ H s->RelV x v->r x H Q->
  wpAny (model X.prog X.w) X.A (f v) (EP X pins σ Q) X.xe s
def Zj(X:Cx)(f:Value)(r:List V->Hp->VK->Prop):Prop:=
 ∀(pins:List (Addr×Obj)) (s:Shared) (σ:St) (H:Hp) (xs:List V) (us:List Value) (Q:VK),Inv X pins σ H s->Vals xs us->r xs H Q->
  wpAny (model X.prog X.w) X.A (call f us) (EP X pins σ Q) X.xe s
def tOp(r:R2)(ta tb:TE):TE:=λσ H Q=>ta σ H λx H1=>tb σ H1 λy H2=>r x y H2 Q
def tUn(r:V->Hp->VK->Prop)(ta:TE):TE:=λσ H Q=>ta σ H λx H1=>r x H1 Q
def rI(C:Int->Int->Prop)(g:Int->Int->V):R2:=λx y H Q=>∃i j,x= .int i/\y= .int j/\C i j/\Q (g i j) H
def rI0(g:Int->Int->V):R2:=λx y H Q=>∃i j,x= .int i/\y= .int j/\Q (g i j) H
def rU(g:Int->V):V->Hp->VK->Prop:=λx H Q=>∃i,x= .int i/\Q (g i) H
section
variable {X:Cx} {a b c:Expr} {ta tb tc:TE} {pos:Pos}
theorem znz(ha:PE X a ta)(hb:PE X b tb){pins:List (Addr×Obj)}{s:Shared}{σ:St}{H:Hp}{R:V->V->Hp->Prop}(I:Inv X pins σ H s)
 (h:ta σ H λx H1=>tb σ H1 λy H2=>R x y H2) {Q:Value->Shared->Prop} {f:Value->Value->Sem Value}
 (hf:∀v u s2 x y H2,Inv X pins σ H2 s2->RelV x v->RelV y u->R x y H2->wpAny (model X.prog X.w) X.A (f v u) Q X.xe s2):
 wpAny (model X.prog X.w) X.A (eval a X.env) (λv s₁=>wpAny (model X.prog X.w) X.A (eval b X.env) (λu s₂=>wpAny (model X.prog X.w) X.A (f v u) Q X.xe s₂) X.xe s₁) X.xe s:=by
 refine thn (ha pins s σ H _ I h) λv s1 ⟨x,H1,I1,r1,q1⟩=>?_
 refine thn (hb pins s1 σ H1 _ I1 q1) λu s2 ⟨y,H2,I2,r2,q2⟩=>?_
 exact hf v u s2 x y H2 I2 r1 r2 q2
theorem zmY{op:Operator}{r:R2}(ho:OpR X (binaryOp op) r)(ha:PE X a ta)(hb:PE X b tb):PE X (.BinOp a op b pos) (tOp r ta tb):=by intro pins s σ H Q I h;exact wpAny_BinOp (znz ha hb I h λv u s2 x y H2 I2 rx ry q=>ho pins s2 σ H2 x y v u Q I2 rx ry q)
theorem zlu{op:UnaryOp}{r:V->Hp->VK->Prop}(ho:UnR X (unaryOp op) r)(ha:PE X a ta):PE X (.UnaryOp op a pos) (tUn r ta):=by intro pins s σ H Q I h;exact UnaryOp_ (thn (ha pins s σ H _ I h) λv s1 ⟨x,H1,I1,r1,q1⟩=>ho pins s1 σ H1 x v Q I1 r1 q1)
theorem opI{f:Value->Value->Sem Value}{C:Int->Int->Prop}{g:Int->Int->Int}
 (rule:∀(i j:Int) (t u:Tok) (s:Shared) (Q:Value->Shared->Prop) (E:Value->Shared->Prop),C i j->Q (.int (g i j) s.toks) {s with toks:=s.toks+1}->wpAny (model X.prog X.w) X.A (f (.int i t) (.int j u)) Q E s):
 OpR X f (rI C λi j=>.int (g i j)):=by
 intro pins s σ H x y v u Q I rx ry h;obtain⟨i,j,rfl,rfl,hc,q⟩:=h;obtain⟨t,rfl⟩:=rx;obtain⟨t',rfl⟩:=ry;exact rule i j t t' s _ _ hc ⟨.int (g i j),H,I.tok _,⟨_,rfl⟩,q⟩
theorem znS{f:Value->Value->Sem Value}{g:Int->Int->Int}
 (rule:∀(i j:Int) (t u:Tok) (s:Shared) (Q:Value->Shared->Prop) (E:Value->Shared->Prop),Q (.int (g i j) s.toks) {s with toks:=s.toks+1}->wpAny (model X.prog X.w) X.A (f (.int i t) (.int j u)) Q E s):
 OpR X f (rI0 λi j=>.int (g i j)):=by
 intro pins s σ H x y v u Q I rx ry h;obtain⟨i,j,rfl,rfl,q⟩:=h;obtain⟨t,rfl⟩:=rx;obtain⟨t',rfl⟩:=ry;exact rule i j t t' s _ _ ⟨.int (g i j),H,I.tok _,⟨_,rfl⟩,q⟩
theorem zmw{f:Value->Value->Sem Value}{g:Int->Int->Bool}
 (rule:∀(i j:Int) (t u:Tok) (s:Shared) (Q:Value->Shared->Prop) (E:Value->Shared->Prop),Q (.bool (g i j)) s->wpAny (model X.prog X.w) X.A (f (.int i t) (.int j u)) Q E s):
 OpR X f (rI0 λi j=>.bl (g i j)):=by
 intro pins s σ H x y v u Q I rx ry h;obtain⟨i,j,rfl,rfl,q⟩:=h;obtain⟨t,rfl⟩:=rx;obtain⟨t',rfl⟩:=ry;exact rule i j t t' s _ _ ⟨.bl (g i j),H,I,rfl,q⟩
def zoM(i j:Int):Prop:=0<=j/\j<=1000000/\i.natAbs<2^64
theorem zlw:OpR X (binaryOp .Add) (rI0 λi j=>.int (i+j)):=znS λ_ _ _ _ _ _ _ q=>add_int q
theorem zkI:OpR X (binaryOp .Sub) (rI0 λi j=>.int (i-j)):=znS λ_ _ _ _ _ _ _ q=>sub_int q
theorem zlS:OpR X (binaryOp .Mod) (rI (λ_ j=>0<j) λi j=>.int (i%j)):=opI λi j _ _ _ _ _ hc q=>by have h1:(0:Int)<j:=hc;exact mod_int' (by omega) (by rw [Int.fmod_eq_emod_of_nonneg i (by omega)];exact q)
theorem zlF:OpR X (binaryOp .Pow) (rI zoM λi j=>.int (i^j.toNat)):=opI λ_ _ _ _ _ _ _ hc q=>pow_int_small hc.1 hc.2.1 hc.2.2 q
theorem unI{f:Value->Sem Value}{g:Int->Int}
 (rule:∀(i:Int) (t:Tok) (s:Shared) (Q:Value->Shared->Prop) (E:Value->Shared->Prop),Q (.int (g i) s.toks) {s with toks:=s.toks+1}->wpAny (model X.prog X.w) X.A (f (.int i t)) Q E s):
 UnR X f (rU λi=>.int (g i)):=by
 intro pins s σ H x v Q I rx h;obtain⟨i,rfl,q⟩:=h;obtain⟨t,rfl⟩:=rx;exact rule i t s _ _ ⟨.int (g i),H,I.tok _,⟨_,rfl⟩,q⟩
theorem zi0:UnR X (unaryOp .USub) (rU λi=>.int (-i)):=unI λ_ _ _ _ _ q=>neg_int q
end
def zn6:V->V->Bool
 | .non,.non=>true| .non,.int _=>true| .int _,.non=>true| .non,.bl _=>true| .bl _,.non=>true| .non,.str _=>true| .str _,.non=>true
 | .int _,.int _=>true| .bl _,.bl _=>true| .str _,.str _=>true| .byt _,.byt _=>true
 | .int _,.str _=>true| .str _,.int _=>true| .bl _,.str _=>true| .str _,.bl _=>true
 |_,_=>false
def rEq:R2:=λx y H Q=>zn6 x y=true/\Q (.bl (decide (x=y))) H
def rNe:R2:=λx y H Q=>zn6 x y=true/\Q (.bl (!decide (x=y))) H
theorem zfG{i j:Int}:decide (V.int i=V.int j)=(i==j):=by rw [La];simp
theorem ziv{i j:Bool}:decide (V.bl i=V.bl j)=(i==j):=by rw [La];simp
theorem zaq{i j:Str}:decide (V.str i=V.str j)=(i==j):=by rw [La];simp
theorem ze2{i j:Array UInt8}:decide (V.byt i=V.byt j)=(i.toList==j.toList):=by rw [La];cases i;cases j;simp
section
variable {X:Cx} {a b c:Expr} {ta tb tc:TE} {pos:Pos}
theorem qQ{pins:List (Addr×Obj)}{σ:St}{H:Hp}{s:Shared}{Q:VK}{k k':Bool}(I:Inv X pins σ H s)(q:Q (.bl k) H)(e:k=k'):EP X pins σ Q (.bool k') s:=by subst e;exact⟨.bl k,H,I,rfl,q⟩
theorem zmP:OpR X (compareOp .Eq) rEq:=by
 intro pins s σ H x y v u Q I rx ry h;obtain⟨hs,q⟩:=h;cases x with
 |non=>
  cases rx;cases y with
  |non=>cases ry;exact PySem.EqNone.eq_none_none (qQ I q (by simp))
  |bl j=>cases ry;exact PySem.EqNone.eq_none_bool (qQ I q (by simp))
  |int j=>obtain⟨t',rfl⟩:=ry;exact PySem.EqNone.eq_none_int (qQ I q (by simp))
  |str j=>obtain⟨t',rfl⟩:=ry;exact PySem.EqNone.eq_none_str (qQ I q (by simp))
  |_=>exact absurd (show false=true from hs) lE
 |bl i=>
  cases rx;cases y with
  |non=>cases ry;exact PySem.EqNone.eq_bool_none (qQ I q (by simp))
  |bl j=>cases ry;exact eq_bool (qQ I q ziv)
  |str j=>obtain⟨t',rfl⟩:=ry;exact PySem.EqMixed.eq_bool_str (qQ I q (by simp))
  |_=>exact absurd (show false=true from hs) lE
 |int i=>
  obtain⟨t,rfl⟩:=rx;cases y with
  |non=>cases ry;exact PySem.EqNone.eq_int_none (qQ I q (by simp))
  |int j=>obtain⟨t',rfl⟩:=ry;exact eq_int (qQ I q zfG)
  |str j=>obtain⟨t',rfl⟩:=ry;exact PySem.EqMixed.eq_int_str (qQ I q (by simp))
  |_=>exact absurd (show false=true from hs) lE
 |str i=>
  obtain⟨t,rfl⟩:=rx;cases y with
  |non=>cases ry;exact PySem.EqNone.eq_str_none (qQ I q (by simp))
  |bl j=>cases ry;exact PySem.EqMixed.eq_str_bool (qQ I q (by simp))
  |int j=>obtain⟨t',rfl⟩:=ry;exact PySem.EqMixed.eq_str_int (qQ I q (by simp))
  |str j=>obtain⟨t',rfl⟩:=ry;exact eq_str (qQ I q zaq)
  |_=>exact absurd (show false=true from hs) lE
 |byt i=>
  obtain⟨t,rfl⟩:=rx;cases y with
  |byt j=>obtain⟨t',rfl⟩:=ry;exact PySem.W.eq_bytes (qQ I q ze2)
  |_=>exact absurd (show false=true from hs) lE
 |_=>cases y <;> exact absurd (show false=true from hs) lE
theorem zm9:OpR X (compareOp .NotEq) rNe:=by
 intro pins s σ H x y v u Q I rx ry h;obtain⟨hs,q⟩:=h;cases x with
 |non=>
  cases rx;cases y with
  |non=>cases ry;exact PySem.EqNone.ne_none_none (qQ I q (by simp))
  |bl j=>cases ry;exact PySem.EqNone.ne_none_bool (qQ I q (by simp))
  |int j=>obtain⟨t',rfl⟩:=ry;exact PySem.EqNone.ne_none_int (qQ I q (by simp))
  |str j=>obtain⟨t',rfl⟩:=ry;exact PySem.EqNone.ne_none_str (qQ I q (by simp))
  |_=>exact absurd (show false=true from hs) lE
 |bl i=>
  cases rx;cases y with
  |non=>cases ry;exact PySem.EqNone.ne_bool_none (qQ I q (by simp))
  |bl j=>cases ry;exact ne_bool (qQ I q (congrArg not ziv))
  |str j=>obtain⟨t',rfl⟩:=ry;exact PySem.EqMixed.ne_bool_str (qQ I q (by simp))
  |_=>exact absurd (show false=true from hs) lE
 |int i=>
  obtain⟨t,rfl⟩:=rx;cases y with
  |non=>cases ry;exact PySem.EqNone.ne_int_none (qQ I q (by simp))
  |int j=>obtain⟨t',rfl⟩:=ry;exact ne_int (qQ I q (congrArg not zfG))
  |str j=>obtain⟨t',rfl⟩:=ry;exact PySem.EqMixed.ne_int_str (qQ I q (by simp))
  |_=>exact absurd (show false=true from hs) lE
 |str i=>
  obtain⟨t,rfl⟩:=rx;cases y with
  |non=>cases ry;exact PySem.EqNone.ne_str_none (qQ I q (by simp))
  |bl j=>cases ry;exact PySem.EqMixed.ne_str_bool (qQ I q (by simp))
  |int j=>obtain⟨t',rfl⟩:=ry;exact PySem.EqMixed.ne_str_int (qQ I q (by simp))
  |str j=>obtain⟨t',rfl⟩:=ry;exact ne_str (qQ I q (congrArg not zaq))
  |_=>exact absurd (show false=true from hs) lE
 |byt i=>
  obtain⟨t,rfl⟩:=rx;cases y with
  |byt j=>obtain⟨t',rfl⟩:=ry;exact PySem.W.ne_bytes (qQ I q (congrArg not ze2))
  |_=>exact absurd (show false=true from hs) lE
 |_=>cases y <;> exact absurd (show false=true from hs) lE
theorem znp:OpR X (compareOp .Lt) (rI0 λi j=>.bl (decide (i<j))):=zmw λ_ _ _ _ _ _ _ q=>lt_int q
theorem znr:OpR X (compareOp .LtE) (rI0 λi j=>.bl (decide (i<=j))):=zmw λ_ _ _ _ _ _ _ q=>le_int q
theorem znn:OpR X (compareOp .Gt) (rI0 λi j=>.bl (decide (j<i))):=zmw λ_ _ _ _ _ _ _ q=>gt_int q
theorem znd:OpR X (compareOp .GtE) (rI0 λi j=>.bl (decide (j<=i))):=zmw λ_ _ _ _ _ _ _ q=>ge_int q
theorem zfq:OpR X (compareOp .Lt) (λx y H Q=>∃i j,x= .str i/\y= .str j/\Q (.bl (decide (i.cps.toList<j.cps.toList))) H):=by intro pins s σ H x y v u Q I rx ry h;obtain⟨i,j,rfl,rfl,q⟩:=h;obtain⟨t,rfl⟩:=rx;obtain⟨t',rfl⟩:=ry;exact lt_str (qQ I q rfl)
theorem zlq:OpR X (compareOp .Is) (λx y H Q=>y= .non/\Q (.bl (decide (x= .non))) H):=by
 intro pins s σ H x y v u Q I rx ry h;obtain⟨rfl,q⟩:=h;cases ry;refine is_none_gen (qQ I q ?_)
 cases x <;> first
  |(cases rx;rfl)
  |(obtain⟨t,rfl⟩:=rx;rfl)
theorem zj3:OpR X (compareOp .IsNot) (λx y H Q=>y= .non/\Q (.bl (!decide (x= .non))) H):=by
 intro pins s σ H x y v u Q I rx ry h;obtain⟨rfl,q⟩:=h;cases ry;refine isnot_none_gen (qQ I q ?_)
 cases x <;> first
  |(cases rx;rfl)
  |(obtain⟨t,rfl⟩:=rx;rfl)
theorem OpR.or{f:Value->Value->Sem Value}{r r':R2}(h:OpR X f r)(h':OpR X f r'):OpR X f (λx y H Q=>r x y H Q\/r' x y H Q):=by
 intro pins s σ H x y v u Q I rx ry q;rcases q with q|q
 ·exact h pins s σ H x y v u Q I rx ry q
 ·exact h' pins s σ H x y v u Q I rx ry q
theorem ziA(b:Expr){op:CmpOp}(h:op≠ .In:=by decide)(h2:op≠ .NotIn:=by decide):behindInMarks op b=false:=by
 have e1:(op==CmpOp.In)=false:=by cases op <;> first|rfl|exact absurd rfl h
 have e2:(op==CmpOp.NotIn)=false:=by cases op <;> first|rfl|exact absurd rfl h2
 cases b <;> simp [behindInMarks,e1,e2]
theorem zkw{op:CmpOp}{r:R2}(ho:OpR X (compareOp op) r)(ha:PE X a ta)(hb:PE X b tb)(hm:behindInMarks op b=false):PE X (.Compare a [op] [b] pos) (tOp r ta tb):=by intro pins s σ H Q I h;exact wpAny_Compare1 (znz ha hb I h λv u s2 x y H2 I2 rx ry q=>ho pins s2 σ H2 x y v u Q I2 rx ry q) hm
def zkT(t:TE):TT:=λσ H Q=>t σ H λx H'=>∃k,x= .bl k/\Q k H'
theorem zj4{op:CmpOp}{r:R2}(ho:OpR X (compareOp op) r)(ha:PE X a ta)(hb:PE X b tb)(hm:behindInMarks op b=false):PT X (.Compare a [op] [b] pos) (zkT (tOp r ta tb)):=by
 intro pins s σ H Q I h
 refine wpAny_isTrue_Compare1 (thn (ha pins s σ H _ I h) λv s1 ⟨x,H1,I1,r1,q1⟩=>thn (hb pins s1 σ H1 _ I1 q1) λu s2 ⟨y,H2,I2,r2,q2⟩=>
  thn (ho pins s2 σ H2 x y v u _ I2 r1 r2 q2) λc s3 ⟨z,H3,I3,r3,k,e,q3⟩=>?_) hm
 subst e;cases r3;exact wpAny_truthy_bool ⟨H3,I3,q3⟩
def ziG(r r':R2)(ta tb tc:TE):TE:=λσ H Q=>ta σ H λx H1=>tb σ H1 λy H2=>r x y H2 λz H3=>∃k,z= .bl k/\
 (if k=true then tc σ H3 λw' H4=>r' y w' H4 Q else Q (.bl false) H3)
theorem zhs{op op':CmpOp}{r r':R2}(ho:OpR X (compareOp op) r)(ho':OpR X (compareOp op') r')(ha:PE X a ta)(hb:PE X b tb)(hc:PE X c tc)
 (hm:lastMarks [op,op'] [b,c]=false:=by with_unfolding_all rfl):PE X (.Compare a [op,op'] [b,c] pos) (ziG r r' ta tb tc):=by
 intro pins s σ H Q I h
 refine Compare_chain (thn (ha pins s σ H _ I h) λv s1 ⟨x,H1,I1,r1,q1⟩=>chain_link (thn (hb pins s1 σ H1 _ I1 q1) λu s2 ⟨y,H2,I2,r2,q2⟩=>
  thn (ho pins s2 σ H2 x y v u _ I2 r1 r2 q2) λd s3 ⟨z,H3,I3,r3,k,e,q3⟩=>?_)) hm
 subst e;cases r3;refine wpAny_truthy_bool ?_;cases k with
 |false=>exact ite_ff ⟨.bl false,H3,I3,rfl,q3⟩
 |true=>exact ite_tt (chain_last (thn (hc pins s3 σ H3 _ I3 q3) λw' s4 ⟨z',H4,I4,r4,q4⟩=>ho' pins s4 σ H4 y z' u w' Q I4 r2 r4 q4))
theorem zhB{op op':CmpOp}{r r':R2}(ho:OpR X (compareOp op) r)(ho':OpR X (compareOp op') r')(ha:PE X a ta)(hb:PE X b tb)(hc:PE X c tc)
 (hm:lastMarks [op,op'] [b,c]=false:=by with_unfolding_all rfl):PT X (.Compare a [op,op'] [b,c] pos) (zkT (ziG r r' ta tb tc)):=by
 intro pins s σ H Q I h
 refine isTrue_chain (thn (ha pins s σ H _ I h) λv s1 ⟨x,H1,I1,r1,q1⟩=>test_link (thn (hb pins s1 σ H1 _ I1 q1) λu s2 ⟨y,H2,I2,r2,q2⟩=>
  thn (ho pins s2 σ H2 x y v u _ I2 r1 r2 q2) λd s3 ⟨z,H3,I3,r3,k,e,q3⟩=>?_)) hm
 subst e;cases r3;refine wpAny_truthy_bool ?_;cases k with
 |false=>
  obtain⟨k',e',q'⟩:=q3;cases e';exact ite_ff ⟨H3,I3,q'⟩
 |true=>
  refine ite_tt (test_last (thn (hc pins s3 σ H3 _ I3 q3) λw' s4 ⟨z',H4,I4,r4,q4⟩=>thn (ho' pins s4 σ H4 y z' u w' _ I4 r2 r4 q4) λd' s5 ⟨z2,H5,I5,r5,k2,e2,q5⟩=>?_));subst e2;cases r5;exact wpAny_truthy_bool ⟨H5,I5,q5⟩
theorem VL:(sizeLine:Nat)<2^63:=by rw [sizeLine_eq];decide
theorem zeb:OpR X (binaryOp .Add) (λx y H Q=>∃i j,x= .str i/\y= .str j/\i.length+j.length<=sizeLine/\Q (.str (i++j)) H):=by intro pins s σ H x y v u Q I rx ry h;obtain⟨i,j,rfl,rfl,hz,q⟩:=h;obtain⟨t,rfl⟩:=rx;obtain⟨t',rfl⟩:=ry;exact add_str (λt' tk=>⟨.str (i++j),H,I.tok _,⟨_,rfl⟩,q⟩) hz
theorem vals1{x:V}{us:List Value}(r:Vals [x] us):∃u,us= [u]/\RelV x u:=by
 cases r with
 |cons r1 r2=>cases r2;exact⟨_,rfl,r1⟩
theorem vals2{x y:V}{us:List Value}(r:Vals [x,y] us):∃u w',us= [u,w']/\RelV x u/\RelV y w':=by
 cases r with
 |cons r1 r2=>
  cases r2 with
  |cons r3 r4=>cases r4;exact⟨_,_,rfl,r1,r3⟩
theorem zey(hc:X.calm=true):Zj X (.builtin "max") (λxs H Q=>∃i j,xs= [.int i,.int j]/\Q (.int (if j>i then j else i)) H):=by
 intro pins s σ H xs us Q I r h;obtain⟨i,j,rfl,q⟩:=h;obtain⟨u,w',rfl,⟨t,rfl⟩,⟨t',rfl⟩⟩:=vals2 r;refine max_two_ints (I.ok.hd hc) λh' tk k=>⟨_,H,I.kept k,?_,q⟩
 by_cases hj:j>i
 ·rw [if_pos hj,if_pos hj];exact⟨_,rfl⟩
 ·rw [if_neg hj,if_neg hj];exact⟨_,rfl⟩
theorem zgk(hc:X.calm=true):Zj X (.builtin "min") (λxs H Q=>∃i j,xs= [.int i,.int j]/\Q (.int (if j<i then j else i)) H):=by
 intro pins s σ H xs us Q I r h;obtain⟨i,j,rfl,q⟩:=h;obtain⟨u,w',rfl,⟨t,rfl⟩,⟨t',rfl⟩⟩:=vals2 r;refine min_two_ints (I.ok.hd hc) λh' tk k=>⟨_,H,I.kept k,?_,q⟩
 by_cases hj:j<i
 ·rw [if_pos hj,if_pos hj];exact⟨_,rfl⟩
 ·rw [if_neg hj,if_neg hj];exact⟨_,rfl⟩
theorem zbg:Zj X (.type "int") (λxs H Q=>(∃i,xs= [.int i]/\Q (.int i) H)\/∃k,xs= [.bl k]/\Q (.int (if k then 1 else 0)) H):=by
 intro pins s σ H xs us Q I r h;rcases h with⟨i,rfl,q⟩|⟨k,rfl,q⟩
 ·obtain⟨u,rfl,t,rfl⟩:=vals1 r;exact call_int_int ⟨.int i,H,I,⟨_,rfl⟩,q⟩
 ·obtain⟨u,rfl,r1⟩:=vals1 r;cases r1;exact call_int_bool ⟨.int (if k then 1 else 0),H,I.tok _,⟨_,rfl⟩,q⟩
theorem za9:Zj X (.type "str") (λxs H Q=>∃i,xs= [.int i]/\i.natAbs.log2<1920/\Q (.str (toString i)) H):=by intro pins s σ H xs us Q I r h;obtain⟨i,rfl,hz,q⟩:=h;obtain⟨u,rfl,t,rfl⟩:=vals1 r;exact PySem.P.str_of_int hz ⟨.str _,H,I.tok _,⟨_,rfl⟩,q⟩
end
structure ObjM (h:Heap) (x dx C:Addr) (mA:Str->Option Value):Prop where
 obj:h.get? x=some (PySem.W.instObj C dx)
 ns:h.Ns1 dx mA
 ne:dx≠x
theorem zeV{h:Heap}{dx:Addr}{mA:Str->Option Value}(n:h.Ns1 dx mA):∃od,h.get? dx=some od/\∀name,PySem.W.lookIn name od=some (mA name):=by
 obtain⟨o,es,ep,ho,hd,hk,_,hm⟩:=n;refine⟨o,ho,λname=>?_⟩;have e:=hm name;unfold nsFind findBy at e;rw [<-Array.find?_toList] at e;unfold PySem.W.lookIn;rw [hd];dsimp only;split
 ·rename_i y q;rw [q] at e;exact congrArg some e
 ·rename_i q;rw [q] at e;have a:es.toList.any (·.refKey)=false:=by rw [List.any_eq_false];intro y hy;obtain⟨z,t,hkey⟩:=hk y (Array.mem_toList_iff.mp hy);simp [DictEntry.refKey,hkey]
  have a':¬es.toList.any (·.refKey)=true:=by rw [a];exact lE
  rw [if_neg a'];exact congrArg some e
theorem ObjM.look{h:Heap}{x dx C:Addr}{mA:Str->Option Value}(I:ObjM h x dx C mA):∃od,PySem.W.InstAt h x (PySem.W.instObj C dx) C (some od)/\∀name,PySem.W.lookIn name od=some (mA name):=
 let⟨od,ho,hl⟩:=zeV I.ns
 ⟨od,⟨I.obj,rfl,rfl,ho⟩,hl⟩
section
variable {prog:Program} {w:World} {A:Around} {E:Value->Shared->Prop} {s:Shared} {K:PySem.W.Frag} {x dx C f:Addr} {mA:Str->Option Value} {name:Str} {v:Value}
end
section
variable {P:Program} {w:World} {H H':Hp} {h h':Heap} {a C dx:Addr} {fs fs':List (Str×V)}
theorem zjT(hok:HOk P w H h)(e:H a=some (.ins C dx fs)):∃mA,ObjM h a dx C mA/\(∀f,zhI (fs.lookup f) (mA f))/\PySem.Within mA (fs.map (·.1))/\fs.length<=1000/\H dx=some (.own a):=by obtain⟨d,z,ne,ob,mA,n,r,q⟩:=(show kE P w H h a (.ins C dx fs) from hok a _ e);exact⟨mA,⟨ob,n,ne⟩,r,q,z,d⟩
end
structure Cls (K:PySem.W.Frag) (C:Addr):Prop where
 pg:PySem.W.plainGet K C Str.empty=true
 hd:PySem.W.hasDictIn K C=true
 po:PySem.W.plainOver K C=true
 sa:PySem.W.findIn K (.ref C) "__setattr__"=some (some (.builtin "object.__setattr__"))
theorem Cls.get{K:PySem.W.Frag}{C:Addr}(c:Cls K C)(f:Str):PySem.W.plainGet K C f=true:=c.pg
section
variable {X:Cx} {pins:List (Addr×Obj)} {σ:St} {H:Hp} {s:Shared} {a C dx:Addr} {fs:List (Str×V)} {f:Str} {v:V} {A:Around} {E:Value->Shared->Prop}
theorem Inv.made(I:Inv X pins σ H s):Inv X pins σ (upd (upd H s.heap.objs.size (.own (s.heap.objs.size+1))) (s.heap.objs.size+1) (.ins C s.heap.objs.size []))
 {s with heap:=(s.heap.push PySem.W.emptyDict).push (PySem.W.instObj C s.heap.objs.size)}:=by
 have e1:(s.heap.push PySem.W.emptyDict).get? s.heap.objs.size=some PySem.W.emptyDict:=lz s.heap rfl;have e2:((s.heap.push PySem.W.emptyDict).push (PySem.W.instObj C s.heap.objs.size)).get? (s.heap.objs.size+1)=some (PySem.W.instObj C s.heap.objs.size):=by have:=lz (s.heap.push PySem.W.emptyDict) (o:=PySem.W.instObj C s.heap.objs.size) rfl;rwa [lT] at this
 have e3:(s.heap.push PySem.W.emptyDict).Ns s.heap.objs.size (λ_=>none):=⟨PySem.W.emptyDict,#[],_,e1,rfl,(λe he=>absurd he (by simp)),λ_=>rfl⟩;have I1:=I.laid (a:=s.heap.objs.size) (o:=.own (s.heap.objs.size+1)) (h':=s.heap.push PySem.W.emptyDict) (t':=s.toks) (λb u q=>lj _ q) (lD _) ⟨_,e1⟩;refine I1.laid (a:=s.heap.objs.size+1) (o:=.ins C s.heap.objs.size []) (t':=s.toks) (λb u q=>lj _ q) (yU (lT _ _)) ?_;have ne:s.heap.objs.size≠s.heap.objs.size+1:=lY (LB _);refine⟨by rw [zJ ne,xT],yx _,ne,e2,λ_=>none,(Heap.Ns1.of_empty e3).at λo q=>lj _ q,λ_=>True.intro,λy hy=>absurd rfl hy⟩
end
section
variable {X:Cx} {o e value:Expr} {f:Str} {pos pos' tpos:Pos} {ta tv:TE}
end
section
variable {X:Cx} {pins:List (Addr×Obj)} {σ:St} {H:Hp} {s:Shared} {A:Around} {E:Value->Shared->Prop} {Q:Value->Shared->Prop} {c:Value} {b:Bool}
inductive TyOf (K:PySem.W.Frag) (H:Hp):V->Value->Prop where
 |non:TyOf K H .non (.type "NoneType")
 |bl (x:Bool):TyOf K H (.bl x) (.type "bool")
 |int (i:Int):TyOf K H (.int i) (.type "int")
 |str (x:Str):TyOf K H (.str x) (.type "str")
 |flt (x:UInt64):TyOf K H (.flt x) (.type "float")
 |lst {a:Addr} {xs:List V} (e:H a=some (.lst xs)):TyOf K H (.ref a) (.type "list")
 |frz {a:Addr} {o:Obj} {xs:List V} (e:H a=some (.frz o (.lst xs))):TyOf K H (.ref a) (.type "list")
 |tup {a:Addr} {xs:List V} (e:H a=some (.tup xs)):TyOf K H (.ref a) (.type "tuple")
 |dK {a:Addr} {kvs:List (Key×V)} (e:H a=some (.dK kvs)):TyOf K H (.ref a) (.type "dict")
 |dT {a:Addr} {kvs:List (List Key×V)} (e:H a=some (.dT kvs)):TyOf K H (.ref a) (.type "dict")
 |ins {a C dx:Addr} {fs:List (Str×V)} (e:H a=some (.ins C dx fs)) (cl:Cls K C) (ha:PySem.W.findIn K (.ref C) "__class__"=some (some (.builtin "object.__class__")))
   (hn:PySem.W.specialIn K (.builtin "object.__class__") "__get__"=some (some (.builtin "getset_descriptor.__get__"))) (htk:PySem.W.takesIn K (.builtin "object.__class__")=some true)
   (hm:PySem.W.mroIn K C (.type "object")=some true):TyOf K H (.ref a) (.ref C)
theorem ZA{x:V}{u t:Value}(I:Inv X pins σ H s)(rx:RelV x u)(ty:TyOf X.K H x t)(e:PySem.W.kitOne X.K t c=some b)(h:∀tk,Q (.bool b) {s with toks:=tk}):
 wpAny (model X.prog X.w) A (call (.builtin "isinstance") [u,c]) Q E s:=by
 cases ty with
 |non=>cases (show u=Value.none from rx);exact yw PySem.W.kitx_none I.kIn True.intro e (λz=>nomatch z) h
 |bl y=>cases (show u=Value.bool y from rx);exact yw PySem.W.kitx_bool I.kIn True.intro e (λz=>nomatch z) h
 |int i=>obtain⟨t,q⟩:=(show ∃t,u=Value.int i t from rx);cases q;exact yw PySem.W.kitx_int I.kIn True.intro e (λz=>nomatch z) h
 |str y=>obtain⟨t,q⟩:=(show ∃t,u=Value.str y t from rx);cases q;exact yw PySem.W.kitx_str I.kIn True.intro e (λz=>nomatch z) h
 |flt y=>obtain⟨t,q⟩:=(show ∃t,u=Value.float y t from rx);cases q;exact yw PySem.W.kitx_float I.kIn True.intro e (λz=>nomatch z) h
 | @lst a xs ea=>
   cases (show u=Value.ref a from rx);obtain⟨_,_,n,_,h1⟩:=(show kE X.prog X.w H s.heap a (.lst xs) from I.hok a _ ea);exact yw PySem.W.kitx_list I.kIn ⟨_,h1,rfl⟩ e (λz=>nomatch z) h
 | @frz a ob xs ea=>
   cases (show u=Value.ref a from rx);obtain⟨_,_,_,n,_,h1⟩:=(show kE X.prog X.w H s.heap a (.frz ob (.lst xs)) from I.hok a _ ea);exact yw PySem.W.kitx_list I.kIn ⟨_,h1,rfl⟩ e (λz=>nomatch z) h
 | @tup a xs ea=>
   cases (show u=Value.ref a from rx);obtain⟨_,_,_,p⟩:=(show kE X.prog X.w H s.heap a (.tup xs) from I.hok a _ ea);obtain⟨o,h1,h2,_⟩:=p;exact yw Yj I.kIn ⟨o,h1,h2⟩ e (λz=>nomatch z) h
 | @dK a kvs ea=>
   cases (show u=Value.ref a from rx);obtain⟨_,_,vs,_,p⟩:=(show kE X.prog X.w H s.heap a (.dK kvs) from I.hok a _ ea);obtain⟨o,es,ep,h1,h2,_⟩:=p;exact yw PySem.W.kitx_dict I.kIn ⟨o,h1,h2.1⟩ e (λz=>nomatch z) h
 | @dT a kvs ea=>
   cases (show u=Value.ref a from rx);obtain⟨_,_,xs,_,o,es,ep,h1,h2,_⟩:=(show kE X.prog X.w H s.heap a (.dT kvs) from I.hok a _ ea);exact yw PySem.W.kitx_dict I.kIn ⟨o,h1,h2.1⟩ e (λz=>nomatch z) h
 | @ins a C dx fs ea cl ha hn htk hm=>
   cases (show u=Value.ref a from rx);obtain⟨mA,O,_⟩:=zjT I.hok ea;obtain⟨od,J,_⟩:=O.look;exact yw (PySem.W.kitx_own (cl.get _) cl.hd ha hn htk hm) I.kIn J e (λz=>nomatch z) h
end
structure Room (k:Nat) (A:Around):Prop where
 hd:A.handled=none
 dp:A.depth+3*k+5<recursionLimit
 un:A.units+16*k+200<cLine
theorem Room.mono{j k:Nat}{A:Around}(r:Room k A)(h:j<=k):Room j A:=⟨r.hd,by have:=r.dp;omega,by have:=r.un;omega⟩
theorem Room.deeper{k:Nat}{A:Around}(r:Room (k+1) A)(env:Env):Room k (A.deeper env):=
 ⟨r.hd,by have:=r.dp;show A.depth+1+3*k+5<_;omega,by have:=r.un;show A.units+3+16*k+200<_;omega⟩
theorem Room.in1{k:Nat}{A:Around}(r:Room (k+1) A):Room k A.in1:=
 ⟨r.hd,by have:=r.dp;show A.depth+3*k+5<_;omega,by have:=r.un;show A.units+1+16*k+200<_;omega⟩
theorem Room.depth{k:Nat}{A:Around}(r:Room k A):A.depth<recursionLimit:=by have:=r.dp;omega
theorem Room.units{k:Nat}{A:Around}(r:Room k A):A.units+64<cLine:=by have:=r.un;omega
def zoT:TA:=λ_ H Q=>Q [] H
def znu(ta:TE)(tr:TA):TA:=λσ H Q=>ta σ H λx H1=>tr σ H1 λxs H2=>Q (x::xs) H2
section
variable {X:Cx} {e:Expr} {es:List Expr} {te:TE} {t:TA} {pos:Pos}
theorem Qj:PA X [] zoT:=λ_ _ _ _ H Q I h=>YF ⟨[],H,I,.nil,h⟩
theorem j3(ha:PE X e te)(hr:PA X es t)(hs:starEach (e::es) X.env=(false,eval e X.env)::starEach es X.env:=by rfl):PA X (e::es) (znu te t):=by intro pos pins s σ H Q I h;rw [hs];show wpAny _ _ (spliced ((false,eval e X.env)::backTo pos (starEach es X.env))) _ _ s;refine Yy (thn (ha pins s σ H _ I h) λu s1 ⟨x,H1,I1,r1,q1⟩=>?_);exact thn (hr pos pins s1 σ H1 _ I1 q1) λus s2 ⟨xs,H2,I2,r2,q2⟩=>⟨x::xs,H2,I2,.cons r1 r2,q2⟩
def zoZ(t:TA):TE:=λσ H Q=>t σ H λxs H1=>xs.length<=sizeLine/\∀p,H1 p=none->Q (.ref p) (upd H1 p (.tup xs))
def zoA(t:TA):TE:=λσ H Q=>t σ H λxs H1=>xs.length<=sizeLine/\∀p,H1 p=none->Q (.ref p) (upd H1 p (.lst xs))
theorem zk0{x1}(h:PA X es t):PE X (.Tuple es x1 pos) (zoZ t):=by intro pins s σ H Q I hq;refine wpAny_Tuple_spliced (thn (h pos pins s σ H _ I hq) λus s1 ⟨xs,H1,I1,r,z,q⟩=>⟨by rw [<-r.length];exact z,?_⟩);have hf:H1 s1.heap.objs.size=none:=I1.hok.fresh (lD _);refine⟨.ref s1.heap.objs.size,upd H1 s1.heap.objs.size (.tup xs),I1.laid (t':=s1.toks) (λb u e=>lj _ e) (lD _) ?_,rfl,q _ hf⟩;exact⟨z,us,r,⟨_,lz _ rfl,rfl,_,rfl⟩⟩
theorem ziM(h:PA X es t):PE X (.List es pos) (zoA t):=by intro pins s σ H Q I hq;refine wpAny_List_spliced (thn (h pos pins s σ H _ I hq) λus s1 ⟨xs,H1,I1,r,z,q⟩=>⟨by rw [<-r.length];exact z,?_⟩);have hf:H1 s1.heap.objs.size=none:=I1.hok.fresh (lD _);refine⟨.ref s1.heap.objs.size,upd H1 s1.heap.objs.size (.lst xs),I1.laid (t':=s1.toks) (λb u e=>lj _ e) (lD _) ?_,rfl,q _ hf⟩;exact⟨z,us,0,r,lz _ rfl⟩
end
abbrev Sp:=List V->Hp->VK->XK->Prop
abbrev CXT:=List Env->Hp->Shared->XK->Value->Shared->Prop
structure Env0 (P:Program) (w:World) (K:PySem.W.Frag) (mg:Str->Option Value) (base:Heap) (A:Around) (outer:List Env) (s:Shared) (H:Hp):Prop where
 frames:A.frames=some outer
 mod:Mod K mg base
 bs:∀b o,base.get? b=some o->s.heap.get? b=some o/\H b=none
 bsz:base.objs.size<=s.heap.objs.size
 funs:s.heap.FunFrames base outer
 frf:∀b∈frs outer,H b=none
 hok:HOk P w H s.heap
 bare:AllBare s.gens
def CE(outer:List Env)(P:Program)(w:World)(H:Hp)(s:Shared)(Q:VK)(u:Value)(s':Shared):Prop:=
 ∃v H',s'.os=s.os/\AllBare s'.gens/\Un (frs outer) [] H H' s.heap s'.heap/\HOk P w H' s'.heap/\RelV v u/\Q v H'
def CR(CX:CXT)(outer:List Env)(P:Program)(w:World)(H:Hp)(s:Shared)(Q:VK)(E:XK)(r:Result)(s':Shared):Prop:=
 match r with
 | .ok (.ret u)=>CE outer P w H s Q u s'
 | .ok _=>False
 | .error e=>CX outer H s E e s'
structure FnOk (P:Program) (w:World) (K:PySem.W.Frag) (mg:Str->Option Value) (base:Heap) (CX:CXT) (k:Nat) (f:Addr) (fd:FuncData) (ps:List Str) (sp:Sp):Prop where
 len:∀vs H Q E,sp vs H Q E->vs.length=ps.length
 run:∀(A:Around) (outer:List Env) (s:Shared) (H:Hp) (args:Args) (us:List Value) (vs:List V) (Q:VK) (E:XK),Room k A->Env0 P w K mg base A outer s H->BindsTo s fd args (ps.zip us)->Vals vs us->sp vs H Q E->
  codeAny (model P w) A (.call (.ref f) args) (CR CX outer P w H s Q E) s
theorem FnOk.imp{P:Program}{w:World}{K:PySem.W.Frag}{mg:Str->Option Value}{base:Heap}{CX:CXT}{k:Nat}{f:Addr}{fd:FuncData}{ps:List Str}{sp sp':Sp}(F:FnOk P w K mg base CX k f fd ps sp)
 (h:∀vs H Q E,sp' vs H Q E->sp vs H Q E):FnOk P w K mg base CX k f fd ps sp':=
 ⟨λvs H Q E q=>F.len vs H Q E (h _ _ _ _ q),λA outer s H args us vs Q E hr he hb hv hs=>F.run A outer s H args us vs Q E hr he hb hv (h _ _ _ _ hs)⟩
theorem Env0.in1{P:Program}{w:World}{K:PySem.W.Frag}{mg:Str->Option Value}{base:Heap}{A:Around}{outer:List Env}{s:Shared}{H:Hp}(e:Env0 P w K mg base A outer s H):
 Env0 P w K mg base A.in1 outer s H:=⟨e.frames,e.mod,e.bs,e.bsz,e.funs,e.frf,e.hok,e.bare⟩
section
variable {X:Cx} {pins:List (Addr×Obj)} {σ:St} {H:Hp} {s s':Shared}
theorem Inv.env0(I:Inv X pins σ H s):Env0 X.prog X.w X.K X.mg X.base X.A X.stack s H:=
 ⟨I.ok.frames,I.ok.mod,I.bs,lQ I.ok.bsz I.sz,I.stack,I.stkFree,I.hok,I.bare⟩
theorem Inv.after{Q:VK}{u:Value}(I:Inv X pins σ H s)(h:CE X.stack X.prog X.w H s Q u s'):EP X pins σ Q u s':=by obtain⟨v,H',os,bare,un,hok,r,q⟩:=h;obtain⟨hh,g,d,t,os'⟩:=s';obtain rfl:os'=s.os:=os;exact⟨v,H',I.call (h':=hh) (g':=g) (d':=d) (t':=t) (ch:=[]) un hok bare (λb z=>absurd z (by simp)),r,q⟩
end
def zmL(sp:Sp)(dvs:List V)(E:XK)(t:TA):TE:=λσ H Q=>t σ H λvs H1=>sp (vs++dvs) H1 Q E
def Binds(K:PySem.W.Frag)(fd:FuncData)(ps:List Str)(ds:List Value):Prop:=
 ∀(s:Shared) (us:List Value),K.In s.heap->(us++ds).length=ps.length->BindsTo s fd ⟨us,[]⟩ (ps.zip (us++ds))
theorem Binds.all{K:PySem.W.Frag}{fd:FuncData}{ps:List Str}(h:∀us:List Value,us.length=ps.length->bindArgs fd ⟨us,[]⟩=pure (ps.zip us)):Binds K fd ps []:=λs us _ hl=>by rw [yn] at hl⊢;exact .of_eq (h us hl)
def Passes(CX:CXT)(X:Cx)(E:XK):Prop:=∀(pins:List (Addr×Obj)) (σ:St) (H:Hp) (s:Shared) (e:Value) (s':Shared),Inv X pins σ H s->CX X.stack H s E e s'->X.xe e s'
section
variable {X:Cx} {CX:CXT} {k:Nat} {f C:Addr} {fd:FuncData} {ps:List Str} {sp:Sp} {dvs:List V} {ds:List Value} {E:XK} {x m:Str} {p pos apos:Pos} {e o:Expr} {es:List Expr} {ta:TE} {t:TA}
theorem zl2{pins:List (Addr×Obj)}{σ:St}{H:Hp}{s:Shared}{Q:VK}{us:List Value}{vs:List V}(F:FnOk X.prog X.w X.K X.mg X.base CX k f fd ps sp)(hr:Room k X.A)(hb:Binds X.K fd ps ds)(hd:Vals dvs ds)(hx:Passes CX X E)
 (I:Inv X pins σ H s) (r:Vals vs us) (h:sp (vs++dvs) H Q E):wpAny (model X.prog X.w) X.A (call (.ref f) us) (EP X pins σ Q) X.xe s:=by
 have r2:Vals (vs++dvs) (us++ds):=r.append hd;have hl:(us++ds).length=ps.length:=by rw [<-r2.length];exact F.len _ _ _ _ h
 refine wpAny_call (codeAny_mono (F.run X.A X.stack s H ⟨us,[]⟩ (us++ds) (vs++dvs) Q E hr I.env0 (hb s us I.kIn hl) r2 h) λr s' hq=>?_);cases r with
 |error e=>exact hx pins σ H s e s' I hq
 |ok fl=>
  cases fl with
  |ret u=>exact I.after hq
  |next=>exact False.elim hq
  |brk=>exact False.elim hq
  |cont=>exact False.elim hq
theorem zjh(F:FnOk X.prog X.w X.K X.mg X.base CX k f fd ps sp)(hr:Room k X.A)(hg:Gl X x)(hm:X.mg x=some (.ref f))(hk:PySem.W.keepIn X.K (.ref f)=true)(hb:Binds X.K fd ps ds)(hd:Vals dvs ds)(hx:Passes CX X E)
 (ha:PA X (e::es) t) (hdb:(x==("__debug__":Str))=false:=by decide) (he:starEach (e::es) X.env=(false,eval e X.env)::starEach es X.env:=by rfl) (hpl:(backTo pos (starEach es X.env)).any (·.1)=false:=by rfl):
 PE X (.Call (.Name x p) (e::es) [] pos) (zmL sp dvs E t):=by
 intro pins s σ H Q I h;refine wpAny_Call_Name_kw (Jb I hg hm ?_ hdb);refine Yk (h₀:=X.base) I.ok.mod.kin hk (thn (ha pos pins s σ H _ I h) λus s1 ⟨vs,H1,I1,r,q⟩=>⟨I1.kIn,?_⟩) he hpl;exact zl2 F hr hb hd hx I1 r q
end
section
variable {X:Cx} {CX:CXT} {k:Nat} {f C:Addr} {fd:FuncData} {ps ks:List Str} {sp:Sp} {E:XK} {x m:Str} {p pos apos kpos:Pos} {e o:Expr} {es:List Expr} {kws:List Keyword} {te ta:TE} {t tk:TA} {nm:Option Str}
variable {g:List Value->List Value->List Value} {gV:List V->List V->List V}
end
structure FnScope (N P:List Str) (sc:Scope):Prop where
 kind:sc.kind= .function
 co:sc.isCoroutine=false
 gen:sc.isGenerator=false
 nd:N.Nodup
 pre:N.take P.length=P
 par:∀x∈P,sc.names.lookup x=some .local\/sc.names.lookup x=some .cell
 nofree:∀y∈sc.names,y.2≠ .free
theorem zbH{kindOf:Str->Option NameKind}{x:Str}:∀{binds:List (Str×Value)} {m:Str->Option Value},(∀v,(x,v)∉binds)->bindL kindOf binds m x=m x
 | [],_,_=>rfl
 |(n,v)::r,m,h=>by
  unfold bindL;rw [zbH λw hw=>h w (lA _ hw)];split
  ·have:x≠n:=by rintro rfl;exact h v lC
   simp [this]
  ·rfl
theorem zbC{kindOf:Str->Option NameKind}{x:Str}:∀{binds:List (Str×Value)} {m:Str->Option Value},(∀v,(x,v)∉binds)->bindC kindOf binds m x=m x
 | [],_,_=>rfl
 |(n,v)::r,m,h=>by
  unfold bindC;rw [zbC λw hw=>h w (lA _ hw)];split
  ·rfl
  ·have:x≠n:=by rintro rfl;exact h v lC
   simp [this]
theorem za6{kindOf:Str->Option NameKind}{x:Str}{v:Value}:∀{P:List Str} {vs:List Value} {i:Nat} {m:Str->Option Value},P.Nodup->P[i]? =some x->vs[i]? =some v->kindOf x=some .local->
 bindL kindOf (P.zip vs) m x=some v
 | [],_,_,_,_,h,_,_=>by simp at h
 |_::_,[],_,_,_,_,h,_=>by simp at h
 |p::P,w::vs,0,m,nd,h1,h2,hk=>by simp at h1 h2;subst h1;subst h2;show bindL kindOf ((p,w)::P.zip vs) m p=_;unfold bindL;rw [zbH λv hv=>(Lb.mp nd).1 (Yc hv).1,if_pos hk];simp
 |p::P,w::vs,i+1,m,nd,h1,h2,hk=>by show bindL kindOf ((p,w)::P.zip vs) m x=_;unfold bindL;exact za6 (i:=i) (Lb.mp nd).2 (by simpa using h1) (by simpa using h2) hk
theorem zbw{kindOf:Str->Option NameKind}{x:Str}{v:Value}:∀{P:List Str} {vs:List Value} {i:Nat} {m:Str->Option Value},P.Nodup->P[i]? =some x->vs[i]? =some v->kindOf x≠some .local->
 bindC kindOf (P.zip vs) m x=some v
 | [],_,_,_,_,h,_,_=>by simp at h
 |_::_,[],_,_,_,_,h,_=>by simp at h
 |p::P,w::vs,0,m,nd,h1,h2,hk=>by simp at h1 h2;subst h1;subst h2;show bindC kindOf ((p,w)::P.zip vs) m p=_;unfold bindC;rw [zbC λv hv=>(Lb.mp nd).1 (Yc hv).1,if_neg hk];simp
 |p::P,w::vs,i+1,m,nd,h1,h2,hk=>by show bindC kindOf ((p,w)::P.zip vs) m x=_;unfold bindC;exact zbw (i:=i) (Lb.mp nd).2 (by simpa using h1) (by simpa using h2) hk
def start(N:List Str)(vs:List V):St:=vs.map some++List.replicate (N.length-vs.length) none
def zgI(CX:CXT)(P:Program)(w:World)(K:PySem.W.Frag)(mg:Str->Option Value)(base:Heap)(N:List Str)(qual:Str)(scope:Scope)(f:Addr)(cd:Value)(A:Around)(outer:List Env)(s:Shared)(H:Hp)(E:XK):Cx where
 prog:=P
 w:=w
 K:=K
 mg:=mg
 base:=base
 A:=A.deeper (envOfC qual scope s.heap.objs.size f cd)
 N:=N
 s_0:=s
 H_0:=H
 env:=envOfC qual scope s.heap.objs.size f cd
 outer:=outer
 stack:=envOfC qual scope s.heap.objs.size f cd::outer
 ex:=[]
 calm:=true
 fn:=λ_=>true
 pn:=[]
 xe:=λe s'=>wpAny (model P w) (A.deeper (envOfC qual scope s.heap.objs.size f cd)) (leaving (envOfC qual scope s.heap.objs.size f cd) e) (λ_ s''=>CX outer H s E e s'') (λe' s''=>CX outer H s E e' s'') s'
theorem zdB{sc:Scope}{n:Nat}{x:Str}(h:sc.names.lookup x=some .cell):∃c,(cellsFrom n sc.names []).lookup x=some c:=by have q:=LY sc.names n [] (.inl h);exact Lg.mp q
theorem zaO{CX:CXT}{P:Program}{w:World}{K:PySem.W.Frag}{mg:Str->Option Value}{base:Heap}{N ps:List Str}{qual:Str}{scope:Scope}{f:Addr}{cd:Value}{A:Around}{outer:List Env}{s s1:Shared}{H:Hp}{E:XK}{us:List Value}{vs:List V}
 (S:FnScope N ps scope) (hd:A.handled=none) (e0:Env0 P w K mg base A outer s H) (hl:vs.length=ps.length) (r:Vals vs us)
 (x:InCallC s s.heap.objs.size (bindL (envOfC qual scope s.heap.objs.size f cd).kindOf (ps.zip us) λ_=>none) (cellsFrom (s.heap.objs.size+1) scope.names []) (bindC (envOfC qual scope s.heap.objs.size f cd).kindOf (ps.zip us) λ_=>none) s1):
 Inv (zgI CX P w K mg base N qual scope f cd A outer s H E) [] (start N vs) H s1:=by
 have hpl:ps.length<=N.length:=by have:=congrArg List.length S.pre;rw [lK] at this;omega
 obtain⟨h1,tk,rfl,hk⟩:=x.done;have noA:∀b:Addr,b∉(zgI CX P w K mg base N qual scope f cd A outer s H E).ex:=λb z=>absurd (show b∈([]:List Addr) from z) (by simp)
 refine⟨⟨e0.mod,S.kind,rfl,rfl,lD _,λy z c h1 h2=>?_,λy hy=>?_,λy c _ h=>?_,λ_=>hd,Around.frames_deeper e0.frames,.inr ⟨rfl,rfl⟩,λb z=>absurd z (noA b),e0.bs,e0.bsz,λb _ _=>noA b,λb z=>absurd z (noA b),e0.funs,e0.frf⟩,
  rfl,e0.bare,Un.kept hk,⟨_,x.toInCall.ns,λi y v h1 h2 h3=>?_⟩,λy c h=>⟨_,x.cell y c h⟩,e0.hok.fresh (lD _),λy c h=>?_,λp hp=>absurd (show p∈([]:List (Addr×Obj)) from hp) (by simp),e0.hok.kept hk,?_⟩
 ·exact name_of_addr x.apart (lZ h1) (lZ h2)
 ·have hy:scope.names.lookup y=some .cell\/scope.names.lookup y=some .free:=hy;rcases hy with hy|hy
  ·exact zdB hy
  ·exact absurd rfl (S.nofree _ (lZ hy))
 ·exact Yg (x.above y c (lZ h))
 ·have hi:i<vs.length:=by
   unfold start at h2;by_cases hi:i<vs.length
   ·exact hi
   ·rw [Lz (by simpa using hi)] at h2;rw [YG] at h2;split at h2 <;> cases h2
  have ha:vs[i]? =some v:=by
   unfold start at h2;rw [yu (by simpa using hi),ya] at h2;cases e:vs[i]? with
   |none=>rw [e] at h2;cases h2
   |some a=>rw [e] at h2;cases h2;rfl
  obtain⟨u,hu,rv⟩:=r.get ha;have hp:ps[i]? =some y:=by rw [<-S.pre,yG (by omega)];exact h1
  have ndP:ps.Nodup:=by rw [<-S.pre];exact S.nd.sublist (List.take_sublist _ _)
  refine⟨u,rv,?_⟩;rcases S.par y (List.mem_of_getElem? hp) with k|k
  ·exact .inl ⟨k,za6 ndP hp hu k⟩
  ·obtain⟨c,e⟩:=zdB (n:=s.heap.objs.size+1) k;refine .inr ⟨.inl k,c,e,?_⟩;have q:=x.cell y c e;rw [zbw ndP hp hu (by show scope.names.lookup y≠_;rw [k];decide)] at q;exact q
 ·exact e0.hok.fresh (Yg (x.above y c (lZ h)))
 ·unfold start;show _=N.length;rw [lH,lB,List.length_replicate];omega
theorem zmp{CX:CXT}{P:Program}{w:World}{K:PySem.W.Frag}{mg:Str->Option Value}{base:Heap}{k:Nat}{f:Addr}{name qual:Str}{params:Arguments}{body:List Stmt}{scope:Scope}{dV kV doc pm cdv ct oc:Value}{an od:Option Addr}
 {osl:Array (Option Value)} {N ps:List Str} {sp:Sp} (lk:K.lookup f=some ⟨oc,od,.func (PySem.W.fnOf name qual params body scope dV kV doc pm an cdv ct),osl⟩) (hcd:PySem.W.codeIn K cdv qual=true) (S:FnScope N ps scope)
 (len:∀vs H Q E,sp vs H Q E->vs.length=ps.length)
 (hbody:∀(A:Around) (outer:List Env) (s:Shared) (H:Hp) (vs:List V) (Q:VK) (E:XK),Room k (A.deeper (envOfC qual scope s.heap.objs.size f cdv))->sp vs H Q E->
   ∃t,PSs (zgI CX P w K mg base N qual scope f cdv A outer s H E) body t/\t {nx:=λ_ H'=>Q .non H',rt:=Q} (start N vs) H):
 FnOk P w K mg base CX (k+1) f (PySem.W.fnOf name qual params body scope dV kV doc pm an cdv ct) ps sp:=by
 refine⟨len,λA outer s H args us vs Q E hr e0 hb r hsp=>?_⟩;have hl:=len _ _ _ _ hsp;have KX:K.In s.heap:=e0.mod.kin.keeps λb o e=>(e0.bs b o e).1
 have lim:s.heap.NoLimit:=e0.mod.nolimit.keeps λb o e=>(e0.bs b o e).1
 have hkind:∀y∈ps.zip us,scope.names.lookup y.1=some .local\/(scope.names.lookup y.1=some .cell/\((cellsFrom (s.heap.objs.size+1) scope.names []).lookup y.1).isSome=true):=λ⟨n,v⟩ hy=>by
  rcases S.par n (Yc hy).1 with q|q
  ·exact .inl q
  ·exact .inr ⟨q,LY _ _ _ (.inl q)⟩
 refine codeAny_call_function hr.depth (KX _ _ lk) rfl S.co S.gen rfl (PySem.W.codeRec_of KX hcd) (hb _ _ _ _ ?_);refine wpAny_newFunctionEnv_cells S.kind hkind λenv he s1 x=>?_
 subst he;refine⟨lim.keeps x.toInCall.keep,codeAny_func ?_⟩;obtain⟨t,ht,hq⟩:=hbody A outer s H vs Q E (hr.deeper _) hsp;have I:Inv (zgI CX P w K mg base N qual scope f cdv A outer s H E) [] (start N vs) H s1:=zaO S hr.hd e0 hl r x;refine wpAny_mono (ht [] s1 (start N vs) H _ I hq) (λfl s' hs=>?_) λe s' hs=>hs
 have fin:∀{σ':St} {H':Hp} {v:V} {u:Value},Inv (zgI CX P w K mg base N qual scope f cdv A outer s H E) [] σ' H' s'->RelV v u->Q v H'->CE outer P w H s Q u s':=
  λ{σ' H' v u} J rv q=>⟨v,H',J.os,J.bare,J.base,J.hok,rv,q⟩
 cases fl with
 |ret u=>
  obtain⟨v,σ',H',J,rv,q⟩:=hs;exact fin J rv q
 |next=>
  obtain⟨σ',H',J,q⟩:=hs;exact fin (v:=V.non) (u:=Value.none) J rfl q
 |brk=>
  obtain⟨_,_,_,q⟩:=hs;exact False.elim q
 |cont=>
  obtain⟨_,_,_,q⟩:=hs;exact False.elim q
section
variable {X:Cx} {x:Str} {p pos:Pos} {e:Expr} {es:List Expr} {t:TA} {id T:String} {r:List V->Hp->VK->Prop}
def tCB(r:List V->Hp->VK->Prop)(t:TA):TE:=λσ H Q=>t σ H λvs H1=>r vs H1 Q
theorem XH(hc:Zj X (.builtin id) r)(hg:Gl X x)(hm:X.mg x=none)(hv:bootBuiltins x=some (.builtin id))(ha:PA X (e::es) t)(hn:x≠"__name__":=by decide)(hdb:(x==("__debug__":Str))=false:=by decide)
 (he:starEach (e::es) X.env=(false,eval e X.env)::starEach es X.env:=by rfl) (hpl:(backTo pos (starEach es X.env)).any (·.1)=false:=by rfl):PE X (.Call (.Name x p) (e::es) [] pos) (tCB r t):=by
 intro pins s σ H Q I h;refine wpAny_Call_Name_kw (VS I hg hm hv ?_ hn hdb);exact PyProof.Rows.callWith_builtin1 (thn (ha pos pins s σ H _ I h) λus s1 ⟨vs,H1,I1,r1,q1⟩=>hc pins s1 σ H1 vs us Q I1 r1 q1) he hpl
theorem zbV(hc:Zj X (.type T) r)(hg:Gl X x)(hm:X.mg x=none)(hv:bootBuiltins x=some (.type T))(ha:PA X (e::es) t)(hn:x≠"__name__":=by decide)(hdb:(x==("__debug__":Str))=false:=by decide)
 (he:starEach (e::es) X.env=(false,eval e X.env)::starEach es X.env:=by rfl) (hpl:(backTo pos (starEach es X.env)).any (·.1)=false:=by rfl):PE X (.Call (.Name x p) (e::es) [] pos) (tCB r t):=by
 intro pins s σ H Q I h;refine wpAny_Call_Name_kw (VS I hg hm hv ?_ hn hdb);exact y6 (thn (ha pos pins s σ H _ I h) λus s1 ⟨vs,H1,I1,r1,q1⟩=>hc pins s1 σ H1 vs us Q I1 r1 q1) he hpl
end
end L2
namespace HT
open PySem PyProof.Rows
section
open PySem.SeqAt
open PySem.AutoSeq1 (wpAny_loadPart')
open PySem.MeetsSeq PySem.MeetsSeq2 PySem.MeetsSeq3
end
section
variable {prog:Program} {w:World} {A:Around} {E:Value->Shared->Prop} {s:Shared}
theorem zjB{t b:Addr}{vs ws:List Value}{Q:Value->Shared->Prop}(ht:IsTup s.heap t vs.toArray)(hb:IsTup s.heap b ws.toArray)(hv:vs≠ [])
 (h1:ws= []->Q (.ref t) s) (h2:ws≠ []->Q (.ref s.heap.objs.size) {s with heap:=s.heap.push {cls:=.type "tuple",data:=.seq (vs++ws).toArray}})
 (hsz:vs.length+ws.length<=sizeLine):wpAny (model prog w) A (binaryOp .Add (.ref t) (.ref b)) Q E s:=by
 obtain⟨⟨cls,dd,data,sl⟩,ho,hc,n,hd⟩:=id ht;obtain⟨⟨cls2,dd2,data2,sl2⟩,ho2,hc2,n2,hd2⟩:=id hb;simp only at hc hd hc2 hd2;subst hc hd hc2 hd2;have e:vs.toArray++ws.toArray=(vs++ws).toArray:=by simp
 by_cases hw:ws= []
 ·exact concat_meets ⟨_,ho,rfl⟩ ⟨_,ho2,rfl⟩ noFill_tuple_add seq_tuple_add YU YH (Yz _ _)
   (tuple_addW1 t b vs.toArray ws.toArray n n2 dd dd2 sl sl2 (by simpa using hv) (by simp [hw])) ⟨ho,ho2,h1 hw⟩
 ·refine concat_meets ⟨_,ho,rfl⟩ ⟨_,ho2,rfl⟩ noFill_tuple_add seq_tuple_add YU YH (Yz _ _)
   (tuple_addW2 t b vs.toArray ws.toArray n n2 dd dd2 sl sl2 (by simpa using hv) (by simpa using hw) (by rw [lF,lF];exact hsz)) ⟨ho,ho2,?_⟩
  rw [e];exact h2 hw
def sIx(n d:Nat):Option Int->Nat
 |none=>d
 |some v=>if v<0 then(v+(n:Int)).toNat else min v.toNat n
theorem zhf(n d:Nat):sIx n d none=d:=rfl
theorem zcH(n d k:Nat):sIx n d (some (k:Int))=min k n:=by show(if (k:Int)<0 then((k:Int)+(n:Int)).toNat else min (k:Int).toNat n)=min k n;rw [if_neg (by omega),yL]
theorem ziZ(n d:Nat)(hd:d<=n)(o:Option Int):sIx n d o<=n:=by
 cases o with
 |none=>exact hd
 |some v=>
  show(if v<0 then(v+(n:Int)).toNat else min v.toNat n)<=n;by_cases hv:v<0
  ·rw [if_pos hv];omega
  ·rw [if_neg hv];exact Nat.min_le_right _ _
theorem Jc{v:Value}{o:Option Int}{Q:Option Int->Shared->Prop}(p:IsPart v o)(h:Q o s):wpAny (model prog w) A (Builtin.Slice.slicePartIndex v) Q E s:=by
 cases p with
 |none=>exact slicePart_none h
 |int i t=>exact slicePart_int h
end
end HT
namespace L2
open PySem PySem.Spec PyProof.Rows
abbrev TO:=St->Hp->(Option Int->Hp->Prop)->Prop
def PO(X:Cx)(e:Option Expr)(t:TO):Prop:=
 ∀(pins:List (Addr×Obj)) (s:Shared) (σ:St) (H:Hp) (Q:Option Int->Hp->Prop),Inv X pins σ H s->t σ H Q->
  wpAny (model X.prog X.w) X.A (evalPart e X.env) (λu s'=>∃o H',Inv X pins σ H' s'/\IsPart u o/\Q o H') X.xe s
def zi1:TO:=λ_ H Q=>Q none H
def znB(t:TE):TO:=λσ H Q=>t σ H λx H1=>∃i,x= .int i/\Q (some i) H1
section
variable {X:Cx} {e:Expr} {te:TE} {lo hi:Option Expr} {tl th:TO} {pos p2:Pos}
theorem zkr:PO X none zi1:=by intro pins s σ H Q I h;rw [evalPart_none];exact wpAny_pure ⟨none,H,I,.none,h⟩
theorem zjV(h:PE X e te):PO X (some e) (znB te):=by
 intro pins s σ H Q I hw;rw [evalPart_some];refine thn (h pins s σ H _ I hw) λu s1 ⟨x,H1,I1,r1,q1⟩=>?_
 obtain⟨i,rfl,q⟩:=q1;obtain⟨t,rfl⟩:=r1;exact⟨some i,H1,I1,.int i t,q⟩
def SlR(X:Cx)(r:V->Option Int->Option Int->Hp->VK->Prop):Prop:=
 ∀(pins:List (Addr×Obj)) (s:Shared) (σ:St) (H:Hp) (x:V) (v vl vu:Value) (lo hi:Option Int) (sl:Addr) (Q:VK),Inv X pins σ H s->RelV x v->s.heap.IsSliceOf sl vl vu .none->IsPart vl lo->IsPart vu hi->r x lo hi H Q->
  ∃T id,typeLookup (.type T) "__getitem__"=pure (some (.builtin id))/\s.TypeIs v T/\wpAny (model X.prog X.w) X.A (getItem v (.ref sl)) (EP X pins σ Q) X.xe s
theorem SlR.or{r r':V->Option Int->Option Int->Hp->VK->Prop}(h:SlR X r)(h':SlR X r'):SlR X (λx lo hi H Q=>r x lo hi H Q\/r' x lo hi H Q):=by
 intro pins s σ H x v vl vu lo hi sl Q I rx hs pl pu q;rcases q with q|q
 ·exact h pins s σ H x v vl vu lo hi sl Q I rx hs pl pu q
 ·exact h' pins s σ H x v vl vu lo hi sl Q I rx hs pl pu q
def tSl(r:V->Option Int->Option Int->Hp->VK->Prop)(te:TE)(tl th:TO):TE:=λσ H Q=>te σ H λx H1=>tl σ H1 λl H2=>th σ H2 λu H3=>r x l u H3 Q
theorem zc7{r:V->Option Int->Option Int->Hp->VK->Prop}(hr:SlR X r)(he:PE X e te)(hl:PO X lo tl)(hu:PO X hi th):PE X (.Subscript e (.Slice lo hi none p2) pos) (tSl r te tl th):=by
 intro pins s σ H Q I h;refine Subscript_ (thn (he pins s σ H _ I h) λv s1 ⟨x,H1,I1,r1,q1⟩=>?_);refine wpAny_Slice (thn (hl pins s1 σ H1 _ I1 q1) λvl s2 ⟨l,H2,I2,pl,q2⟩=>thn (hu pins s2 σ H2 _ I2 q2) λvu s3 ⟨u,H3,I3,pu,q3⟩=>?_);rw [evalPart_none];refine wpAny_pure ?_;have I4:Inv X pins σ H3 {s3 with heap:=s3.heap.push {cls:=.type "slice",data:=.fields #[vl,vu,.none]}}:=I3.kept (t':=s3.toks) λb ob q=>lj _ q
 obtain⟨T,id,hT,ht,hg⟩:=hr pins {s3 with heap:=s3.heap.push {cls:=.type "slice",data:=.fields #[vl,vu,.none]}} σ H3 x v vl vu l u s3.heap.objs.size Q I4 r1 (LL ..) pl pu q3;show wpAny (model X.prog X.w) X.A (subscriptTail e (.Slice lo hi none p2) v (.ref s3.heap.objs.size)) (EP X pins σ Q) X.xe {s3 with heap:=s3.heap.push {cls:=.type "slice",data:=.fields #[vl,vu,.none]}};exact tail_any (ops:=[.ref s3.heap.objs.size,v]) ht hT hg (by with_unfolding_all rfl)
def zkP(xs:List V)(lo hi:Option Int):List V:=(xs.drop (HT.sIx xs.length 0 lo)).take (HT.sIx xs.length xs.length hi-HT.sIx xs.length 0 lo)
theorem zcm(xs:List V)(lo hi:Option Int):(zkP xs lo hi).length<=xs.length:=by unfold zkP;rw [lK,ym];omega
def zna(K:PySem.W.Frag):R2:=λx y H Q=>∃a b xs ys,x= .ref a/\y= .ref b/\SqT K H a xs/\SqT K H b ys/\xs≠ []/\xs.length+ys.length<=sizeLine/\
 (ys= []->Q (.ref a) H)/\(ys≠ []->∀p,H p=none->Q (.ref p) (upd H p (.tup (xs++ys))))
theorem Vals.nil_iff{xs:List V}{us:List Value}(r:Vals xs us):us= []↔xs= []:=by
 cases r with
 |nil=>simp
 |cons _ _=>simp
theorem zi2:OpR X (binaryOp .Add) (zna X.K):=by intro pins s σ H x y v u Q I rx ry h;obtain⟨a,b,xs,ys,rfl,rfl,ha,hb,hx,hz,q1,q2⟩:=h;cases rx;cases ry;obtain⟨its,r1,p1,_⟩:=I.tuple ha;obtain⟨its2,r2,p2,_⟩:=I.tuple hb;refine HT.zjB p1 p2 (λz=>hx (r1.nil_iff.mp z)) (λz=>⟨.ref a,H,I,rfl,q1 (r2.nil_iff.mp z)⟩) (λz=>?_) (by rw [<-r1.length,<-r2.length];exact hz);refine⟨.ref s.heap.objs.size,_,I.laid (t':=s.toks) (o:=.tup (xs++ys)) (λb ob q=>lj _ q) (lD _) ?_,rfl,q2 (λw=>z (r2.nil_iff.mpr w)) _ (I.hok.fresh (lD _))⟩;exact⟨by rw [lH];exact hz,_,r1.append r2,LZ _ _⟩
end
def ixN(n:Nat)(i:Int):Option Nat:=if 0<=i then(if i<n then some i.toNat else none) else if-(n:Int)<=i then some (i+n).toNat else none
def atI{α:Type}(xs:List α)(i:Int):Option α:=(ixN xs.length i).bind λj=>xs[j]?
theorem zf8{n:Nat}{i:Int}{j:Nat}(h:ixN n i=some j):seqIndex? i n=some j/\j<n/\ -(n:Int)<=i/\i<n:=by
 unfold ixN at h;by_cases h0:0<=i
 ·rw [if_pos h0] at h;by_cases h1:i<n
  ·rw [if_pos h1] at h;have e:i.toNat=j:=Option.some.inj h;exact⟨by rw [seqIndex_of h0 h1,e],by omega,by omega,h1⟩
  ·rw [if_neg h1] at h;cases h
 ·rw [if_neg h0] at h;by_cases h1: -(n:Int)<=i
  ·rw [if_pos h1] at h;have e:(i+n).toNat=j:=Option.some.inj h;exact⟨by rw [seqIndex_neg (by omega) h1,e],by omega,h1,by omega⟩
  ·rw [if_neg h1] at h;cases h
theorem zb6{α:Type}{xs:List α}{i:Int}{v:α}(h:atI xs i=some v):∃j,seqIndex? i xs.length=some j/\xs[j]? =some v/\j<xs.length/\ -(xs.length:Int)<=i/\i<xs.length:=by
 unfold atI at h;cases e:ixN xs.length i with
 |none=>rw [e] at h;cases h
 |some j=>
  rw [e] at h;obtain⟨h1,h2,h3,h4⟩:=zf8 e;exact⟨j,h1,h,h2,h3,h4⟩
def zfB(b:Expr):Prop:=∀o i,subscripted b false o i=operate [o,i] (getItem o i)
def IxR(X:Cx)(r:R2):Prop:=
 ∀(value slice:Expr) (pins:List (Addr×Obj)) (s:Shared) (σ:St) (H:Hp) (x y:V) (v u:Value) (Q:VK),Inv X pins σ H s->RelV x v->RelV y u->r x y H Q->
  subscripted slice false v u=operate [v,u] (getItem v u)->wpAny (model X.prog X.w) X.A (subscriptTail value slice v u) (EP X pins σ Q) X.xe s
def MtR(X:Cx)(id:String)(r:V->List V->Hp->VK->Prop):Prop:=
 ∀(pins:List (Addr×Obj)) (s:Shared) (σ:St) (H:Hp) (x:V) (xs:List V) (v:Value) (us:List Value) (Q:VK),Inv X pins σ H s->RelV x v->Vals xs us->r x xs H Q->
  wpAny (model X.prog X.w) X.A (call (.builtin id) (v::us)) (EP X pins σ Q) X.xe s
section
variable {X:Cx} {a b:Expr} {ta tb:TE} {pos:Pos}
theorem IxR.or{r r':R2}(h:IxR X r)(h':IxR X r'):IxR X (λx y H Q=>r x y H Q\/r' x y H Q):=by
 intro value slice pins s σ H x y v u Q I rx ry q hs;rcases q with q|q
 ·exact h value slice pins s σ H x y v u Q I rx ry q hs
 ·exact h' value slice pins s σ H x y v u Q I rx ry q hs
theorem MtR.or{id:String}{r r':V->List V->Hp->VK->Prop}(h:MtR X id r)(h':MtR X id r'):MtR X id (λx xs H Q=>r x xs H Q\/r' x xs H Q):=by
 intro pins s σ H x xs v us Q I rx rs q;rcases q with q|q
 ·exact h pins s σ H x xs v us Q I rx rs q
 ·exact h' pins s σ H x xs v us Q I rx rs q
theorem znF{r:R2}(hr:IxR X r)(ha:PE X a ta)(hb:PE X b tb)(hs:zfB b):PE X (.Subscript a b pos) (tOp r ta tb):=by intro pins s σ H Q I h;exact Subscript_ (znz ha hb I h λv u s2 x y H2 I2 rx ry q=>hr a b pins s2 σ H2 x y v u Q I2 rx ry q (hs _ _))
def zoJ(K:PySem.W.Frag):R2:=λx y H Q=>∃p xs i v,x= .ref p/\y= .int i/\SqL K H p xs/\atI xs i=some v/\Q v H
def zoC(K:PySem.W.Frag):R2:=λx y H Q=>∃p xs i v,x= .ref p/\y= .int i/\SqT K H p xs/\atI xs i=some v/\Q v H
def zoB:R2:=λx y H Q=>∃z i c,x= .str z/\y= .int i/\z.length<=sizeLine/\atI z.cps.toList i=some c/\Q (.str ⟨#[c]⟩) H
theorem zja:IxR X (zoJ X.K):=by
 intro value slice pins s σ H x y v u Q I rx ry h hs;obtain⟨p,xs,i,z,rfl,rfl,hq,he,q⟩:=h;cases rx;obtain⟨t,rfl⟩:=ry;obtain⟨its,r,pl,hz⟩:=I.list hq;obtain⟨j,h1,h2,h3,h4,h5⟩:=zb6 he;obtain⟨w,ew,rw'⟩:=r.get h2;have hl:=r.length;have hn:=VL;have fin:EP X pins σ Q w s:=⟨z,H,I,rw',q⟩;by_cases h0:0<=i
 ·have hj:i.toNat=j:=by rw [seqIndex_of h0 h5] at h1;exact Option.some.inj h1
  exact item_listR pl.isList h0 (by omega) (by rw [hj];simpa using ew) fin hs
 ·have hj:(i+(its.toArray.size:Int)).toNat=j:=by rw [seqIndex_neg (by omega) h4] at h1;rw [lF,<-hl];exact Option.some.inj h1
  exact subscriptTail_builtinR (x:=w) pl.isList.typeIs slot_list_getitem.lookup
   (wpAny_getItem_list_neg (Q:=λr s'=>r=w/\EP X pins σ Q r s') pl.isList (by omega) (by rw [lF] <;> omega) (by omega) (by rw [hj];simpa using ew) ⟨rfl,fin⟩) hs
theorem zlj:IxR X (zoC X.K):=by
 intro value slice pins s σ H x y v u Q I rx ry h hs;obtain⟨p,xs,i,z,rfl,rfl,hq,he,q⟩:=h;cases rx;obtain⟨t,rfl⟩:=ry;obtain⟨its,r,pl,hz⟩:=I.tuple hq;obtain⟨j,h1,h2,h3,h4,h5⟩:=zb6 he;obtain⟨w,ew,rw'⟩:=r.get h2;have hl:=r.length;have hn:=VL;have fin:EP X pins σ Q w s:=⟨z,H,I,rw',q⟩;exact subscriptTail_builtinR (x:=w) pl.typeIs slot_tuple_getitem.lookup
  (getItem_tuple (j:=j) (Q:=λr s'=>r=w/\EP X pins σ Q r s') pl (by omega) (by omega) (by rw [lF,<-hl];exact h1) (by simpa using ew) ⟨rfl,fin⟩) hs
theorem zk3:IxR X zoB:=by
 intro value slice pins s σ H x y v u Q I rx ry h hs;obtain⟨z,i,c,rfl,rfl,hz,he,q⟩:=h;obtain⟨t,rfl⟩:=rx;obtain⟨t',rfl⟩:=ry;obtain⟨j,h1,h2,h3,h4,h5⟩:=zb6 he;have hl:z.cps.toList.length=z.length:=by simp [Str.length]
 rw [hl] at h1 h4 h5;have hn:=VL;exact tail_any (typeIs_str s z t) slot_str_getitem.lookup (getItem_str (c:=c) (by have e1:decide (i< -(2^63:Int))=false:=decide_eq_false (by omega);have e2:decide (i>=2^63)=false:=decide_eq_false (by omega);rw [e1,e2,Bool.or_false]) (by rw [h1];simpa using h2) ⟨.str ⟨#[c]⟩,H,I.tok _,⟨_,rfl⟩,q⟩) hs
theorem zdP(its:List Value)(n j:Nat)(u:Value):Obj.mapSeq (·.setIfInBounds j u) {cls:=.type "list",data:=.seq its.toArray n}={cls:=.type "list",data:=.seq (its.set j u).toArray n}:=by simp [Obj.mapSeq]
theorem Inv.lst{pins:List (Addr×Obj)}{σ:St}{H:Hp}{s:Shared}{p:Addr}{xs:List V}(I:Inv X pins σ H s)(h:H p=some (.lst xs)):
 ∃(its:List Value) (n:Nat),Vals xs its/\s.heap.get? p=some {cls:=.type "list",data:=.seq its.toArray n}/\xs.length<=sizeLine:=by
 obtain⟨z,its,n,r,e⟩:=I.hok p _ h;exact⟨its,n,r,e,z⟩
theorem Inv.lstUpd{pins:List (Addr×Obj)}{σ:St}{H:Hp}{s:Shared}{p:Addr}{xs ys:List V}{its its':List Value}{n n':Nat}{f:Obj->Obj}(I:Inv X pins σ H s)(h:H p=some (.lst xs))
 (ho:s.heap.get? p=some {cls:=.type "list",data:=.seq its.toArray n}) (hf:f {cls:=.type "list",data:=.seq its.toArray n}={cls:=.type "list",data:=.seq its'.toArray n'}) (r:Vals ys its') (hz:ys.length<=sizeLine) (t:Nat):
 Inv X pins σ (upd H p (.lst ys)) {s with heap:=s.heap.update p f,toks:=t}:=by
 have e:(s.heap.update p f).get? p=some {cls:=.type "list",data:=.seq its'.toArray n'}:=by rw [yg f ho (by rw [hf] <;> rfl),hf]
 refine I.write (x:=p) (e:=p) (by rw [h];trivial) (.inl rfl) (λb u hb q=>(ye _ _ (yY hb)).trans q) ⟨_,e⟩ ?_;exact⟨hz,its',n',r,e⟩
def znI:V->V->V->Hp->(Hp->Prop)->Prop:=λo i v H Q=>∃p xs k j,o= .ref p/\i= .int k/\H p=some (.lst xs)/\ixN xs.length k=some j/\Q (upd H p (.lst (xs.set j v)))
theorem set_list:zn8 X znI:=by
 intro pins s σ H o i v ov iv u Q I ro ri rv h;obtain⟨p,xs,k,j,rfl,rfl,hp,hj,q⟩:=h;cases ro;obtain⟨t,rfl⟩:=ri;obtain⟨its,n,r,ho,hz⟩:=I.lst hp;obtain⟨h1,h2,h3,h4⟩:=zf8 hj;have hl:=r.length;have hn:=VL
 have I':Inv X pins σ (upd H p (.lst (xs.set j v))) {s with heap:=s.heap.update p (Obj.mapSeq (·.setIfInBounds j u))}:=
  I.lstUpd hp ho (zdP its n j u) (r.set rv j) (by rw [Yd];exact hz) s.toks
 by_cases h0:0<=k
 ·have hk:k.toNat=j:=by rw [seqIndex_of h0 h4] at h1;exact Option.some.inj h1
  exact PySem.W.ki_setAt ho h0 (by omega) (by rw [lF,<-hl];exact h4) (by rw [hk];exact⟨_,I',q⟩)
 ·have hk:(k+(its.toArray.size:Int)).toNat=j:=by rw [seqIndex_neg (by omega) h3] at h1;rw [lF,<-hl];exact Option.some.inj h1
  exact PySem.W.ki_setBack ho (by omega) (by rw [lF,<-hl];exact h3) (by omega) (by rw [hk];exact⟨_,I',q⟩)
theorem zbs(lo hi:Option Int)(n:Nat):(sliceBounds lo hi none n).1=((HT.sIx n 0 lo:Nat):Int)/\(sliceBounds lo hi none n).2.1=((HT.sIx n n hi:Nat):Int)/\(sliceBounds lo hi none n).2.2=1:=by
 refine⟨?_,?_,rfl⟩
 ·cases lo with
  |none=>simp [sliceBounds,HT.sIx]
  |some i=>
   simp only [sliceBounds,HT.sIx,YI,show(1:Int)>0 by decide,if_true];by_cases h:i<0
   ·simp only [h,if_true] <;> omega
   ·simp only [h,if_false] <;> omega
 ·cases hi with
  |none=>simp [sliceBounds,HT.sIx]
  |some i=>
   simp only [sliceBounds,HT.sIx,YI,show(1:Int)>0 by decide,if_true];by_cases h:i<0
   ·simp only [h,if_true] <;> omega
   ·simp only [h,if_false] <;> omega
theorem zaD(its:List Value)(lo hi:Option Int):slicePick its.toArray lo hi none=((its.drop (HT.sIx its.length 0 lo)).take (HT.sIx its.length its.length hi-HT.sIx its.length 0 lo)).toArray:=by obtain⟨h1,h2,h3⟩:=zbs lo hi its.toArray.size;unfold slicePick;rw [h1,h2,h3];simp only [sliceRange_one,pick_run,lF] <;> rfl
def zoO(K:PySem.W.Frag):V->Option Int->Option Int->Hp->VK->Prop:=λx lo hi H Q=>∃a xs,x= .ref a/\SqL K H a xs/\∀p,H p=none->Q (.ref p) (upd H p (.lst (zkP xs lo hi)))
theorem zjk:SlR X (zoO X.K):=by intro pins s σ H x v vl vu lo hi sl Q I rx hs pl pu h;obtain⟨a,xs,rfl,hx,q⟩:=h;cases rx;obtain⟨its,r,ht,hz⟩:=I.list hx;have hlen:=r.length;refine⟨"list",_,slot_list_getitem.lookup,ht.isList.typeIs,?_⟩;refine wpAny_getItem_list_slice ht.isList hs pl pu .none (by simp) ?_ (by rw [lF] <;> omega);rw [zaD,<-hlen];refine⟨.ref s.heap.objs.size,_,I.laid (t':=s.toks) (o:=.lst (zkP xs lo hi)) (λb ob q=>lj _ q) (lD _) ?_,rfl,q _ (I.hok.fresh (lD _))⟩;exact⟨lQ (zcm xs lo hi) hz,_,0,(r.drop (HT.sIx xs.length 0 lo)).take (HT.sIx xs.length xs.length hi-HT.sIx xs.length 0 lo),lz _ rfl⟩
theorem Jx:Zj X (.builtin "len") (λxs H Q=>∃p ys,xs= [.ref p]/\(SqL X.K H p ys\/SqT X.K H p ys)/\Q (.int ys.length) H):=by
 intro pins s σ H xs us Q I r h;obtain⟨p,ys,rfl,hq,q⟩:=h;obtain⟨u,rfl,rx⟩:=vals1 r;cases rx;have hn:=VL;rcases hq with hq|hq
 ·obtain⟨its,r',pl,hz⟩:=I.list hq;have hlen:=r'.length;exact Calls.call_len_list pl.isList (by simp only [lF] <;> omega) ⟨.int ys.length,H,I.tok _,⟨s.toks+1,by rw [lF,hlen]⟩,q⟩
 ·obtain⟨its,r',pl,hz⟩:=I.tuple hq;have hlen:=r'.length;exact len_tuple pl (by simp only [lF] <;> omega) ⟨.int ys.length,H,I.tok _,⟨s.toks+1,by rw [lF,hlen]⟩,q⟩
theorem za2:Zj X (.builtin "len") (λxs H Q=>∃z,xs= [.str z]/\z.length<=sizeLine/\Q (.int z.length) H):=by intro pins s σ H xs us Q I r h;obtain⟨z,rfl,hz,q⟩:=h;obtain⟨u,rfl,t,rfl⟩:=vals1 r;have hn:=VL;exact len_str (by omega) ⟨.int z.length,H,I.tok _,⟨_,rfl⟩,q⟩
theorem Zj.or{f:Value}{r r':List V->Hp->VK->Prop}(h:Zj X f r)(h':Zj X f r'):Zj X f (λxs H Q=>r xs H Q\/r' xs H Q):=by
 intro pins s σ H xs us Q I rs q;rcases q with q|q
 ·exact h pins s σ H xs us Q I rs q
 ·exact h' pins s σ H xs us Q I rs q
theorem JL:Zj X (.type "list") (λxs H Q=>∃p ys,xs= [.ref p]/\(SqL X.K H p ys\/SqT X.K H p ys)/\∀l,H l=none->Q (.ref l) (upd H l (.lst ys))):=by
 intro pins s σ H xs us Q I r h;obtain⟨p,ys,rfl,hq,q⟩:=h;obtain⟨u,rfl,rx⟩:=vals1 r;cases rx;have fin:∀(its:List Value),Vals ys its->ys.length<=sizeLine->∀(h':Heap) (c':Nat),(∀b o',s.heap.get? b=some o'->h'.get? b=some o')->
  h'.get? s.heap.objs.size=some {cls:=.type "list",dict:=none,data:=.seq its.toArray c',slots:= #[]}->EP X pins σ Q (.ref s.heap.objs.size) {s with heap:=h'}:=λits r' hz h' c' kp e=>
  ⟨.ref s.heap.objs.size,_,I.laid (t':=s.toks) kp (lD _) (show kE X.prog X.w _ h' _ (.lst ys) from ⟨hz,its,c',r',e⟩),rfl,q _ (I.hok.fresh (lD _))⟩
 rcases hq with hq|hq
 ·obtain⟨its,r',pl,hz⟩:=I.list hq;have hlen:=r'.length;obtain⟨o,ho,hc,n,hd⟩:=pl.isList;exact call_list_seq p (.inl rfl) ho hc hd (λh' c' kp e=>fin its r' hz h' c' kp e) (by simp only [lF] <;> omega)
 ·obtain⟨its,r',pl,hz⟩:=I.tuple hq;have hlen:=r'.length;obtain⟨o,ho,hc,n,hd⟩:=pl;exact call_list_seq p (.inr rfl) ho hc hd (λh' c' kp e=>fin its r' hz h' c' kp e) (by simp only [lF] <;> omega)
theorem X5:Zj X (.type "tuple") (λxs H Q=>∃p ys,xs= [.ref p]/\((SqL X.K H p ys/\∀l,H l=none->Q (.ref l) (upd H l (.tup ys)))\/(SqT X.K H p ys/\Q (.ref p) H))):=by
 intro pins s σ H xs us Q I r h;obtain⟨p,ys,rfl,h⟩:=h;obtain⟨u,rfl,rx⟩:=vals1 r;cases rx;rcases h with⟨hq,q⟩|⟨hq,q⟩
 ·obtain⟨its,r',pl,hz⟩:=I.list hq;have hlen:=r'.length;refine call_tuple_list pl.isList (λh' kp=>?_) (by simp only [lF] <;> omega);have I1:Inv X pins σ H {s with heap:=h'}:=I.kept (t':=s.toks) kp
  have I2:Inv X pins σ (upd H h'.objs.size (.tup ys)) {s with heap:=h'.push {cls:=.type "tuple",data:=.seq its.toArray}}:=
   I1.laid (t':=s.toks) (λb o e=>lj _ e) (lD _) (show kE X.prog X.w _ _ _ (.tup ys) from ⟨hz,its,r',LZ _ _⟩)
  exact⟨.ref h'.objs.size,_,I2,rfl,q _ (I1.hok.fresh (lD _))⟩
 ·obtain⟨its,r',pl,hz⟩:=I.tuple hq;exact call_tuple_same pl ⟨.ref p,H,I,rfl,q⟩
def tyV(K:PySem.W.Frag)(T:String)(x:V)(H:Hp):Prop:=match x with
 | .str _=>T="str"
 | .int _=>T="int"
 | .ref p=>(T="list"/\∃xs,SqL K H p xs)\/(T="tuple"/\∃o,K.lookup p=some o/\o.cls= .type "tuple"/\o.dict=none)\/
     (T="dict"/\((∃kvs,H p=some (.dK kvs))\/∃kvs,H p=some (.dT kvs)))\/(T="set"/\∃S n,H p=some (.set S n))
 |_=>False
theorem zkN{pins:List (Addr×Obj)}{σ:St}{H:Hp}{s:Shared}{T:String}{x:V}{v:Value}(I:Inv X pins σ H s)(r:RelV x v)(ty:tyV X.K T x H):
 s.TypeIs v T/\∀a,v= .ref a->∃ob,s.heap.get? a=some ob/\ob.dict=none:=by
 cases x with
 |str z=>
  obtain⟨t,rfl⟩:=r;cases (show T="str" from ty);exact⟨typeIs_str s z t,λ_ e=>nomatch e⟩
 |int i=>
  obtain⟨t,rfl⟩:=r;cases (show T="int" from ty);exact⟨typeIs_int s i t,λ_ e=>nomatch e⟩
 |ref p=>
  cases r;rcases ty with⟨rfl,xs,hq⟩|⟨rfl,o,hk,hc,hd⟩|⟨rfl,hk⟩|⟨rfl,S,n,hk⟩
  ·obtain⟨its,_,pl,_⟩:=I.list hq;refine⟨pl.isList.typeIs,λa e=>?_⟩;cases e;obtain⟨o,n,e,c,hd,_⟩:=pl;exact⟨o,e,hd⟩
  ·refine⟨⟨o,I.kIn p o hk,hc⟩,λa e=>?_⟩;cases e;exact⟨o,I.kIn _ o hk,hd⟩
  ·have z:∃o,s.heap.get? p=some o/\o.ExactDict:=by
    rcases hk with⟨kvs,hk⟩|⟨kvs,hk⟩
    ·obtain⟨_,_,_,_,o,_,_,e,ex,_⟩:=I.hok p _ hk;exact⟨o,e,ex⟩
    ·obtain⟨_,_,_,_,o,_,_,e,ex,_⟩:=I.hok p _ hk;exact⟨o,e,ex⟩
   obtain⟨o,e,ex⟩:=z;refine⟨⟨o,e,ex.1⟩,λa e2=>?_⟩;cases e2;exact⟨o,e,ex.2.1⟩
  ·obtain⟨o,_,_,_,e,ex,_⟩:=I.hok p _ hk;refine⟨⟨o,e,ex.1⟩,λa e2=>?_⟩;cases e2;exact⟨o,e,ex.2.1⟩
 |_=>exact False.elim ty
def tBM(K:PySem.W.Frag)(T:String)(r:V->List V->Hp->VK->Prop)(to:TE)(t:TA):TE:=λσ H Q=>to σ H λx H1=>tyV K T x H1/\t σ H1 λxs H2=>r x xs H2 Q
variable {o e:Expr} {es:List Expr} {to:TE} {t:TA} {name:Str} {apos cpos:Pos} {T id:String} {r:V->List V->Hp->VK->Prop}
theorem zjU(pa:PlainAttrs T)(slot:Slot T name id)(hty:typeOf (.builtin id)=pure (.type "method_descriptor"))(hm:MtR X id r)(ho:PE X o to)(ha:PA X (e::es) t)
 (hbase:attributeBase o name X.env (eval o X.env)=eval o X.env:=by rfl)
 (hfew:((backTo cpos (starEach (e::es) X.env)).all (λx=> !x.1)&&(backToKw cpos (keywordEach [] X.env)).all (λx=>x.1.isSome)
   &&decide ((e::es).length+([]:List Keyword).length+(if ([]:List Keyword).isEmpty then 0 else 1)<30))=true:=by rfl)
 (hline:(apos.endLine==cpos.line)=true:=by rfl) (hs:starEach (e::es) X.env=(false,eval e X.env)::starEach es X.env:=by rfl) (hplain:(backTo cpos (starEach es X.env)).any (·.1)=false:=by rfl):
 PE X (.Call (.Attribute o name apos) (e::es) [] cpos) (tBM X.K T r to t):=by
 intro pins s σ H Q I h;refine wpAny_Call_method_late hbase hfew hline rfl (thn (ho pins s σ H _ I h) λv s1 ⟨x,H1,I1,r1,ty,q1⟩=>?_);obtain⟨h1,h2⟩:=zkN I1 r1 ty;refine⟨T,id,pa,slot,hty,h1,h2,?_⟩;have hA:=ha cpos pins s1 σ H1 _ I1 q1;rw [hs] at hA⊢;refine Ye (by show(false||(backTo cpos (starEach es X.env)).any (·.1))=false;rw [hplain] <;> rfl) (LA ?_);exact thn hA λus s2 ⟨vs,H2,I2,r2,q2⟩=>hm pins s2 σ H2 x vs v us Q I2 r1 r2 q2
end
def MtM(X:Cx)(id:String)(r:V->List V->Hp->VK->Prop):Prop:=
 ∀(pins:List (Addr×Obj)) (s:Shared) (σ:St) (H:Hp) (x:V) (xs:List V) (v:Value) (us:List Value) (Q:VK),Inv X pins σ H s->RelV x v->Vals xs us->r x xs H Q->
  wpAny (model X.prog X.w) X.A (call (.builtin id) (v::us)) (EP X pins σ Q) X.xe s
theorem Vals.one:∀{x:V} {us:List Value},Vals [x] us->∃u,us= [u]/\RelV x u
 |_,_,.cons r .nil=>⟨_,rfl,r⟩
theorem Vals.two:∀{x y:V} {us:List Value},Vals [x,y] us->∃u v,us= [u,v]/\RelV x u/\RelV y v
 |_,_,_,.cons r (.cons q .nil)=>⟨_,_,rfl,r,q⟩
theorem Vals.zero:∀{us:List Value},Vals [] us->us= []
 |_,.nil=>rfl
theorem Vals.eraseIdx:∀{xs:List V} {us:List Value} (i:Nat),Vals xs us->Vals (xs.eraseIdx i) (us.eraseIdx i)
 |_,_,_,.nil=>.nil
 |_,_,0,.cons _ t=>t
 |_,_,i+1,.cons r t=>.cons r (Vals.eraseIdx i t)
theorem Vals.rep{xs:List V}{us:List Value}(h:Vals xs us):∀k:Nat,Vals (List.replicate k xs).flatten (List.replicate k us).flatten
 |0=>.nil
 |k+1=>by rw [yQ,yQ,Lc,Lc];exact Vals.append h (Vals.rep h k)
theorem zbW{α:Type}:∀(l:List α) (i:Nat),(l.eraseIdx i).length<=l.length
 | [],_=>lD _
 |_::_,0=>Lm _
 |_::r,i+1=>YJ (zbW r i)
theorem foldl_rep(its:List Value):∀(k:Nat) (acc:List Value),
 List.foldl (λx1 x2=>x1++x2) acc.toArray (List.replicate k its.toArray)=(acc++(List.replicate k its).flatten).toArray
 |0,acc=>by simp
 |k+1,acc=>by
  have e:acc.toArray++its.toArray=(acc++its).toArray:=by simp
  have e2:(acc++its)++(List.replicate k its).flatten=acc++(List.replicate (k+1) its).flatten:=by rw [yQ,Lc,yD]
  rw [<-e2,<-foldl_rep its k (acc++its),<-e,yQ,LO]
section
variable {X:Cx} {pins:List (Addr×Obj)} {σ:St} {H:Hp} {s:Shared} {l b:Addr} {xs ys zs:List V}
theorem Inv.lset{its its':List Value}{n:Nat}{f:Array Value->Array Value}{t':Nat}(I:Inv X pins σ H s)(hH:H l=some (.lst xs))
 (e:s.heap.get? l=some {cls:=.type "list",data:=.seq its.toArray n}) (hf:f its.toArray=its'.toArray) (hv:Vals ys its') (hz:ys.length<=sizeLine):
 Inv X pins σ (upd H l (.lst ys)) {s with heap:=s.heap.update l (Obj.mapSeq f),toks:=t'}:=by
 have q:=PySem.IsL.update e f;rw [hf] at q;refine I.write (x:=l) (e:=l) (by rw [hH];exact trivial) (.inl rfl) (λb' u hb hu=>(ye s.heap (Obj.mapSeq f) (yY hb)).trans hu) ⟨_,q⟩ ?_;exact⟨hz,its',_,hv,q⟩
theorem Inv.lnew{its:List Value}{t':Nat}(I:Inv X pins σ H s)(hv:Vals ys its)(hz:ys.length<=sizeLine):
 Inv X pins σ (upd H s.heap.objs.size (.lst ys)) {s with heap:=s.heap.push {cls:=.type "list",data:=.seq its.toArray},toks:=t'}:=
 I.laid (λ_ _ q=>lj _ q) (lD _) ⟨hz,its,0,hv,lz _ rfl⟩
theorem Inv.fresh(I:Inv X pins σ H s):H s.heap.objs.size=none:=I.hok.fresh (lD _)
theorem Inv.lstM(I:Inv X pins σ H s)(hH:H l=some (.lst xs)):xs.length<=sizeLine/\∃(its:List Value) (n:Nat),Vals xs its/\xs.length=its.length/\s.heap.get? l=some {cls:=.type "list",data:=.seq its.toArray n}:=by obtain⟨z,its,n,r,e⟩:=I.hok l _ hH;exact⟨z,its,n,r,r.length,e⟩
theorem J5{n:Nat}(h:n<=sizeLine):Builtin.List.listTooLong n=false:=by unfold Builtin.List.listTooLong;exact decide_eq_false (by omega)
end
section
variable {X:Cx}
def zjS:V->List V->Hp->VK->Prop:=λx vs H Q=>∃l xs y,x= .ref l/\vs= [y]/\H l=some (.lst xs)/\xs.length<sizeLine/\Q .non (upd H l (.lst (xs++ [y])))
theorem zex:MtM X "list.append" zjS:=by intro pins s σ H x vs v us Q I rx rv h;obtain⟨l,xs,y,rfl,rfl,hH,hz,q⟩:=h;cases rx;obtain⟨u,rfl,ru⟩:=rv.one;obtain⟨z,its,n,r,hl,e⟩:=I.lstM hH;refine call_meets YA ⟨_,e,rfl⟩ F.entry_list_append (F.args_list_append_2 _ _) (PySem.list_append l its.toArray n u (by rw [lF];omega)) ⟨e,?_⟩;refine⟨.non,_,I.lset (its':=its++ [u]) hH e (by simp) (r.append (.cons ru .nil)) ?_,rfl,q⟩;rw [lH,List.length_singleton];omega
def zjl:V->List V->Hp->VK->Prop:=λx vs H Q=>∃l b xs zs,x= .ref l/\vs= [.ref b]/\H l=some (.lst xs)/\H b=some (.lst zs)/\xs.length+zs.length<=sizeLine/\Q .non (upd H l (.lst (xs++zs)))
theorem zlC:MtM X "list.extend" zjl:=by
 intro pins s σ H x vs v us Q I rx rv h;obtain⟨l,b,xs,zs,rfl,rfl,hH,hB,hz,q⟩:=h;cases rx;obtain⟨u,rfl,ru⟩:=rv.one;cases ru;obtain⟨z,its,n,r,hl,e⟩:=I.lstM hH;obtain⟨z2,its2,n2,r2,hl2,e2⟩:=I.lstM hB;have hsz:its.toArray.size+its2.toArray.size<=sizeLine:=by rw [lF,lF];omega
 have hlong:¬(!its.toArray.isEmpty&&Builtin.List.listTooLong (its.toArray.size+its2.toArray.size))=true:=by rw [J5 hsz,Lk];exact lE
 refine call_meets F.slot_list_extend ⟨_,e,rfl⟩ F.entry_list_extend (F.args_list_extend_2 _ _)
  (AutoSeq1.list_extend_list_list_0 l its.toArray n b its2.toArray n2 hlong (by rw [lF];omega) (by omega)) ⟨e,e2,?_⟩
 refine⟨.non,_,I.lset (its':=its++its2) hH e (by simp) (r.append r2) ?_,rfl,q⟩;rw [lH];omega
def zlg:V->List V->Hp->VK->Prop:=λx vs H Q=>∃l xs i k y,x= .ref l/\vs= [.int i]/\H l=some (.lst xs)/\ -(2^63)<=i/\i<2^63/\seqIndex? i xs.length=some k/\xs[k]? =some y/\Q y (upd H l (.lst (xs.eraseIdx k)))
theorem zhD:MtM X "list.pop" zlg:=by
 intro pins s σ H x vs v us Q I rx rv h;obtain⟨l,xs,i,k,y,rfl,rfl,hH,h1,h2,hk,hy,q⟩:=h;cases rx;obtain⟨u,rfl,ru⟩:=rv.one;obtain⟨t,rfl⟩:=ru;obtain⟨z,its,n,r,hl,e⟩:=I.lstM hH;obtain⟨w,hw,rw'⟩:=r.get hy;refine call_meets F.slot_list_pop ⟨_,e,rfl⟩ F.entry_list_pop (F.args_list_pop_2 _ _)
  (MeetsSeq.list_pop_at l its.toArray n i t k w (fitsIndex_both h1 h2) (by rw [lF,<-hl];exact hk) (by rw [<-yA];exact hw) (by rw [lF];omega)) ⟨e,?_⟩
 refine⟨y,_,I.lset (its':=its.eraseIdx k) hH e ?_ (r.eraseIdx k) ?_,rw',q⟩
 ·show its.toArray.eraseIdxIfInBounds k=(its.eraseIdx k).toArray;rw [List.eraseIdxIfInBounds_toArray]
 ·have:=zbW xs k;omega
def zoe:R2:=λx y H Q=>∃l b xs zs,x= .ref l/\y= .ref b/\H l=some (.lst xs)/\H b=some (.lst zs)/\xs.length+zs.length<=sizeLine/\∀p,H p=none->Q (.ref p) (upd H p (.lst (xs++zs)))
theorem zlI:OpR X (binaryOp .Add) zoe:=by
 intro pins s σ H x y v u Q I rx ry h;obtain⟨l,b,xs,zs,rfl,rfl,hH,hB,hz,q⟩:=h;cases rx;cases ry;obtain⟨z,its,n,r,hl,e⟩:=I.lstM hH;obtain⟨z2,its2,n2,r2,hl2,e2⟩:=I.lstM hB;refine PySem.P.add_list e e2 ?_ (by rw [lF,lF];omega);have ea:its.toArray++its2.toArray=(its++its2).toArray:=by simp
 rw [ea];exact⟨.ref _,_,I.lnew (t':=s.toks) (r.append r2) (by rw [lH];omega),rfl,q _ I.fresh⟩
def zoQ:R2:=λx y H Q=>∃l k xs,x= .ref l/\y= .int k/\H l=some (.lst xs)/\ -(2^63)<=k/\k<2^63/\xs.length*k.toNat<=sizeLine/\
 ∀p,H p=none->Q (.ref p) (upd H p (.lst (List.replicate k.toNat xs).flatten))
theorem len_rep{α:Type}(xs:List α)(k:Nat):(List.replicate k xs).flatten.length=k*xs.length:=by
 induction k with
 |zero=>simp
 |succ k ih=>rw [yQ,Lc,lH,ih,Nat.succ_mul,Nat.add_comm]
theorem zlo:OpR X (binaryOp .Mult) zoQ:=by
 intro pins s σ H x y v u Q I rx ry h;obtain⟨l,k,xs,rfl,rfl,hH,h1,h2,hz,q⟩:=h;cases rx;obtain⟨t,rfl⟩:=ry;obtain⟨z,its,n,r,hl,e⟩:=I.lstM hH;have hlen:its.toArray.size*k.toNat<=sizeLine:=by rw [lF,<-hl];exact hz
 have hcap:¬its.toArray.size*k.toNat>(2^63-1)/8:=by
  have:(sizeLine:Nat)<=(2^63-1)/8:=by decide
  omega
 have hfit:¬(!Builtin.List.listFitsIndex k)=true:=by rw [fitsIndex_both h1 h2];exact lE
 have hlong:¬Builtin.List.listTooLong (its.toArray.size*k.toNat)=true:=by rw [J5 hlen];exact lE
 have hnew:List.foldl (λx1 x2=>x1++x2) #[] (List.replicate (if its.toArray.isEmpty=true then 0 else k.toNat) its.toArray)=(List.replicate k.toNat its).flatten.toArray:=by
  have f0:∀m:Nat,List.foldl (λx1 x2=>x1++x2) #[] (List.replicate m its.toArray)=(List.replicate m its).flatten.toArray:=λm=>by have:=foldl_rep its m [];rw [yo] at this;exact this
  rw [f0];cases its with
  |nil=>simp
  |cons a r'=>rw [if_neg (by simp)]
 refine wpAny_binaryOp_repeat_ref (T:="list") (U:="int") (by decide) ⟨_,e,rfl⟩ (λs'=>typeIs_int s' k t) noFill_list_mul F.fills_int_mul F.slot_int_rmul repeat_list F.slot_int_index.lookup
  (call_meets F.slot_int_rmul (typeIs_int s k t) F.entry_int_rmul (F.args_int_rmul_2 _ _) (int___rmul___int_list k t l its.toArray n)
    ⟨e,rfl,⟨_,e,rfl⟩,call_meets F.slot_list_mul ⟨_,e,rfl⟩ F.entry_list_mul (F.args_list_mul_2 _ _) (AutoListH.list___mul___list_int_3 l its.toArray n k t hfit hcap hlong) ⟨e,?_⟩⟩)
 rw [hnew];exact⟨.ref _,_,I.lnew (t':=s.toks) (r.rep k.toNat) (by rw [len_rep,Nat.mul_comm];exact hz),rfl,q _ I.fresh⟩
end
section
variable {prog:Program} {w:World} {A:Around} {E:Value->Shared->Prop} {s:Shared}
theorem zga(its its2:List Value)(a c:Nat):its.toArray.extract 0 a++its2.toArray++its.toArray.extract c its.toArray.size=(its.take a++its2++its.drop c).toArray:=by
 apply YK.mp;first
  |(simp
    exact yk (by simp))
  |simp [yk]
  |simp
end
section
variable {X:Cx}
end
theorem Vals.ints:∀{ns:List Int} {us:List Value},Vals (ns.map V.int) us->IntsAre us ns
 | [],us,h=>by rw [Ld] at h;cases h;exact IntsAre.nil
 |n::ns,us,h=>by
  rw [lU] at h;cases h with
  |cons r t=>
   obtain⟨k,rfl⟩:=r;exact IntsAre.cons n k (Vals.ints t)
theorem zaZ:∀{us:List Value} {ns:List Int},IntsAre us ns->Vals (ns.map V.int) us
 |_,_,.nil=>by rw [Ld];exact Paired.nil
 |_,_,.cons n t h=>by rw [lU];exact Paired.cons (show RelV (V.int n) (Value.int n t) from ⟨t,rfl⟩) (zaZ h)
theorem Vals.strs:∀{xs:List Str} {us:List Value},Vals (xs.map V.str) us->StrsAre us xs
 | [],us,h=>by rw [Ld] at h;cases h;exact StrsAre.nil
 |x::xs,us,h=>by
  rw [lU] at h;cases h with
  |cons r t=>
   obtain⟨k,rfl⟩:=r;exact StrsAre.cons x k (Vals.strs t)
theorem QL:∀{us:List Value} {xs:List Str},StrsAre us xs->Vals (xs.map V.str) us
 |_,_,.nil=>by rw [Ld];exact Paired.nil
 |_,_,.cons x t h=>by rw [lU];exact Paired.cons (show RelV (V.str x) (Value.str x t) from ⟨t,rfl⟩) (QL h)
theorem Vals.bls:∀{bs:List Bool} {us:List Value},Vals (bs.map V.bl) us->us=bs.map Value.bool
 | [],us,h=>by rw [Ld] at h;cases h;rfl
 |b::bs,us,h=>by
  rw [lU] at h;cases h with
  |cons r t=>
   cases r;rw [Vals.bls t,lU]
theorem Vals.ref1{a:Addr}{us:List Value}(r:Vals [V.ref a] us):us= [Value.ref a]:=by
 cases r with
 |cons r t=>
  cases t;cases r;rfl
section
variable {prog:Program} {w:World} {A:Around} {E:Value->Shared->Prop} {s:Shared} {l:Addr} {its:List Value} {ns:List Int} {Q:Value->Shared->Prop}
end
section
variable {X:Cx}
def zg2(K:PySem.W.Frag):List V->Hp->VK->Prop:=λvs H Q=>∃(a:Addr) (xs:List Str),vs= [V.ref a]/\SqL K H a (xs.map V.str)/\xs.length<64/\
 ∀(ys:List Str) (p:Addr),ys.Perm xs->sortedS ys=true->H p=none->Q (.ref p) (upd H p (.lst (ys.map V.str)))
theorem zft{n:Nat}(h:n<64):n<=sizeLine:=by rw [sizeLine_eq];omega
theorem zd6:Zj X (.builtin "sorted") (zg2 X.K):=by
 intro pins s σ H vs us Q I r h;obtain⟨a,xs,rfl,hs,h64,q⟩:=h;obtain⟨its,rv,hl,_⟩:=I.list hs;rw [Vals.ref1 r];have hlen0:=rv.length;rw [lB] at hlen0;refine PyProof.Rows.sorted_strs hl.isList rv.strs (by rw [<-hlen0];exact h64) λout ys h1 h2 h3=>?_
 obtain⟨ep,he'⟩:=PyProof.Rows.sortedAll_at s.heap its out;have hlen:(ys.map V.str).length<=sizeLine:=by rw [lB,h2.length_eq];exact zft h64
 exact⟨.ref _,upd H (s.heap.objs.size+1) (.lst (ys.map V.str)),I.laid (t':=s.toks) (λ_ _=>PyProof.Rows.sortedAll_old) (Lm _) ⟨hlen,out.toList,ep,QL h1,he'⟩,rfl,q ys _ h2 h3 (I.hok.fresh (Lm _))⟩
end
theorem zhu{prog:Program}{w:World}{A:Around}{E:Value->Shared->Prop}{s:Shared}{l:Addr}{items:Array Value}{Q:Value->Shared->Prop}(hl:s.heap.IsList l items)
 (h:∀s₂:Shared,s₂={s with heap:=s.heap.push {cls:=.type "list_iterator",data:=.fields #[.ref l,.int 0 0]}}->
   (s₂.heap.IsListIter s.heap.objs.size l 0/\s₂.heap.IsList l items)->l≠s.heap.objs.size->Q (.ref s.heap.objs.size) s₂):wpAny (model prog w) A (pyIter (.ref l)) Q E s:=by
 have hlt:l<s.heap.objs.size:=by obtain⟨_,e,_⟩:=hl;exact lq e
 exact wpAny_pyIter_list hl (h _ rfl ⟨⟨_,lz _ rfl,rfl,rfl⟩,hl.push _⟩ (lY hlt))
theorem zb9{prog:Program}{w:World}{A:Around}{bs:List Bool}{its:List Value}(e:its=bs.map Value.bool):
 TruthOf prog w A (λi v=>its.toArray[i]? =some v) (λi=>bs.getD i false):=λi v s Q E hv hq=>by
 have hv':its[i]? =some v:=by simpa using hv
 rw [e,ya] at hv';obtain⟨b,hb,rfl⟩:=Option.map_eq_some_iff.mp hv';have hg:bs.getD i false=b:=by rw [yc,hb] <;> rfl
 have hq':Q (bs.getD i false) s:=hq;rw [hg] at hq';exact wpAny_truthy_bool hq'
theorem any_range:∀bs:List Bool,(List.range bs.length).any (λi=>bs.getD i false)=bs.any id
 | []=>rfl
 |b::bs=>by rw [lO,YV,Lu,List.any_map,Lu,<-any_range bs];all_goals rfl
theorem all_range:∀bs:List Bool,(List.range bs.length).all (λi=>bs.getD i false)=bs.all id
 | []=>rfl
 |b::bs=>by rw [lO,YV,Lv,YW,Lv,<-all_range bs];all_goals rfl
section
variable {X:Cx}
def zoL(K:PySem.W.Frag):List V->Hp->VK->Prop:=λvs H Q=>∃(a:Addr) (bs:List Bool),vs= [V.ref a]/\SqL K H a (bs.map V.bl)/\Q (.bl (bs.all id)) H
theorem zlJ(hc:X.calm=true):Zj X (.builtin "all") (zoL X.K):=by
 intro pins s σ H vs us Q I r h;obtain⟨a,bs,rfl,hs,q⟩:=h;obtain⟨its,rv,hl,_⟩:=I.list hs;rw [Vals.ref1 r];have hb:=rv.bls;refine call_all_walk (zhu hl.isList λs₂ e2 st hne=>?_);subst e2;refine⟨_,_,_,_,_,_,_,rfl,Walks.list (A:=X.A.in1) (I.ok.hd hc) _ a hne its.toArray,st,zb9 hb,λh' tk hk=>?_⟩;refine⟨.bl _,H,I.kept λb o eo=>hk b o (λhmem=>?_) (lj _ eo),?_,q⟩
 ·rcases lu.mp hmem with e1|hmem
  ·exact absurd (e1▸lq eo) (yF _)
  ·cases hmem
 ·show Value.bool _=Value.bool _;rw [<-all_range,hb,lF,lB]
end
mutual
inductive Dp (K:PySem.W.Frag) (H:Hp):V->PyData->Prop
 |non:Dp K H .non .none
 |bl (b:Bool):Dp K H (.bl b) (.bool b)
 |int (i:Int):Dp K H (.int i) (.int i)
 |str (x:Str):Dp K H (.str x) (.str x)
 |lst {a:Addr} {xs:List V} {ds:List PyData}:SqL K H a xs->DpAll K H xs ds->Dp K H (.ref a) (.list ds)
 |tup {a:Addr} {xs:List V} {ds:List PyData}:SqT K H a xs->DpAll K H xs ds->Dp K H (.ref a) (.tuple ds)
inductive DpAll (K:PySem.W.Frag) (H:Hp):List V->List PyData->Prop
 |nil:DpAll K H [] []
 |cons {v:V} {vs:List V} {d:PyData} {ds:List PyData}:Dp K H v d->DpAll K H vs ds->DpAll K H (v::vs) (d::ds)
end
section
variable {X:Cx} {pins:List (Addr×Obj)} {σ:St} {H:Hp} {s:Shared}
mutual
theorem Dp.reads(I:Inv X pins σ H s):∀(d:PyData) (v:V) (u:Value),Dp X.K H v d->RelV v u->∃as,Reads s.heap u d as
 | .none,_,_,h,r=>by cases h;cases r;exact⟨_,Reads.none⟩
 | .bool b,_,_,h,r=>by cases h;cases r;exact⟨_,Reads.bool b⟩
 | .int i,_,_,h,r=>by cases h;obtain⟨t,rfl⟩:=r;exact⟨_,Reads.int i t⟩
 | .str x,_,_,h,r=>by cases h;obtain⟨t,rfl⟩:=r;exact⟨_,Reads.str x t⟩
 | .list ds,_,_,h,r=>by
   cases h with
   |lst hs ha=>
    cases r;obtain⟨its,rv,⟨o,n,ho,hc,_,hd⟩,_⟩:=I.list hs;obtain⟨as,hr⟩:=Dp.readsAll I ds _ its ha rv;exact⟨_,Reads.list ho hc hd hr⟩
 | .tuple ds,_,_,h,r=>by
   cases h with
   |tup hs ha=>
    cases r;obtain⟨its,rv,⟨o,ho,hc,n,hd⟩,_⟩:=I.tuple hs;obtain⟨as,hr⟩:=Dp.readsAll I ds _ its ha rv;exact⟨_,Reads.tuple ho hc hd hr⟩
 | .dict _,_,_,h,_=>by cases h
theorem Dp.readsAll(I:Inv X pins σ H s):∀(ds:List PyData) (vs:List V) (us:List Value),DpAll X.K H vs ds->Vals vs us->∃as,ReadsAll s.heap us ds as
 | [],_,_,h,r=>by cases h;cases r;exact⟨_,ReadsAll.nil⟩
 |d::ds,_,_,h,r=>by
  cases h with
  |cons h1 h2=>
   cases r with
   |cons r1 r2=>
    obtain⟨as,q1⟩:=Dp.reads I d _ _ h1 r1;obtain⟨bs,q2⟩:=Dp.readsAll I ds _ _ h2 r2;exact⟨_,ReadsAll.cons q1 q2⟩
end
end
section
variable {X:Cx}
def zoh(K:PySem.W.Frag):R2:=λx y H Q=>∃d e,Dp K H x d/\Dp K H y e/\SeqAt.shaped d=true/\SeqAt.shaped e=true/\Q (.bl (PyData.eqv d e)) H
def zog(K:PySem.W.Frag):R2:=λx y H Q=>∃d e,Dp K H x d/\Dp K H y e/\SeqAt.shaped d=true/\SeqAt.shaped e=true/\Q (.bl (!PyData.eqv d e)) H
theorem zk1(hu:X.A.units+64<cLine):OpR X (compareOp .Eq) (zoh X.K):=by intro pins s σ H x y v u Q I rx ry h;obtain⟨d,e,hd,he,sd,se,q⟩:=h;obtain⟨as,r1⟩:=Dp.reads I d x v hd rx;obtain⟨bs,r2⟩:=Dp.reads I e y u he ry;exact SeqAt.compareEq_shaped r1 r2 sd se hu ⟨.bl _,H,I,rfl,q⟩
theorem zl8(hu:X.A.units+64<cLine):OpR X (compareOp .NotEq) (zog X.K):=by intro pins s σ H x y v u Q I rx ry h;obtain⟨d,e,hd,he,sd,se,q⟩:=h;obtain⟨as,r1⟩:=Dp.reads I d x v hd rx;obtain⟨bs,r2⟩:=Dp.reads I e y u he ry;exact SeqAt.compareNe_shaped r1 r2 sd se hu ⟨.bl _,H,I,rfl,q⟩
end
abbrev ziP(h:Heap)(c:Addr)(v:Option Value):Prop:=h.IsCell c v
def zoD(scope sc:Scope):Scope:=
 {scope with names:=scope.names.map λ(n,k)=>if (k== .free&&sc.kind== .function&&sc.names.lookup n==some .cell) then(n,.cell) else(n,k)}
def qE(cells:List (Str×Addr)):List (Str×NameKind)->List (Str×Addr)->List (Str×Addr)
 | [],acc=>acc
 |(n,k)::r,acc=>if k== .free then qE cells r ((n,(cells.lookup n).getD 0)::acc) else qE cells r acc
theorem JJ(env:Env)(f:Str×NameKind->List (Str×Addr)->Sem (ForInStep (List (Str×Addr))))
 (hf:∀n k c,f (n,k) c=if k== .free then(do let a<-cellOf env n;pure (.yield ((n,a)::c))) else pure (.yield c)):
 ∀(names:List (Str×NameKind)) (acc:List (Str×Addr)),(∀y∈names,y.2= .free->∃c,env.cells.lookup y.1=some c)->forIn names acc f=pure (qE env.cells names acc)
 | [],acc,_=>by rw [List.forIn_nil];rfl
 |(n,k)::r,acc,h=>by
  rw [List.forIn_cons,hf];have ih:=λacc=>JJ env f hf r acc λy hy=>h y (lA _ hy)
  unfold qE;by_cases hk:(k==NameKind.free)=true
  ·rw [if_pos hk,if_pos hk];obtain⟨c,hc⟩:=h (n,k) lC (by simpa using hk);have e:cellOf env n=pure c:=by unfold cellOf;rw [hc]
   rw [e];have e2:(env.cells.lookup n).getD 0=c:=by rw [hc];rfl
   rw [e2];exact ih _
  ·rw [if_neg hk,if_neg hk];exact ih _
theorem Jj{scope:Scope}{env:Env}(h:∀y∈scope.names,y.2= .free->∃c,env.cells.lookup y.1=some c):closureFor scope env=pure (qE env.cells scope.names []):=by simp only [closureFor];rw [JJ env _ (λn k c=>rfl) scope.names [] h];rfl
theorem mem_lookup{α:Type}:∀{l:List (Str×α)} {n:Str} {c:α},(n,c)∈l->∃c',l.lookup n=some c'
 |(k,v)::r,n,c,h=>by
  rw [y9];cases hb:n==k with
  |true=>exact⟨_,rfl⟩
  |false=>
   rcases lu.mp h with e|h
   ·cases e;simp at hb
   ·exact mem_lookup h
theorem Z8{cells:List (Str×Addr)}:∀{names:List (Str×NameKind)} {acc:List (Str×Addr)} {n:Str} {c:Addr},(n,c)∈qE cells names acc->(n,c)∈acc\/((n,.free)∈names/\c=(cells.lookup n).getD 0)
 | [],_,_,_,h=>.inl h
 |(m,k)::r,acc,n,c,h=>by
  unfold qE at h;split at h
  ·rename_i hk;have hk:k= .free:=by simpa using hk
   rcases Z8 h with h|⟨h1,h2⟩
   ·rcases lu.mp h with e|h
    ·cases e;exact .inr ⟨hk▸lC,rfl⟩
    ·exact .inl h
   ·exact .inr ⟨lA _ h1,h2⟩
  ·rcases Z8 h with h|⟨h1,h2⟩
   ·exact .inl h
   ·exact .inr ⟨lA _ h1,h2⟩
theorem Xf{cells:List (Str×Addr)}:∀{names:List (Str×NameKind)} {acc:List (Str×Addr)} {p:Str×Addr},p∈acc->p∈qE cells names acc
 | [],_,_,h=>h
 |(m,k)::r,acc,p,h=>by
  unfold qE;split
  ·exact Xf (lA _ h)
  ·exact Xf h
theorem Xs{cells:List (Str×Addr)}:∀{names:List (Str×NameKind)} {acc:List (Str×Addr)} {n:Str},(n,.free)∈names->(n,(cells.lookup n).getD 0)∈qE cells names acc
 |(m,k)::r,acc,n,h=>by
  unfold qE;rcases lu.mp h with e|h
  ·cases e;exact Xf lC
  ·split
   ·exact Xs h
   ·exact Xs h
theorem QH:∀{names:List (Str×NameKind)} {h:Heap} {acc:List (Str×Addr)} {x:Str} {c:Addr},(x,c)∈cellsFrom h.objs.size names acc->
 (x,c)∈acc\/((x,.cell)∈names/\h.objs.size<=c/\ziP (pushCells h names) c none)
 | [],_,_,_,_,h=>.inl h
 |(n,k)::r,h,acc,x,c,hm=>by
  unfold cellsFrom at hm;unfold pushCells;split at hm
  ·rename_i hk;rw [if_pos hk];have hk:k= .cell:=by simpa using hk
   rw [<-lT h {cls:=.type "cell",data:=.cell none}] at hm;rcases QH hm with hm|⟨h1,h2,h3⟩
   ·rcases lu.mp hm with e|hm
    ·cases e;exact .inr ⟨hk▸lC,lD _,_,pushCells_keeps r _ _ _ (lz _ rfl),rfl⟩
    ·exact .inl hm
   ·rw [lT] at h2;exact .inr ⟨lA _ h1,L3 h2,h3⟩
  ·rename_i hk;rw [if_neg hk];rcases QH hm with hm|⟨h1,h2,h3⟩
   ·exact .inl hm
   ·exact .inr ⟨lA _ h1,h2,h3⟩
theorem XJ:∀{names:List (Str×NameKind)} {n:Nat} {acc:List (Str×Addr)} {p:Str×Addr},p∈acc->p∈cellsFrom n names acc
 | [],_,_,_,h=>h
 |(m,k)::r,n,acc,p,h=>by
  unfold cellsFrom;split
  ·exact XJ (lA _ h)
  ·exact XJ h
theorem Va:∀{names:List (Str×NameKind)} {n:Nat} {acc:List (Str×Addr)} {x:Str},(x,.cell)∈names->∃c,(x,c)∈cellsFrom n names acc
 |(m,k)::r,n,acc,x,h=>by
  unfold cellsFrom;rcases lu.mp h with e|h
  ·cases e;exact⟨n,XJ lC⟩
  ·split
   ·exact Va h
   ·exact Va h
theorem K4:∀{names:List (Str×NameKind)} {h:Heap} {acc:List (Str×Addr)} {x y:Str} {c:Addr},(∀p∈acc,p.2<h.objs.size)->(∀x y c,(x,c)∈acc->(y,c)∈acc->x=y)->
 (x,c)∈cellsFrom h.objs.size names acc->(y,c)∈cellsFrom h.objs.size names acc->x=y
 | [],_,_,_,_,_,_,hi,h1,h2=>hi _ _ _ h1 h2
 |(n,k)::r,h,acc,x,y,c,hl,hi,h1,h2=>by
  unfold cellsFrom at h1 h2;split at h1
  ·rename_i hk;rw [if_pos hk] at h2;rw [<-lT h {cls:=.type "cell",data:=.cell none}] at h1 h2;refine K4 (h:=h.push _) (λp hp=>?_) (λx y c a b=>?_) h1 h2
   ·rw [lT];rcases lu.mp hp with rfl|hp
    ·exact LB _
    ·exact yM (hl p hp)
   ·rcases lu.mp a with e|a <;> rcases lu.mp b with e'|b
    ·cases e;cases e';rfl
    ·cases e;exact absurd (hl _ b) (yF _)
    ·cases e';exact absurd (hl _ a) (yF _)
    ·exact hi _ _ _ a b
  ·rename_i hk;rw [if_neg hk] at h2;exact K4 hl hi h1 h2
theorem Xo{M:Model}{A:Around}{E:Value->Shared->Prop}{s:Shared}{scope:Scope}{globals:Addr}{closure:List (Str×Addr)}{qual:Str}{func:Option Addr}{code:Value}{around:Env}{builtins:Addr}{Q:Env->Shared->Prop}
 (h:Q (newEnv scope s.heap.objs.size globals (cellsFrom (s.heap.objs.size+1) scope.names closure) qual func code (some around) builtins)
   {s with heap:=pushCells (s.heap.push {cls:=.type "dict",data:=.dict #[]}) scope.names}):
 wpAny M A (newFunctionEnv scope globals closure [] qual func code (some around) builtins) Q E s:=by
 simp only [newFunctionEnv,Option.isSome_some,if_true];refine wpAny_bind (wpAny_alloc ?_);refine wpAny_bind (wpAny_layCells _ (λn k c=>rfl) scope.names closure _ _ ?_);rw [show({s with heap:=s.heap.push {cls:=.type "dict",data:=.dict #[]}}:Shared).heap.objs.size=s.heap.objs.size+1 from lT ..];rw [List.forIn_nil];exact wpAny_bind (wpAny_pure (wpAny_pure h))
theorem Xi{sc:Scope}:∀{names:List (Str×NameKind)} {x:Str} {k:NameKind},
 (names.map λ(n,k)=>if (k==NameKind.free&&sc.kind== .function&&sc.names.lookup n==some .cell) then(n,NameKind.cell) else(n,k)).lookup x=some k->
 ∃k',names.lookup x=some k'/\(k=k'\/(k'= .free/\k= .cell))
 | [],_,_,h=>by simp at h
 |(n,k₀)::r,x,k,h=>by
  have ih:= @Xi sc r x k;have h':List.lookup x ((if (k₀==NameKind.free&&sc.kind== .function&&sc.names.lookup n==some .cell)=true then(n,NameKind.cell) else(n,k₀))::(r.map _))=some k:=h;cases hx:x==n with
  |true=>
   simp only [y9,hx];by_cases hc:(k₀==NameKind.free&&sc.kind== .function&&sc.names.lookup n==some .cell)=true
   ·rw [if_pos hc] at h';simp only [y9,hx] at h';cases h';simp only [lG,beq_iff_eq] at hc;exact⟨k₀,rfl,.inr ⟨hc.1.1,rfl⟩⟩
   ·rw [if_neg hc] at h';simp only [y9,hx] at h';cases h';exact⟨_,rfl,.inl rfl⟩
  |false=>
   simp only [y9,hx];by_cases hc:(k₀==NameKind.free&&sc.kind== .function&&sc.names.lookup n==some .cell)=true
   ·rw [if_pos hc] at h';simp only [y9,hx] at h';exact ih h'
   ·rw [if_neg hc] at h';simp only [y9,hx] at h';exact ih h'
structure BlkOk (N:List Str) (sc scope:Scope) (own:List (Str×Nat)):Prop where
 kind:scope.kind= .function
 uniq:∀y∈scope.names,scope.names.lookup y.1=some y.2
 ix:∀p∈own,N[p.2]? =some p.1
 free:∀y∈scope.names,y.2= .free->sc.names.lookup y.1=some .cell\/sc.names.lookup y.1=some .free
 own:∀y∈scope.names,y.2= .local\/y.2= .cell->y.1∈own.map (·.1)\/y.1∉N
def wipe(σ:St):List Nat->St
 | []=>σ
 |v::vs=>(wipe σ vs).set v none
theorem jz(σ:St):∀vs:List Nat,(wipe σ vs).length=σ.length
 | []=>rfl
 |v::vs=>by unfold wipe;rw [Yd,jz σ vs]
theorem QM{σ:St}{i:Nat}{x:V}:∀{vs:List Nat},(wipe σ vs)[i]? =some (some x)->σ[i]? =some (some x)/\i∉vs
 | [],h=>⟨h,by simp⟩
 |v::vs,h=>by
  unfold wipe at h;by_cases hi:v=i
  ·subst hi;by_cases hv:v<(wipe σ vs).length
   ·rw [lW hv] at h;cases h
   ·rw [yt (by simpa using hv)] at h;cases h
  ·rw [lV hi] at h;obtain⟨h1,h2⟩:=QM h;exact⟨h1,by simp only [lu,not_or];exact⟨λe=>hi e.symm,h2⟩⟩
abbrev Cx.blk(X:Cx)(s:Shared)(H:Hp)(scope:Scope)(cenv:Env)(fp:List Addr):Cx:={X with s_0:=s,H_0:=H,env:=cenv,outer:=X.stack,ex:=fp,fn:=λx=>scope.names.lookup x==some .cell,pn:=[],xe:=λ_ _=>False}
section
variable {X:Cx} {pins:List (Addr×Obj)} {σ:St} {H:Hp} {s:Shared}
theorem Xl{scope:Scope}{own:List (Str×Nat)}{fp:List Addr}(I:Inv X pins σ H s)(ok:BlkOk X.N X.env.scope scope own)(hN:X.N.Nodup)(hfp:∀b∈fp,KA X pins H b/\b<s.heap.objs.size):
 Inv (X.blk s H scope (compEnvC scope (cellsFrom (s.heap.objs.size+1) scope.names (qE X.env.cells scope.names [])) s.heap.objs.size X.env) fp) [] (wipe σ (own.map (·.2))) H {s with heap:=pushCells (s.heap.push {cls:=.type "dict",data:=.dict #[]}) scope.names}:=by
 have hfree:∀y∈scope.names,y.2= .free->∃c,X.env.cells.lookup y.1=some c:=λy hy e=>by
  rcases ok.free y hy e with k|k
  ·exact I.ok.has _ (.inl k)
  ·exact I.ok.has _ (.inr k)
 generalize hcenv:compEnvC scope (cellsFrom (s.heap.objs.size+1) scope.names (qE X.env.cells scope.names [])) s.heap.objs.size X.env=cenv;have kp:∀b o,s.heap.get? b=some o->(pushCells (s.heap.push {cls:=.type "dict",data:=.dict #[]}) scope.names).get? b=some o:=λb o e=>pushCells_keeps _ _ _ _ (lj _ e)
 have hL:cenv.locals=s.heap.objs.size:=by rw [<-hcenv];rfl
 have hcl:cenv.cells=cellsFrom (s.heap.objs.size+1) scope.names (qE X.env.cells scope.names []):=by rw [<-hcenv];rfl
 have hsc:cenv.scope=zoD scope X.env.scope:=by rw [<-hcenv];rfl
 rw [<-lT s.heap {cls:=.type "dict",data:=.dict #[]}] at hcl
 have cm:∀{y c},(y,c)∈qE X.env.cells scope.names []->X.env.cells.lookup y=some c/\c<s.heap.objs.size:=λ{y c} hm=>by
  rcases Z8 hm with hm|⟨h1,rfl⟩
  ·cases hm
  ·obtain⟨c,hc⟩:=hfree _ h1 rfl;rw [hc];obtain⟨w,z⟩:=I.cell _ _ hc;exact⟨rfl,z.lt⟩
 have mem:∀{y c},cenv.cells.lookup y=some c->(X.env.cells.lookup y=some c/\c<s.heap.objs.size)\/(s.heap.objs.size+1<=c/\ziP (pushCells (s.heap.push {cls:=.type "dict",data:=.dict #[]}) scope.names) c none):=λ{y c} e=>by
  rw [hcl] at e;rcases QH (lZ e) with hm|⟨_,h2,h3⟩
  ·exact .inl (cm hm)
  ·rw [lT] at h2;exact .inr ⟨h2,h3⟩
 have look:∀{y},scope.names.lookup y=some .free->∃c,cenv.cells.lookup y=some c/\X.env.cells.lookup y=some c:=λ{y} hl=>by
  have hy:(y,NameKind.free)∈scope.names:=lZ hl;obtain⟨c',e'⟩:=mem_lookup (XJ (names:=scope.names) (n:=(s.heap.push {cls:=.type "dict",data:=.dict #[]}).objs.size) (Xs (cells:=X.env.cells) (acc:=[]) hy));rw [<-hcl] at e';refine⟨c',e',?_⟩;rw [hcl] at e';rcases QH (lZ e') with hm|⟨h1,_,_⟩
  ·exact(cm hm).1
  ·have:=ok.uniq _ h1;rw [hl] at this;cases this
 have okB:(X.blk s H scope cenv fp).Ok:=by
  refine⟨I.ok.mod,by show cenv.scope.kind=_;rw [hsc];exact ok.kind,by show cenv.globals=_;rw [<-hcenv];exact I.ok.glob,by show cenv.builtins=_;rw [<-hcenv];exact I.ok.blt,by show s.heap.objs.size<=cenv.locals;rw [hL];exact lD _,
   λy z c e1 e2=>?_,λy hy=>?_,λy c z e=>?_,I.ok.hd,I.ok.frames,.inl rfl,λb hb=>⟨?_,λy c e z=>?_⟩,I.bs,lQ I.ok.bsz I.sz,λb o e hb=>?_,λb hb z=>?_,I.stack,I.stkFree⟩
  ·have e1:cenv.cells.lookup y=some c:=e1;have e2:cenv.cells.lookup z=some c:=e2;rw [hcl] at e1 e2;refine K4 (λp hp=>?_) (λy z c a b=>I.ok.inj y z c (cm a).1 (cm b).1) (lZ e1) (lZ e2);rw [lT];exact yM (cm (y:=p.1) (c:=p.2) hp).2
  ·show ∃c,cenv.cells.lookup y=some c
   have key:∀k,cenv.kindOf y=some k->(k= .cell\/k= .free)->∃c,cenv.cells.lookup y=some c:=λk hk hk'=>by
    unfold Env.kindOf at hk;rw [hsc] at hk;obtain⟨k',e,r⟩:=Xi hk;have:k'= .cell\/k'= .free:=by
     rcases r with rfl|⟨rfl,_⟩
     ·exact hk'
     ·exact .inr rfl
    rcases this with rfl|rfl
    ·obtain⟨c,hm⟩:=Va (n:=(s.heap.push {cls:=.type "dict",data:=.dict #[]}).objs.size) (acc:=qE X.env.cells scope.names []) (lZ e);obtain⟨c',e'⟩:=mem_lookup hm;exact⟨c',by rw [hcl];exact e'⟩
    ·obtain⟨c,h1,_⟩:=look e;exact⟨c,h1⟩
   rcases hy with hy|hy
   ·exact key _ hy (.inl rfl)
   ·exact key _ hy (.inr rfl)
  ·have z:(scope.names.lookup y==some NameKind.cell)=true:=z;have z:scope.names.lookup y=some .cell:=by simpa using z
   have e:cenv.cells.lookup y=some c:=e;rw [hcl] at e;rcases QH (lZ e) with hm|⟨_,h2,_⟩
   ·rcases Z8 hm with hm|⟨h1,_⟩
    ·cases hm
    ·have q:=ok.uniq _ h1;rw [z] at q;cases q
   ·rw [lT] at h2;exact L3 h2
  ·show b≠cenv.locals;rw [hL];exact lY (hfp b hb).2
  ·have e:cenv.cells.lookup y=some c:=e;rcases mem e with⟨h1,_⟩|⟨h1,_⟩
   ·exact(hfp b hb).1.2.2.2.2.1 y c h1 z
   ·have h2:s.heap.objs.size+1<=b:=by rw [<-z];exact h1
    exact absurd (lM (hfp b hb).2 (L3 h2)) (yF _)
  ·rcases(hfp b hb).1.2.2.2.1 with z|z
   ·exact I.ok.noex b o e z
   ·exact absurd (lM (lq e) (lQ I.ok.bsz z)) (yF _)
  ·rcases lu.mp (I.stkSub b z) with z|z
   ·exact(hfp b hb).1.2.1 z
   ·exact(hfp b hb).1.2.2.1 z
 refine⟨okB,rfl,I.bare,Un.kept kp,⟨λ_=>none,?_,λi y av e1 e2 e3=>?_⟩,λy c e=>?_,?_,λy c e=>?_,λp hp=>?_,I.hok.kept kp,by rw [jz];exact I.len⟩
 ·show Heap.Ns _ cenv.locals _;rw [hL];exact Heap.Ns.keeps (Heap.Ns.new ..) λb o e=>pushCells_keeps _ _ _ _ e
 ·obtain⟨e2,hne⟩:=QM e2;have hfr:scope.names.lookup y=some .free/\(cenv.kindOf y=some .cell\/cenv.kindOf y=some .free):=by
   have key:∀k,cenv.scope.names.lookup y=some k->k= .local\/k= .cell\/k= .free->scope.names.lookup y=some .free/\(cenv.kindOf y=some .cell\/cenv.kindOf y=some .free):=λk hk hk'=>by
    have hk0:=hk;rw [hsc] at hk;obtain⟨k',e,r⟩:=Xi hk
    have no:¬(k'= .local\/k'= .cell):=λhh=>by
     rcases ok.own _ (lZ e) hh with e'|e'
     ·obtain⟨p,hp,hpy⟩:=lL.mp e';have e3:=ok.ix p hp;have:p.1=y:=hpy;rw [this] at e3;exact hne (lL.mpr ⟨p,hp,Kg hN e3 e1⟩)
     ·exact e' (List.mem_of_getElem? e1)
    rcases r with rfl|⟨rfl,rfl⟩
    ·rcases hk' with rfl|rfl|rfl
     ·exact absurd (.inl rfl) no
     ·exact absurd (.inr rfl) no
     ·exact⟨e,.inr hk0⟩
    ·exact⟨e,.inl hk0⟩
   have e3:Vis cenv.scope y:=e3;rcases e3 with e3|e3|e3
   ·exact key _ e3 (.inl rfl)
   ·exact key _ e3 (.inr (.inl rfl))
   ·exact key _ e3 (.inr (.inr rfl))
  obtain⟨m,hn,hl⟩:=I.loc;have hvis:Vis X.env.scope y:=(ok.free _ (lZ hfr.1) rfl).elim (λk=>.inr (.inl k)) (λk=>.inr (.inr k));obtain⟨w,r,q⟩:=hl i y av e1 e2 hvis;refine⟨w,r,.inr ⟨hfr.2,?_⟩⟩;obtain⟨c,h1,h2⟩:=look hfr.1;rcases q with⟨k,_⟩|⟨_,c',e',z⟩
  ·have k:X.env.scope.names.lookup y=some .local:=k;rcases ok.free _ (lZ hfr.1) rfl with k'|k' <;> rw [show X.env.scope.names.lookup y=_ from k'] at k <;> cases k
  ·rw [h2] at e';cases e';exact⟨c,h1,z.keeps kp⟩
 ·have e:cenv.cells.lookup y=some c:=e;rcases mem e with⟨h1,_⟩|⟨_,z⟩
  ·obtain⟨w,z⟩:=I.cell y c h1;exact⟨w,z.keeps kp⟩
  ·exact⟨_,z⟩
 ·show H cenv.locals=none;rw [hL];exact I.hok.fresh (lD _)
 ·have e:cenv.cells.lookup y=some c:=e;rcases mem e with⟨h1,_⟩|⟨h1,_⟩
  ·exact I.freeC y c h1
  ·exact I.hok.fresh (L3 h1)
 ·exact absurd (show p∈([]:List (Addr×Obj))++ [] from hp) (by simp)
theorem zfP{E:Value->Shared->Prop}{D:Addr}{xs:List V}{y:V}{v:Value}{Q:Value->Shared->Prop}(I:Inv X pins σ H s)(hD:H D=some (.lst xs))(hz:xs.length<sizeLine)(r:RelV y v)
 (h:∀s',Inv X pins σ (upd H D (.lst (xs++ [y]))) s'->Q .none s'):wpAny (model X.prog X.w) X.A (call (.builtin "list.append") [.ref D,v]) Q E s:=by
 obtain⟨hz',its,n,ri,e⟩:=I.hok D _ hD;have hl:=ri.length;refine append_at (hsz:=by rw [lF];omega) e λh' sb ho'=>?_
 refine h {s with heap:=h'} (I.write (t':=s.toks) (by rw [hD];trivial) (.inl rfl) (λb u hb q=>(sb.2 b hb).trans q) ⟨_,ho'⟩ ⟨by rw [lH];exact hz,its++ [v],n+1,ri.append (.cons r .nil),?_⟩);rw [ho'];simp
def PTs(X:Cx)(ifs:List Expr)(t:TT):Prop:=
 ∀(pins:List (Addr×Obj)) (s:Shared) (σ:St) (H:Hp) (Q:Bool->Hp->Prop),Inv X pins σ H s->t σ H Q->
  wpAny (model X.prog X.w) X.A (forIn ifs true λc r=>if r=true then do let ok<-isTrue c X.env (eval c X.env);pure (ForInStep.yield ok) else pure (ForInStep.yield r)) (TP X pins σ Q) X.xe s
def zoG:TT:=λ_ H Q=>Q true H
theorem zjp:PTs X [] zoG:=λ_ _ _ H _ I h=>wpAny_tests_nil ⟨H,I,h⟩
theorem zj2{c:Expr}{t:TT}(h:PT X c t):PTs X [c] t:=λpins s σ H Q I hw=>wpAny_tests_one (h pins s σ H Q I hw)
end
theorem za1{α:Type}{t:Sem α}{Q Q':α->Shared->Prop}{M:Model}{A:Around}{E:Value->Shared->Prop}{s:Shared}(h:wpAny M A t Q (λ_ _=>False) s)(hQ:∀a s,Q a s->Q' a s):wpAny M A t Q' E s:=wpAny_mono h hQ λ_ _ z=>False.elim z
theorem QJ{prog:Program}{w:World}{A:Around}{R:Result->Shared->Prop}{s:Shared}{elt target iter:Expr}{ifs:List Expr}{scope:Scope}{pos:Pos}{it acc:Value}{env:Env}(I:Nat->Shared->Prop)
 (turn:∀n s,I n s->wpAny (model prog w) A (pyNext it) (λr s₁=>match r with
   |none=>R (.ok .next) s₁
   |some v=>wpAny (model prog w) A (letOwnedTupleGo target it v) (λ_ s₁'=>wpAny (model prog w) A (assign target env v) (λ_ s₂=>
     wpAny (model prog w) A (forIn ifs true λc r=>if r=true then do let ok<-isTrue c env (eval c env);pure (ForInStep.yield ok) else pure (ForInStep.yield r)) (λok s₃=>
      if ok=true then wpAny (model prog w) A (eval elt env) (λx s₄=>
       wpAny (model prog w) A (call (.builtin "list.append") [acc,x]) (λ_ s₅=>∃m,m<n/\I m s₅) (notedBy (model prog w) A env λe s'=>R (.error e) s') s₄) (notedBy (model prog w) A env λe s'=>R (.error e) s') s₃
      else ∃m,m<n/\I m s₃) (notedBy (model prog w) A env λe s'=>R (.error e) s') s₂) (notedBy (model prog w) A env λe s'=>R (.error e) s') s₁') (notedBy (model prog w) A env λe s'=>R (.error e) s') s₁) (notedBy (model prog w) A env λe s'=>R (.error e) s') s)
 (n:Nat) (h:I n s):
 codeAny (model prog w) A (.compLoop (.ListComp elt [⟨target,iter,ifs,0⟩] scope pos) 0 it acc env) R s:=by
 refine codeAny_loop rfl I (λn s hI=>?_) n h;show wpAny _ A ((compTurn (.ListComp elt [⟨target,iter,ifs,0⟩] scope pos) 0 it acc env).onRaise (λx=>do noteFrame x env;theTreesLotGoes x)) _ _ s;refine wpAny_noted ?_;rw [compTurn_list];refine wpAny_bind (wpAny_standAt (wpAny_bind (wpAny_mono (turn n s hI) (λr s₁ h₁=>?_) λ_ _ h'=>h')));cases r with
 |none=>exact wpAny_pure h₁
 |some v=>
  refine wpAny_bind (wpAny_mono h₁ (λ_ s₁' h₁'=>?_) λ_ _ h'=>h');refine wpAny_bind (wpAny_mono h₁' (λ_ s₂ h₂=>wpAny_bind (wpAny_mono h₂ (λok s₃ h₃=>?_) λ_ _ h'=>h')) λ_ _ h'=>h');cases ok with
  |false=>exact wpAny_pure ⟨rfl,h₃⟩
  |true=>
   exact wpAny_bind (wpAny_bind (wpAny_mono h₃ (λx s₄ h₄=>wpAny_bind (wpAny_mono h₄ (λ_ s₅ h₅=>wpAny_pure (wpAny_pure ⟨rfl,h₅⟩)) λ_ _ h'=>h')) λ_ _ h'=>h'))
section
variable {X:Cx}
def tLc(wi:TI)(g:TG)(tt:TT)(te:TE)(vs:List Nat):TE:=λσ H Q=>wi σ H λJ H1=>∀D,H1 D=none->∃W:Nat->Nat->Hp->Prop,(∃m,W 0 m (upd H1 D (.lst [])))/\∀i m H,W i m H->
 (J.stop i H/\Q (.ref D) H)\/(J.go i H/\∃Nx:Hp->Prop,(∀H',Nx H'->∃m',m'<m/\W (i+1) m' H')/\∀x H',J.yld i H x H'->g x (wipe σ vs) H' λσ2 H2=>wipe σ2 vs=wipe σ vs/\tt σ2 H2 λb H3=>
   if b=true then te σ2 H3 λy H4=>∃acc,H4 D=some (.lst acc)/\acc.length<sizeLine/\Nx (upd H4 D (.lst (acc++ [y]))) else Nx H3)
theorem zff{pins:List (Addr×Obj)}{s:Shared}{σ:St}{H:Hp}{Q:VK}{elt tg iter:Expr}{ifs:List Expr}{scope:Scope}{own:List (Str×Nat)}{pos pos':Pos}{wi:TI}{g:TG}{tt:TT}{te:TE}{use:Option (Value->Sem Unit)}{Qf:Value->Shared->Prop}
 (hc:X.calm=true) (hN:X.N.Nodup) (I:Inv X pins σ H s) (hi:PI X tg iter wi) (ok:BlkOk X.N X.env.scope scope own)
 (hg:∀(s:Shared) (H:Hp) (C:Addr) (cl:List (Str×Addr)) (fp:List Addr),PG (X.blk s H scope (compEnvC scope cl C X.env) fp) tg g) (ht:∀(s:Shared) (H:Hp) (C:Addr) (cl:List (Str×Addr)) (fp:List Addr),PTs (X.blk s H scope (compEnvC scope cl C X.env) fp) ifs tt)
 (he:∀(s:Shared) (H:Hp) (C:Addr) (cl:List (Str×Addr)) (fp:List Addr),PE (X.blk s H scope (compEnvC scope cl C X.env) fp) elt te) (hs:∀x,foldedSetIterable iter X.env x=pure x)
 (h:tLc wi g tt te (own.map (·.2)) σ H Q)
 (hRR:∀D C s' m H',Inv X pins σ H' s'->Q (.ref D) H'->s'.heap.Ns C m->KA X pins H' C->compPost (model X.prog X.w) X.A X.xe use Qf (.ref D) C (.ok .next) s'):
 wpAny (model X.prog X.w) X.A (comprehension (.ListComp elt [⟨tg,iter,ifs,0⟩] scope pos) scope X.env pos' (newList []) false (eval iter X.env) use) Qf X.xe s:=by
 have hfree:∀y∈scope.names,y.2= .free->∃c,X.env.cells.lookup y.1=some c:=λy hy e=>by
  rcases ok.free y hy e with k|k
  ·exact I.ok.has _ (.inl k)
  ·exact I.ok.has _ (.inr k)
 refine wpAny_comprehension_free (use:=use) rfl hs (Jj hfree) ok.kind (λy hy e=>by rw [ok.uniq y hy,e])
  (thn (hi pins s σ H _ I h) λxv s1 hx=>thn hx λitv s2 h2=>?_)
 obtain⟨it,fp,tn,J,H2,e,I2,T,st2,f2,q⟩:=h2;subst e;refine wpAny_newObj_type (Xo ?_) (by show 0<=sizeLine;decide);generalize hD:s2.heap.objs.size=D;have hDn:H2 D=none:=I2.hok.fresh (yU hD);obtain⟨W,⟨m0,w0⟩,turn⟩:=q D hDn;generalize hs3:({s2 with heap:=s2.heap.push {cls:=.type "list",data:=.seq ([]:List Value).toArray}}:Shared)=s3;have I3:Inv X pins σ (upd H2 D (.lst [])) s3:=by rw [<-hs3];refine I2.laid (t':=s2.toks) (λb o e=>lj _ e) (yU hD) ⟨yx _,[],0,.nil,?_⟩;rw [<-hD];exact lz _ rfl
 have h3:s3.heap=s2.heap.push {cls:=.type "list",data:=.seq ([]:List Value).toArray}:=by rw [<-hs3]
 have sz:∀b∈fp,b<s2.heap.objs.size:=λb hb=>by obtain⟨o,e,_⟩:=T.obj _ _ st2 b hb;exact lq e
 have f3:∀b∈fp,KA X pins (upd H2 D (.lst [])) b/\b<s3.heap.objs.size:=λb hb=>by have hlt:=sz b hb;refine⟨⟨?_,(f2 b hb).2⟩,by rw [h3,lT];exact yM hlt⟩;rw [zJ (by rw [<-hD];exact lY hlt)];exact(f2 b hb).1
 have st3:tn 0 s3.heap:=T.keep _ _ _ st2 λb _ o e=>by rw [h3];exact lj _ e
 have I4:=Xl I3 ok hN f3;have pg:=hg s3 (upd H2 D (.lst [])) s3.heap.objs.size (cellsFrom (s3.heap.objs.size+1) scope.names (qE X.env.cells scope.names [])) fp;have pt:=ht s3 (upd H2 D (.lst [])) s3.heap.objs.size (cellsFrom (s3.heap.objs.size+1) scope.names (qE X.env.cells scope.names [])) fp;have pe:=he s3 (upd H2 D (.lst [])) s3.heap.objs.size (cellsFrom (s3.heap.objs.size+1) scope.names (qE X.env.cells scope.names [])) fp;show codeAny _ _ (.compStart (.ListComp elt [⟨tg,iter,ifs,0⟩] scope pos) 0 (.ref it) (.ref D) (compEnvC scope (cellsFrom (s3.heap.objs.size+1) scope.names (qE X.env.cells scope.names [])) s3.heap.objs.size X.env)) (compPost (model X.prog X.w) X.A X.xe use Qf (.ref D) s3.heap.objs.size) {s3 with heap:=pushCells (s3.heap.push {cls:=.type "dict",data:=.dict #[]}) scope.names};have nfp:∀b∈fp,(upd H2 D (.lst [])) b=none:=λb hb=>(f3 b hb).1.1
 generalize hce:compEnvC scope (cellsFrom (s3.heap.objs.size+1) scope.names (qE X.env.cells scope.names [])) s3.heap.objs.size X.env=ce at I4 pg pt pe⊢;have cL:ce.locals=s3.heap.objs.size:=by subst hce;rfl
 generalize hH3:upd H2 D (.lst [])=H3 at I3 I4 pg pt pe w0 nfp f3;generalize hs4:({s3 with heap:=pushCells (s3.heap.push {cls:=.type "dict",data:=.dict #[]}) scope.names}:Shared)=s4 at I4⊢;have st4:tn 0 s4.heap:=T.keep _ _ _ st3 λb _ o e=>by rw [<-hs4];exact pushCells_keeps _ _ _ _ (lj _ e)
 have stat:∀{σ':St} {H':Hp} {s':Shared},Inv (X.blk s3 H3 scope ce fp) [] σ' H' s'->(∀b∈fp,H' b=none)->∀b∈fp,KA (X.blk s3 H3 scope ce fp) [] H' b:=λ{σ' H' s'} I' hn b hb=>
  ⟨hn b hb,(I'.ok.exf b hb).1,I'.ok.exfs b hb,.inl hb,λx c e=>(I'.ok.exf b hb).2 x c e,λp hp=>absurd (show p∈([]:List (Addr×Obj))++ [] from hp) (by simp)⟩
 have loop:codeAny (model X.prog X.w) X.A (.compLoop (.ListComp elt [⟨tg,iter,ifs,0⟩] scope pos) 0 (.ref it) (.ref D) ce) (compPost (model X.prog X.w) X.A X.xe use Qf (.ref D) s3.heap.objs.size) s4:=by
  refine QJ (λn s'=>∃i H',Inv (X.blk s3 H3 scope ce fp) [] (wipe σ (own.map (·.2))) H' s'/\tn i s'.heap/\(∀b∈fp,H' b=none)/\W i n H') ?_ m0 ⟨0,H3,I4,st4,nfp,w0⟩;rintro n s5 ⟨i,H5,I5,st5,n5,w5⟩;rcases turn i n H5 w5 with⟨stop,qq⟩|⟨go,Nx,hNx,step⟩
  ·have td:=T.done (X.blk s3 H3 scope ce fp) rfl rfl rfl hc i [] s5 _ H5 (λ_ _=>False) I5 (stat I5 n5) st5 stop;refine za1 td λr s6 ⟨hr,I6⟩=>?_
   subst hr;have I7:Inv X pins σ H5 s6:=I3.call' (ch:=fp) I6.os I6.base I6.hok I6.bare λb hb=>⟨(f3 b hb).1.2.2.2.1,(f3 b hb).1.2.1,(f3 b hb).1.2.2.2.2.1,(f3 b hb).1.2.2.2.2.2⟩
   have nC:H5 s3.heap.objs.size=none:=by have z:H5 ce.locals=none:=I6.free;rw [cL] at z;exact z
   obtain⟨m,hn,_⟩:=I6.loc;have hn:s6.heap.Ns ce.locals m:=hn;rw [cL] at hn;exact hRR D s3.heap.objs.size s6 m H5 I7 qq hn (I3.fpOk (lD _) nC)
  ·have ti:=T.item (X.blk s3 H3 scope ce fp) rfl rfl rfl hc i [] s5 _ H5 (λ_ _=>False) I5 (stat I5 n5) st5 go;refine za1 ti λr s6 ⟨u,hr,h6⟩=>?_
   subst hr;refine za1 h6 λ_ s7 ⟨x,H7,I7,r7,y7,st7,n7⟩=>?_
   have I7':=I7.pinned (stat I7 n7) (T.obj _ _ st7);refine za1 (pg _ s7 _ H7 x u _ I7' r7 (step x H7 y7)) λ_ s8 ⟨σ8,H8,I8,hw8,q8⟩=>?_
   refine za1 (pt _ s8 σ8 H8 _ I8 q8) λb s9 ⟨H9,I9,q9⟩=>?_
   have fin:∀{s':Shared} {H':Hp},Inv (X.blk s3 H3 scope ce fp) ([]++K9 fp s7.heap) σ8 H' s'->Nx H'->∃m,m<n/\∃i H',Inv (X.blk s3 H3 scope ce fp) [] (wipe σ (own.map (·.2))) H' s'/\tn i s'.heap/\(∀b∈fp,H' b=none)/\W i m H':=λ{s' H'} I' nx=>by
    obtain⟨m',hm,w'⟩:=hNx H' nx;have pin':∀b∈fp,∀o,s7.heap.get? b=some o->s'.heap.get? b=some o/\H' b=none:=λb hb o e=>
     let z:=I'.pin (b,o) (lX _ (lX _ (ZV hb e)))
     ⟨z.1,z.2.1⟩
    have hl:(wipe σ (own.map (·.2))).length=σ8.length:=by rw [<-hw8,jz]
    refine⟨m',hm,i+1,H',(I'.unpinned (pins:=[])).weak hl (λj v e=>?_),T.keep _ _ _ st7 λb hb o e=>(pin' b hb o e).1,λb hb=>?_,w'⟩
    ·rw [<-hw8] at e;exact(QM e).1
    ·obtain⟨o,e,_⟩:=T.obj _ _ st7 b hb;exact(pin' b hb o e).2
   cases b with
   |false=>
    simp only [yz,if_false] at q9⊢;exact fin I9 q9
   |true=>
    simp only [if_true] at q9⊢;refine za1 (pe _ s9 σ8 H9 _ I9 q9) λz s10 ⟨yv,H10,I10,r10,acc,hD10,hz10,nx⟩=>?_
    exact zfP (X:=X.blk s3 H3 scope ce fp) I10 hD10 hz10 r10 λs11 I11=>fin I11 nx
 exact codeAny_compStart_list loop (T.self X.A 0 _ _ _ st4 loop)
theorem znD{elt tg iter:Expr}{ifs:List Expr}{scope:Scope}{own:List (Str×Nat)}{pos:Pos}{wi:TI}{g:TG}{tt:TT}{te:TE}(hc:X.calm=true)(hN:X.N.Nodup)(hi:PI X tg iter wi)(ok:BlkOk X.N X.env.scope scope own)
 (hg:∀(s:Shared) (H:Hp) (C:Addr) (cl:List (Str×Addr)) (fp:List Addr),PG (X.blk s H scope (compEnvC scope cl C X.env) fp) tg g) (ht:∀(s:Shared) (H:Hp) (C:Addr) (cl:List (Str×Addr)) (fp:List Addr),PTs (X.blk s H scope (compEnvC scope cl C X.env) fp) ifs tt)
 (he:∀(s:Shared) (H:Hp) (C:Addr) (cl:List (Str×Addr)) (fp:List Addr),PE (X.blk s H scope (compEnvC scope cl C X.env) fp) elt te) (hs:∀x,foldedSetIterable iter X.env x=pure x:=by intro _;rfl):
 PE X (.ListComp elt [⟨tg,iter,ifs,0⟩] scope pos) (tLc wi g tt te (own.map (·.2))):=by
 intro pins s σ H Q I h;rw [eval_ListComp];refine zff hc hN I hi ok hg ht he hs h λD C s' m H' I' q hn f=>⟨m,hn,λh'' sb=>?_⟩
 obtain⟨f0,f1,f2,f3,f4,f5⟩:=f;exact⟨.ref D,H',I'.turned (t':=s'.toks) (λb o hb e=>(sb.2 b hb).trans e) f0 f1 f3 f4 f5,rfl,q⟩
theorem zin{i:Nat}{y:Str}{py:Pos}{elt tg iter:Expr}{ifs:List Expr}{scope:Scope}{own:List (Str×Nat)}{pos spos:Pos}{wi:TI}{g:TG}{tt:TT}{te:TE}(hc:X.calm=true)(hN:X.N.Nodup)(hy:X.N[i]? =some y)(hyl:X.env.scope.names.lookup y=some .local)
 (hsw:swapsWith (.ListComp elt [⟨tg,iter,ifs,0⟩] scope pos) (some (.Name y py)) spos.line X.env=pure true) (hi:PI X tg iter wi) (ok:BlkOk X.N X.env.scope scope own)
 (hg:∀(s:Shared) (H:Hp) (C:Addr) (cl:List (Str×Addr)) (fp:List Addr),PG (X.blk s H scope (compEnvC scope cl C X.env) fp) tg g) (ht:∀(s:Shared) (H:Hp) (C:Addr) (cl:List (Str×Addr)) (fp:List Addr),PTs (X.blk s H scope (compEnvC scope cl C X.env) fp) ifs tt)
 (he:∀(s:Shared) (H:Hp) (C:Addr) (cl:List (Str×Addr)) (fp:List Addr),PE (X.blk s H scope (compEnvC scope cl C X.env) fp) elt te) (hs:∀x,foldedSetIterable iter X.env x=pure x:=by intro _;rfl):
 PS X (.Assign [.Name y py] (.ListComp elt [⟨tg,iter,ifs,0⟩] scope pos) spos) (znE (tLc wi g tt te (own.map (·.2))) (zij i)):=by
 intro pins s σ H D I h;rw [exec_Assign_Name_used _ _ _ _ hsw];refine wpAny_bind (wpAny_standAt (wpAny_bind ?_));show wpAny _ X.A (do let _<-comprehension (.ListComp elt [⟨tg,iter,ifs,0⟩] scope pos) scope X.env (firstIterPos [⟨tg,iter,ifs,0⟩] pos) (newList []) false (eval iter X.env) (some (assign (.Name y py) X.env))) _ _ s;have h:tLc wi g tt te (own.map (·.2)) σ H (λx H1=>zij i x σ H1 D.nx):=h;refine wpAny_bind (thn (zff (Qf:=λ_ s'=>SP X pins D .next s') hc hN I hi ok hg ht he hs h λL C s' m H' I' q hn f=>?_) λ_ s' hq=>wpAny_pure (wpAny_pure hq));show wpAny _ _ (assign (.Name y py) X.env (.ref L)) _ _ _;refine wpAny_assign_Name (zbB (v:=V.ref L) I' hN hy (.inl hyl) rfl (λs2 I2 ⟨a,sb,ha⟩=>?_) (.inr hyl));obtain⟨f0,f1,f2,f3,f4,f5⟩:=f;have haC:C≠a:=by
  rcases ha with z|z
  ·rw [z];exact f1
  ·exact λe=>f4 y a z e.symm
 refine⟨m,hn.sameBut sb haC,λh3 sb3=>?_⟩;exact⟨_,H',I2.turned (t':=s2.toks) (λb o hb e=>(sb3.2 b hb).trans e) f0 f1 f3 f4 f5,q⟩
theorem Jk{elt:Expr}{gs:List Comprehension}{scope:Scope}{pos py:Pos}{y:Str}{l:Nat}{env:Env}(hk:env.scope.kind= .function)(hy:env.scope.names.lookup y=some .local)(hl:(py.line==pos.line)=true)
 (ha:(scope.names.any λ(n,k)=>n==y&&(k== .local||k== .cell))=false):swapsWith (.ListComp elt gs scope pos) (some (.Name y py)) l env=pure true:=by
 have ky:env.kindOf y=some .local:=hy;have hb:env.blockKind= .function:=by unfold Env.blockKind;rw [hk];rfl
 unfold swapsWith;simp only [hb,ky,ha,Expr.pos,hl];rfl
end
def zny(N:List Str)(sc scope:Scope)(own:List (Str×Nat)):Bool:=
 (match scope.kind with| .function=>true|_=>false)&&(scope.names.all λy=>decide (scope.names.lookup y.1=some y.2))&&(own.all λp=>decide (N[p.2]? =some p.1))&&
   (scope.names.all λy=>match y.2 with
     | .free=>(match sc.names.lookup y.1 with|some .cell=>true|some .free=>true|_=>false)
     | .local=>decide (y.1∈own.map (·.1))||decide (y.1∉N)
     | .cell=>decide (y.1∈own.map (·.1))||decide (y.1∉N)
     |_=>true)
theorem zgK{N:List Str}{sc scope:Scope}{own:List (Str×Nat)}(h:zny N sc scope own=true):BlkOk N sc scope own:=by
 unfold zny at h;simp only [lG,yb,decide_eq_true_eq] at h;obtain⟨⟨⟨h1,h2⟩,h3⟩,h4⟩:=h;refine⟨?_,h2,h3,λy hy e=>?_,λy hy e=>?_⟩
 ·split at h1
  ·assumption
  ·cases h1
 ·have q:=h4 y hy;simp only [e] at q;split at q <;> first|exact .inl (by assumption)|exact .inr (by assumption)|cases q
 ·have q:=h4 y hy;rcases e with e|e <;> (simp only [e,Y0,decide_eq_true_eq] at q;exact q)
section
variable {prog:Program} {w:World} {A:Around} {R:Result->Shared->Prop} {s:Shared} {elt t0 i0 t1 i1:Expr} {ifs0 ifs1:List Expr} {scope:Scope} {pos:Pos} {it acc:Value} {env:Env}
end
section
variable {X:Cx}
end
section
variable {κ:Type} [DecidableEq κ]
def zc3(kvs:List (κ×V))(k:κ):Option V:=(kvs.find? λkv=>decide (kv.1=k)).map (·.2)
def putK(kvs:List (κ×V))(k:κ)(v:V):List (κ×V):=
 if (kvs.any λkv=>decide (kv.1=k))=true then kvs.map (λkv=>if kv.1=k then(kv.1,v) else kv) else kvs++ [(k,v)]
theorem J2{p:κ×V}{r:List (κ×V)}{k:κ}(e:p.1=k):zc3 (p::r) k=some p.2:=by simp [zc3,Lq,e]
theorem JY{p:κ×V}{r:List (κ×V)}{k:κ}(e:¬p.1=k):zc3 (p::r) k=zc3 r k:=by simp [zc3,Lq,e]
theorem zdq(k:κ):∀kvs:List (κ×V),(kvs.any λkv=>decide (kv.1=k))=(zc3 kvs k).isSome
 | []=>rfl
 |p::r=>by
  rw [Lu];by_cases e:p.1=k
  ·simp only [J2 e,decide_eq_true e,Bool.true_or,Option.isSome_some]
  ·rw [JY e,decide_eq_false e,Bool.false_or];exact zdq k r
theorem zhI.isSome_eq{o:Option V}{u:Option Value}(r:zhI o u):o.isSome=u.isSome:=by
 cases o with
 |none=>cases u with
  |none=>rfl
  |some _=>exact(show False from r).elim
 |some _=>cases u with
  |none=>exact(show False from r).elim
  |some _=>rfl
theorem zhI.getD{o:Option V}{u:Option Value}{d:V}{d':Value}(r:zhI o u)(rd:RelV d d'):RelV (o.getD d) (u.getD d'):=by
 cases o with
 |none=>cases u with
  |none=>exact rd
  |some _=>exact(show False from r).elim
 |some _=>cases u with
  |none=>exact(show False from r).elim
  |some _=>exact r
theorem KV.val{kvs:List (κ×V)}{vs:List (κ×Value)}(r:KV kvs vs)(k:κ):zhI (zc3 kvs k) (valueAt vs k):=by
 unfold KV at r;induction r with
 |nil=>exact True.intro
 | @cons p q ps qs h t ih=>
   obtain⟨h1,h2⟩:=h;by_cases e:p.1=k
   ·have e':q.1=k:=h1.symm.trans e;have b:valueAt (q::qs) k=some q.2:=by simp [valueAt,Lq,e']
    rw [J2 e,b];exact h2
   ·have e':¬q.1=k:=λz=>e (h1.trans z)
    have b:valueAt (q::qs) k=valueAt qs k:=by simp [valueAt,Lq,e']
    rw [JY e,b];exact ih
theorem KV.any{kvs:List (κ×V)}{vs:List (κ×Value)}(r:KV kvs vs)(k:κ):(kvs.any λkv=>decide (kv.1=k))=vs.any λkv=>decide (kv.1=k):=by
 unfold KV at r;induction r with
 |nil=>rfl
 |cons h t ih=>rw [Lu,Lu,ih,h.1]
theorem KV.repl{kvs:List (κ×V)}{vs:List (κ×Value)}(r:KV kvs vs)(k:κ){y:V}{u:Value}(ry:RelV y u):
 KV (kvs.map λkv=>if kv.1=k then(kv.1,y) else kv) (vs.map λkv=>if kv.1=k then(kv.1,u) else kv):=by
 unfold KV at r⊢;induction r with
 |nil=>exact .nil
 | @cons p q ps qs h t ih=>
   rw [lU,lU];refine .cons ?_ ih;obtain⟨h1,h2⟩:=h;by_cases e:p.1=k
   ·rw [if_pos e,if_pos (h1.symm.trans e)];exact⟨h1,ry⟩
   ·rw [if_neg e,if_neg (λz=>e (h1.trans z))];exact⟨h1,h2⟩
theorem KV.put{kvs:List (κ×V)}{vs:List (κ×Value)}(r:KV kvs vs)(k:κ){y:V}{u:Value}(ry:RelV y u):KV (putK kvs k y) (stored vs k u):=by
 unfold putK stored;rw [r.any k];by_cases e:(vs.any λkv=>decide (kv.1=k))=true
 ·rw [if_pos e,if_pos e];exact r.repl k ry
 ·rw [if_neg e,if_neg e];exact Paired.snoc r ⟨rfl,ry⟩
theorem KV.keys{kvs:List (κ×V)}{vs:List (κ×Value)}(r:KV kvs vs):kvs.map (·.1)=vs.map (·.1):=by
 unfold KV at r;induction r with
 |nil=>rfl
 |cons h t ih=>rw [lU,lU,ih,h.1]
end
theorem zku{P:Program}{w:World}{k:Key}{u:Value}(r:RelV (kV k) u):(Zv P w).is k u=true:=by
 cases k with
 |inl i=>obtain⟨t,e⟩:=(show ∃t,u=Value.int i t from r);subst e;exact zcS P w i t
 |inr x=>obtain⟨t,e⟩:=(show ∃t,u=Value.str x t from r);subst e;exact zcT P w x t
theorem zbz{P:Program}{w:World}:∀{ks:List Key} {us:List Value},Vals (ks.map kV) us->ItemsAre (Zv P w) ks us
 | [],_,r=>by rw [Ld] at r;cases r;exact .nil
 |k::ks,_,r=>by
  rw [lU] at r;cases r with
  |cons h t=>exact .cons (zku h) (zbz t)
abbrev KT(H:Hp):List (List Key×V)->List (List Key×Addr×Value)->Prop:=Paired λp q=>p.1=q.1/\H q.2.1=some (.tup (p.1.map kV))/\RelV p.2 q.2.2
theorem KT.val{H:Hp}{kvs:List (List Key×V)}{xs:List (List Key×Addr×Value)}(r:KT H kvs xs)(k:List Key):zhI (zc3 kvs k) ((atKey xs k).map (·.2)):=by
 induction r with
 |nil=>exact True.intro
 | @cons p q ps qs h t ih=>
   obtain⟨h1,_,h2⟩:=h;by_cases e:p.1=k
   ·have e':q.1=k:=h1.symm.trans e;have b:atKey (q::qs) k=some q.2:=by simp [atKey,Lq,e']
    rw [J2 e,b];exact h2
   ·have e':¬q.1=k:=λz=>e (h1.trans z)
    have b:atKey (q::qs) k=atKey qs k:=by simp [atKey,Lq,e']
    rw [JY e,b];exact ih
theorem KT.repl{H:Hp}{kvs:List (List Key×V)}{xs:List (List Key×Addr×Value)}(r:KT H kvs xs)(k:List Key){y:V}{u:Value}(ry:RelV y u):
 KT H (kvs.map λkv=>if kv.1=k then(kv.1,y) else kv) (xs.map (putAt k u)):=by
 induction r with
 |nil=>exact .nil
 | @cons p q ps qs h t ih=>
   rw [lU,lU];refine .cons ?_ ih;obtain⟨h1,h2,h3⟩:=h;unfold putAt;by_cases e:p.1=k
   ·rw [if_pos e,if_pos (h1.symm.trans e)];exact⟨h1,h2,ry⟩
   ·rw [if_neg e,if_neg (λz=>e (h1.trans z))];exact⟨h1,h2,h3⟩
theorem KT.put{H:Hp}{kvs:List (List Key×V)}{xs:List (List Key×Addr×Value)}(r:KT H kvs xs)(k:List Key){b:Addr}{y:V}{u:Value}(hb:H b=some (.tup (k.map kV)))(ry:RelV y u):
 KT H (putK kvs k y) (storedH xs k b u):=by
 have e:(kvs.any λkv=>decide (kv.1=k))=(atKey xs k).isSome:=by rw [zdq,(r.val k).isSome_eq,Yv]
 unfold putK storedH;rw [e];by_cases q:(atKey xs k).isSome=true
 ·rw [if_pos q,if_pos q];exact r.repl k ry
 ·rw [if_neg q,if_neg q];exact Paired.snoc r ⟨rfl,hb,ry⟩
theorem KT.keeps{H H':Hp}{kvs:List (List Key×V)}{xs:List (List Key×Addr×Value)}(r:KT H kvs xs)(ht:∀b ys,H b=some (.tup ys)->H' b=some (.tup ys)):KT H' kvs xs:=
 Paired.mapP r λ_ _ z=>⟨z.1,ht _ _ z.2.1,z.2.2⟩
section
variable {P:Program} {w:World} {H:Hp} {h:Heap} {a:Addr}
theorem zma{u:HO}(ok:HOk P w H h)(e:Rd H a u):kE P w H h a u:=e.ok ok
theorem zk7{kvs:List (Key×V)}(ok:HOk P w H h)(e:Rd H a (.dK kvs)):kvs.length<=sizeLine/\(a==sysModules)=false/\∃vs,KV kvs vs/\h.DictOf (Zv P w) a vs:=
 show kE P w H h a (.dK kvs) from zma ok e
theorem zfH{ks:List Key}(ok:HOk P w H h)(e:H a=some (.tup (ks.map kV))):(tupleKind (Zv P w)).is h ks a:=by obtain⟨_,its,r,o,h1,h2,n,h3⟩:=(show kE P w H h a (.tup (ks.map kV)) from ok a _ e);exact⟨o,its.toArray,n,h1,h2,h3,by simpa using zbz r⟩
theorem zms{kvs:List (List Key×V)}(ok:HOk P w H h)(e:Rd H a (.dT kvs)):kvs.length<=sizeLine/\(a==sysModules)=false/\
 ∃xs,KT H kvs xs/\h.DictOfH (tupleKind (Zv P w)) a xs:=by
 obtain⟨z,y,xs,r,o,es,ep,h1,h2,h3,h4,h5⟩:=(show kE P w H h a (.dT kvs) from zma ok e);refine⟨z,y,xs,r,o,es,ep,h1,h2,h3,h4,λx hx=>?_,h5⟩;have all:∀{l:List (List Key×V)} {m:List (List Key×Addr×Value)},KT H l m->∀x∈m,(tupleKind (Zv P w)).is h x.1 x.2.1:=by
  intro l m q;induction q with
  |nil=>intro x hx;exact nomatch hx
  | @cons p q ps qs hq t ih=>
    intro x hx;rcases lu.mp hx with e|hx
    ·subst e;exact zfH ok (by rw [<-hq.1];exact hq.2.1)
    ·exact ih x hx
 exact all r x hx
end
def zik(H:Hp)(a:Addr)(y:V)(r:Option V):Prop:=
 (∃kvs k,Rd H a (.dK kvs)/\y=kV k/\r=zc3 kvs k)\/∃kvs k b,Rd H a (.dT kvs)/\y= .ref b/\H b=some (.tup (k.map kV))/\r=zc3 kvs k
def zmv(H:Hp)(a:Addr)(y v:V)(H':Hp):Prop:=
 (∃kvs k,H a=some (.dK kvs)/\y=kV k/\kvs.length<sizeLine/\H'=upd H a (.dK (putK kvs k v)))\/
 ∃kvs k b,H a=some (.dT kvs)/\y= .ref b/\H b=some (.tup (k.map kV))/\kvs.length<sizeLine/\H'=upd H a (.dT (putK kvs k v))
theorem zik.k{H:Hp}{a:Addr}{kvs:List (Key×V)}{k:Key}(e:H a=some (.dK kvs)):zik H a (kV k) (zc3 kvs k):=.inl ⟨kvs,k,.inl e,rfl,rfl⟩
theorem zik.t{H:Hp}{a b:Addr}{kvs:List (List Key×V)}{k:List Key}(e:H a=some (.dT kvs))(eb:H b=some (.tup (k.map kV))):zik H a (.ref b) (zc3 kvs k):=.inr ⟨kvs,k,b,.inl e,rfl,eb,rfl⟩
theorem zmv.k{H:Hp}{a:Addr}{kvs:List (Key×V)}{k:Key}{v:V}(e:H a=some (.dK kvs))(hl:kvs.length<sizeLine):zmv H a (kV k) v (upd H a (.dK (putK kvs k v))):=.inl ⟨kvs,k,e,rfl,hl,rfl⟩
theorem zmv.t{H:Hp}{a b:Addr}{kvs:List (List Key×V)}{k:List Key}{v:V}(e:H a=some (.dT kvs))(eb:H b=some (.tup (k.map kV)))(hl:kvs.length<sizeLine):
 zmv H a (.ref b) v (upd H a (.dT (putK kvs k v))):=.inr ⟨kvs,k,b,e,rfl,eb,hl,rfl⟩
section
variable {X:Cx} {pins:List (Addr×Obj)} {σ:St} {H:Hp} {s:Shared} {a:Addr} {y v:V} {u r:Value} {o:Option V} {A:Around} {E:Value->Shared->Prop}
theorem zor{Q:Value->Shared->Prop}(hu:A.units+1<cLine)(I:Inv X pins σ H s)(g:zik H a y o)(ry:RelV y u)(h:∀s',Inv X pins σ H s'->Q (.bool o.isSome) s'):
 wpAny (model X.prog X.w) A (compareOp .In u (.ref a)) Q E s:=by
 rcases g with⟨kvs,k,e,ey,l⟩|⟨kvs,k,b,e,ey,eb,l⟩
 ·subst ey;obtain⟨z,hd,vs,rel,dd⟩:=zk7 I.hok e;refine wpAny_in_of (zku ry) hd dd.mapOf ?_;rw [<-(rel.val k).isSome_eq,<-l];exact h _ (I.tok _)
 ·subst ey;cases (show u=Value.ref b from ry);obtain⟨z,hd,xs,rel,dd⟩:=zms I.hok e;refine wpAny_in_heap (tupleKind_room_in1 hu) (zfH I.hok eb) hd dd ?_;have q:=(rel.val k).isSome_eq;rw [Yv] at q;rw [<-q,<-l];exact h _ (I.tok _)
theorem zkc{Q:Value->Shared->Prop}(hu:A.units+1<cLine)(I:Inv X pins σ H s)(g:zik H a y o)(ry:RelV y u)(h:∀s',Inv X pins σ H s'->Q (.bool (!o.isSome)) s'):
 wpAny (model X.prog X.w) A (compareOp .NotIn u (.ref a)) Q E s:=by
 rcases g with⟨kvs,k,e,ey,l⟩|⟨kvs,k,b,e,ey,eb,l⟩
 ·subst ey;obtain⟨z,hd,vs,rel,dd⟩:=zk7 I.hok e;refine wpAny_notIn_of (zku ry) hd dd.mapOf ?_;rw [<-(rel.val k).isSome_eq,<-l];exact h _ (I.tok _)
 ·subst ey;cases (show u=Value.ref b from ry);obtain⟨z,hd,xs,rel,dd⟩:=zms I.hok e;refine wpAny_notIn_heap (tupleKind_room_in1 hu) (zfH I.hok eb) hd dd ?_;have q:=(rel.val k).isSome_eq;rw [Yv] at q;rw [<-q,<-l];exact h _ (I.tok _)
end
section
variable {X:Cx} {pins:List (Addr×Obj)} {σ:St} {H:Hp} {s:Shared} {a:Addr} {kvs:List (Key×V)} {k:Key} {u:Value} {A:Around} {E:Value->Shared->Prop}
end
section
variable {X:Cx} {o i e value:Expr} {pos pos' tpos:Pos} {td ty tv:TE}
end
section
variable {X:Cx} {pos:Pos}
end
section
variable {X:Cx} {pins:List (Addr×Obj)} {σ:St} {H:Hp} {s:Shared} {a:Addr} {y d:V} {u r:Value} {o:Option V} {A:Around} {E:Value->Shared->Prop}
end
section
variable {X:Cx} {o e f:Expr} {apos cpos:Pos} {td ty tx:TE}
end
section
variable {X:Cx} {pins:List (Addr×Obj)} {σ:St} {H:Hp} {s:Shared} {a:Addr} {kvs:List (Key×V)} {A:Around} {E:Value->Shared->Prop}
end
section
variable {X:Cx} {pins:List (Addr×Obj)} {σ:St} {H:Hp} {s:Shared} {a:Addr} {y:V} {u:Value} {A:Around} {E:Value->Shared->Prop}
end
section
variable {prog:Program} {w:World} {A:Around} {E:Value->Shared->Prop}
end
section
variable {X:Cx}
end
section
variable {X:Cx} {pins:List (Addr×Obj)} {σ:St} {H:Hp} {s:Shared} {h':Heap}
theorem Inv.turnedL{t':Nat}{ch:List Addr}(I:Inv X pins σ H s)(k:∀b o,b∉ch->s.heap.get? b=some o->h'.get? b=some o)(hf:∀b∈ch,KA X pins H b):Inv X pins σ H {s with heap:=h',toks:=t'}:=by
 have nit:∀b u,H b=some u->b∉ch:=λb u e z=>by have q:=(hf b z).1;rw [q] at e;cases e
 refine I.step (g':=s.gens) (d':=s.drawn) (ch:=ch) (λb hb=>⟨(hf b hb).2.2.2.1,(hf b hb).2.1,(hf b hb).2.2.2.2.1,(hf b hb).2.2.2.2.2⟩) (λb o _ _ hc e _=>k b o hc e) (λb o _ _ hc e _=>⟨o.slots,k b o hc e⟩)
  (λ_ _ _ _ n=>n) (λb o hc e=>⟨o,k b o hc e⟩) (λ_ _ e=>e) (λ_ _ _ e=>e) (λb ps e=>⟨#[],by rw [e];simp⟩) (λm hm=>?_) (λb u e=>?_) I.bare
 ·obtain⟨o,es,ep,ho,r⟩:=hm;exact⟨o,es,ep,k _ o (λz=>(hf _ z).2.1 rfl) ho,r⟩
 ·refine(I.hok b u e).stay (λc v hc q=>k c v ?_ q) (λ_ q=>q) λ_ _ q=>q
  rcases hc with z|z
  ·rw [z];exact nit b u e
  ·exact nit c _ z
theorem Inv.turnedNew{t':Nat}{ch:List Addr}{T:Addr}{ob:HO}(I:Inv X pins σ H s)(k:∀b o,b∉ch->s.heap.get? b=some o->h'.get? b=some o)(hf:∀b∈ch,KA X pins H b)(hT:s.heap.objs.size<=T)
 (new:kE X.prog X.w (upd H T ob) h' T ob):Inv X pins σ (upd H T ob) {s with heap:=h',toks:=t'}:=by
 have hn:H T=none:=I.hok.fresh hT;have nit:∀b u,H b=some u->b∉ch:=λb u e z=>by have q:=(hf b z).1;rw [q] at e;cases e
 refine I.step (g':=s.gens) (d':=s.drawn) (ch:=ch) (λb hb=>⟨(hf b hb).2.2.2.1,(hf b hb).2.1,(hf b hb).2.2.2.2.1,(hf b hb).2.2.2.2.2⟩) (λb o _ _ hc e _=>k b o hc e) (λb o _ _ hc e _=>⟨o.slots,k b o hc e⟩)
  (λb o _ e n=>?_) (λb o hc e=>⟨o,k b o hc e⟩) (λb xs e=>?_) (λb o u e=>?_) (λb ps e=>⟨#[],?_⟩) (λm hm=>?_) (λb u e=>?_) I.bare
 ·rw [zJ (lY (lM (lq e) hT))];exact n
 ·rw [zJ (zu e hn)];exact e
 ·rw [zJ (zu e hn)];exact e
 ·rw [zJ (zu e hn),e];simp
 ·obtain⟨o,es,ep,ho,r⟩:=hm;exact⟨o,es,ep,k _ o (λz=>(hf _ z).2.1 rfl) ho,r⟩
 ·by_cases hb:b=T
  ·subst hb;rw [xT] at e;cases e;exact new
  ·rw [zJ hb] at e;refine(I.hok b u e).stay (λc v hc q=>k c v ?_ q) (λc q=>by rw [zJ (zu q hn)];exact q) λc xs q=>by rw [zJ (zu q hn)];exact q
   rcases hc with z|z
   ·rw [z];exact nit b u e
   ·exact nit c _ z
end
section
variable {X:Cx}
theorem ziT{tg:Expr}{pins:List (Addr×Obj)}{σ:St}{H:Hp}{s:Shared}{R:It->Hp->Prop}{J:It}{tn:Nat->Heap->Prop}{tk:Nat}(I:Inv X pins σ H s)(o:Obj)
 (T:Turn X.prog X.w X.K tg J [s.heap.objs.size] s.heap.objs.size tn) (st:tn 0 (s.heap.push o)) (q:R J H):PIE X pins σ tg R (.ref s.heap.objs.size) {s with heap:=s.heap.push o,toks:=tk}:=by
 refine⟨s.heap.objs.size,[s.heap.objs.size],tn,J,H,rfl,I.kept λb ob e=>lj _ e,T,st,λb hb=>?_,q⟩;have e:b=s.heap.objs.size:=by simpa using hb
 subst e;exact I.fpOk (lD _) (I.hok.fresh (lD _))
end
def RgC(i j c:Int)(n:Nat):Prop:=c≠0/\c.natAbs<1073741824/\Builtin.Range.small i j c=true/\Builtin.Range.rangeSize i j c=n
theorem RgC.neg{i j:Int}(ha: -(2^62)<=i)(ha':i<2^62)(hb: -(2^62)<=j)(hb':j<2^62):RgC i j (-1) (i-j).toNat:=
 ⟨by decide,by decide,PySem.W.small_down ha ha' hb hb',PySem.W.rangeSize_downNat i j⟩
section
variable {X:Cx} {tg:Expr}
end
def Its(x:Str):It:=⟨λi _=>i<x.cps.size,λi H v H'=>H'=H/\∃c,x.cps[i]? =some c/\v= .str ⟨#[c]⟩,λi _=>x.cps.size<=i⟩
theorem zdD{P:Program}{w:World}{K:PySem.W.Frag}{tg:Expr}(it:Addr)(x:Str)(t:Tok)(ty:String)(hty:ty="str_ascii_iterator"\/ty="str_iterator"):
 Turn P w K tg (Its x) [it] it (λi h=>h.IsStrIter it ty x t i) where
 mem:=by simp
 obj:=λi h st b hb=>by
  have e:b=it:=by simpa using hb
  subst e;obtain⟨o,e,c,d⟩:=st;exact⟨o,e,λv z=>by rw [d] at z;cases z⟩
 keep:=λi h h' st k=>let⟨o,ho,r⟩:=st;⟨o,k it (by simp) o ho,r⟩
 item:=by
  intro X hP hw hK hc i pins s σ H E I hf st hg;subst hP hw hK;obtain⟨f0,f1,f2,f3,f4,f5⟩:=hf it (by simp)
  have W:Walks X.prog X.w X.A it [it] [it] x.cps.size (SignAt x) (λi h=>h.IsStrIter it ty x t i):=by
   rcases hty with e|e
   ·rw [e];exact Walks.strAscii (I.ok.hd hc) it x t
   ·rw [e];exact Walks.strWide (I.ok.hd hc) it x t
  have hno: ["enumerate","zip","dict_itemiterator","dict_reverseitemiterator","odict_iterator","itertools.zip_longest","itertools.pairwise"].contains ty=false:=by
   rcases hty with e|e
   ·rw [e];decide
   ·rw [e];decide
  refine W.item i s _ _ hg st λv h' tk hv st' kk=>?_
  obtain⟨c,u,hcx,rfl⟩:=hv;have I1:Inv X pins σ H {s with heap:=h',toks:=tk}:=I.turned (λb o hb e=>kk b o (by simpa using hb) e) f0 f1 f3 f4 f5;obtain⟨oi,e,cc,dd⟩:=id st';exact⟨_,rfl,zgg (s:={s with heap:=h',toks:=tk}) e cc dd hno ⟨.str ⟨#[c]⟩,H,I1,⟨u,rfl⟩,⟨rfl,c,hcx,rfl⟩,st',λb hb=>(hf b hb).1⟩⟩
 done:=by
  intro X hP hw hK hc i pins s σ H E I hf st hg;subst hP hw hK;obtain⟨f0,f1,f2,f3,f4,f5⟩:=hf it (by simp);have hx:x.cps[i]? =none:=Array.getElem?_eq_none hg;rcases hty with e|e
  ·rw [e] at st;exact wpAny_pyNext_ascii_end (I.ok.hd hc) st hx λh' eb=>⟨rfl,I.turned (t':=s.toks) (λb o hb e=>eb b o hb e) f0 f1 f3 f4 f5⟩
  ·rw [e] at st;exact wpAny_pyNext_wide_end (I.ok.hd hc) st hx λh' eb=>⟨rfl,I.turned (t':=s.toks) (λb o hb e=>eb b o hb e) f0 f1 f3 f4 f5⟩
 self:=λA i s Q E st h=>by
  rcases hty with e|e
  ·rw [e] at st;exact wpAny_pyIter_striter_ascii st h
  ·rw [e] at st;exact wpAny_pyIter_striter_wide st h
def zoV(te:TE):TI:=λσ H R=>te σ H λv H1=>∃x,v= .str x/\R (Its x) H1
theorem zly{X:Cx}{tg e:Expr}{te:TE}(he:PE X e te):PI X tg e (zoV te):=by
 intro pins s σ H R I h;refine thn (he pins s σ H _ I h) λv s1 ⟨y,H1,I1,r1,x,ex,q⟩=>?_
 subst ex;obtain⟨t,rfl⟩:=r1;cases ha:x.cps.all (· <128)
 ·exact wpAny_pyIter_wide ha (ziT (tk:=s1.toks) I1 _ (zdD _ x t "str_iterator" (.inr rfl)) ⟨_,lz _ rfl,rfl,rfl⟩ q)
 ·exact wpAny_pyIter_ascii ha (ziT (tk:=s1.toks) I1 _ (zdD _ x t "str_ascii_iterator" (.inl rfl)) ⟨_,lz _ rfl,rfl,rfl⟩ q)
section
variable {prog:Program} {w:World} {A:Around} {E:Value->Shared->Prop} {s:Shared}
end
section
variable {X:Cx} {pins:List (Addr×Obj)} {σ:St} {H:Hp} {s:Shared} {d:Addr} {o:Obj}
end
section
variable {P:Program} {w:World} {K:PySem.W.Frag} {tg:Expr} {d:Addr} {o:Obj} {es:Array DictEntry} {ep:Nat}
end
section
variable {X:Cx} {tg e:Expr} {td:TE} {apos cpos:Pos}
end
theorem zfU:bootBuiltins "zip"=some (.type "zip"):=by decide+kernel
def Itz(K:PySem.W.Frag)(a b:Addr):It:=
 ⟨λi H=>∃(xs ys:List V) (x y:V),SqL K H a xs/\SqL K H b ys/\xs[i]? =some x/\ys[i]? =some y,
   λi H v H'=>∃T x y,v= .ref T/\H T=none/\H'=upd H T (.tup [x,y])/\(∀xs,SqL K H a xs->xs[i]? =some x)/\∀ys,SqL K H b ys->ys[i]? =some y,
   λi H=>∃xs ys:List V,SqL K H a xs/\SqL K H b ys/\(xs.length<=i\/ys.length<=i)⟩
theorem zgP{P:Program}{w:World}{K:PySem.W.Frag}{elts:List Expr}{kk:Nat}{tpos:Pos}{a b z TI TO i1 i2:Addr}(D:ZipApart z TI TO i1 i2 a b):
 Turn P w K (.Tuple elts kk tpos) (Itz K a b) [z,TI,TO,i1,i2] z (λi h=>IsZip h z TI TO .none/\IsPair h TI (.ref i1) (.ref i2)/\(∃x y,IsPair h TO x y)/\h.IsListIter i1 a i/\h.IsListIter i2 b i) where
 mem:=by simp
 obj:=λi h st c hc=>by
  obtain⟨hz,hTI,⟨x,y,hTO⟩,⟨o1,e1,_,d1⟩,⟨o2,e2,_,d2⟩⟩:=st;have e':c=z\/c=TI\/c=TO\/c=i1\/c=i2:=by simpa using hc
  rcases e' with q|q|q|q|q
  ·rw [q];exact⟨_,hz,λv q=>nomatch q⟩
  ·rw [q];exact⟨_,hTI,λv q=>nomatch q⟩
  ·rw [q];exact⟨_,hTO,λv q=>nomatch q⟩
  ·rw [q];exact⟨o1,e1,λv q=>by rw [d1] at q;cases q⟩
  ·rw [q];exact⟨o2,e2,λv q=>by rw [d2] at q;cases q⟩
 keep:=λi h h' st k=>by obtain⟨hz,hTI,⟨x,y,hTO⟩,h1,h2⟩:=st;exact⟨k z (by simp) _ hz,k TI (by simp) _ hTI,⟨x,y,k TO (by simp) _ hTO⟩,h1.at λo q=>k i1 (by simp) o q,h2.at λo q=>k i2 (by simp) o q⟩
 item:=by
  intro X hP hw hK hc i pins s σ H E I hf st hg;subst hP hw hK;obtain⟨hz,hTI,⟨x0,y0,hTO⟩,h1,h2⟩:=st;obtain⟨xs,ys,x,y,hqx,hqy,hx,hy⟩:=hg;obtain⟨its,rv,p,_⟩:=I.list hqx;obtain⟨its2,rv2,p2,_⟩:=I.list hqy;obtain⟨u,hu,ru⟩:=rv.get hx;obtain⟨u2,hu2,ru2⟩:=rv2.get hy;have hzl:z<s.heap.objs.size:=lq hz;refine wpAny_pyNext_zip_item D hz hTI hTO h1 h2 p.isList p2.isList (x:=u) (y:=u2) (by simpa using hu) (by simpa using hu2) λh' z' TO' h1' h2' hT hsz hk=>?_
  refine⟨_,rfl,wpAny_letOwnedTupleGo_zip (s:={s with heap:=h'}) z' λh'' z'' sb=>?_⟩;have hT2:h''.get? s.heap.objs.size=some {cls:=.type "tuple",data:=.seq #[u,u2]}:=(sb.2 _ (Ln hzl)).trans hT;have new:kE X.prog X.w (upd H s.heap.objs.size (.tup [x,y])) h'' s.heap.objs.size (.tup [x,y]):=
   ⟨by show 2<=sizeLine;decide,[u,u2],.cons ru (.cons ru2 .nil),⟨_,hT2,rfl,_,rfl⟩⟩
  have I1:Inv X pins σ (upd H s.heap.objs.size (.tup [x,y])) {s with heap:=h''}:=
   I.turnedNew (t':=s.toks) (ch:=[z,TI,TO,i1,i2]) (λc o hb q=>(sb.2 c (λq'=>hb (by simp [q']))).trans (hk c o (λq'=>hb (by simp [q'])) (λq'=>hb (by simp [q'])) (λq'=>hb (by simp [q'])) (λq'=>hb (by simp [q'])) q)) hf (lD _) new
  refine⟨.ref s.heap.objs.size,_,I1,rfl,⟨_,x,y,rfl,I.hok.fresh (lD _),rfl,λl hl=>by rw [I.list_inj hl hqx];exact hx,λl hl=>by rw [I.list_inj hl hqy];exact hy⟩,⟨z'',?_,⟨u,u2,?_⟩,?_,?_⟩,λc hcm=>?_⟩
  ·exact(sb.2 _ D.TIz).trans (hk _ _ D.TIz D.TITO D.TIi1 D.TIi2 hTI)
  ·exact(sb.2 _ D.TOz).trans TO'
  ·exact h1'.at λo q=>(sb.2 _ D.i1z).trans q
  ·exact h2'.at λo q=>(sb.2 _ D.i2z).trans q
  ·have hlt:c<s.heap.objs.size:=by
    have e':c=z\/c=TI\/c=TO\/c=i1\/c=i2:=by simpa using hcm
    rcases e' with q|q|q|q|q
    ·rw [q];exact hzl
    ·rw [q];exact lq hTI
    ·rw [q];exact lq hTO
    ·rw [q];obtain⟨_,e1,_⟩:=h1;exact lq e1
    ·rw [q];obtain⟨_,e2,_⟩:=h2;exact lq e2
   rw [zJ (lY hlt)];exact(hf c hcm).1
 done:=by
  intro X hP hw hK hc i pins s σ H E I hf st hg;subst hP hw hK;obtain⟨hz,hTI,⟨x0,y0,hTO⟩,h1,h2⟩:=st;obtain⟨xs,ys,hqx,hqy,hend⟩:=hg;obtain⟨its,rv,p,_⟩:=I.list hqx;obtain⟨its2,rv2,p2,_⟩:=I.list hqy;have l1:=rv.length;have l2:=rv2.length;have he:its.toArray[i]? =none\/its2.toArray[i]? =none:=by
   rcases hend with q|q
   ·exact .inl (by simp;omega)
   ·exact .inr (by simp;omega)
  exact wpAny_pyNext_zip_end (I.ok.hd hc) D hz hTI hTO h1 h2 p.isList p2.isList he λh' hk=>⟨rfl,I.turnedL (t':=s.toks) (ch:=[z,TI,TO,i1,i2]) (λc o hb q=>
   hk c o (λq'=>hb (by simp [q'])) (λq'=>hb (by simp [q'])) (λq'=>hb (by simp [q'])) (λq'=>hb (by simp [q'])) q) hf⟩
 self:=λA i s Q E st h=>wpAny_pyIter_zip st.1 h
def zod(K:PySem.W.Frag)(ta:TA):TI:=λσ H R=>ta σ H λvs H1=>∃a b xs ys,vs= [.ref a,.ref b]/\SqL K H1 a xs/\SqL K H1 b ys/\R (Itz K a b) H1
theorem zlH{X:Cx}{e e2:Expr}{ta:TA}{p pos tpos:Pos}{elts:List Expr}{kk:Nat}(hg:Gl X "zip")(hm:X.mg "zip"=none)(ha:PA X [e,e2] ta)
 (hs:starEach [e,e2] X.env=(false,eval e X.env)::starEach [e2] X.env:=by rfl) (hpl:(backTo pos (starEach [e2] X.env)).any (·.1)=false:=by rfl):
 PI X (.Tuple elts kk tpos) (.Call (.Name "zip" p) [e,e2] [] pos) (zod X.K ta):=by
 intro pins s σ H R I h;refine Call_ (VS I hg hm zfU (y6 (thn (ha pos pins s σ H _ I h) λus s1 ⟨vs,H1,I1,r1,q1⟩=>?_) hs hpl));obtain⟨a,b,xs,ys,ex,hqx,hqy,q⟩:=q1;subst ex;cases r1 with
 |cons r rr=>
  cases rr with
  |cons r' rr=>
   cases rr;cases r;cases r';obtain⟨its,rv,p1,_⟩:=I1.list hqx;obtain⟨its2,rv2,p2,_⟩:=I1.list hqy;have la:a<s1.heap.objs.size:=p1.lt;have lb:b<s1.heap.objs.size:=p2.lt;refine call_zip_2 p1.isList p2.isList λh' hz hTI hTO h1 h2 hsz hk=>wpAny_pyIter_zip hz ?_
   have I2:Inv X pins σ H1 {s1 with heap:=h'}:=I1.kept (t':=s1.toks) hk;refine⟨s1.heap.objs.size+4,[s1.heap.objs.size+4,s1.heap.objs.size+2,s1.heap.objs.size+3,s1.heap.objs.size,s1.heap.objs.size+1],_,_,H1,rfl,I2,zgP (PySem.W.ktu_apart s1.heap.objs.size a b la lb),⟨hz,hTI,⟨_,_,hTO⟩,h1,h2⟩,λc hcm=>?_,q⟩;have e':c=s1.heap.objs.size+4\/c=s1.heap.objs.size+2\/c=s1.heap.objs.size+3\/c=s1.heap.objs.size\/c=s1.heap.objs.size+1:=by simpa using hcm
   have hle:s1.heap.objs.size<=c:=by
    rcases e' with z|z|z|z|z
    ·rw [z];exact Ll _ _
    ·rw [z];exact Ll _ _
    ·rw [z];exact Ll _ _
    ·rw [z];exact lD _
    ·rw [z];exact Ll _ _
   exact I1.fpOk hle (I1.hok.fresh hle)
end L2
section
namespace Bits
open PySem PyProof.Rows
end Bits
end
section
namespace TL
open PySem PySem.Builtin PySem.Builtin.Str PySem.StrLaws
abbrev tl(x:Str):List Nat:=x.cps.toList
theorem xj(x:Str):x.length=(tl x).length:=by simp [tl,Str.length]
theorem Xe{x y:Str}(h:tl x=tl y):x=y:=Str.ext' (YK.mp h)
theorem zY(x y:Str):tl (x++y)=tl x++tl y:=by show(x++y).cps.toList=_;rw [Str.cps_append,Array.toList_append]
theorem zjm(x:Str):(⟨(tl x).toArray⟩:Str)=x:=Xe rfl
theorem VF:∀{l m:List Str},l.map tl=m.map tl->l=m
 | [],[],_=>rfl
 | [],_::_,h=>by simp at h
 |_::_,[],h=>by simp at h
 |x::l,y::m,h=>by
  rw [lU,lU] at h;injection h with h1 h2
  rw [Xe h1,VF h2]
def pre(S l:List Nat):Bool:=l.take S.length==S
def spl(S:List Nat):Nat->List Nat->List Nat->List (List Nat)
 |_,acc,[]=>[acc]
 |0,acc,c::r=>if pre S (c::r)=true then acc::spl S (S.length-1) [] r else spl S 0 (acc++ [c]) r
 |k+1,acc,_::r=>spl S k acc r
def par(S:List Nat):List Nat->List Nat->Option (List Nat×List Nat)
 |_,[]=>none
 |acc,c::r=>if pre S (c::r)=true then some (acc,(c::r).drop S.length) else par S (acc++ [c]) r
theorem V7(S:List Nat)(k:Nat)(acc:List Nat):spl S k acc []= [acc]:=by cases k <;> rfl
theorem zks{S acc r:List Nat}{c:Nat}(h:pre S (c::r)=true):spl S 0 acc (c::r)=acc::spl S (S.length-1) [] r:=by show(if pre S (c::r)=true then acc::spl S (S.length-1) [] r else spl S 0 (acc++ [c]) r)=_;rw [if_pos h]
theorem zho{S acc r:List Nat}{c:Nat}(h:pre S (c::r)=false):spl S 0 acc (c::r)=spl S 0 (acc++ [c]) r:=by show(if pre S (c::r)=true then acc::spl S (S.length-1) [] r else spl S 0 (acc++ [c]) r)=_;rw [if_neg (by rw [h];exact lE)]
theorem zc8(S:List Nat):∀(k:Nat) (acc l:List Nat),spl S k acc l=spl S 0 acc (l.drop k)
 |0,_,_=>by rw [yW]
 |k+1,acc,[]=>by rw [List.drop_nil,V7,V7]
 |k+1,acc,c::r=>by show spl S k acc r=spl S 0 acc (r.drop k);exact zc8 S k acc r
theorem zkk{S acc r:List Nat}{c:Nat}(h:pre S (c::r)=true):par S acc (c::r)=some (acc,(c::r).drop S.length):=by show(if pre S (c::r)=true then some (acc,(c::r).drop S.length) else par S (acc++ [c]) r)=_;rw [if_pos h]
theorem zhX{S acc r:List Nat}{c:Nat}(h:pre S (c::r)=false):par S acc (c::r)=par S (acc++ [c]) r:=by show(if pre S (c::r)=true then some (acc,(c::r).drop S.length) else par S (acc++ [c]) r)=_;rw [if_neg (by rw [h];exact lE)]
theorem zev{S:List Nat}(hS:S≠ []):pre S []=false:=by
 cases S with
 |nil=>exact absurd rfl hS
 |cons s S=>rfl
theorem zcx{s c:Nat}(S r:List Nat)(h:c≠s):pre (s::S) (c::r)=false:=by
 cases hp:pre (s::S) (c::r) with
 |false=>rfl
 |true=>
  have e:(c::r).take (s::S).length=s::S:=eq_of_beq hp;rw [lO,Yf] at e;injection e with e1 e2
  exact absurd e1 h
theorem zc4(S r:List Nat):pre S (S++r)=true:=by show((S++r).take S.length==S)=true;have e:(S++r).take S.length=S:=Yl;rw [e] <;> exact beq_self_eq_true S
theorem ZM{L:List Nat}{a:Nat}(h:a<L.length):∃c,L.drop a=c::L.drop (a+1):=⟨L[a],yR h⟩
theorem KQ(S L:List Nat):∀(m a:Nat) (acc:List Nat),a+m<=L.length->(∀k,a<=k->k<a+m->pre S (L.drop k)=false)->
 spl S 0 acc (L.drop a)=spl S 0 (acc++(L.drop a).take m) (L.drop (a+m))
 |0,a,acc,_,_=>by rw [List.take_zero,yn,Nat.add_zero]
 |m+1,a,acc,h,hn=>by
  have hlt:a<L.length:=by omega
  obtain⟨c,e⟩:=ZM hlt;have h0:=hn a (lD _) (by omega);have ih:=KQ S L m (a+1) (acc++ [c]) (by omega) (λk h1 h2=>hn k (by omega) (by omega));have e2:a+1+m=a+(m+1):=by omega
  rw [e2] at ih;rw [e] at h0;rw [e,zho h0,ih,Yf,yD] <;> rfl
theorem KI(S L:List Nat):∀(m a:Nat) (acc:List Nat),a+m<=L.length->(∀k,a<=k->k<a+m->pre S (L.drop k)=false)->
 par S acc (L.drop a)=par S (acc++(L.drop a).take m) (L.drop (a+m))
 |0,a,acc,_,_=>by rw [List.take_zero,yn,Nat.add_zero]
 |m+1,a,acc,h,hn=>by
  have hlt:a<L.length:=by omega
  obtain⟨c,e⟩:=ZM hlt;have h0:=hn a (lD _) (by omega);have ih:=KI S L m (a+1) (acc++ [c]) (by omega) (λk h1 h2=>hn k (by omega) (by omega));have e2:a+1+m=a+(m+1):=by omega
  rw [e2] at ih;rw [e] at h0;rw [e,zhX h0,ih,Yf,yD] <;> rfl
theorem Kc(L:List Nat)(a b:Nat):(L.drop a).drop b=L.drop (a+b):=by
 first
  |rw [lad]
  |rw [lad,Nat.add_comm]
theorem ziX{S L:List Nat}(hS:S≠ []){c:Nat}{acc:List Nat}(h:pre S (L.drop c)=true):spl S 0 acc (L.drop c)=acc::spl S 0 [] (L.drop (c+S.length)):=by
 rw [<-Kc];cases e:L.drop c with
 |nil=>rw [e,zev hS] at h;cases h
 |cons d r=>
  rw [e] at h;rw [zks h,zc8];cases S with
  |nil=>exact absurd rfl hS
  |cons s S=>rfl
theorem ziF{S L:List Nat}(hS:S≠ []){c:Nat}{acc:List Nat}(h:pre S (L.drop c)=true):par S acc (L.drop c)=some (acc,L.drop (c+S.length)):=by
 rw [<-Kc];cases e:L.drop c with
 |nil=>rw [e,zev hS] at h;cases h
 |cons d r=>
  rw [e] at h;rw [zkk h]
theorem ze8{x y:Str}(hy:tl y≠ [])(i:Nat):At x y x.length i↔pre (tl y) ((tl x).drop i)=true:=by
 have hx:=xj x;have hl:=xj y;constructor
 ·intro h;have h2:=h.2;rw [subAt_eq,hl] at h2;exact h2
 ·intro h;have e:((tl x).drop i).take (tl y).length=tl y:=eq_of_beq h;have e1:=congrArg List.length e;rw [lK,ym] at e1;have e2:0<(tl y).length:=LJ.mpr hy;refine⟨by omega,?_⟩;rw [subAt_eq,hl];exact h
theorem zhe{x y:Str}(hy:tl y≠ []){i:Nat}(h:¬At x y x.length i):pre (tl y) ((tl x).drop i)=false:=by
 cases hp:pre (tl y) ((tl x).drop i) with
 |false=>rfl
 |true=>exact absurd ((ze8 hy i).mpr hp) h
theorem zlA{y:Str}(hy:tl y≠ []):1<=y.length:=by have e2:0<(tl y).length:=LJ.mpr hy;rw [xj y];exact e2
theorem KR(x:Str)(i j:Nat):tl (strSub x i j)=((tl x).drop i).take (j-i):=strSub_toList x i j
theorem Xx(x:Str)(i:Nat):tl (strSub x i x.length)=(tl x).drop i:=by rw [KR,xj x];exact yk (by rw [ym] <;> omega)
theorem zbc{x y:Str}(hy:tl y≠ []):∀(cuts:List Nat) (a f:Nat),a<=(tl x).length->ChainG x y x.length a cuts f->(∀k,f<=k->¬At x y x.length k)->
 (partsFrom x y.length a cuts).map tl=spl (tl y) 0 [] ((tl x).drop a)
 | [],a,f,ha,h,hn=>by
   have e:f=a:=h;subst e;show [tl (strSub x f x.length)]=_;have run:=KQ (tl y) (tl x) ((tl x).length-f) f [] (by omega) (λk h1 _=>zhe hy (hn k h1));have e2:f+((tl x).length-f)=(tl x).length:=by omega
   rw [e2,yS,V7,yo,yk (by rw [ym] <;> omega)] at run;rw [run,Xx]
 |c::r,a,f,ha,h,hn=>by
  obtain⟨h1,h2,h3,h4⟩:=h;have hc:c+y.length<=x.length:=h2.1;have hx:=xj x;have hl:=xj y;have ih:=zbc hy r (c+y.length) f (by omega) h4 hn;show tl (strSub x a c)::(partsFrom x y.length (c+y.length) r).map tl=_;have run:=KQ (tl y) (tl x) (c-a) a [] (by omega) (λk k1 k2=>zhe hy (h3 k k1 (by omega)));have e2:a+(c-a)=c:=by omega
  rw [e2,yo,ziX hy ((ze8 hy c).mp h2)] at run;rw [run,ih,KR,hl]
theorem zfw(x y:Str)(hy:tl y≠ [])(hk:¬Builtin.Str.strKind x<Builtin.Str.strKind y):(Txt.split x y).map tl=spl (tl y) 0 [] (tl x):=by
 obtain⟨f,g,hn⟩:=occ_tight x y (zlA hy);have key:=zbc hy _ 0 f (yx _) g hn;rw [yW] at key;have none_case:occurrences x y 0 x.length (x.length+1)= []-> [x].map tl=spl (tl y) 0 [] (tl x):=λho=>by rw [ho] at key;rw [<-key];show [tl x]= [tl (strSub x 0 x.length)];rw [sub_whole]
 unfold Txt.split;by_cases h1:(decide (x.length<y.length)||decide (Builtin.Str.strKind x<Builtin.Str.strKind y))=true
 ·rw [if_pos h1];have hlt:x.length<y.length:=by
   simp only [Y0,decide_eq_true_eq] at h1;rcases h1 with h|h
   ·exact h
   ·exact absurd h hk
  refine none_case ?_;cases ho:occurrences x y 0 x.length (x.length+1) with
  |nil=>rfl
  |cons c r=>
   rw [ho] at g;have hc:c+y.length<=x.length:=g.2.1.1;omega
 ·rw [if_neg h1];by_cases h2:(occurrences x y 0 x.length (x.length+1)).isEmpty=true
  ·rw [if_pos h2];exact none_case (List.isEmpty_iff.mp h2)
  ·rw [if_neg h2,partsBetween_eq];exact key
theorem zj9{x y:Str}(h:y.cps.all (· <256)=true):¬Builtin.Str.strKind x<Builtin.Str.strKind y:=by
 have e:Builtin.Str.strKind y=1:=by unfold PySem.Builtin.Str.strKind;rw [if_pos h]
 rw [e];unfold PySem.Builtin.Str.strKind;split
 ·omega
 ·split <;> omega
theorem XQ(x y:Str)(hy:tl y≠ []):
 Txt.partition x y=(match par (tl y) [] (tl x) with|some (a,b)=>(⟨a.toArray⟩,y,⟨b.toArray⟩)|none=>(x,Str.empty,Str.empty)):=by
 have hx:=xj x;have hl:=xj y;rcases PyProof.Rows.partition_whole x y with⟨e,hn⟩|⟨i,e,hi,hn⟩
 ·have run:=KI (tl y) (tl x) (tl x).length 0 [] (by omega) (λk _ _=>zhe hy (hn k));rw [yW,LC,yS] at run;rw [e,run] <;> rfl
 ·have hb:i+y.length<=x.length:=hi.1;have run:=KI (tl y) (tl x) i 0 [] (by omega) (λk _ k2=>zhe hy (hn k (by omega)));rw [yW,LC,yo,ziF hy ((ze8 hy i).mp hi)] at run;rw [e,run];have e1:strSub x 0 i=⟨((tl x).take i).toArray⟩:=Xe (by rw [KR,yW,YX]);have e2:strSub x (i+y.length) x.length=⟨((tl x).drop (i+(tl y).length)).toArray⟩:=Xe (by rw [Xx,hl]);rw [e1,e2] <;> rfl
theorem zic{S p rest acc:List Nat}(hS:S≠ [])(h:∀i,i<p.length->pre S ((p++(S++rest)).drop i)=false):
 spl S 0 acc (p++(S++rest))=(acc++p)::spl S 0 [] rest:=by
 have run:=KQ S (p++(S++rest)) p.length 0 acc (by rw [lH];omega) (λk _ k2=>h k (by omega));have ed:(p++(S++rest)).drop p.length=S++rest:=L4;rw [yW,LC,Yl] at run;rw [run,ziX hS (by rw [ed];exact zc4 S rest),<-Kc,ed,L4]
theorem zhT{S p acc:List Nat}(h:∀i,i<p.length->pre S (p.drop i)=false):spl S 0 acc p= [acc++p]:=by have run:=KQ S p p.length 0 acc (by omega) (λk _ k2=>h k (by omega));rw [yW,LC,yS,V7,lh] at run;exact run
theorem zhP{S p rest acc:List Nat}(hS:S≠ [])(h:∀i,i<p.length->pre S ((p++(S++rest)).drop i)=false):
 par S acc (p++(S++rest))=some (acc++p,rest):=by
 have run:=KI S (p++(S++rest)) p.length 0 acc (by rw [lH];omega) (λk _ k2=>h k (by omega));have ed:(p++(S++rest)).drop p.length=S++rest:=L4;rw [yW,LC,Yl] at run;rw [run,ziF hS (by rw [ed];exact zc4 S rest),<-Kc,ed,L4]
theorem zha{S p acc:List Nat}(h:∀i,i<p.length->pre S (p.drop i)=false):par S acc p=none:=by have run:=KI S p p.length 0 acc (by omega) (λk _ k2=>h k (by omega));rw [yW,LC,yS] at run;exact run
theorem zau{s:Nat}{S p q:List Nat}(h:s∉p):∀i,i<p.length->pre (s::S) ((p++q).drop i)=false:=λi hi=>by
 have hlt:i<(p++q).length:=by rw [lH];omega
 have e:(p++q).drop i=(p++q)[i]::(p++q).drop (i+1):=yR hlt;rw [e];refine zcx _ _ λz=>h ?_
 have e1:(p++q)[i]=p[i]:=List.getElem_append_left hi;rw [<-z,e1];exact L9 hi
theorem ze1{s:Nat}{S p rest acc:List Nat}(h:s∉p):spl (s::S) 0 acc (p++(s::S++rest))=(acc++p)::spl (s::S) 0 [] rest:=
 zic (by simp) (zau h)
theorem zeJ{s:Nat}{S p acc:List Nat}(h:s∉p):spl (s::S) 0 acc p= [acc++p]:=zhT λi hi=>by have z:=zau (S:=S) (q:=[]) h i hi;rw [yn] at z;exact z
theorem zeH{s:Nat}{S p rest acc:List Nat}(h:s∉p):par (s::S) acc (p++(s::S++rest))=some (acc++p,rest):=zhP (by simp) (zau h)
theorem zgj{s:Nat}{S p acc:List Nat}(h:s∉p):par (s::S) acc p=none:=zha λi hi=>by have z:=zau (S:=S) (q:=[]) h i hi;rw [yn] at z;exact z
def za0(S:List Nat):List (List Nat)->List Nat
 | []=>[]
 | [p]=>p
 |p::q::r=>p++(S++za0 S (q::r))
theorem zcE(y:Str):∀parts:List Str,tl (Str.join y parts)=za0 (tl y) (parts.map tl)
 | []=>rfl
 | [_]=>rfl
 |x::z::r=>by show tl (x++y++Str.join y (z::r))=tl x++(tl y++za0 (tl y) ((z::r).map tl));rw [zY,zY,zcE y (z::r),yD]
theorem zcX{s:Nat}{S:List Nat}:∀{parts:List (List Nat)},parts≠ []->(∀p∈parts,s∉p)->spl (s::S) 0 [] (za0 (s::S) parts)=parts
 | [],h,_=>absurd rfl h
 | [p],_,hp=>by show spl (s::S) 0 [] p= [p];rw [zeJ (hp p (yT.mpr rfl)),yo]
 |p::q::r,_,hp=>by show spl (s::S) 0 [] (p++(s::S++za0 (s::S) (q::r)))=p::q::r;rw [ze1 (hp p (lC ..)),yo,zcX (by simp) λz hz=>hp z (lA _ hz)]
theorem join_eq(y:Str)(parts:List Str):Txt.join y parts=Str.join y parts:=glued_eq_join y parts
theorem VE{y:Str}{s:Nat}{S:List Nat}(ey:tl y=s::S)(hk:y.cps.all (· <256)=true){parts:List Str}(hne:parts≠ [])(hp:∀p∈parts,s∉tl p):
 Txt.split (Txt.join y parts) y=parts:=by
 refine VF ?_;rw [zfw _ y (by rw [ey];simp) (zj9 hk),join_eq,zcE,ey];refine zcX (λe=>hne (List.map_eq_nil_iff.mp e)) λp h=>?_
 obtain⟨z,hz,rfl⟩:=lL.mp h;exact hp z hz
theorem V6{y:Str}{s:Nat}{S:List Nat}(ey:tl y=s::S){a b:Str}(h:s∉tl a):Txt.partition (a++y++b) y=(a,y,b):=by rw [XQ _ y (by rw [ey];simp),zY,zY,yD,ey,zeH h];show((⟨([]++tl a).toArray⟩:Str),y,(⟨(tl b).toArray⟩:Str))=_;rw [yo,zjm,zjm]
theorem Vi{y:Str}{s:Nat}{S:List Nat}(ey:tl y=s::S){a:Str}(h:s∉tl a):Txt.partition a y=(a,Str.empty,Str.empty):=by rw [XQ _ y (by rw [ey];simp),ey,zgj h]
def zaL(n:Nat):List Nat:=(Nat.toDigits 10 n).map Char.toNat
theorem zdr(n:Nat):tl (Str.ofString (toString ((n:Nat):Int)))=zaL n:=PySem.W.KIN.signs_num n
theorem Xy:∀d:Nat,d<10->(Nat.digitChar d).toNat=48+d:=by decide
theorem Ko{n:Nat}(h:n<10):zaL n= [48+n]:=by unfold zaL;rw [YL h];show [(Nat.digitChar n).toNat]=_;rw [Xy n h]
theorem QG{n:Nat}(h:10<=n):zaL n=zaL (n/10)++ [48+n%10]:=by have hm:n%10<10:=Nat.mod_lt n (by decide);have t:Nat.toDigits 10 (n/10)++Nat.toDigits 10 (n%10)=Nat.toDigits 10 (10*(n/10)+n%10):=Nat.toDigits_append_toDigits (by decide) (by omega) hm;rw [Nat.div_add_mod] at t;show(Nat.toDigits 10 n).map Char.toNat=_;rw [<-t,yZ,YL hm];show(Nat.toDigits 10 (n/10)).map Char.toNat++ [(Nat.digitChar (n%10)).toNat]=_;rw [Xy _ hm] <;> rfl
theorem Vc(n:Nat):NumText.AllDigits (zaL n):=by
 induction n using Nat.strongRecOn with
 |_ n ih=>
  by_cases h:n<10
  ·rw [Ko h];intro c hc;rw [yT.mp hc];omega
  ·rw [QG (by omega)];intro c hc;rcases yd.mp hc with hc|hc
   ·exact ih (n/10) (by omega) c hc
   ·have hm:n%10<10:=Nat.mod_lt n (by decide);rw [yT.mp hc];omega
theorem zci(n:Nat):zaL n≠ []:=by
 by_cases h:n<10
 ·rw [Ko h];simp
 ·rw [QG (by omega)];simp
theorem zfV{n s:Nat}(h:s<48\/57<s):s∉zaL n:=λhm=>by have r:=Vc n s hm;omega
theorem zib(n:Nat):NumText.digitsVal (zaL n)=n:=PySem.W.KIN.val_back n
theorem zda{n k:Nat}(hk:0<k)(h:n<10^k):(zaL n).length<=k:=by
 have z:=PyProof.Rows.toString_length_le (v:=(n:Int)) (by omega) hk (by
  have e:((10:Int)^k)=((10^k:Nat):Int):=by
   first
    |exact(Int.natCast_pow 10 k).symm
    |simp
  rw [e];first|exact Int.ofNat_lt.mpr h|omega)
 rw [xj,zdr] at z;exact z
end TL
end
namespace L2
open PySem PySem.Spec PyProof.Rows
theorem zbS:∀l:List (Str×Tok),Vals ((l.map (·.1)).map V.str) (strValues l)
 | []=>.nil
 |p::r=>.cons ⟨p.2,rfl⟩ (zbS r)
theorem QK:∀{ys:List Str} {us:List Value},Vals (ys.map V.str) us->StrsAre us ys
 | [],_,.nil=>.nil
 |y::ys,_,.cons r t=>by obtain⟨k,rfl⟩:=r;exact .cons y k (QK t)
def zaw(ys:List Str):Hp->VK->Prop:=λH Q=>∀p,H p=none->Q (.ref p) (upd H p (.lst (ys.map V.str)))
section
variable {X:Cx} {pins:List (Addr×Obj)} {σ:St} {H:Hp} {s:Shared} {Q:VK}
theorem Kt{l:List (Str×Tok)}{ys:List Str}{k:Nat}(I:Inv X pins σ H s)(e:l.map (·.1)=ys)(hz:ys.length<=sizeLine)(h:zaw ys H Q):
 EP X pins σ Q (.ref s.heap.objs.size) {s with toks:=k,heap:=s.heap.push {cls:=.type "list",data:=.seq (strValues l).toArray}}:=by
 have hp:=I.hok.fresh (lD _);refine⟨.ref s.heap.objs.size,upd H s.heap.objs.size (.lst (ys.map V.str)),I.laid (λb u q=>lj _ q) (lD _) ⟨by rw [lB];exact hz,strValues l,_,?_,lz _ rfl⟩,rfl,h _ hp⟩;rw [<-e];exact zbS l
theorem Vz{x y z:Str}{t u v:Tok}{k:Nat}(I:Inv X pins σ H s)(h:∀p,H p=none->Q (.ref p) (upd H p (.tup [.str x,.str y,.str z]))):
 EP X pins σ Q (.ref s.heap.objs.size) {s with toks:=k,heap:=s.heap.push {cls:=.type "tuple",data:=.seq [Value.str x t,.str y u,.str z v].toArray}}:=by
 have hp:=I.hok.fresh (lD _)
 exact⟨.ref s.heap.objs.size,upd H s.heap.objs.size (.tup [.str x,.str y,.str z]),I.laid (λb u q=>lj _ q) (lD _)
  ⟨by show 3<=sizeLine;decide,[Value.str x t,.str y u,.str z v],.cons ⟨t,rfl⟩ (.cons ⟨u,rfl⟩ (.cons ⟨v,rfl⟩ .nil)),_,lz _ rfl,rfl,_,rfl⟩,rfl,h _ hp⟩
end
section
variable {X:Cx}
theorem zh7:MtR X "str.split" (λx xs H Q=>∃a b,x= .str a/\xs= [.str b]/\(b.length==0)=false/\a.length+2<=sizeLine/\zaw (Txt.split a b) H Q):=by
 intro pins s σ H x xs v us Q I rx rs h;obtain⟨a,b,rfl,rfl,hb,hz,h⟩:=h;obtain⟨t,rfl⟩:=rx;cases rs with
 |cons r1 rs=>
  cases rs;obtain⟨u,rfl⟩:=r1;have hl:(Txt.split a b).length<=sizeLine:=lQ (PyProof.Rows.split_le a b) hz;have hn:(Builtin.Str.partsBetween a (Builtin.Str.occurrences a b 0 a.length (a.length+1)) b.length).length<=sizeLine:=by have e1:=StrLaws.occ_length_le a b 0 a.length (a.length+1);rw [length_partsBetween];omega
  cases h1:(decide (a.length<b.length)||decide (Builtin.Str.strKind a<Builtin.Str.strKind b))
  ·cases hf:(Builtin.Str.occurrences a b 0 a.length (a.length+1)).isEmpty
   ·refine call_meets Lo (typeIs_str _ _ _) LR (LM _ _) (meets_str_split_sep a b t u h1 hb hf (by omega) hn) ?_;show EP X pins σ Q (.ref s.heap.objs.size) {s with toks:=_,heap:=s.heap.push {cls:=.type "list",data:=.seq (strsFrom s.toks (Builtin.Str.partsBetween a (Builtin.Str.occurrences a b 0 a.length (a.length+1)) b.length)).toArray}};rw [strsFrom_eq];exact Kt (ys:=Txt.split a b) I ((numbered_texts _ _).trans ((if_neg (ne_true_of_eq_false h1)).trans (if_neg (ne_true_of_eq_false hf))).symm) hl h
   ·refine call_meets Lo (typeIs_str _ _ _) LR (LM _ _) (meets_str_split_not_found a b t u h1 hb hf) ?_;exact Kt (l:=[(a,t)]) (ys:=Txt.split a b) (k:=s.toks) I ((if_neg (ne_true_of_eq_false h1)).trans (if_pos hf)).symm hl h
  ·refine call_meets Lo (typeIs_str _ _ _) LR (LM _ _) (meets_str_split_cannot_occur a b t u h1) ?_;exact Kt (l:=[(a,t)]) (ys:=Txt.split a b) (k:=s.toks) I (if_pos h1).symm hl h
theorem zaT:MtR X "str.partition" (λx xs H Q=>∃a b,x= .str a/\xs= [.str b]/\(b.length==0)=false/\a.length<=sizeLine/\
 ∀p,H p=none->Q (.ref p) (upd H p (.tup [.str (Txt.partition a b).1,.str (Txt.partition a b).2.1,.str (Txt.partition a b).2.2]))):=by
 intro pins s σ H x xs v us Q I rx rs h;obtain⟨a,b,rfl,rfl,hb,hz,h⟩:=h;obtain⟨t,rfl⟩:=rx;cases rs with
 |cons r1 rs=>
  cases rs;obtain⟨u,rfl⟩:=r1;refine call_meets Ym (typeIs_str _ _ _) F.entry_str_partition (F.args_str_partition_2 _ _) (meets_str_partition a b t u hb hz) ?_;unfold Txt.partition at h
  revert h
  cases Builtin.Str.occurrences a b 0 a.length 1 with
  |nil=>intro h;exact Vz I h
  |cons i r=>intro h;exact Vz I h
theorem zkt:MtR X "str.join" (λx xs H Q=>∃a p,∃ys:List Str,x= .str a/\xs= [.ref p]/\(SqL X.K H p (ys.map V.str)\/SqT X.K H p (ys.map V.str))/\
 (ys.map (·.length)).sum+ys.length*a.length<=16777216/\Q (.str (Txt.join a ys)) H):=by
 intro pins s σ H x xs v us Q I rx rs h;obtain⟨a,p,ys,rfl,rfl,hp,hz,h⟩:=h;obtain⟨t,rfl⟩:=rx;cases rs with
 |cons r1 rs=>
  cases rs;cases r1;rcases hp with hp|hp
  ·obtain⟨its,r,⟨o,n,ho,hc,_,hd⟩,_⟩:=I.list hp;exact PyProof.Rows.join_list (items:=its.toArray) ⟨o,ho,hc,n,hd⟩ (by rw [List.toList_toArray];exact QK r) hz λt' k=>⟨.str _,H,I.tok k,⟨t',rfl⟩,h⟩
  ·obtain⟨its,r,ht,_⟩:=I.tuple hp;exact PyProof.Rows.join_tuple (items:=its.toArray) ht (by rw [List.toList_toArray];exact QK r) hz λt' k=>⟨.str _,H,I.tok k,⟨t',rfl⟩,h⟩
theorem zbq:Zj X (.type "int") (λxs H Q=>∃a n,xs= [.str a]/\PySem.intText? a=some n/\a.length<=640/\Q (.int n) H):=by
 intro pins s σ H xs us Q I rs h;obtain⟨a,n,rfl,hn,hl,h⟩:=h;cases rs with
 |cons r1 rs=>
  cases rs;obtain⟨t,rfl⟩:=r1;exact PySem.W.KIN.call_text hn hl ⟨.int n,H,I.tok _,⟨_,rfl⟩,h⟩
end
section
variable {X:Cx} {o e:Expr} {to te:TE}
def tM1(r:V->List V->Hp->VK->Prop)(to te:TE):TE:=λσ H Q=>to σ H λx H1=>(∃a,x= .str a)/\te σ H1 λy H2=>r x [y] H2 Q
theorem zkl{id:String}{name:Str}{apos pos:Pos}{r:V->List V->Hp->VK->Prop}(slot:Slot "str" name id)(ty:typeOf (.builtin id)=pure (.type "method_descriptor"))(rule:MtR X id r)(ho:PE X o to)(he:PE X e te)
 (hs:starEach [e] X.env= [(false,eval e X.env)]:=by rfl) (hbase:attributeBase o name X.env (eval o X.env)=eval o X.env:=by rfl) (hline:(apos.endLine==pos.line)=true:=by rfl):
 PE X (.Call (.Attribute o name apos) [e] [] pos) (tM1 r to te):=by
 intro pins s σ H Q I h;refine PySem.Call_method1 hbase hs hline (thn (ho pins s σ H _ I h) λv s1 ⟨x,H1,I1,r1,q1⟩=>?_);obtain⟨⟨a,rfl⟩,q1⟩:=q1;obtain⟨t,rfl⟩:=_root_.id r1;refine⟨"str",_,F.plainAttrs_str,slot,ty,typeIs_str _ _ _,(λ_ e=>nomatch e),Ye rfl (LA (Yy ?_))⟩;exact thn (he pins s1 σ H1 _ I1 q1) λu s2 ⟨y,H2,I2,r2,q2⟩=>YF (rule pins s2 σ H2 _ [y] _ [u] Q I2 r1 (.cons r2 .nil) q2)
theorem zhx{apos pos:Pos}(ho:PE X o to)(he:PE X e te)(hs:starEach [e] X.env= [(false,eval e X.env)]:=by rfl)(hbase:attributeBase o "split" X.env (eval o X.env)=eval o X.env:=by rfl)(hline:(apos.endLine==pos.line)=true:=by rfl):
 PE X (.Call (.Attribute o "split" apos) [e] [] pos) (tM1 (λx xs H Q=>∃a b,x= .str a/\xs= [.str b]/\(b.length==0)=false/\a.length+2<=sizeLine/\zaw (Txt.split a b) H Q) to te):=
 zkl Lo F.type_str_split zh7 ho he hs hbase hline
theorem zbG{apos pos:Pos}(ho:PE X o to)(he:PE X e te)(hs:starEach [e] X.env= [(false,eval e X.env)]:=by rfl)(hbase:attributeBase o "partition" X.env (eval o X.env)=eval o X.env:=by rfl)(hline:(apos.endLine==pos.line)=true:=by rfl):
 PE X (.Call (.Attribute o "partition" apos) [e] [] pos) (tM1 (λx xs H Q=>∃a b,x= .str a/\xs= [.str b]/\(b.length==0)=false/\a.length<=sizeLine/\
  ∀p,H p=none->Q (.ref p) (upd H p (.tup [.str (Txt.partition a b).1,.str (Txt.partition a b).2.1,.str (Txt.partition a b).2.2]))) to te):=
 zkl Ym F.type_str_partition zaT ho he hs hbase hline
theorem zjQ{apos pos:Pos}(ho:PE X o to)(he:PE X e te)(hs:starEach [e] X.env= [(false,eval e X.env)]:=by rfl)(hbase:attributeBase o "join" X.env (eval o X.env)=eval o X.env:=by rfl)(hline:(apos.endLine==pos.line)=true:=by rfl):
 PE X (.Call (.Attribute o "join" apos) [e] [] pos) (tM1 (λx xs H Q=>∃a p,∃ys:List Str,x= .str a/\xs= [.ref p]/\(SqL X.K H p (ys.map V.str)\/SqT X.K H p (ys.map V.str))/\
  (ys.map (·.length)).sum+ys.length*a.length<=16777216/\Q (.str (Txt.join a ys)) H) to te):=
 zkl F.slot_str_join F.type_str_join zkt ho he hs hbase hline
end
section
variable {X:Cx}
theorem zfv:OpR X (compareOp .LtE) (λx y H Q=>∃i j,x= .str i/\y= .str j/\Q (.bl (!decide (j.cps.toList<i.cps.toList))) H):=by intro pins s σ H x y v u Q I rx ry h;obtain⟨i,j,rfl,rfl,q⟩:=h;obtain⟨t,rfl⟩:=rx;obtain⟨t',rfl⟩:=ry;exact PySem.P.le_str (qQ I q rfl)
theorem zfO:OpR X (compareOp .Gt) (λx y H Q=>∃i j,x= .str i/\y= .str j/\Q (.bl (decide (j.cps.toList<i.cps.toList))) H):=by intro pins s σ H x y v u Q I rx ry h;obtain⟨i,j,rfl,rfl,q⟩:=h;obtain⟨t,rfl⟩:=rx;obtain⟨t',rfl⟩:=ry;exact PySem.P.gt_str (qQ I q rfl)
theorem zfa:OpR X (compareOp .GtE) (λx y H Q=>∃i j,x= .str i/\y= .str j/\Q (.bl (!decide (i.cps.toList<j.cps.toList))) H):=by intro pins s σ H x y v u Q I rx ry h;obtain⟨i,j,rfl,rfl,q⟩:=h;obtain⟨t,rfl⟩:=rx;obtain⟨t',rfl⟩:=ry;exact PySem.P.ge_str (qQ I q rfl)
theorem zdT:OpR X (compareOp .In) (λx y H Q=>∃(c:Nat) (z:Str),x= .str ⟨#[c]⟩/\y= .str z/\Q (.bl (decide (c∈z.cps.toList))) H):=by intro pins s σ H x y v u Q I rx ry h;obtain⟨c,z,rfl,rfl,q⟩:=h;obtain⟨t,rfl⟩:=rx;obtain⟨t',rfl⟩:=ry;exact PyProof.Rows.in_str (qQ I q (YM z c).symm)
theorem zaI:OpR X (compareOp .NotIn) (λx y H Q=>∃(c:Nat) (z:Str),x= .str ⟨#[c]⟩/\y= .str z/\Q (.bl (!decide (c∈z.cps.toList))) H):=by intro pins s σ H x y v u Q I rx ry h;obtain⟨c,z,rfl,rfl,q⟩:=h;obtain⟨t,rfl⟩:=rx;obtain⟨t',rfl⟩:=ry;exact PyProof.Rows.notIn_str (qQ I q (congrArg Bool.not (YM z c).symm))
end
theorem IsPart.raw{v:Value}{o:Option Int}(p:IsPart v o):∃l:Option (Int×Tok),v=partValue l/\l.map (·.1)=o:=by
 cases p with
 |none=>exact⟨none,rfl,rfl⟩
 |int i t=>exact⟨some (i,t),rfl,rfl⟩
def zgs(n d:Nat):Option Int->Int
 |none=>(d:Int)
 |some i=>max 0 (min (if i<0 then i+(n:Int) else i) (n:Int))
theorem zdx(n d:Nat)(o:Option Int):zgs n d o=((HT.sIx n d o:Nat):Int):=by
 cases o with
 |none=>rfl
 |some v=>
  show max (0:Int) (min (if v<0 then v+(n:Int) else v) (n:Int))=(((if v<0 then(v+(n:Int)).toNat else min v.toNat n):Nat):Int);by_cases hv:v<0
  ·simp only [if_pos hv];omega
  ·simp only [if_neg hv];omega
theorem ze5(a b:Option Int)(n:Nat):Builtin.Str.strSliceIndices a b 1 n=sliceRange (zgs n 0 a) (zgs n n b) 1:=by
 have h1:((1:Int)>0)=True:=by simp
 cases a <;> cases b <;> first
  |rfl
  |(simp only [Builtin.Str.strSliceIndices,zgs,h1,if_true];rfl)
  |simp [Builtin.Str.strSliceIndices,zgs]
theorem zov(a b:Option Int)(n:Nat):Builtin.Str.strSliceIndices a b 1 n=(List.range (HT.sIx n n b-HT.sIx n 0 a)).map (λk=>HT.sIx n 0 a+k):=by
 rw [ze5,zdx,zdx];generalize HT.sIx n 0 a=p;generalize HT.sIx n n b=q;simp only [sliceRange,show((1:Int)>0)=True from by simp,if_true];by_cases hlt:(p:Int)<q
 ·have e3:(((q:Int)-p+1-1)/1).toNat=q-p:=by first|omega|(simp;done)|(simp;omega)
  simp only [hlt,if_true,e3];refine List.map_congr_left λk _=>?_
  omega
 ·have:q-p=0:=by omega
  simp [hlt,this]
def ziy(z:Str)(lo hi:Option Int):Str:=
 ⟨((z.cps.toList.drop (HT.sIx z.length 0 lo)).take (HT.sIx z.length z.length hi-HT.sIx z.length 0 lo)).toArray⟩
theorem XE(z:Str)(lo hi:Option Int):PySem.StrLaws.sliceText z lo hi=ziy z lo hi:=by
 have h1:HT.sIx z.length 0 lo<=z.length:=HT.ziZ _ _ (yx _) _;have h2:HT.sIx z.length z.length hi<=z.length:=HT.ziZ _ _ (lD _) _;have hp:HT.sIx z.length 0 lo<=max (HT.sIx z.length 0 lo) (HT.sIx z.length z.length hi):=Nat.le_max_left _ _;have hq:max (HT.sIx z.length 0 lo) (HT.sIx z.length z.length hi)<=z.length:=Nat.max_le.mpr ⟨h1,h2⟩;have hd:max (HT.sIx z.length 0 lo) (HT.sIx z.length z.length hi)-HT.sIx z.length 0 lo=HT.sIx z.length z.length hi-HT.sIx z.length 0 lo:=by omega
 have e:Builtin.Str.strSliceIndices lo hi 1 z.length=
  Builtin.Str.strSliceIndices (some ((HT.sIx z.length 0 lo:Nat):Int)) (some ((max (HT.sIx z.length 0 lo) (HT.sIx z.length z.length hi):Nat):Int)) 1 z.length:=by
  rw [PySem.StrLaws.strSliceIndices_plain hp hq,hd,zov]
 have e2:PySem.StrLaws.sliceText z lo hi=
  PySem.StrLaws.sliceText z (some ((HT.sIx z.length 0 lo:Nat):Int)) (some ((max (HT.sIx z.length 0 lo) (HT.sIx z.length z.length hi):Nat):Int)):=by
  unfold PySem.StrLaws.sliceText;rw [e]
 rw [e2,PySem.StrLaws.sliceText_nat z hp hq,hd];rfl
theorem zcF(z:Str)(lo hi:Option Int):(ziy z lo hi).length<=z.length:=by show(((z.cps.toList.drop (HT.sIx z.length 0 lo)).take (HT.sIx z.length z.length hi-HT.sIx z.length 0 lo)).toArray).size<=z.cps.size;rw [lF,lK,ym,lR];omega
def zom:V->Option Int->Option Int->Hp->VK->Prop:=λx lo hi H Q=>∃z,x= .str z/\z.length<=sizeLine/\Q (.str (ziy z lo hi)) H
theorem zkH{X:Cx}:SlR X zom:=by
 intro pins s σ H x v vl vu lo hi sl Q I rx hs pl pu h;obtain⟨z,rfl,hz,q⟩:=h;obtain⟨t,rfl⟩:=rx;obtain⟨os,hos,hcs,hds⟩:=hs;obtain⟨l,rfl,rfl⟩:=IsPart.raw pl;obtain⟨u,rfl,rfl⟩:=IsPart.raw pu;refine⟨"str",_,F.slot_str_getitem.lookup,typeIs_str _ _ _,?_⟩;refine wpAny_getItem_str_slice (l:=l) (u:=u) (st:=none) ⟨os,hos,hcs,hds⟩ rfl ?_;have hl:(PySem.StrLaws.sliceText z (l.map (·.1)) (u.map (·.1))).length<=sizeLine:=by rw [XE];exact lQ (zcF z _ _) hz
 rw [<-XE] at q;unfold PySem.StrLaws.sliceText at q hl
 show Made.post (if ((1:Int)==1&&(Builtin.Str.strSliceIndices (l.map (·.1)) (u.map (·.1)) 1 z.length).length==z.length)=true then Made.val (.str z t)
  else Made.str ⟨((Builtin.Str.strSliceIndices (l.map (·.1)) (u.map (·.1)) 1 z.length).filterMap (z.cps[·]?)).toArray⟩) (EP X pins σ Q) s
 by_cases c:((1:Int)==1&&(Builtin.Str.strSliceIndices (l.map (·.1)) (u.map (·.1)) 1 z.length).length==z.length)=true
 ·rw [if_pos c] at q⊢;exact⟨.str z,H,I,⟨t,rfl⟩,q⟩
 ·rw [if_neg c] at q hl⊢;exact⟨hl,.str _,H,I.tok _,⟨_,rfl⟩,q⟩
end L2
namespace Att
open PySem PySem.W PySem.Calls PyProof.Rows
theorem Vb{P:Params}{h:Heap}:∀(ns:List Int) (vs:List Value),WellAll P h vs (ns.map WData.int)->IntsAre vs ns:=by
 intro ns;induction ns with
 |nil=>
  intro vs w;rw [Ld] at w;cases w;exact .nil
 |cons n ns ih=>
  intro vs w;rw [lU] at w;cases w with
  |cons a b=>
   cases a;exact .cons _ _ (ih _ b)
theorem zgz{l:OpenLaw}{n:Nat}(hn:l.most=some n){P:Params}{h:Heap}{args:List WData}{vals:List Value}
 (hpre:l.row.toRowW.claim.pre args=true) (hwl:WellAll P h vals args):
 ∃a vs ns,vals= [Value.ref a]/\args= [WData.list (ns.map WData.int)]/\h.get? a=some {cls:=.type "list",data:=.seq vs.toArray}/\IntsAre vs ns/\ns.length<=n:=by
 have hsh:WShape.hasAll [] args [.list .int]=true:=(pre_splitW hpre).1;have hc:l.pre.holds [] {args:=args}=true:=(pre_splitW hpre).2;obtain⟨d,r,rfl,h1,h2⟩:=hasAllW_cons hsh;obtain rfl:=hasAllW_nil h2;obtain⟨xs,rfl,h3⟩:=hasW_list h1;obtain⟨ns,rfl⟩:=items_int h3;have hlen:ns.length<=n:=by
  unfold OpenLaw.pre at hc;have h4:(WTm.not (.lt (.lit (.int (n:Int))) (.len (.arg 0)))).holds [] {args:=[.list (ns.map .int)]}=true:=by have h4:=(holds_andW hc).1;rw [hn] at h4;exact h4
  have h5:=condW_of h4 (w_not (w_lt w_lit (w_len_list (w_arg rfl))));rw [lB] at h5;refine Nat.le_of_not_lt λq=>?_
  have q':(n:Int)<((ns.length:Nat):Int):=by omega
  first
   |(rw [decide_eq_true q'] at h5;exact absurd h5 (by decide))
   |(simp at h5;omega)
 cases hwl with
 |cons w1 w2=>
  cases w2;cases w1 with
  |list ho hall=>exact⟨_,_,ns,rfl,rfl,ho,Vb ns _ hall,hlen⟩
theorem zgo(l:OpenLaw)(args:List WData):l.row.toRowW.claim.post args (.bool true) args=true:=
 postW_of (r:=l.row.toRowW) (X:=(true==true))
  (show WShape.has [] (.bool true) .bool=true by first|rfl|decide|simp [WShape.has,WShape.arms,WShape.armsAll])
  (show(WTm.eq .res (.lit (.bool true))).value [] {args:=args,res:=some (.bool true),after:=args}=some (.bool (true==true)) from w_eq_bool (w_res rfl) w_lit) rfl
theorem zcq{l:OpenLaw}{n:Nat}{q:Program}{loose:List Str}{XP:(Str->Option Value)->Heap->Prop}{YP:World->Heap->Prop}{d:DefRec}
 (hn:l.most=some n) (hdf:d.params.defaults= [])
 (call:∀(w:World) (s₀ s₁:Shared) (mg mb:Str->Option Value) (fa:Addr) (o:Obj) (pm cd doc:Value) (a:Addr) (vs:List Value) (ns:List Int),
   Ground q loose [] XP w s₀ mg mb s₁.heap->YP w s₁.heap->
   s₁.heap.get? fa=some o->o.data= .func (docDef d.name d.params d.body d.scope pm cd doc)->s₁.heap.CodeRec cd d.name->mg d.name=some (.ref fa)->
   s₁.heap.get? a=some {cls:=.type "list",data:=.seq vs.toArray}->IntsAre vs ns->ns.length<=n->s₁.gens= #[]->
   codeAny (model l.prog w) callerA (.call (.ref fa) ⟨[.ref a],[]⟩) (λr s'=>r= .ok (.ret (.bool true))/\OldK s₁.heap s'.heap/\s'.os=s₁.os/\AllBare s'.gens) s₁):
 WalkO q loose XP YP l.row.toRowW d [] (λf vs=>PySem.call f vs):=by
 intro w s₀ s₁ mg mb G Y fa o pm cd doc dV kV ho hd hcd hD hmg hg args vals as hpre hlay hrd hwl hlo;obtain rfl:dV= .none:=Dflts.none hD hdf;obtain rfl:kV= .none:=Dflts.noKw hD;obtain⟨a,vs,ns,rfl,rfl,hobj,hints,hlen⟩:=zgz hn hpre hwl;refine enter_call (codeAny_mono (call w s₀ s₁ mg mb fa o pm cd doc a vs ns G Y ho (fd_plain hd) hcd hmg hobj hints hlen hg) λr s' hq=>?_);obtain⟨rfl,h2,h3,h4⟩:=hq;exact⟨.inl ⟨.bool true,.bool true,[],rfl,λ_=>rfl,.bool true,zgo l _,λ_=>⟨List.Pairwise.nil,λ_ hm=>(nomatch hm)⟩⟩,h2,h3,h4⟩
section
variable {prog:Program} {w:World} {A:Around} {E:Value->Shared->Prop} {s:Shared} {K:Frag}
end
end Att
namespace L2
open PySem PySem.Spec PyProof.Rows
theorem zaU:∀{vs:List Value} {ns:List Int},IntsAre vs ns->Vals (ns.map V.int) vs
 |_,_,.nil=>.nil
 |_,_,.cons n t h=>.cons ⟨t,rfl⟩ (zaU h)
def zmF(H:Hp):Prop:=∀b,H b=none\/∃o xs,H b=some (.frz o (.lst xs))
theorem zh2{P:Program}{w:World}{K:PySem.W.Frag}{mg mb:Str->Option Value}{CX:CXT}{k:Nat}{fa a:Addr}{fd:FuncData}{x:Str}{sp:Sp}{s₁:Shared}{vs:List Value}{ns:List Int}
 (KX:K.In s₁.heap) (hns:s₁.heap.Ns mainGlobals mg) (hb:s₁.heap.Ns builtinsNs mb) (hbb:∀x:Str,x≠"__name__"->mb x=bootBuiltins x) (hlim:s₁.heap.NoLimit) (hg:s₁.gens= #[])
 (ha:s₁.heap.get? a=some {cls:=.type "list",data:=.seq vs.toArray}) (hi:IntsAre vs ns) (hl:ns.length<=sizeLine) (hr:Room k callerA)
 (F:∀base:Heap,K.In base->base.Ns mainGlobals mg->FnOk P w K mg base CX k fa fd [x] sp) (hbind:∀(s:Shared) (u:Value),BindsTo s fd ⟨[u],[]⟩ [(x,u)])
 (hsp:∀H:Hp,zmF H->SqL K H a (ns.map V.int)->sp [.ref a] H (λv _=>v= .bl true) λ_ _ _=>False)
 (hCX:∀H e s',CX [] H s₁ (λ_ _ _=>False) e s'->False):
 codeAny (model P w) callerA (.call (.ref fa) ⟨[.ref a],[]⟩) (λr s'=>r= .ok (.ret (.bool true))/\OldK s₁.heap s'.heap/\s'.os=s₁.os/\AllBare s'.gens) s₁:=by
 have rv:=zaU hi;have lenV:=hi.length;have core:∀H:Hp,zmF H->SqL K H a (ns.map V.int)->HOk P w H s₁.heap->(∀b,H b≠none->b=a)->(H a≠none->K.lookup a=none)->
  codeAny (model P w) callerA (.call (.ref fa) ⟨[.ref a],[]⟩) (λr s'=>r= .ok (.ret (.bool true))/\OldK s₁.heap s'.heap/\s'.os=s₁.os/\AllBare s'.gens) s₁:=by
  intro H hO hS hok hA hK;have base_of:∀{b:Addr} {o:Obj},s₁.heap.get? b=some o->H b=none->(zgJ s₁.heap H).get? b=some o:=λe n=>zhV e n
  have noA:∀{b:Addr} {o:Obj} {es:Array DictEntry} {ep:Nat},s₁.heap.get? b=some o->o.data= .dict es ep->H b=none:=λ{b o es ep} e d=>by
   cases q:H b with
   |none=>rfl
   |some u=>
    have e':b=a:=hA b (by rw [q];simp);subst e';rw [ha] at e;cases e;have d':Data.seq vs.toArray _=Data.dict es ep:=d;cases d'
  have nsK:∀{b:Addr} {m:Str->Option Value},s₁.heap.Ns b m->(zgJ s₁.heap H).Ns b m:=λ{b m} ⟨o,es,ep,e,d,r⟩=>⟨o,es,ep,base_of e (noA e d),d,r⟩
  have hKb:K.In (zgJ s₁.heap H):=λb o e=>base_of (KX b o e) (by
   cases q:H b with
   |none=>rfl
   |some u=>
    have e':b=a:=hA b (by rw [q];simp);subst e';rw [hK (by rw [q];simp)] at e;cases e)
  have hM:Mod K mg (zgJ s₁.heap H):=⟨hKb,nsK hns,⟨mb,nsK hb,hbb⟩,let⟨mc,h1,h2⟩:=hlim;⟨mc,nsK h1,h2⟩⟩;have e0:Env0 P w K mg (zgJ s₁.heap H) callerA [] s₁ H:=⟨rfl,hM,λb o e=>zjX e,yU (zgm _ _),trivial,λb hb=>absurd (show b∈([]:List Addr) from hb) (by simp),hok,.of_eq hg⟩;refine codeAny_mono ((F _ hKb (nsK hns)).run callerA [] s₁ H ⟨[.ref a],[]⟩ [.ref a] [.ref a] _ _ hr e0 (hbind s₁ (.ref a)) (.cons rfl .nil) (hsp H hO hS)) λr s' h=>?_
  cases r with
  |error e=>exact(hCX H e s' h).elim
  |ok fl=>
   cases fl with
   |next=>exact False.elim h
   |brk=>exact False.elim h
   |cont=>exact False.elim h
   |ret u=>
    obtain⟨v,H',os,bare,un,hok',r',q⟩:=h;have q':v= .bl true:=q;subst q';obtain rfl:u=Value.bool true:=r';refine⟨rfl,OldK.of_keep λb o e=>?_,os,bare⟩;cases q:H b with
    |none=>exact un.keep b o e q (by intro z;exact absurd (show b∈([]:List Addr) from z) (by simp)) (by simp)
    |some u=>
     rcases hO b with z|⟨ob,xs,z⟩
     ·rw [q] at z;cases z
     ·have z2:=un.frzs b ob _ z;obtain⟨e1,_⟩:=hok b _ z;obtain⟨e2,_⟩:=hok' b _ z2;rw [e] at e1;cases e1;exact e2
 cases hk:K.lookup a with
 |some o=>
  have e:=KX a o hk;rw [ha] at e;cases e;refine core (λ_=>none) (λ_=>.inl rfl) (.inr ⟨_,vs.toArray,_,hk,rfl,rfl,rfl,by rw [lF,lenV];exact hl,by simpa using rv⟩) (λb u z=>by have z':(none:Option HO)=some u:=z;cases z') (λb z=>absurd rfl z) λz=>absurd rfl z
 |none=>
  refine core (λb=>if b=a then some (.frz {cls:=.type "list",data:=.seq vs.toArray} (.lst (ns.map V.int))) else none) (λb=>?_) (.inl (.inr ⟨{cls:=.type "list",data:=.seq vs.toArray},if_pos rfl⟩)) (λb u z=>?_) (λb z=>?_) λ_=>hk
  ·by_cases hb:b=a
   ·exact .inr ⟨_,_,if_pos hb⟩
   ·exact .inl (if_neg hb)
  ·by_cases hb:b=a
   ·have z':=(if_pos hb).symm.trans z;cases z';subst hb;exact⟨ha,by rw [lB];exact hl,vs,_,rv,ha⟩
   ·have z':=(if_neg hb).symm.trans z;cases z'
  ·by_cases hb:b=a
   ·exact hb
   ·exact absurd (if_neg hb) z
theorem zkC{l:PySem.W.OpenLaw}{n k:Nat}{q:Program}{loose:List Str}{XP:(Str->Option Value)->Heap->Prop}{YP:World->Heap->Prop}{d:DefRec}{K:Params->PySem.W.Frag}{CX:World->CXT}{sp:World->Sp}{x:Str}
 (hn:l.most=some n) (hn2:n<=sizeLine) (hdf:d.params.defaults= []) (hr:Room k callerA)
 (hY:∀(w:World) (h:Heap),YP w h->(K w.params).In h)
 (F:∀(w:World) (mg:Str->Option Value) (fa:Addr) (h:Heap),(K w.params).In h->h.Ns mainGlobals mg->mg d.name=some (.ref fa)->
   ∃fd:FuncData,(∀(s:Shared) (u:Value),BindsTo s fd ⟨[u],[]⟩ [(x,u)])/\
    ∀base:Heap,(K w.params).In base->base.Ns mainGlobals mg->FnOk l.prog w (K w.params) mg base (CX w) k fa fd [x] (sp w))
 (hsp:∀(w:World) (H:Hp) (a:Addr) (ns:List Int),ns.length<=n->zmF H->SqL (K w.params) H a (ns.map V.int)->sp w [.ref a] H (λv _=>v= .bl true) λ_ _ _=>False)
 (hCX:∀(w:World) (H:Hp) (s:Shared) (e:Value) (s':Shared),CX w [] H s (λ_ _ _=>False) e s'->False):
 PySem.W.WalkO q loose XP YP l.row.toRowW d [] (λf vs=>PySem.call f vs):=by
 refine Att.zcq hn hdf λw s₀ s₁ mg mb fa o pm cd doc a vs ns G Y ho hd hcd hmg hobj hints hlen hg=>?_
 have KX:=hY w _ Y;obtain⟨fd,hb,hF⟩:=F w mg fa _ KX G.T.g hmg;exact zh2 KX G.T.g G.T.b G.T.builtins G.T.nolimit hg hobj hints (lQ hlen hn2) hr hF hb (λH hO hS=>hsp w H a ns hlen hO hS) λH e s'=>hCX w H s₁ e s'
def zV(s:Stmt):Arguments:=match s with
 | .FunctionDef _ a _ _ _ _ _ _ _ _=>a
 |_=>{posonlyargs:=[],args:=[],vararg:=none,kwonlyargs:=[],kw_defaults:=[],kwarg:=none,defaults:=[]}
def zP(s:Stmt):List Stmt:=match s with
 | .FunctionDef _ _ b _ _ _ _ _ _ _=>b
 |_=>[]
def zp(s:Stmt):Scope:=match s with
 | .FunctionDef _ _ _ _ _ _ sc _ _ _=>sc
 |_=>{kind:=.function,names:=[],isGenerator:=false,isCoroutine:=false}
abbrev CX0:CXT:=λ_ _ _ _ _ _=>False
abbrev E0:XK:=λ_ _ _=>False
theorem zm7{X:Cx}:Passes CX0 X E0:=λ_ _ _ _ _ _ _ h=>h.elim
structure Fun (K:PySem.W.Frag) (x qual:Str) (st:Stmt) (f:Addr) (fd:FuncData):Prop where
 ex:∃(oc:Value) (od:Option Addr) (kV doc pm:Value) (an:Option Addr) (cdv ct:Value) (osl:Array (Option Value)),
  fd=PySem.W.fnOf x qual (zV st) (zP st) (zp st) .none kV doc pm an cdv ct/\K.lookup f=some ⟨oc,od,.func fd,osl⟩/\PySem.W.codeIn K cdv qual=true
 kp:PySem.W.keepIn K (.ref f)=true
section
variable {P:Program} {w:World} {K:PySem.W.Frag} {mg:Str->Option Value} {base:Heap}
theorem Fun.binds{x qual:Str}{st:Stmt}{f:Addr}{fd:FuncData}{ps:List Str}(F:Fun K x qual st f fd)
 (h:∀(kV doc pm:Value) (an:Option Addr) (cdv ct:Value) (us:List Value),us.length=ps.length->bindArgs (PySem.W.fnOf x qual (zV st) (zP st) (zp st) .none kV doc pm an cdv ct) ⟨us,[]⟩=pure (ps.zip us)):Binds K fd ps []:=by
 obtain⟨oc,od,kV,doc,pm,an,cdv,ct,osl,rfl,lk,hcd⟩:=F.ex;exact .all (h kV doc pm an cdv ct)
theorem qX{x qual:Str}{st:Stmt}{f:Addr}{oc:Value}{od an:Option Addr}{osl:Array (Option Value)}{kV doc pm cdv ct:Value}(l:K.lookup f=some ⟨oc,od,.func (PySem.W.fnOf x qual (zV st) (zP st) (zp st) .none kV doc pm an cdv ct),osl⟩)
 (c:PySem.W.codeIn K cdv qual=true) (k:PySem.W.keepIn K (.ref f)=true):Fun K x qual st f (PySem.W.fnOf x qual (zV st) (zP st) (zp st) .none kV doc pm an cdv ct):=⟨⟨oc,od,kV,doc,pm,an,cdv,ct,osl,rfl,l,c⟩,k⟩
end
section
variable {X:Cx}
end
def zmK(H H':Hp):Prop:=∀b o,H b=some o->H' b=some o
theorem zmK.free{H H':Hp}(e:zmK H H'){l:Addr}(h:H' l=Option.none):H l=Option.none:=by
 cases q:H l with
 |none=>rfl
 |some o=>
  rw [e l o q] at h;cases h
section
variable {κ:Type} [DecidableEq κ]
end
theorem zmK.made{H H1:Hp}{x dx C:Addr}(nx:H x=Option.none)(nd:H dx=Option.none)(k:∀b o,(upd (upd H dx (.own x)) x (.ins C dx [])) b=some o->b≠x->H1 b=some o):zmK H H1:=λb o e=>
 k b o (by rw [zJ (zu e nx),zJ (zu e nd)];exact e) (zu e nx)
end L2
namespace ZX
open PySem PySem.Spec PySem.W L2
open PyProof.Rows hiding St
theorem ze4{P:Program}{w:World}{H:Hp}{h:Heap}{a:Addr}{o:HO}(x:kE P w H h a o):∃u,h.get? a=some u:=by
 cases o with
 |lst xs=>obtain⟨_,_,_,_,e⟩:=x;exact⟨_,e⟩
 |tup xs=>obtain⟨_,_,_,ob,e,_⟩:=x;exact⟨_,e⟩
 |dK kvs=>obtain⟨_,_,_,_,o,_,_,e,_⟩:=x;exact⟨_,e⟩
 |dT kvs=>obtain⟨_,_,_,_,o,_,_,e,_⟩:=x;exact⟨_,e⟩
 |set S n=>obtain⟨o,_,_,_,e,_⟩:=x;exact⟨_,e⟩
 |ins C dx fs=>obtain⟨_,_,_,e,_⟩:=x;exact⟨_,e⟩
 |own y=>exact x
 |xd fs=>obtain⟨_,⟨_,_,_,e,_⟩,_⟩:=x;exact⟨_,e⟩
 |rng lo hi=>obtain⟨_,_,_,e⟩:=x;exact⟨_,e⟩
 |frz ob u=>obtain⟨e,_⟩:=x;exact⟨_,e⟩
 |tbl ps=>exact⟨_,(show h.get? a=some _ from x)⟩
 |met f y=>exact⟨_,(show h.get? a=some _ from x)⟩
 |ext φ=>obtain⟨_,e,_⟩:=x;exact e
def exO(C:Value)(d:Option Addr)(a0 tb:Value):Obj:={cls:=C,dict:=d,data:=.fields #[a0,tb,.none,.none,.bool false,.none]}
def Trc(h base:Heap)(e:Addr)(C:Value)(d:Option Addr)(a0 fl:Value):Prop:=
 ∃T oT ts,h.get? e=some (exO C d a0 (.ref T))/\base.get? T=none/\T≠e/\h.get? T=some oT/\oT.data= .fields ts/\ts[3]? =some fl
structure Flg (base:Heap) (l:List Env) (e:Addr) (C:Value) (d:Option Addr) (a0 fl:Value) (h:Heap):Prop where
 st:base.StaysIn h
 nw:base.get? e=none
 fr:h.FunFrames base l
 tr:Trc h base e C d a0 fl
section
variable {M:Model} {A:Around} {E:Value->Shared->Prop} {s:Shared} {base:Heap} {env:Env} {outer l:List Env} {L e:Addr} {C a0 tb fl:Value} {d:Option Addr} {Q:Unit->Shared->Prop}
theorem zdb{head:Value}{hn:Bool}(hfr:A.frames=some (env::outer))(hl:s.heap.FunFrames base (env::outer))(hf:env.frame=some L)(he:s.heap.get? e=some (exO C d a0 tb))(hkb:base.StaysIn s.heap)(hen:base.get? e=none)
 (k:∀h',Flg base (env::outer) e C d a0 (rawInt L) h'->s.heap.UpToSlots h'->Q () {s with heap:=h'}):
 wpAny M A (do let a<-frameOf env;let q<-entryPlaceOf L hn;let b<-EntryCells.newEntry head a .none (rawInt L) .none q;setField (.ref e) 1 b) Q E s:=by
 have nof:e∉(env::outer).filterMap (·.frame):=λz=>by obtain⟨_,o,ho,n⟩:=hl.mem z;rw [he] at ho;cases ho;exact n _ rfl
 refine wpAny_bind (wpAny_frameOf_fun hfr hl hf λh1 s1=>?_);refine wpAny_bind (wpAny_entryPlaceOf λq hq=>?_);unfold EntryCells.newEntry newFields;refine wpAny_bind (wpAny_newObj_type ?_ (hq.sizeOk5 _ _ _ _ _));generalize hob:({cls:=.type "traceback",dict:=none,data:=.fields ([head,.ref L,.none,rawInt L,.none]++(if q.isEmpty then List.replicate 6 Value.none else q)).toArray}:Obj)=tob;have e1:h1.get? e=some (exO C d a0 tb):=(s1.2.1 e nof).trans he;have kb1:base.StaysIn h1:=λb o hb=>(s1.2.1 b λz=>by rw [(hl.mem z).1] at hb;cases hb).trans (hkb b o hb)
 have e2:(h1.push tob).get? e=some (exO C d a0 tb):=lj _ e1;have nT:h1.objs.size≠e:=Ln (lq e1);have e3:((h1.push tob).update e (Obj.mapFields (·.setIfInBounds 1 (Value.ref h1.objs.size)))).get? e=some (exO C d a0 (.ref h1.objs.size)):=yg _ e2 rfl;have t3:((h1.push tob).update e (Obj.mapFields (·.setIfInBounds 1 (Value.ref h1.objs.size)))).get? h1.objs.size=some tob:=(ye _ _ (yY nT)).trans (lz h1 (by rw [<-hob];rfl));have keep:∀b o,b≠e->h1.get? b=some o->((h1.push tob).update e (Obj.mapFields (·.setIfInBounds 1 (Value.ref h1.objs.size)))).get? b=some o:=λb o n hb=>(ye _ _ (yY n)).trans (lj _ hb)
 have nrec:∀b o,s.heap.get? b=some o->(∀vs,o.data≠ .fields vs)->b≠e:=λb o hb n z=>by rw [z,he] at hb;cases hb;exact n _ rfl
 refine wpAny_setField e2 rfl (by show 1<6;decide) (k _ ⟨λb o hb=>keep b o (λz=>by rw [z,hen] at hb;cases hb) (kb1 b o hb),hen,hl.of_keeps λb o hb n=>?_,h1.objs.size,tob,_,e3,kb1.fresh,nT,t3,by rw [<-hob],?_⟩ λb o hb n=>?_)
 ·obtain⟨sl,hs⟩:=s1.2.2 b o hb;exact⟨_,keep b _ (nrec b o hb n) hs,rfl⟩
 ·rcases hq with rfl|⟨_,_,_,_,_,_,_,rfl⟩ <;> simp
 ·obtain⟨sl,hs⟩:=s1.2.2 b o hb;exact⟨sl,keep b _ (nrec b o hb n) hs⟩
theorem zei(hfr:A.frames=some (env::outer))(hl:s.heap.FunFrames base (env::outer))(hf:env.frame=some L)(he:s.heap.get? e=some (exO C d a0 .none))(hkb:base.StaysIn s.heap)(hen:base.get? e=none)
 (k:∀h',Flg base (env::outer) e C d a0 (rawInt L) h'->s.heap.UpToSlots h'->Q () {s with heap:=h'}):wpAny M A (noteFrame (.ref e) env) Q E s:=by
 unfold noteFrame;simp only [hf];refine wpAny_bind (wpAny_field he rfl (x:=.none) rfl ?_);rw [if_neg (by decide)];exact zdb hfr hl hf he hkb hen k
theorem zgh(hne:(fl==rawInt L)=false)(hfr:A.frames=some (env::outer))(hf:env.frame=some L)(F:Flg base (env::outer) e C d a0 fl s.heap)
 (k:∀h',Flg base (env::outer) e C d a0 (rawInt L) h'->s.heap.UpToSlots h'->Q () {s with heap:=h'}):wpAny M A (noteFrame (.ref e) env) Q E s:=by
 obtain⟨hkb,hen,hl,T,oT,ts,he,hnT,hTe,hT,hdT,h3⟩:=F;unfold noteFrame;simp only [hf];refine wpAny_bind (wpAny_field he rfl (x:=.ref T) rfl ?_);rw [if_pos (show(Value.ref T !=Value.none)=true by simp)];refine wpAny_bind (wpAny_field hT hdT h3 ?_);rw [if_neg (by rw [hne];exact lE)];refine wpAny_bind (wpAny_setField hT hdT (Yn.mp h3).1 ?_);have oth:∀b,b≠T->(s.heap.update T (Obj.mapFields (·.setIfInBounds 3 Value.none))).get? b=s.heap.get? b:=λb n=>ye _ _ (yY n)
 have nrec:∀b o,s.heap.get? b=some o->(∀vs,o.data≠ .fields vs)->b≠T:=λb o hb n z=>by rw [z,hT] at hb;cases hb;exact n _ hdT
 refine zdb hfr (hl.of_keeps λb o hb n=>⟨o,(oth b (nrec b o hb n)).trans hb,rfl⟩) hf ((oth e (yY hTe)).trans he) (λb o hb=>(oth b λz=>by rw [z,hnT] at hb;cases hb).trans (hkb b o hb)) hen λh' F' up=>k h' F' λb o hb n=>?_
 exact up b o ((oth b (nrec b o hb n)).trans hb) n
theorem zfj(hf:env.frame=some L)(F:Flg base l e C d a0 (rawInt L) s.heap)(k:Q () s):wpAny M A (noteFrame (.ref e) env) Q E s:=by obtain⟨hkb,hen,hl,T,oT,ts,he,hnT,hTe,hT,hdT,h3⟩:=F;unfold noteFrame;simp only [hf];refine wpAny_bind (wpAny_field he rfl (x:=.ref T) rfl ?_);rw [if_pos (show(Value.ref T !=Value.none)=true by simp)];refine wpAny_bind (wpAny_field hT hdT h3 ?_);rw [if_pos (show(rawInt L==rawInt L)=true by simp [rawInt])];exact wpAny_pure k
def flv(fr:Option Addr):Value:=fr.elim .none λf=>rawInt f
theorem zkL{fr:Option Addr}(h:fr≠some L):(flv fr==rawInt L)=false:=by
 cases fr with
 |none=>simp [flv,rawInt]
 |some f=>
  have n:(f:Int)≠(L:Int):=λz=>h (congrArg some (Int.ofNat.inj z))
  show(rawInt f==rawInt L)=false;simp [rawInt,n]
theorem zdm{fr:Option Addr}(F:Flg base l e C d a0 fl s.heap)(k:∀h',Flg base l e C d a0 (flv fr) h'->s.heap.UpToSlots h'->Q () {s with heap:=h'}):wpAny M A (setFlight (.ref e) fr) Q E s:=by
 obtain⟨hkb,hen,hl,T,oT,ts,he,hnT,hTe,hT,hdT,h3⟩:=F;have sz:3<ts.size:=(Yn.mp h3).1;have oth:∀b,b≠T->(s.heap.update T (Obj.mapFields (·.setIfInBounds 3 (flv fr)))).get? b=s.heap.get? b:=λb n=>ye _ _ (yY n)
 have nrec:∀b o,s.heap.get? b=some o->(∀vs,o.data≠ .fields vs)->b≠T:=λb o hb n z=>by rw [z,hT] at hb;cases hb;exact n _ hdT
 unfold setFlight;refine wpAny_bind (wpAny_field he rfl (x:=.ref T) rfl ?_);rw [if_pos (show(Value.ref T !=Value.none)=true by simp)]
 refine wpAny_setField hT hdT sz (k _ ⟨λb o hb=>(oth b λz=>by rw [z,hnT] at hb;cases hb).trans (hkb b o hb),hen,hl.of_keeps λb o hb n=>⟨o,(oth b (nrec b o hb n)).trans hb,rfl⟩,
  T,_,_,(oth e (yY hTe)).trans he,hnT,hTe,yg _ hT (y8 (yV hdT _)),yV hdT _,by simp [sz,flv]⟩ λb o hb n=>⟨o.slots,(oth b (nrec b o hb n)).trans hb⟩)
theorem zkb(F:Flg base l e C d a0 fl s.heap)(k:∀h',Flg base l e C d a0 .none h'->s.heap.UpToSlots h'->Q () {s with heap:=h'}):wpAny M A (setFlight (.ref e) none) Q E s:=zdm (fr:=none) F k
end
structure Flt (P:Program) (w:World) (l:List Env) (H H':Hp) (s s':Shared) (e:Addr) (C:Value) (d:Option Addr) (a0 fl:Value):Prop where
 os:s'.os=s.os
 bare:AllBare s'.gens
 un:Un (frs l) [] H H' s.heap s'.heap
 hok:HOk P w H' s'.heap
 fly:∃B,Flg B l e C d a0 fl s'.heap/\(∀b o,s.heap.get? b=some o->H b=none->b∉frs l->B.get? b=some o)/\
  (∀b o,H' b≠none->s'.heap.get? b=some o->B.get? b=some o)/\∀b o,s.heap.get? b=some o->b∉frs l->∃o',B.get? b=some o'
section
variable {P:Program} {w:World} {X:Cx} {pins:List (Addr×Obj)} {σ:List (Option V)} {H H' H1 H2:Hp} {s s1 s2:Shared} {l:List Env} {e:Addr} {C a0 fl:Value} {d:Option Addr} {Q:Unit->Shared->Prop} {E:Value->Shared->Prop}
theorem zet{B:Heap}{hm:Heap}{s3:Shared}(ho:s3.os=s.os)(hb:AllBare s3.gens)(F:Flg B l e C d a0 fl s3.heap)(kU:∀b o,s.heap.get? b=some o->H b=none->b∉frs l->B.get? b=some o)
 (kT:∀b o,H' b≠none->hm.get? b=some o->B.get? b=some o) (kA:∀b o,s.heap.get? b=some o->b∉frs l->∃o',B.get? b=some o') (hok:HOk P w H' hm)
 (slot:∀b o,s.heap.get? b=some o->b∈frs l->∃sl,s3.heap.get? b=some {o with slots:=sl}) (free:∀b o,s.heap.get? b=some o->H b=none->H' b=none)
 (tups:∀b xs,H b=some (.tup xs)->H' b=some (.tup xs)) (frzs:∀b o u,H b=some (.frz o u)->H' b=some (.frz o u)) (tbls:∀b ps,H b=some (.tbl ps)->∃more,H' b=some (.tbl (ps++more))):Flt P w l H H' s s3 e C d a0 fl:=by
 have st:=F.st;refine⟨ho,hb,⟨λb o q n nf _=>st b o (kU b o q n nf),λb o q n mf _=>slot b o q mf,λb o q n _=>free b o q n,λb o q _=>?_,tups,frzs,tbls⟩,λa o q=>?_,B,F,kU,λb o n q=>?_,kA⟩
 ·by_cases mf:b∈frs l
  ·obtain⟨sl,h2⟩:=slot b o q mf;exact⟨_,h2⟩
  ·obtain⟨o',h1⟩:=kA b o q mf;exact⟨o',st b o' h1⟩
 ·refine(hok a o q).stay (λb u hb hu=>?_) (λ_ z=>z) λ_ _ z=>z
  refine st b u (kT b u ?_ hu);rcases hb with rfl|hb
  ·rw [q];simp
  ·rw [hb];simp
 ·cases hq:H' b with
  |none=>exact absurd hq n
  |some u=>
   obtain⟨o',h1⟩:=ze4 (hok b u hq);have h2:=kT b o' n h1;have h3:=st b o' h2;rw [q] at h3;cases h3;exact h2
theorem Inv.stkNf(I:Inv X pins σ H1 s1):∀b∈frs X.stack,∀o,s1.heap.get? b=some o->∀vs,o.data≠ .fields vs:=λb mf o q vs=>by obtain⟨_,o',q',nf⟩:=I.stack.mem mf;rw [q] at q';cases q';exact nf vs
theorem zbp{h':Heap}{args:List Value}(I:Inv X pins σ H1 s1)(hst:X.stack=X.env::X.outer)(hfr:X.env.frame=some X.env.locals)(hx:Heap.MadeExcOf s1.heap h' e C args)
 (k:∀s3 a0,Flt X.prog X.w X.stack H1 H1 s1 s3 e C none a0 (rawInt X.env.locals)->Q () s3):wpAny (model X.prog X.w) X.A (noteFrame (.ref e) X.env) Q E {s1 with heap:=h'}:=by
 have hA:X.A.frames=some (X.env::X.outer):=by rw [<-hst];exact I.ok.frames
 have hin:∀env∈X.stack,∀a,env.frame=some a->a∈frs X.stack:=λenv he a ha=>Yi.mpr ⟨env,he,ha⟩
 have hl:=funFrames_hide I.stack hin;obtain⟨t,he,htn,ht⟩:=hx.there;have toB:∀b o,s1.heap.get? b=some o->b∉frs X.stack->(hideAll s1.heap (frs X.stack)).get? b=some o:=λb o q n=>hideAll_get _ q n
 have nB:(hideAll s1.heap (frs X.stack)).get? e=none:=by
  cases q:(hideAll s1.heap (frs X.stack)).get? e with
  |none=>rfl
  |some o=>have:=of_hideAll _ q;rw [hx.new] at this;cases this
 have sB:(hideAll s1.heap (frs X.stack)).StaysIn h':=λb o q=>hx.keeps b o (of_hideAll _ q)
 have hl2:h'.FunFrames (hideAll s1.heap (frs X.stack)) X.stack:=hl.of_keeps λb o hb _=>⟨o,hx.keeps b o hb,rfl⟩
 rw [hst] at hl2;have hl3:h'.FunFrames (hideAll s1.heap (frs X.stack)) (X.env::X.outer):=by rw [hst];exact hl2
 refine zei (s:={s1 with heap:=h'}) (a0:=.ref t) (d:=none) hA hl3 hfr he sB nB λh3 F up=>k _ (.ref t) ?_
 rw [<-hst] at F;refine zet (hm:=s1.heap) (s:=s1) (s3:={s1 with heap:=h3}) rfl I.bare F (λb o q n nf=>toB b o q nf) (λb o n q=>toB b o q λz=>n (I.stkFree b z)) (λb o q nf=>⟨o,toB b o q nf⟩) I.hok (λb o q mf=>?_) (λ_ _ _ n=>n) (λ_ _ q=>q) (λ_ _ _ q=>q) (λ_ _ q=>⟨#[],by rw [Array.append_empty];exact q⟩);exact up b o (hx.keeps b o q) (Inv.stkNf I b mf o q)
theorem zdg{fr:Option Addr}(I:Inv X pins σ H1 s1)(hst:X.stack=X.env::X.outer)(hfr:X.env.frame=some X.env.locals)(F:Flt X.prog X.w X.stack H1 H2 s1 s2 e C d a0 (flv fr))
 (k:∀s3,Flt X.prog X.w X.stack H1 H2 s1 s3 e C d a0 (rawInt X.env.locals)->Q () s3):wpAny (model X.prog X.w) X.A (noteFrame (.ref e) X.env) Q E s2:=by
 have hA:X.A.frames=some (X.env::X.outer):=by rw [<-hst];exact I.ok.frames
 by_cases hfl:fr=some X.env.locals
 ·subst hfl;obtain⟨ho,hb,un,hok,B,G,kU,kT,kA⟩:=id F;exact zfj hfr G (k _ F)
 obtain⟨ho,hb,un,hok,B,G,kU,kT,kA⟩:=id F;rw [hst] at G;refine zgh (zkL hfl) hA hfr G λh3 G3 up=>k _ ?_
 rw [<-hst] at G3 G;have no:∀b:Addr,b∉([]:List Addr):=λb=>by simp
 refine zet (hm:=s2.heap) (s3:={s2 with heap:=h3}) ho hb G3 kU kT kA hok (λb o q mf=>?_) (λb o q n=>un.free b o q n (no b)) un.tups un.frzs un.tbls;obtain⟨sl,q2⟩:=un.slot b o q (I.stkFree b mf) mf (no b);obtain⟨sl2,q3⟩:=up b _ q2 (Inv.stkNf I b mf o q);exact⟨sl2,q3⟩
theorem zaG{A:Around}(I:Inv X pins σ H1 s1)(F:Flt X.prog X.w X.stack H1 H2 s1 s2 e C d a0 fl)
 (k:∀s3,Flt X.prog X.w X.stack H1 H2 s1 s3 e C d a0 .none->Q () s3):wpAny (model X.prog X.w) A (setFlight (.ref e) none) Q E s2:=by
 obtain⟨ho,hb,un,hok,B,G,kU,kT,kA⟩:=id F;refine zkb G λh3 G3 up=>k _ ?_
 have no:∀b:Addr,b∉([]:List Addr):=λb=>by simp
 refine zet (hm:=s2.heap) (s3:={s2 with heap:=h3}) ho hb G3 kU kT kA hok (λb o q mf=>?_) (λb o q n=>un.free b o q n (no b)) un.tups un.frzs un.tbls;obtain⟨sl,q2⟩:=un.slot b o q (I.stkFree b mf) mf (no b);obtain⟨sl2,q3⟩:=up b _ q2 (Inv.stkNf I b mf o q);exact⟨sl2,q3⟩
theorem old_ne(I:Inv X pins σ H1 s1){b:Addr}{o:Obj}(q:X.s_0.heap.get? b=some o):b≠X.env.locals:=λz=>by have h1:=lq q;have h2:=I.ok.above;rw [z] at h1;exact absurd h1 (Nat.not_lt.mpr h2)
theorem zfx(I:Inv X pins σ H1 s1){b:Addr}{o:Obj}(q:X.s_0.heap.get? b=some o)(n:b∉frs X.outer):b∉frs X.stack:=λz=>by
 rcases lu.mp (I.stkSub b z) with z|z
 ·exact old_ne I q z
 ·exact n z
theorem Flg.tail{B h:Heap}{env:Env}{l:List Env}(F:Flg B (env::l) e C d a0 fl h):Flg B l e C d a0 fl h:=by obtain⟨a,b,⟨_,_,c⟩,f⟩:=F;exact⟨a,b,c,f⟩
theorem zjd(I:Inv X pins σ H1 s1)(hst:X.stack=X.env::X.outer)(hex:X.ex= [])(F:Flt X.prog X.w X.stack H1 H2 s1 s2 e C d a0 fl):Flt X.prog X.w X.outer X.H_0 H2 X.s_0 s2 e C d a0 fl:=by
 have I2:Inv X pins σ H2 s2:=I.call' (ch:=[]) F.os F.un F.hok F.bare λb z=>absurd z (by simp)
 obtain⟨ho,hb,un,hok,B,G,kU,kT,kA⟩:=F;have ex0:∀b:Addr,b∉X.ex:=λb=>by rw [hex];simp
 rw [hst] at G;refine zet (hm:=s2.heap) (ho.trans I.os) hb G.tail (λb o q n nf=>kU b o (I.base.keep b o q n nf (ex0 b)) (I.base.free b o q n (ex0 b)) (zfx I q nf)) kT (λb o q nf=>?_) hok (λb o q mf=>?_) (λb o q n=>I2.base.free b o q n (ex0 b)) I2.base.tups I2.base.frzs I2.base.tbls
 ·obtain⟨o',h1⟩:=I.base.there b o q (ex0 b);exact kA b o' h1 (zfx I q nf)
 ·exact I2.base.slot b o q (I.ok.frf b mf) mf (ex0 b)
end
end ZX
namespace ZX
open PySem PySem.Spec PySem.Calls PySem.W
open PyProof.Rows hiding St
section
variable {prog:Program} {w:World} {A:Around} {E:Value->Shared->Prop} {s:Shared} {K:Frag} {x D:Addr} {ox:Obj} {odo:Option Obj}
theorem zeO{M:Model}{nv:Value}{Q:Unit->Shared->Prop}(X:K.In s.heap)(I:InstAt s.heap x ox D odo)(hm:mroIn K D (.type "BaseException")=some true)(h:Q () s):
 wpAny M A (checkBuiltinCall "BaseException.__getattribute__" ⟨[.ref x,nv],[]⟩) Q E s:=by
 obtain⟨hh,g,d,t,os⟩:=s;have hk:builtinKind "BaseException.__getattribute__"=some .slot:=by decide+kernel
 have hsp:splitId "BaseException.__getattribute__"=some ("BaseException","__getattribute__"):=by decide+kernel
 have L0:=I.type (M:=M);have L1:=looks_mroIn (M:=M) X hm;have ha:=F.args_bexc_ga (.ref x) nv;simp only [checkBuiltinCall,hk,hsp];refine wpAny_bind ?_;unfold isInstance;repeat lk
 exact h
theorem zeW{tk:Tok}{Q:Fin->Shared->Prop}(X:K.In s.heap)(I:InstAt s.heap x ox D odo)(hm:mroIn K D (.type "object")=some true)
 (hf:findObj K D odo "__class__"=some (.bind (.builtin "getset_descriptor.__get__") (.builtin "object.__class__"))) (h:Q (.done (.ret (.ref D))) s):
 wpAny (model prog w) A (Builtin.«object.__getattribute__» ⟨[.ref x,.str "__class__" tk],[]⟩) Q E s:=by
 obtain⟨hh,g,d,t,os⟩:=s;have L0:=I.type (M:=model prog w);have L1:=looks_find (M:=model prog w) X I hf;unfold Builtin.«object.__getattribute__»;iterate 14 lk
 refine wpAny_bind (L0.at (wpAny_bind (L1.at ?_)));show wpAny _ _ (holding [Value.builtin "object.__class__"] (call (.builtin "getset_descriptor.__get__") [.builtin "object.__class__",.ref x,.ref D])>>=ret) _ _ _;exact wpAny_bind (wpAny_holding (wpAny_call (class_get (s:=⟨hh,g,d,t,os⟩) (ox:=ox) (od:=odo) X I hm (wpAny_pure h))))
theorem zfl{Q:Option Value->Shared->Prop}(X:K.In s.heap)(I:InstAt s.heap x ox D odo)(hga:findIn K (.ref D) "__getattribute__"=some (some (.builtin "BaseException.__getattribute__")))
 (hk:findIn K (.ref D) "__getattr__"=some none) (hmB:mroIn K D (.type "BaseException")=some true) (hm:mroIn K D (.type "object")=some true)
 (hf:findObj K D odo "__class__"=some (.bind (.builtin "getset_descriptor.__get__") (.builtin "object.__class__"))) (h:Q (some (.ref D)) {s with toks:=s.toks+1}):
 wpAny (model prog w) A (getAttr? (.ref x) "__class__") Q E s:=by
 obtain⟨hh,g,d,t,os⟩:=s;have L0:=I.type (M:=model prog w);have L1:=looks_findIn (M:=model prog w) X hga;have L2:=looks_findIn (M:=model prog w) X hk;unfold getAttr? getAttrBy? getAttrBy;refine wpAny_bind (wpAny_mkText (wpAny_bind (wpAny_attempt (wpAny_holding (wpAny_bind (L0.at (wpAny_bind (L1.at ?_))))))));have hx2:(Value.builtin "BaseException.__getattribute__"==Value.builtin "object.__getattribute__")=false:=by decide+kernel
 show wpAny _ _ (if (onTheHeap (Value.ref D)&&Value.builtin "BaseException.__getattribute__"==Value.builtin "object.__getattribute__")=true then _ else _) _ _ _;rw [hx2,Lk,if_neg lE];unfold getAttrByItsOwn hookBefore;refine wpAny_bind ?_;show wpAny _ _ (typeLookup (.ref D) "__getattr__") _ _ _;refine L2.at ?_;refine wpAny_bind (wpAny_attempt (wpAny_holding ?_));show wpAny _ _ (boundAndCalled (.builtin "BaseException.__getattribute__") (.ref x) _) _ _ _;unfold boundAndCalled;rw [Yo.ga.bind (.ref x)];refine wpAny_bind (wpAny_pure (wpAny_call (codeAny_call_builtin Yo.ga.plain F.entry_bexc_ga (zeO (s:=⟨hh,g,d,t+1,os⟩) X I hmB (zeW (s:=⟨hh,g,d,t+1,os⟩) X I hm hf ?_)))));exact wpAny_pure (wpAny_pure h)
structure KX (K:Frag) (D:Addr):Prop where
 hga:findIn K (.ref D) "__getattribute__"=some (some (.builtin "BaseException.__getattribute__"))
 hk:findIn K (.ref D) "__getattr__"=some none
 hmB:mroIn K D (.type "BaseException")=some true
 hm:mroIn K D (.type "object")=some true
 hc:(clsIn K D).isSome=true
 ha:findIn K (.ref D) "__class__"=some (some (.builtin "object.__class__"))
 hn:specialIn K (.builtin "object.__class__") "__get__"=some (some (.builtin "getset_descriptor.__get__"))
 ht:takesIn K (.builtin "object.__class__")=some true
theorem KX.find(Z:KX K D):findObj K D odo "__class__"=some (.bind (.builtin "getset_descriptor.__get__") (.builtin "object.__class__")):=by obtain⟨cd,e⟩:=Lg.mp Z.hc;unfold findObj;rw [e,yK,Z.ha,yK];simp [Z.hn,Z.ht]
theorem zgF(Z:KX K D)(no:notCls ox=true)(hcl:ox.cls= .ref D)(hd:ox.dict=none):KitX K (.ref x) (.ref D) (λh=>h.get? x=some ox) where
 ty:=λM h X p=>(InstAt.mk (od:=none) p hcl no (by rw [hd];trivial)).type
 it:=λ_ _ X _=>by
  obtain⟨cd,hc⟩:=Lg.mp Z.hc;unfold clsIn at hc;split at hc
  ·rename_i ho;intro A' Q' E' s' k q;unfold isType loadHead;exact wpAny_bind (wpAny_loadPart (k _ _ (X _ _ ho)) (wpAny_pure q))
  ·cases hc
 ne:=λh tp dd its n sl X htp=>by
  obtain⟨cd,hc⟩:=Lg.mp Z.hc;refine yE.mpr λq=>?_
  obtain rfl:D=tp:=Value.ref.inj (beq_iff_eq.mp q);unfold clsIn at hc;split at hc
  ·rename_i ho;have z:=(X _ _ ho).symm.trans htp;cases z
  ·cases hc
 ca:=λX p k=>zfl X (InstAt.mk (od:=none) p hcl no (by rw [hd];trivial)) Z.hga Z.hk Z.hmB Z.hm Z.find k
end
end ZX
namespace ZX
open PySem PySem.Spec PySem.W L2
open PyProof.Rows hiding St
def XF(o:Obj):HO:=.frz o (.own 0)
def J1(A:Around)(H:Hp):Prop:=A.handled=none\/∃e C d a0 tb,A.handled=some (.ref e)/\H e=some (XF (exO C d a0 tb))
def znt(A:Around)(h:Heap):Prop:=A.handled=none\/∃e C d a0 tb,A.handled=some (.ref e)/\h.get? e=some (exO C d a0 tb)
theorem J1.heap{P:Program}{w:World}{A:Around}{H:Hp}{h:Heap}(x:J1 A H)(k:HOk P w H h):znt A h:=by
 rcases x with x|⟨e,C,d,a0,tb,x,y⟩
 ·exact .inl x
 ·exact .inr ⟨e,C,d,a0,tb,x,(k e _ y).1⟩
theorem J1.inv{X:Cx}{pins:List (Addr×Obj)}{σ:List (Option V)}{H:Hp}{s:Shared}{A:Around}(x:J1 A X.H_0)(I:Inv X pins σ H s):J1 A H:=by
 rcases x with x|⟨e,C,d,a0,tb,x,y⟩
 ·exact .inl x
 ·exact .inr ⟨e,C,d,a0,tb,x,I.base.frzs e _ _ y⟩
section
variable {prog:Program} {w:World} {A:Around} {E:Value->Shared->Prop} {s:Shared}
theorem VW:entryFor table "proto.unchain"=some Builtin.«proto.unchain»:=entryFor_of_tree (by kernel_rfl)
theorem zhz{α:Type}{a:Addr}{oe:Obj}{vs:Array Value}{Q:α->Shared->Prop}(hh:znt A s.heap)(he:s.heap.get? a=some oe)(hd:oe.data= .fields vs)(hsz:2<vs.size)(new:∀e,A.handled=some (.ref e)->e≠a)
 (k:∀h',(∀b o,b≠a->s.heap.get? b=some o->h'.get? b=some o)->(∃o',h'.get? a=some o'/\o'.cls=oe.cls)->E (.ref a) {s with heap:=h'}):wpAny (model prog w) A (raiseNew (.ref a):Sem α) Q E s:=by
 unfold raiseNew;refine wpAny_bind (wpAny_handled ?_);rcases hh with hh|⟨e,C,d,a0,tb,hh,hx⟩
 ·rw [hh];exact wpAny_bind (wpAny_pure (wpAny_throw (k s.heap (λ_ _ _ q=>q) ⟨oe,he,rfl⟩)))
 ·rw [hh];have ne:=new e hh;dsimp only;rw [if_pos (show(Value.ref e !=Value.ref a)=true by simp [bne_iff_ne];exact ne)];refine wpAny_bind (wpAny_holding (wpAny_runValue (codeAny_builtin VW ?_)));unfold Builtin.«proto.unchain»;refine wpAny_bind (wpAny_field hx rfl (x:=.none) rfl ?_);rw [if_pos (by decide)];refine wpAny_pure ?_;show wpAny _ _ (updateField a 2 (.ref e)>>=_) _ _ s;refine wpAny_bind ?_;unfold updateField;refine wpAny_bind (wpAny_load he ?_);rw [hd];dsimp only;rw [if_pos hsz];refine wpAny_update he (wpAny_throw (k _ (λb o n q=>(ye _ _ (yY n)).trans q) ⟨_,yg _ he (y8 (yV hd _)),Obj.cls_mapFields _ _⟩))
theorem zed{it:Addr}{x left step:Int}{Q:Option Value->Shared->Prop}(hh:znt A s.heap)(hit:IsRangeIter s.heap it x left step)(hleft:left<=0)
 (hQ:∀h',Heap.ExtBut it s.heap h'->Q none {s with heap:=h'}):wpAny (model prog w) A (pyNext (.ref it)) Q E s:=by
 have hT:s.TypeIs (.ref it) "range_iterator":=⟨_,hit,rfl⟩;unfold pyNext;refine wpAny_bind (wpAny_attempt (wpAny_callSpecial?_slot (name:=Str.ofString "__next__") hT L5 (wpAny_call_entry L5 hT F.entry_range_iterator_next ?_ (F.args_range_iterator_next_1 _))));show wpAny _ _ (field (.ref it) 0>>=_) _ _ s;refine wpAny_bind (wpAny_field hit rfl (x:=rawInt x) rfl ?_);show wpAny _ _ (field (.ref it) 1>>=_) _ _ s;refine wpAny_bind (wpAny_field hit rfl (x:=rawInt left) rfl ?_);show wpAny _ _ (field (.ref it) 2>>=_) _ _ s;refine wpAny_bind (wpAny_field hit rfl (x:=rawInt step) rfl ?_);show wpAny _ _ (if left<=0 then _ else _) _ _ s;rw [if_pos hleft];refine wpAny_bind (wpAny_rule (wpAny_bind ?_));show wpAny _ _ (newExc (.type "StopIteration") []>>=_) _ _ _;refine wpAny_bind ?_;simp only [newExc,newTuple];refine wpAny_bind (wpAny_newObj_type ?_ (by size_fits));refine wpAny_bind (m:=firstArgMember _ _) (wpAny_of_eq (a:=Value.none) (by first|rfl|(simp only [firstArgMember];rfl)) (wpAny_newObj_type ?_ (by size_fits)));refine zhz (oe:=_) (vs:=_) ?_ (lz _ rfl) rfl (by simp only [Array.size_append];exact lM (by decide:2<6) (Ll _ _)) ?_ λh' kk ho=>?_
 ·rcases hh with hh|⟨e,C,d,a0,tb,hh,hx⟩
  ·exact .inl hh
  ·exact .inr ⟨e,C,d,a0,tb,hh,lj _ (lj _ hx)⟩
 ·intro e he;rcases hh with hh|⟨e',C,d,a0,tb,hh,hx⟩
  ·have he:A.handled=some (.ref e):=he;rw [hh] at he;cases he
  ·have he:A.handled=some (.ref e):=he;rw [hh] at he;cases he;have this:=lq hx;intro z;rw [z] at this;exact absurd this (Nat.not_lt.mpr (lQ (Lm _) (yU (lT ..).symm)))
 ·obtain⟨o',h1,h2⟩:=ho;refine wpAny_bind (wpAny_isInstance (T:="StopIteration") (b:=true) ⟨o',h1,h2⟩ isSubtype_stop (wpAny_pure (hQ _ λb o n q=>kk b o ?_ (lj _ (lj _ q)))));have this:=lq q;intro z;rw [z] at this;exact absurd this (Nat.not_lt.mpr (lQ (Lm _) (yU (lT ..).symm)))
end
structure TurnH (P:Program) (w:World) (K:PySem.W.Frag) (tg:Expr) (J:It) (fp:List Addr) (it:Addr) (tn:Nat->Heap->Prop):Prop where
 mem:it∈fp
 obj:∀i h,tn i h->∀b∈fp,∃o,h.get? b=some o/\∀v,o.data≠ .cell v
 keep:∀i h h',tn i h->(∀b∈fp,∀o,h.get? b=some o->h'.get? b=some o)->tn i h'
 item:∀(X:Cx),X.prog=P->X.w=w->X.K=K->∀(i:Nat) (pins:List (Addr×Obj)) (s:Shared) (σ:St) (H:Hp) (E:Value->Shared->Prop),Inv X pins σ H s->J1 X.A H->(∀b∈fp,KA X pins H b)->tn i s.heap->J.go i H->
  wpAny (model P w) X.A (pyNext (.ref it)) (λr s1=>∃u,r=some u/\
   wpAny (model P w) X.A (letOwnedTupleGo tg (.ref it) u) (λ_ s2=>∃x H',Inv X pins σ H' s2/\RelV x u/\J.yld i H x H'/\tn (i+1) s2.heap/\∀b∈fp,H' b=none) E s1) E s
 done:∀(X:Cx),X.prog=P->X.w=w->X.K=K->∀(i:Nat) (pins:List (Addr×Obj)) (s:Shared) (σ:St) (H:Hp) (E:Value->Shared->Prop),Inv X pins σ H s->J1 X.A H->(∀b∈fp,KA X pins H b)->tn i s.heap->J.stop i H->
  wpAny (model P w) X.A (pyNext (.ref it)) (λr s1=>r=none/\Inv X pins σ H s1) E s
 self:∀(A:Around) (i:Nat) (s:Shared) (Q:Value->Shared->Prop) (E:Value->Shared->Prop),tn i s.heap->Q (.ref it) s->wpAny (model P w) A (pyIter (.ref it)) Q E s
def zm2(X:Cx)(pins:List (Addr×Obj))(σ:St)(tg:Expr)(R:It->Hp->Prop)(itv:Value)(s2:Shared):Prop:=
 ∃(it:Addr) (fp:List Addr) (tn:Nat->Heap->Prop) (J:It) (H':Hp),itv= .ref it/\Inv X pins σ H' s2/\TurnH X.prog X.w X.K tg J fp it tn/\tn 0 s2.heap/\(∀b∈fp,KA X pins H' b)/\R J H'
def PIH(X:Cx)(tg iter:Expr)(wi:TI):Prop:=
 ∀(pins:List (Addr×Obj)) (s:Shared) (σ:St) (H:Hp) (R:It->Hp->Prop),Inv X pins σ H s->wi σ H R->
  wpAny (model X.prog X.w) X.A (eval iter X.env) (λv s1=>wpAny (model X.prog X.w) X.A (pyIter v) (zm2 X pins σ tg R) X.xe s1) X.xe s
section
variable {X:Cx} {tg:Expr}
theorem zb4{P:Program}{w:World}{K:PySem.W.Frag}{tg:Expr}(it:Addr)(lo:Int)(n:Nat):TurnH P w K tg (Itr lo n) [it] it (λi h=>IsRangeIter h it (lo+(i:Nat)*1) ((n:Int)-(i:Nat)) 1) where
 mem:=by simp
 obj:=λi h st b hb=>by
  have e:b=it:=by simpa using hb
  subst e;exact⟨_,st,λv z=>by have z':Data.fields _=Data.cell v:=z;cases z'⟩
 keep:=λi h h' st k=>k it (by simp) _ st
 item:=by
  intro X hP hw hK i pins s σ H E I hc hf st hg;subst hP hw hK;obtain⟨f0,f1,f2,f3,f4,f5⟩:=hf it (by simp);have hg':i<n:=hg;refine wpAny_pyNext_range_item st (by omega) λh' st0 sb=>?_
  have st':IsRangeIter h' it (lo+((i+1:Nat):Int)*1) ((n:Int)-((i+1:Nat):Int)) 1:=by
   have e1:lo+((i+1:Nat):Int)*1=lo+(i:Int)*1+1:=by omega
   have e2:(n:Int)-((i+1:Nat):Int)=(n:Int)-(i:Int)-1:=by omega
   rw [e1,e2];exact st0
  have I1:Inv X pins σ H {s with heap:=h',toks:=s.toks+1}:=I.turned (λb o hb e=>(sb.2 b hb).trans e) f0 f1 f3 f4 f5;refine⟨_,rfl,zgg (s:={s with heap:=h',toks:=s.toks+1}) (n:="range_iterator") st' rfl rfl (by decide) ⟨.int (lo+i),H,I1,⟨s.toks,?_⟩,⟨rfl,rfl⟩,st',λb hb=>(hf b hb).1⟩⟩;rw [Int.mul_one]
 done:=by intro X hP hw hK i pins s σ H E I hc hf st hg;subst hP hw hK;obtain⟨f0,f1,f2,f3,f4,f5⟩:=hf it (by simp);exact zed (hc.heap I.hok) st (by have:n<=i:=hg;omega) λh' eb=>⟨rfl,I.turned (t':=s.toks) (λb o hb e=>eb b o hb e) f0 f1 f3 f4 f5⟩
 self:=λ_ _ _ _ _ st h=>wpAny_pyIter_rangeiter st h
theorem zgC{pins:List (Addr×Obj)}{σ:St}{H:Hp}{s:Shared}{R:It->Hp->Prop}{E:Value->Shared->Prop}{lo hi:Int}{t u v:Tok}{tk:Nat}(I:Inv X pins σ H s)(h1: -(2^62)<=lo)(h2:lo<2^62)(h3: -(2^62)<=hi)(h4:hi<2^62)
 (q:R (Itr lo (hi-lo).toNat) H):wpAny (model X.prog X.w) X.A (pyIter (.ref s.heap.objs.size)) (zm2 X pins σ tg R) E {s with heap:=s.heap.push {cls:=.type "range",data:=.fields #[.int lo t,.int hi u,.int 1 v]},toks:=tk}:=by
 refine wpAny_pyIter_range (IsRange.new ..) (small_one h1 h2 h3 h4) ?_;have I1:Inv X pins σ H {s with heap:=s.heap.push {cls:=.type "range",data:=.fields #[.int lo t,.int hi u,.int 1 v]},toks:=tk}:=I.kept λb o e=>lj _ e
 refine⟨(s.heap.push {cls:=.type "range",data:=.fields #[.int lo t,.int hi u,.int 1 v]}).objs.size,[(s.heap.push {cls:=.type "range",data:=.fields #[.int lo t,.int hi u,.int 1 v]}).objs.size],_,_,H,rfl,
  I1.kept (t':=tk) λb o e=>lj _ e,zb4 _ lo (hi-lo).toNat,?_,λb hb=>?_,q⟩
 ·have e1:lo+((0:Nat):Int)*1=lo:=by simp
  have e2:(((hi-lo).toNat:Nat):Int)-((0:Nat):Int)=Builtin.Range.rangeSize lo hi 1:=by rw [rangeSize_one];split <;> omega
  show IsRangeIter _ _ (lo+((0:Nat):Int)*1) ((((hi-lo).toNat:Nat):Int)-((0:Nat):Int)) 1;rw [e1,e2];exact lz _ rfl
 ·have e:b=(s.heap.push {cls:=.type "range",data:=.fields #[.int lo t,.int hi u,.int 1 v]}).objs.size:=by simpa using hb
  subst e;exact I1.fpOk (lD _) (I1.hok.fresh (lD _))
theorem zd8{a:Expr}{ta:TA}{p pos:Pos}(hg:Gl X "range")(hm:X.mg "range"=none)(ha:PA X [a] ta)(hs:starEach [a] X.env= [(false,eval a X.env)]:=by rfl):PIH X tg (.Call (.Name "range" p) [a] [] pos) (zmk ta):=by
 intro pins s σ H R I h;refine Call_ (VS I hg hm boot_range (y6 (thn (ha pos pins s σ H _ I h) λus s1 ⟨vs,H1,I1,r1,q1⟩=>?_) hs rfl));obtain⟨j,e,q1,q2,q⟩:=q1;subst e;cases r1 with
 |cons r rr=>
  cases rr;obtain⟨t,rfl⟩:=r;exact call_range_1 (zgC I1 (by omega) (by omega) q1 q2 (by simpa using q))
theorem zhL{pins:List (Addr×Obj)}{s:Shared}{σ:St}{H:Hp}{Q:VK}{elt tg iter:Expr}{ifs:List Expr}{scope:Scope}{own:List (Str×Nat)}{pos pos':Pos}{wi:TI}{g:TG}{tt:TT}{te:TE}{use:Option (Value->Sem Unit)}{Qf:Value->Shared->Prop}
 (hc:J1 X.A X.H_0) (hN:X.N.Nodup) (I:Inv X pins σ H s) (hi:PIH X tg iter wi) (ok:BlkOk X.N X.env.scope scope own)
 (hg:∀(s:Shared) (H:Hp) (C:Addr) (cl:List (Str×Addr)) (fp:List Addr),PG (X.blk s H scope (compEnvC scope cl C X.env) fp) tg g) (ht:∀(s:Shared) (H:Hp) (C:Addr) (cl:List (Str×Addr)) (fp:List Addr),PTs (X.blk s H scope (compEnvC scope cl C X.env) fp) ifs tt)
 (he:∀(s:Shared) (H:Hp) (C:Addr) (cl:List (Str×Addr)) (fp:List Addr),PE (X.blk s H scope (compEnvC scope cl C X.env) fp) elt te) (hs:∀x,foldedSetIterable iter X.env x=pure x)
 (h:tLc wi g tt te (own.map (·.2)) σ H Q)
 (hRR:∀D C s' m H',Inv X pins σ H' s'->Q (.ref D) H'->s'.heap.Ns C m->KA X pins H' C->compPost (model X.prog X.w) X.A X.xe use Qf (.ref D) C (.ok .next) s'):
 wpAny (model X.prog X.w) X.A (comprehension (.ListComp elt [⟨tg,iter,ifs,0⟩] scope pos) scope X.env pos' (newList []) false (eval iter X.env) use) Qf X.xe s:=by
 have hfree:∀y∈scope.names,y.2= .free->∃c,X.env.cells.lookup y.1=some c:=λy hy e=>by
  rcases ok.free y hy e with k|k
  ·exact I.ok.has _ (.inl k)
  ·exact I.ok.has _ (.inr k)
 refine wpAny_comprehension_free (use:=use) rfl hs (Jj hfree) ok.kind (λy hy e=>by rw [ok.uniq y hy,e])
  (thn (hi pins s σ H _ I h) λxv s1 hx=>thn hx λitv s2 h2=>?_)
 obtain⟨it,fp,tn,J,H2,e,I2,T,st2,f2,q⟩:=h2;subst e;refine wpAny_newObj_type (Xo ?_) (by show 0<=sizeLine;decide);generalize hD:s2.heap.objs.size=D;have hDn:H2 D=none:=I2.hok.fresh (yU hD);obtain⟨W,⟨m0,w0⟩,turn⟩:=q D hDn;generalize hs3:({s2 with heap:=s2.heap.push {cls:=.type "list",data:=.seq ([]:List Value).toArray}}:Shared)=s3;have I3:Inv X pins σ (upd H2 D (.lst [])) s3:=by rw [<-hs3];refine I2.laid (t':=s2.toks) (λb o e=>lj _ e) (yU hD) ⟨yx _,[],0,.nil,?_⟩;rw [<-hD];exact lz _ rfl
 have h3:s3.heap=s2.heap.push {cls:=.type "list",data:=.seq ([]:List Value).toArray}:=by rw [<-hs3]
 have sz:∀b∈fp,b<s2.heap.objs.size:=λb hb=>by obtain⟨o,e,_⟩:=T.obj _ _ st2 b hb;exact lq e
 have f3:∀b∈fp,KA X pins (upd H2 D (.lst [])) b/\b<s3.heap.objs.size:=λb hb=>by have hlt:=sz b hb;refine⟨⟨?_,(f2 b hb).2⟩,by rw [h3,lT];exact yM hlt⟩;rw [zJ (by rw [<-hD];exact lY hlt)];exact(f2 b hb).1
 have st3:tn 0 s3.heap:=T.keep _ _ _ st2 λb _ o e=>by rw [h3];exact lj _ e
 have I4:=Xl I3 ok hN f3;have pg:=hg s3 (upd H2 D (.lst [])) s3.heap.objs.size (cellsFrom (s3.heap.objs.size+1) scope.names (qE X.env.cells scope.names [])) fp;have pt:=ht s3 (upd H2 D (.lst [])) s3.heap.objs.size (cellsFrom (s3.heap.objs.size+1) scope.names (qE X.env.cells scope.names [])) fp;have pe:=he s3 (upd H2 D (.lst [])) s3.heap.objs.size (cellsFrom (s3.heap.objs.size+1) scope.names (qE X.env.cells scope.names [])) fp;show codeAny _ _ (.compStart (.ListComp elt [⟨tg,iter,ifs,0⟩] scope pos) 0 (.ref it) (.ref D) (compEnvC scope (cellsFrom (s3.heap.objs.size+1) scope.names (qE X.env.cells scope.names [])) s3.heap.objs.size X.env)) (compPost (model X.prog X.w) X.A X.xe use Qf (.ref D) s3.heap.objs.size) {s3 with heap:=pushCells (s3.heap.push {cls:=.type "dict",data:=.dict #[]}) scope.names};have nfp:∀b∈fp,(upd H2 D (.lst [])) b=none:=λb hb=>(f3 b hb).1.1
 generalize hce:compEnvC scope (cellsFrom (s3.heap.objs.size+1) scope.names (qE X.env.cells scope.names [])) s3.heap.objs.size X.env=ce at I4 pg pt pe⊢;have cL:ce.locals=s3.heap.objs.size:=by subst hce;rfl
 generalize hH3:upd H2 D (.lst [])=H3 at I3 I4 pg pt pe w0 nfp f3;generalize hs4:({s3 with heap:=pushCells (s3.heap.push {cls:=.type "dict",data:=.dict #[]}) scope.names}:Shared)=s4 at I4⊢;have st4:tn 0 s4.heap:=T.keep _ _ _ st3 λb _ o e=>by rw [<-hs4];exact pushCells_keeps _ _ _ _ (lj _ e)
 have stat:∀{σ':St} {H':Hp} {s':Shared},Inv (X.blk s3 H3 scope ce fp) [] σ' H' s'->(∀b∈fp,H' b=none)->∀b∈fp,KA (X.blk s3 H3 scope ce fp) [] H' b:=λ{σ' H' s'} I' hn b hb=>
  ⟨hn b hb,(I'.ok.exf b hb).1,I'.ok.exfs b hb,.inl hb,λx c e=>(I'.ok.exf b hb).2 x c e,λp hp=>absurd (show p∈([]:List (Addr×Obj))++ [] from hp) (by simp)⟩
 have hcb:∀{σ':St} {H':Hp} {s':Shared} {pp:List (Addr×Obj)},Inv (X.blk s3 H3 scope ce fp) pp σ' H' s'->J1 X.A H':=λI'=>(hc.inv I3).inv (X:=X.blk s3 H3 scope ce fp) I'
 have loop:codeAny (model X.prog X.w) X.A (.compLoop (.ListComp elt [⟨tg,iter,ifs,0⟩] scope pos) 0 (.ref it) (.ref D) ce) (compPost (model X.prog X.w) X.A X.xe use Qf (.ref D) s3.heap.objs.size) s4:=by
  refine QJ (λn s'=>∃i H',Inv (X.blk s3 H3 scope ce fp) [] (wipe σ (own.map (·.2))) H' s'/\tn i s'.heap/\(∀b∈fp,H' b=none)/\W i n H') ?_ m0 ⟨0,H3,I4,st4,nfp,w0⟩;rintro n s5 ⟨i,H5,I5,st5,n5,w5⟩;rcases turn i n H5 w5 with⟨stop,qq⟩|⟨go,Nx,hNx,step⟩
  ·have td:=T.done (X.blk s3 H3 scope ce fp) rfl rfl rfl i [] s5 _ H5 (λ_ _=>False) I5 (hcb I5) (stat I5 n5) st5 stop;refine za1 td λr s6 ⟨hr,I6⟩=>?_
   subst hr;have I7:Inv X pins σ H5 s6:=I3.call' (ch:=fp) I6.os I6.base I6.hok I6.bare λb hb=>⟨(f3 b hb).1.2.2.2.1,(f3 b hb).1.2.1,(f3 b hb).1.2.2.2.2.1,(f3 b hb).1.2.2.2.2.2⟩
   have nC:H5 s3.heap.objs.size=none:=by have z:H5 ce.locals=none:=I6.free;rw [cL] at z;exact z
   obtain⟨m,hn,_⟩:=I6.loc;have hn:s6.heap.Ns ce.locals m:=hn;rw [cL] at hn;exact hRR D s3.heap.objs.size s6 m H5 I7 qq hn (I3.fpOk (lD _) nC)
  ·have ti:=T.item (X.blk s3 H3 scope ce fp) rfl rfl rfl i [] s5 _ H5 (λ_ _=>False) I5 (hcb I5) (stat I5 n5) st5 go;refine za1 ti λr s6 ⟨u,hr,h6⟩=>?_
   subst hr;refine za1 h6 λ_ s7 ⟨x,H7,I7,r7,y7,st7,n7⟩=>?_
   have I7':=I7.pinned (stat I7 n7) (T.obj _ _ st7);refine za1 (pg _ s7 _ H7 x u _ I7' r7 (step x H7 y7)) λ_ s8 ⟨σ8,H8,I8,hw8,q8⟩=>?_
   refine za1 (pt _ s8 σ8 H8 _ I8 q8) λb s9 ⟨H9,I9,q9⟩=>?_
   have fin:∀{s':Shared} {H':Hp},Inv (X.blk s3 H3 scope ce fp) ([]++K9 fp s7.heap) σ8 H' s'->Nx H'->∃m,m<n/\∃i H',Inv (X.blk s3 H3 scope ce fp) [] (wipe σ (own.map (·.2))) H' s'/\tn i s'.heap/\(∀b∈fp,H' b=none)/\W i m H':=λ{s' H'} I' nx=>by
    obtain⟨m',hm,w'⟩:=hNx H' nx;have pin':∀b∈fp,∀o,s7.heap.get? b=some o->s'.heap.get? b=some o/\H' b=none:=λb hb o e=>
     let z:=I'.pin (b,o) (lX _ (lX _ (ZV hb e)))
     ⟨z.1,z.2.1⟩
    have hl:(wipe σ (own.map (·.2))).length=σ8.length:=by rw [<-hw8,jz]
    refine⟨m',hm,i+1,H',(I'.unpinned (pins:=[])).weak hl (λj v e=>?_),T.keep _ _ _ st7 λb hb o e=>(pin' b hb o e).1,λb hb=>?_,w'⟩
    ·rw [<-hw8] at e;exact(QM e).1
    ·obtain⟨o,e,_⟩:=T.obj _ _ st7 b hb;exact(pin' b hb o e).2
   cases b with
   |false=>
    simp only [yz,if_false] at q9⊢;exact fin I9 q9
   |true=>
    simp only [if_true] at q9⊢;refine za1 (pe _ s9 σ8 H9 _ I9 q9) λz s10 ⟨yv,H10,I10,r10,acc,hD10,hz10,nx⟩=>?_
    exact zfP (X:=X.blk s3 H3 scope ce fp) I10 hD10 hz10 r10 λs11 I11=>fin I11 nx
 exact codeAny_compStart_list loop (T.self X.A 0 _ _ _ st4 loop)
theorem zlY{elt tg iter:Expr}{ifs:List Expr}{scope:Scope}{own:List (Str×Nat)}{pos:Pos}{wi:TI}{g:TG}{tt:TT}{te:TE}(hc:J1 X.A X.H_0)(hN:X.N.Nodup)(hi:PIH X tg iter wi)(ok:BlkOk X.N X.env.scope scope own)
 (hg:∀(s:Shared) (H:Hp) (C:Addr) (cl:List (Str×Addr)) (fp:List Addr),PG (X.blk s H scope (compEnvC scope cl C X.env) fp) tg g) (ht:∀(s:Shared) (H:Hp) (C:Addr) (cl:List (Str×Addr)) (fp:List Addr),PTs (X.blk s H scope (compEnvC scope cl C X.env) fp) ifs tt)
 (he:∀(s:Shared) (H:Hp) (C:Addr) (cl:List (Str×Addr)) (fp:List Addr),PE (X.blk s H scope (compEnvC scope cl C X.env) fp) elt te) (hs:∀x,foldedSetIterable iter X.env x=pure x:=by intro _;rfl):
 PE X (.ListComp elt [⟨tg,iter,ifs,0⟩] scope pos) (tLc wi g tt te (own.map (·.2))):=by
 intro pins s σ H Q I h;rw [eval_ListComp];refine zhL hc hN I hi ok hg ht he hs h λD C s' m H' I' q hn f=>⟨m,hn,λh'' sb=>?_⟩
 obtain⟨f0,f1,f2,f3,f4,f5⟩:=f;exact⟨.ref D,H',I'.turned (t':=s'.toks) (λb o hb e=>(sb.2 b hb).trans e) f0 f1 f3 f4 f5,rfl,q⟩
end
def CXr(P:Program)(w:World):CXT:=λouter H s E ev s'=>∃e C a0 H',ev= .ref e/\Flt P w outer H H' s s' e (.ref C) none a0 .none/\E (.ref e) (some C) H'
section
variable {X:Cx} {CX:CXT} {k:Nat} {f:Addr} {fd:FuncData} {ps:List Str} {sp:Sp} {dvs:List V} {ds:List Value} {x:Str} {p pos:Pos} {e:Expr} {es:List Expr} {t:TA}
theorem zg3(F:FnOk X.prog X.w X.K X.mg X.base CX k f fd ps sp)(hr:Room k X.A)(hg:Gl X x)(hm:X.mg x=some (.ref f))(hk:PySem.W.keepIn X.K (.ref f)=true)(hb:Binds X.K fd ps ds)(hd:Vals dvs ds)
 (ha:PA X (e::es) t) (hdb:(x==("__debug__":Str))=false:=by decide) (he:starEach (e::es) X.env=(false,eval e X.env)::starEach es X.env:=by rfl) (hpl:(backTo pos (starEach es X.env)).any (·.1)=false:=by rfl):
 PE X (.Call (.Name x p) (e::es) [] pos) (λσ H Q=>t σ H λvs H1=>∃E,sp (vs++dvs) H1 Q E/\∀pins s ev s',Inv X pins σ H1 s->CX X.stack H1 s E ev s'->X.xe ev s'):=by
 intro pins s σ H Q I h;refine wpAny_Call_Name_kw (Jb I hg hm ?_ hdb);refine Yk (h₀:=X.base) I.ok.mod.kin hk (thn (ha pos pins s σ H _ I h) λus s1 ⟨vs,H1,I1,r,E,q,hx⟩=>⟨I1.kIn,?_⟩) he hpl;have r2:Vals (vs++dvs) (us++ds):=r.append hd;have hl:(us++ds).length=ps.length:=by rw [<-r2.length];exact F.len _ _ _ _ q
 refine wpAny_call (codeAny_mono (F.run X.A X.stack s1 H1 ⟨us,[]⟩ (us++ds) (vs++dvs) Q E hr I1.env0 (hb s1 us I1.kIn hl) r2 q) λr s' hq=>?_);cases r with
 |error ev=>exact hx pins s1 ev s' I1 hq
 |ok fl=>
  cases fl with
  |ret u=>exact I1.after hq
  |next=>exact False.elim hq
  |brk=>exact False.elim hq
  |cont=>exact False.elim hq
def zmB:List Value:=[.type "ValueError",.type "Exception",.type "BaseException",.type "object"]
structure OwnX (K:PySem.W.Frag) (mg:Str->Option Value) (x:Str) (C:Addr):Prop where
 bound:mg x=some (.ref C)
 exc:PySem.W.excIn K C zmB "ValueError.__new__"=true
theorem OwnX.cls{K:PySem.W.Frag}{mg:Str->Option Value}{x:Str}{C:Addr}{h:Heap}(O:OwnX K mg x C)(KX:K.In h):OwnCls x C zmB "ValueError.__new__" mg h:=by
 refine⟨O.bound,?_⟩;have q:=O.exc;unfold PySem.W.excIn at q;split at q
 ·rename_i dd cd sl ho;split at q
  ·rename_i C' bm k0 k1 k2 k3 n k5 hm hs;simp only [lG,beq_iff_eq,yN] at q;obtain⟨⟨⟨⟨⟨rfl,rfl⟩,hdel⟩,ht⟩,hok⟩,hni⟩:=q;obtain⟨nm,bs,mro,ns,qn,hd,sn,sub,ab,col,del⟩:=cd;dsimp only at hm hdel hok hni;subst hm hdel;have hsl:sl= #[k0,k1,k2,k3,some (.builtin "ValueError.__new__"),k5]:=by obtain⟨l⟩:=sl;simp only at hs;rw [hs]
   subst hsl;exact⟨bm,ns,nm,qn,bs,hd,sn,sub,ab,col,dd,k0,k1,k2,k3,k5,_,KX _ _ ho,.of_isNs (PySem.W.isNs_of_in KX hok),PySem.W.nsMap_none_of_in KX hok hni,PySem.W.tail_of_in KX ht⟩
  ·cases q
 ·cases q
theorem zhW{x:Str}{C:Addr}{np cpos pos:Pos}{ta:TA}(hh:X.calm=true)(O:OwnX X.K X.mg x C)(hg:Gl X x)(ha:PA X (e::es) ta)(hdb:(x==("__debug__":Str))=false:=by decide)
 (he:starEach (e::es) X.env=(false,eval e X.env)::starEach es X.env:=by rfl) (hpl:(backTo cpos (starEach es X.env)).any (·.1)=false:=by rfl):
 PS X (.Raise (some (.Call (.Name x np) (e::es) [] cpos)) none pos) (λD σ H=>ta σ H λvs H1=>vs.length<=sizeLine/\∀pins s ev h' args,Inv X pins σ H1 s->Heap.MadeExcOf s.heap h' ev (.ref C) args->X.xe (.ref ev) {s with heap:=h'}):=by
 intro pins s σ H D I h;obtain⟨tl,N,nm,q,bs,hdct,sn,sub,ab,col,dd,k0,k1,k2,k3,k5,mN,hC,hN,hni,T⟩:=(O.cls I.mod.kin).obj;refine wpAny_Raise_call_subU (C:=C) (nm:=nm) (q:=q) (N:=N) (bs:=bs) (bm:=tl) (hdct:=hdct) (sn:=sn) (sub:=sub) (ab:=ab) (col:=col) (dd:=dd) (k0:=k0) (k1:=k1) (k2:=k2) (k3:=k3) (k5:=k5)
  Yp (by decide+kernel) Yp (mN:=mN) (T.hasType (by decide+kernel)) (I.ok.hd hh) (by rw [he];show(false||(backTo cpos (starEach es X.env)).any (·.1))=false;rw [hpl];rfl) hni (Jb I hg O.bound ⟨rfl,?_⟩ hdb)
 have hA:=ha cpos pins s σ H _ I h;rw [he] at hA⊢;exact LA (wpAny_mono hA (λvs s₂ ⟨us,H1,I1,r,hz,k⟩=>⟨rfl,by rw [<-r.length];exact hz,I1.bk _ _ hC,hN.keeps I1.bk,T.keeps I1.bk,λh' ev hm=>k pins s₂ ev h' _ I1 hm⟩) λ_ _ y=>y)
end
structure RoomH (k:Nat) (A:Around):Prop where
 dp:A.depth+3*k+5<recursionLimit
 un:A.units+16*k+200<cLine
theorem RoomH.of{k:Nat}{A:Around}(r:Room k A):RoomH k A:=⟨r.dp,r.un⟩
theorem RoomH.deeper{k:Nat}{A:Around}(r:RoomH (k+1) A)(env:Env):RoomH k (A.deeper env):=⟨by have:=r.dp;show A.depth+1+3*k+5<_;omega,by have:=r.un;show A.units+3+16*k+200<_;omega⟩
theorem RoomH.depth{k:Nat}{A:Around}(r:RoomH k A):A.depth<recursionLimit:=by have:=r.dp;omega
structure FnOkH (P:Program) (w:World) (K:PySem.W.Frag) (mg:Str->Option Value) (base:Heap) (k:Nat) (f:Addr) (fd:FuncData) (ps:List Str) (sp:Sp):Prop where
 len:∀vs H Q E,sp vs H Q E->vs.length=ps.length
 run:∀(A:Around) (outer:List Env) (s:Shared) (H:Hp) (args:Args) (us:List Value) (vs:List V) (Q:VK) (E:XK),RoomH k A->J1 A H->Env0 P w K mg base A outer s H->BindsTo s fd args (ps.zip us)->Vals vs us->sp vs H Q E->codeAny (model P w) A (.call (.ref f) args) (CR CX0 outer P w H s Q E) s
def zeu(P:Program)(w:World)(K:PySem.W.Frag)(mg:Str->Option Value)(base:Heap)(N:List Str)(qual:Str)(scope:Scope)(f:Addr)(cd:Value)(A:Around)(outer:List Env)(s:Shared)(H:Hp)(E:XK):Cx:=
 {zgI CX0 P w K mg base N qual scope f cd A outer s H E with calm:=false,xe:=λ_ _=>False}
def Cx.hx(X:Cx)(A:Around)(E:Value->Shared->Prop):Cx:={X with A:=A,calm:=false,xe:=E}
theorem Inv.hx{X:Cx}{pins:List (Addr×Obj)}{σ:List (Option V)}{H:Hp}{s:Shared}{A:Around}{E:Value->Shared->Prop}(I:Inv X pins σ H s)(hf:A.frames=X.A.frames):Inv (Cx.hx X A E) pins σ H s:=
 ⟨⟨I.ok.mod,I.ok.kind,I.ok.glob,I.ok.blt,I.ok.above,I.ok.inj,I.ok.has,I.ok.cab,λz=>Bool.noConfusion z,hf.trans I.ok.frames,I.ok.stk,I.ok.exf,I.ok.bs,I.ok.bsz,I.ok.noex,I.ok.exfs,I.ok.funs,I.ok.frf⟩,I.os,I.bare,I.base,I.loc,I.cell,I.free,I.freeC,I.pin,I.hok,I.len⟩
theorem Inv.unhx{X:Cx}{pins:List (Addr×Obj)}{σ:List (Option V)}{H:Hp}{s:Shared}{A:Around}{E:Value->Shared->Prop}(I:Inv (Cx.hx X A E) pins σ H s)(ok:X.Ok):Inv X pins σ H s:=
 ⟨ok,I.os,I.bare,I.base,I.loc,I.cell,I.free,I.freeC,I.pin,I.hok,I.len⟩
theorem zea{P:Program}{w:World}{K:PySem.W.Frag}{mg:Str->Option Value}{base:Heap}{N ps:List Str}{qual:Str}{scope:Scope}{f:Addr}{cd:Value}{A:Around}{outer:List Env}{s s1:Shared}{H:Hp}{E:XK}{us:List Value}{vs:List V}
 (S:FnScope N ps scope) (e0:Env0 P w K mg base A outer s H) (hl:vs.length=ps.length) (r:Vals vs us)
 (x:InCallC s s.heap.objs.size (bindL (envOfC qual scope s.heap.objs.size f cd).kindOf (ps.zip us) λ_=>none) (cellsFrom (s.heap.objs.size+1) scope.names []) (bindC (envOfC qual scope s.heap.objs.size f cd).kindOf (ps.zip us) λ_=>none) s1):
 Inv (zeu P w K mg base N qual scope f cd A outer s H E) [] (start N vs) H s1:=by
 have e1:Env0 P w K mg base {A with handled:=none} outer s H:=⟨e0.frames,e0.mod,e0.bs,e0.bsz,e0.funs,e0.frf,e0.hok,e0.bare⟩;have I:=zaO (CX:=CX0) (E:=E) S (A:={A with handled:=none}) rfl e1 hl r x;exact(show Inv (Cx.hx (zgI CX0 P w K mg base N qual scope f cd {A with handled:=none} outer s H E) (A.deeper (envOfC qual scope s.heap.objs.size f cd)) λ_ _=>False) [] (start N vs) H s1 from Inv.hx I rfl)
theorem zln{P:Program}{w:World}{K:PySem.W.Frag}{mg:Str->Option Value}{base:Heap}{k:Nat}{f:Addr}{name qual:Str}{params:Arguments}{body:List Stmt}{scope:Scope}{dV kV doc pm cdv ct oc:Value}{an od:Option Addr}
 {osl:Array (Option Value)} {N ps:List Str} {sp:Sp} (lk:K.lookup f=some ⟨oc,od,.func (PySem.W.fnOf name qual params body scope dV kV doc pm an cdv ct),osl⟩) (hcd:PySem.W.codeIn K cdv qual=true) (S:FnScope N ps scope)
 (len:∀vs H Q E,sp vs H Q E->vs.length=ps.length)
 (hbody:∀(A:Around) (outer:List Env) (s:Shared) (H:Hp) (vs:List V) (Q:VK) (E:XK),RoomH k (A.deeper (envOfC qual scope s.heap.objs.size f cdv))->J1 A H->sp vs H Q E->
   ∃t,PSs (zeu P w K mg base N qual scope f cdv A outer s H E) body t/\t {nx:=λ_ H'=>Q .non H',rt:=Q} (start N vs) H):
 FnOkH P w K mg base (k+1) f (PySem.W.fnOf name qual params body scope dV kV doc pm an cdv ct) ps sp:=by
 refine⟨len,λA outer s H args us vs Q E hr hh e0 hb r hsp=>?_⟩;have hl:=len _ _ _ _ hsp;have KX:K.In s.heap:=e0.mod.kin.keeps λb o e=>(e0.bs b o e).1
 have lim:s.heap.NoLimit:=e0.mod.nolimit.keeps λb o e=>(e0.bs b o e).1
 have hkind:∀y∈ps.zip us,scope.names.lookup y.1=some .local\/(scope.names.lookup y.1=some .cell/\((cellsFrom (s.heap.objs.size+1) scope.names []).lookup y.1).isSome=true):=λ⟨n,v⟩ hy=>by
  rcases S.par n (Yc hy).1 with q|q
  ·exact .inl q
  ·exact .inr ⟨q,LY _ _ _ (.inl q)⟩
 refine codeAny_call_function hr.depth (KX _ _ lk) rfl S.co S.gen rfl (PySem.W.codeRec_of KX hcd) (hb _ _ _ _ ?_);refine wpAny_newFunctionEnv_cells S.kind hkind λenv he s1 x=>?_
 subst he;refine⟨lim.keeps x.toInCall.keep,codeAny_func ?_⟩;obtain⟨t,ht,hq⟩:=hbody A outer s H vs Q E (hr.deeper _) hh hsp;have I:Inv (zeu P w K mg base N qual scope f cdv A outer s H E) [] (start N vs) H s1:=zea S e0 hl r x;refine wpAny_mono (ht [] s1 (start N vs) H _ I hq) (λfl s' hs=>?_) λe s' hs=>hs.elim
 have fin:∀{σ':St} {H':Hp} {v:V} {u:Value},Inv (zeu P w K mg base N qual scope f cdv A outer s H E) [] σ' H' s'->RelV v u->Q v H'->CE outer P w H s Q u s':=
  λ{σ' H' v u} J rv q=>⟨v,H',J.os,J.bare,J.base,J.hok,rv,q⟩
 cases fl with
 |ret u=>
  obtain⟨v,σ',H',J,rv,q⟩:=hs;exact fin J rv q
 |next=>
  obtain⟨σ',H',J,q⟩:=hs;exact fin (v:=V.non) (u:=Value.none) J rfl q
 |brk=>
  obtain⟨_,_,_,q⟩:=hs;exact False.elim q
 |cont=>
  obtain⟨_,_,_,q⟩:=hs;exact False.elim q
theorem zgW{X:Cx}{k:Nat}{f:Addr}{fd:FuncData}{ps:List Str}{sp:Sp}{dvs:List V}{ds:List Value}{x:Str}{p pos:Pos}{e:Expr}{es:List Expr}{t:TA}(F:FnOkH X.prog X.w X.K X.mg X.base k f fd ps sp)(hr:RoomH k X.A)(hg:Gl X x)(hm:X.mg x=some (.ref f))(hk:PySem.W.keepIn X.K (.ref f)=true)(hb:Binds X.K fd ps ds)(hd:Vals dvs ds)
 (ha:PA X (e::es) t) (hdb:(x==("__debug__":Str))=false:=by decide) (he:starEach (e::es) X.env=(false,eval e X.env)::starEach es X.env:=by rfl) (hpl:(backTo pos (starEach es X.env)).any (·.1)=false:=by rfl):
 PE X (.Call (.Name x p) (e::es) [] pos) (λσ H Q=>t σ H λvs H1=>J1 X.A H1/\sp (vs++dvs) H1 Q E0):=by
 intro pins s σ H Q I h;refine wpAny_Call_Name_kw (Jb I hg hm ?_ hdb);refine Yk (h₀:=X.base) I.ok.mod.kin hk (thn (ha pos pins s σ H _ I h) λus s1 ⟨vs,H1,I1,r,hh,q⟩=>⟨I1.kIn,?_⟩) he hpl;have r2:Vals (vs++dvs) (us++ds):=r.append hd;have hl:(us++ds).length=ps.length:=by rw [<-r2.length];exact F.len _ _ _ _ q
 refine wpAny_call (codeAny_mono (F.run X.A X.stack s1 H1 ⟨us,[]⟩ (us++ds) (vs++dvs) Q E0 hr hh I1.env0 (hb s1 us I1.kIn hl) r2 q) λr s' hq=>?_);cases r with
 |error ev=>exact False.elim hq
 |ok fl=>
  cases fl with
  |ret u=>exact I1.after hq
  |next=>exact False.elim hq
  |brk=>exact False.elim hq
  |cont=>exact False.elim hq
section
variable {X:Cx} {pins:List (Addr×Obj)} {σ:List (Option V)} {H H1 H2:Hp} {s s1 s2:Shared} {e:Addr} {C a0 fl:Value} {d:Option Addr}
theorem zkW(I:Inv X pins σ H1 s1)(F:Flt X.prog X.w X.stack H1 H2 s1 s2 e C d a0 fl):∃T,H2 e=none/\Inv X pins σ (upd H2 e (XF (exO C d a0 (.ref T)))) s2:=by
 obtain⟨ho,hb,un,hok,B,G,kU,kT,kA⟩:=F;obtain⟨st,nw,fr,T,oT,ts,he,r⟩:=G;have n:H2 e=none:=by
  cases q:H2 e with
  |none=>rfl
  |some u=>
   have:=kT e _ (by rw [q];simp) he;rw [nw] at this;cases this
 have no:∀b:Addr,b∉([]:List Addr):=λb=>by simp
 have ne1:∀b o,s1.heap.get? b=some o->b≠e:=λb o q z=>by
  subst z;by_cases mf:b∈frs X.stack
  ·obtain⟨sl,q2⟩:=un.slot b o q (I.stkFree b mf) mf (no b);rw [he] at q2;have:=Option.some.inj q2;exact Inv.stkNf I b mf o q _ (congrArg Obj.data this).symm
  ·obtain⟨o',q2⟩:=kA b o q mf;rw [nw] at q2;cases q2
 refine⟨T,n,I.call' (ch:=[]) ho ⟨un.keep,un.slot,λb o q n' _=>?_,un.there,λb xs q=>?_,λb o u q=>?_,λb ps q=>?_⟩ ?_ hb λb z=>absurd z (by simp)⟩
 ·rw [zJ (ne1 b o q)];exact un.free b o q n' (no b)
 ·have:=un.tups b xs q;rw [zJ (λz=>by subst z;rw [n] at this;cases this)];exact this
 ·have:=un.frzs b o u q;rw [zJ (λz=>by subst z;rw [n] at this;cases this)];exact this
 ·obtain⟨more,this⟩:=un.tbls b ps q;exact⟨more,by rw [zJ (λz=>by subst z;rw [n] at this;cases this)];exact this⟩
 ·intro a o q;by_cases ha:a=e
  ·subst ha;rw [xT] at q;cases q;exact⟨he,_,he⟩
  ·rw [zJ ha] at q;refine(hok a o q).stay (λb u hb hu=>hu) (λb z=>?_) λb o' z=>?_
   ·rw [zJ (λy=>by subst y;rw [n] at z;cases z)];exact z
   ·rw [zJ (λy=>by subst y;rw [n] at z;cases z)];exact z
theorem name_goes{M:Model}{A:Around}{E:Value->Shared->Prop}{i:Nat}{n:Str}{pos:Pos}{Q:Unit->Shared->Prop}(I:Inv X pins σ H s)(hN:X.N.Nodup)(hi:X.N[i]? =some n)(hk:X.env.scope.names.lookup n=some .local)
 (h:∀s',Inv X pins (σ.set i none) H s'->Q () s'):wpAny M A (do bindName X.env n .none;unbindBehindTheSuite X.env n pos) Q E s:=by
 have hcls:(X.env.scope.kind== .class||(X.env.scope.kind== .module&&X.env.locals !=X.env.globals))=false:=by rw [I.ok.kind];rfl
 refine wpAny_bind (wpAny_bindName (Kf (v:=.non) I hN hi (.inl hk) rfl (λs1 I1=>?_) (.inr hk)));unfold unbindBehindTheSuite;refine wpAny_onRaise ?_;unfold unbindName;refine wpAny_bind (wpAny_point (wpAny_bind ?_));unfold deleteName;have hkk:X.env.kindOf n=some .local:=hk;simp only [hkk,hcls];rw [if_neg (by decide)];obtain⟨m,hn,hl⟩:=id I1.loc;refine wpAny_bind (wpAny_nsDel_keeps hn λh2 v hn2 hs2=>?_);have hmn:(m n).isSome=true:=by
  obtain⟨u,r,q⟩:=hl i n .non hi (lW (by rw [I.len];exact(lI.mp hi).1)) (.inl hk);rcases q with⟨_,q⟩|⟨q,_⟩
  ·rw [q];rfl
  ·rcases q with q|q <;> (rw [hkk] at q;cases q)
 rw [hmn];have ne:∀b o,X.s_0.heap.get? b=some o->b≠X.env.locals:=λb o q=>lY (lM (lq q) I.ok.above)
 refine wpAny_pure (wpAny_point (h _ ⟨I.ok,I1.os,I1.bare,⟨λb o q n' hb hx=>?_,λb o q n' hb hx=>?_,I1.base.free,λb o q hx=>?_,I1.base.tups,I1.base.frzs,I1.base.tbls⟩,⟨_,hn2,λj y v' e1 e2 e3=>?_⟩,λy c q=>?_,I1.free,I1.freeC,λp hp=>?_,?_,by simpa using I.len⟩))
 ·exact(hs2.2 b (ne b o q)).trans (I1.base.keep b o q n' hb hx)
 ·obtain⟨sl,q1⟩:=I1.base.slot b o q n' hb hx;exact⟨sl,(hs2.2 b (ne b o q)).trans q1⟩
 ·obtain⟨o',q1⟩:=I1.base.there b o q hx;exact⟨o',(hs2.2 b (ne b o q)).trans q1⟩
 ·have hj:j≠i:=λz=>by subst z;rw [List.getElem?_set] at e2;simp at e2
  rw [lV (yY hj)] at e2;obtain⟨u',r',q⟩:=hl j y v' e1 (by rw [lV (yY hj)];exact e2) e3;refine⟨u',r',?_⟩;rcases q with⟨k,q⟩|⟨k,c,q,z⟩
  ·refine .inl ⟨k,?_⟩;have:y≠n:=λz=>hj (Kg hN e1 (z▸hi))
   simp [this,q]
  ·exact .inr ⟨k,c,q,z.sameBut hs2 (I1.cne y c q)⟩
 ·obtain⟨w',z⟩:=I1.cell y c q;exact⟨w',z.sameBut hs2 (I1.cne y c q)⟩
 ·obtain⟨q,n',ne',nf,dd⟩:=I1.pin p hp;exact⟨(hs2.2 p.1 ne').trans q,n',ne',nf,dd⟩
 ·intro b ob q;refine(I1.hok b ob q).stay (λc w' hc z=>(hs2.2 c ?_).trans z) (λ_ z=>z) λ_ _ z=>z
  rintro rfl;rcases hc with hc|hc
  ·rw [<-hc,I1.free] at q;cases q
  ·rw [I1.free] at hc;cases hc
def zdR(X:Cx)(pins:List (Addr×Obj))(σ:List (Option V))(H:Hp)(e C:Addr)(s:Shared):Prop:=
 (∃s1 h' args,Inv X pins σ H s1/\Heap.MadeExcOf s1.heap h' e (.ref C) args/\s={s1 with heap:=h'})\/∃H1 s1 a0 fr,Inv X pins σ H1 s1/\Flt X.prog X.w X.stack H1 H s1 s e (.ref C) none a0 (flv fr)
theorem zc5{C:Addr}{E:Value->Shared->Prop}{Q:Unit->Shared->Prop}(F:zdR X pins σ H e C s)(hst:X.stack=X.env::X.outer)(hfr:X.env.frame=some X.env.locals)
 (k:∀H1 s1 a0 s3,Inv X pins σ H1 s1->Flt X.prog X.w X.stack H1 H s1 s3 e (.ref C) none a0 (rawInt X.env.locals)->Q () s3):wpAny (model X.prog X.w) X.A (noteFrame (.ref e) X.env) Q E s:=by
 rcases F with⟨s1,h',args,I,m,rfl⟩|⟨H1,s1,a0,fr,I,F⟩
 ·exact zbp I hst hfr m λs3 a0 F=>k H s1 a0 s3 I F
 ·exact zdg I hst hfr F λs3 F=>k H1 s1 a0 s3 I F
theorem zeD{C:Addr}{E:Value->Shared->Prop}{Q:Unit->Shared->Prop}(F:zdR X pins σ H e C s)(hst:X.stack=X.env::X.outer)(hfr:X.env.frame=some X.env.locals)(hex:X.ex= [])
 (k:∀a0 s3,Flt X.prog X.w X.outer X.H_0 H X.s_0 s3 e (.ref C) none a0 .none->Q () s3):wpAny (model X.prog X.w) X.A (leaving X.env (.ref e)) Q E s:=by
 unfold leaving;refine wpAny_bind (zc5 F hst hfr λH1 s1 a0 s3 I F=>zaG I F λs4 F4=>k a0 s4 (zjd I hst hex F4))
section
variable {C W:Addr} {x n:Str} {np hpos:Pos} {b₀:Stmt} {suite:List Stmt} {rest:List ExceptHandler} {i:Nat} {a0:Value} {Q:Flow->Shared->Prop}
theorem zi7(I:Inv X pins σ H1 s1)(F:Flt X.prog X.w X.stack H1 H2 s1 s2 e (.ref C) none a0 fl):Inv X pins σ H2 s2:=I.call' (ch:=[]) F.os F.un F.hok F.bare λb z=>absurd z (by simp)
theorem zmj(F:Flt X.prog X.w X.stack H1 H2 s1 s2 e (.ref C) none a0 fl)(M:Model):Looks M s2.heap (typeOf (.ref e)) (.ref C):=by obtain⟨_,_,_,_,B,⟨_,_,_,T,_,_,he,_⟩,_⟩:=F;exact(Looks.ld he).andThen .now
theorem zeo(I:Inv X pins σ H1 s1)(F:Flt X.prog X.w X.stack H1 H s1 s e (.ref C) none a0 .none)(hg:Gl X x)(hm:X.mg x=some (.ref W))(hx:exmOne X.K (.ref C) (.ref W)=some true)(hN:X.N.Nodup)(hi:X.N[i]? =some n)(hk:X.env.scope.names.lookup n=some .local)
 (k:∀s4 T,H e=none->Inv X pins (σ.set i (some (.ref e))) (upd H e (XF (exO (.ref C) none a0 (.ref T)))) s4->wpAny (model X.prog X.w) (X.A.mark (some (.ref e))) (execs (b₀::suite) X.env)
   (λf s5=>wpAny (model X.prog X.w) X.A (do bindName X.env n .none;unbindBehindTheSuite X.env n hpos) (λ_ s6=>Q f s6) X.xe s5) (λ_ _=>False) s4) (hd:(x==("__debug__":Str))=false:=by decide):
 wpAny (model X.prog X.w) X.A (handleBy (.ref e) X.env (.ExceptHandler (some (.Name x np)) (some n) (b₀::suite) hpos::rest)) Q X.xe s:=by
 have I2:=zi7 I F;refine wpAny_handleBy_cons (codeAny_handlers_test ?_) (by intro q;cases q);refine Jb (X:=Cx.hx X (X.A.mark (some (.ref e))) X.xe) (Inv.hx I2 rfl) hg hm ?_ hd;refine(exm_one I2.kIn (zmj F _) hx).here ?_;refine codeAny_handlers_suite_as (zaG I F λs4 F4=>?_);obtain⟨T,n0,I4⟩:=zkW I F4;refine Kf (v:=.ref e) I4 hN hi (.inl hk) rfl (λs5 I5=>wpAny_mono (k s5 T n0 I5) (λ_ _ z=>z) λ_ _ z=>z.elim) (.inr hk)
end
end
end ZX
namespace Z
open PySem L2
inductive D where
 |non|bl (b:Bool)|int (i:Int)|str (x:Str)|tup (xs:List D)|lst (xs:List D)
abbrev zmR:=List Key
inductive FK where
 |k (kvs:List (Key×D))|t (kvs:List (zmR×D))
instance:Coe (List (Key×D)) FK:=⟨.k⟩
def FK.vals:FK->List D
 | .k kvs=>kvs.map (·.2)
 | .t kvs=>kvs.map (·.2)
def FK.ho:FK->List V->HO
 | .k kvs,vs=>.dK ((kvs.map (·.1)).zip vs)
 | .t kvs,vs=>.dT ((kvs.map (·.1)).zip vs)
inductive W where
 |d (x:D)|ref (n:Nat)|fz (xs:List D)|exn (c:Str)|fk (n:Nat) (f:FK)|tl (n:Nat) (pre post:List D)
inductive Cell where
 |lst (xs:List D)|dk (kvs:List (Key×D))|dt (kvs:List (zmR×D))|tb (b:Bool) (l c:Nat)|dead
abbrev Sto:=List Cell
structure Xn where
 cls:Str
 fld:List (Str×D):=[]
inductive Res (α:Type) where
 |ok (a:α) (S:Sto)|exc (x:Xn) (S:Sto)|bad
abbrev DS:=List (Option W)
inductive SR where
 |nx (t:DS) (S:Sto)|rt (w:W) (S:Sto)|bk (t:DS) (S:Sto)|ct (t:DS) (S:Sto)|exc (x:Xn) (t:DS) (S:Sto)|bad
def Res.bind{α β:Type}(r:Res α)(f:α->Sto->Res β):Res β:=
 match r with
 | .ok a S=>f a S
 | .exc x S=>.exc x S
 | .bad=>.bad
@[simp] theorem zB{α β:Type}(a:α)(S:Sto)(f:α->Sto->Res β):(Res.ok a S).bind f=f a S:=rfl
@[simp] theorem zmH{α β:Type}(x:Xn)(S:Sto)(f:α->Sto->Res β):(Res.exc x S:Res α).bind f= .exc x S:=rfl
@[simp] theorem zmx{α β:Type}(f:α->Sto->Res β):(Res.bad:Res α).bind f= .bad:=rfl
theorem bind_assoc{α β γ:Type}(r:Res α)(f:α->Sto->Res β)(g:β->Sto->Res γ):(r.bind f).bind g=r.bind λa S=>(f a S).bind g:=by cases r <;> rfl
def Res.then{α:Type}(r:Res α)(t:DS)(f:α->Sto->SR):SR:=
 match r with
 | .ok a S=>f a S
 | .exc x S=>.exc x t S
 | .bad=>.bad
@[simp] theorem Zx{α:Type}(a:α)(S:Sto)(t:DS)(f:α->Sto->SR):(Res.ok a S).then t f=f a S:=rfl
@[simp] theorem zmJ{α:Type}(x:Xn)(S:Sto)(t:DS)(f:α->Sto->SR):(Res.exc x S:Res α).then t f= .exc x t S:=rfl
@[simp] theorem zmG{α:Type}(t:DS)(f:α->Sto->SR):(Res.bad:Res α).then t f= .bad:=rfl
def XM(S:Sto)(n:Nat):Prop:=∃c,S[n]? =some c/\c≠Cell.dead
def zhM(S:Sto)(n:Nat):Prop:=∃xs,S[n]? =some (.lst xs)
theorem zhM.live{S:Sto}{n:Nat}(h:zhM S n):XM S n:=let⟨_,e⟩:=h;⟨_,e,λz=>nomatch z⟩
theorem jF{S:Sto}{n:Nat}{xs:List D}(e:S[n]? =some (.lst xs)):XM S n:=⟨_,e,λz=>nomatch z⟩
theorem znJ{S:Sto}{n:Nat}{xs:List (Key×D)}(e:S[n]? =some (.dk xs)):XM S n:=⟨_,e,λz=>nomatch z⟩
theorem znw{S:Sto}{n:Nat}{xs:List (zmR×D)}(e:S[n]? =some (.dt xs)):XM S n:=⟨_,e,λz=>nomatch z⟩
def Fx:HO->Prop
 | .lst _=>False
 | .dK _=>False
 | .dT _=>False
 | .ext _=>False
 | .tbl _=>False
 |_=>True
def N0(io:Nat->Addr)(S:Sto)(a:Addr):Prop:=∀n,XM S n->io n≠a
def NA(Z:Addr->Prop)(io:Nat->Addr)(S:Sto)(a:Addr):Prop:=N0 io S a/\¬Z a
theorem XM.lt{S:Sto}{n:Nat}(h:XM S n):n<S.length:=let⟨_,e,_⟩:=h;(lI.mp e).1
mutual
inductive DRel (K:PySem.W.Frag) (H:Hp) (na:Addr->Prop):D->V->Prop
 |non:DRel K H na .non .non
 |bl (b:Bool):DRel K H na (.bl b) (.bl b)
 |int (i:Int):DRel K H na (.int i) (.int i)
 |str (x:Str):DRel K H na (.str x) (.str x)
 |tup {a:Addr} {ds:List D} {vs:List V}:SqT K H a vs->DRels K H na ds vs->DRel K H na (.tup ds) (.ref a)
 |lst {a:Addr} {ds:List D} {vs:List V}:H a=some (.lst vs)->na a->DRels K H na ds vs->DRel K H na (.lst ds) (.ref a)
inductive DRels (K:PySem.W.Frag) (H:Hp) (na:Addr->Prop):List D->List V->Prop
 |nil:DRels K H na [] []
 |cons {d:D} {ds:List D} {v:V} {vs:List V}:DRel K H na d v->DRels K H na ds vs->DRels K H na (d::ds) (v::vs)
end
section
variable {K:PySem.W.Frag} {H H':Hp} {na na':Addr->Prop}
theorem DRels.length:∀{ds:List D} {vs:List V},DRels K H na ds vs->ds.length=vs.length
 |_,_,.nil=>rfl
 |_,_,.cons _ t=>congrArg (· +1) t.length
theorem DRels.get:∀{ds:List D} {vs:List V} {i:Nat} {d:D},DRels K H na ds vs->ds[i]? =some d->∃v,vs[i]? =some v/\DRel K H na d v
 |_,_,_,_,.nil,e=>by simp at e
 |_,_,0,_,.cons r _,e=>by simp at e;subst e;exact⟨_,rfl,r⟩
 |_,_,i+1,d,.cons _ t,e=>by obtain⟨v,h1,h2⟩:=DRels.get (i:=i) (d:=d) t (by simpa using e);exact⟨v,by simpa using h1,h2⟩
theorem DRels.append:∀{ds es:List D} {vs us:List V},DRels K H na ds vs->DRels K H na es us->DRels K H na (ds++es) (vs++us)
 |_,_,_,_,.nil,s=>s
 |_,_,_,_,.cons r t,s=>.cons r (t.append s)
theorem DRels.take:∀{ds:List D} {vs:List V} (n:Nat),DRels K H na ds vs->DRels K H na (ds.take n) (vs.take n)
 |_,_,0,_=>.nil
 |_,_,_+1,.nil=>.nil
 |_,_,n+1,.cons r t=>.cons r (t.take n)
theorem DRels.drop:∀{ds:List D} {vs:List V} (n:Nat),DRels K H na ds vs->DRels K H na (ds.drop n) (vs.drop n)
 |_,_,0,h=>h
 |_,_,_+1,.nil=>.nil
 |_,_,n+1,.cons _ t=>t.drop n
theorem DRels.set{d:D}{v:V}(r:DRel K H na d v):∀{ds:List D} {vs:List V} (n:Nat),DRels K H na ds vs->DRels K H na (ds.set n d) (vs.set n v)
 |_,_,_,.nil=>.nil
 |_,_,0,.cons _ t=>.cons r t
 |_,_,n+1,.cons q t=>.cons q (t.set r n)
theorem DRels.reverse{ds:List D}{vs:List V}(h:DRels K H na ds vs):DRels K H na ds.reverse vs.reverse:=by
 induction ds generalizing vs with
 |nil=>cases h;exact .nil
 |cons d ds ih=>
  cases h with
  |cons r t=>
   rw [Ly,Ly];exact(ih t).append (.cons r .nil)
theorem DRels.erase:∀{ds:List D} {vs:List V} (n:Nat),DRels K H na ds vs->DRels K H na (ds.eraseIdx n) (vs.eraseIdx n)
 |_,_,_,.nil=>.nil
 |_,_,0,.cons _ t=>t
 |_,_,n+1,.cons r t=>.cons r (t.erase n)
theorem SqT.keepT{a:Addr}{vs:List V}(k:∀a o,H a=some o->Fx o->H' a=some o)(h:SqT K H a vs):SqT K H' a vs:=by
 rcases h with(h|⟨o,h⟩)|h
 ·exact .inl (.inl (k a _ h trivial))
 ·exact .inl (.inr ⟨o,k a _ h trivial⟩)
 ·exact .inr h
mutual
theorem DRel.mono(k:∀a o,H a=some o->Fx o->H' a=some o)(kl:∀a xs,H a=some (.lst xs)->na a->H' a=some (.lst xs)/\na' a):∀{d:D} {v:V},DRel K H na d v->DRel K H' na' d v
 |_,_,.non=>.non
 |_,_,.bl b=>.bl b
 |_,_,.int i=>.int i
 |_,_,.str x=>.str x
 |_,_,.tup h t=>.tup (SqT.keepT k h) (DRels.mono k kl t)
 |_,_,.lst h n t=>.lst (kl _ _ h n).1 (kl _ _ h n).2 (DRels.mono k kl t)
theorem DRels.mono(k:∀a o,H a=some o->Fx o->H' a=some o)(kl:∀a xs,H a=some (.lst xs)->na a->H' a=some (.lst xs)/\na' a):∀{ds:List D} {vs:List V},DRels K H na ds vs->DRels K H' na' ds vs
 |_,_,.nil=>.nil
 |_,_,.cons r t=>.cons (DRel.mono k kl r) (DRels.mono k kl t)
end
end
def ziz:Str:="turns_of"
def zi8:Str:="turns_of.<locals>.<lambda>"
def TbK(K:PySem.W.Frag)(a:Addr):Prop:=∃f cc oc od fd sl,PySem.W.nsIn K mainGlobals ziz=some (some (.ref f))/\K.lookup f=some ⟨oc,od,.func fd,sl⟩/\fd.code= .ref cc/\PySem.W.codeHdIn K cc a=true
def zeZ(K:PySem.W.Frag)(H:Hp)(na:Addr->Prop)(a:Addr):Cell->Prop
 | .lst xs=>∃vs,H a=some (.lst vs)/\DRels K H na xs vs
 | .dk kvs=>∃vs,H a=some (.dK ((kvs.map (·.1)).zip vs))/\DRels K H na (kvs.map (·.2)) vs
 | .dt kvs=>∃vs,H a=some (.dT ((kvs.map (·.1)).zip vs))/\DRels K H na (kvs.map (·.2)) vs
 | .tb false _ _=>TbK K a/\H a=some (.tbl #[])
 | .tb true l c=>TbK K a/\∃c' oc vs tq,H a=some (.tbl #[rawInt l,rawInt c,.ref c'])/\H c'=some (ZX.XF oc)/\oc.data= .fields vs/\vs[1]? =some (.str zi8 tq)
 | .dead=>True
theorem zeZ.there{K:PySem.W.Frag}{H:Hp}{na:Addr->Prop}{a:Addr}{c:Cell}(x:zeZ K H na a c)(nd:c≠ .dead):∃o,H a=some o/\¬Fx o:=by
 cases c with
 |lst xs=>obtain⟨vs,h,_⟩:=x;exact⟨_,h,id⟩
 |dk xs=>obtain⟨vs,h,_⟩:=x;exact⟨_,h,id⟩
 |dt xs=>obtain⟨vs,h,_⟩:=x;exact⟨_,h,id⟩
 |tb b l c=>cases b with|false=>exact⟨_,x.2,id⟩|true=>obtain⟨_,_,_,_,_,h,_⟩:=x;exact⟨_,h,id⟩
 |dead=>exact absurd rfl nd
theorem zeZ.to{K:PySem.W.Frag}{H H':Hp}{na na':Addr->Prop}{a:Addr}{c:Cell}(x:zeZ K H na a c)(ha:c≠ .dead->∀o,H a=some o->H' a=some o)(k:∀a o,H a=some o->Fx o->H' a=some o)
 (kl:∀a xs,H a=some (.lst xs)->na a->H' a=some (.lst xs)/\na' a):zeZ K H' na' a c:=by
 cases c with
 |lst xs=>obtain⟨vs,h,q⟩:=x;exact⟨vs,ha (λz=>nomatch z) _ h,q.mono k kl⟩
 |dk xs=>obtain⟨vs,h,q⟩:=x;exact⟨vs,ha (λz=>nomatch z) _ h,q.mono k kl⟩
 |dt xs=>obtain⟨vs,h,q⟩:=x;exact⟨vs,ha (λz=>nomatch z) _ h,q.mono k kl⟩
 |tb b l c=>
  cases b with
  |false=>exact⟨x.1,ha (λz=>nomatch z) _ x.2⟩
  |true=>obtain⟨x0,c',oc,vs,tq,h,h2,h3,h4⟩:=x;exact⟨x0,c',oc,vs,tq,ha (λz=>nomatch z) _ h,k _ _ h2 trivial,h3,h4⟩
 |dead=>exact trivial
structure HRel (K:PySem.W.Frag) (Z:Addr->Prop) (io:Nat->Addr) (S:Sto) (H:Hp):Prop where
 cells:∀n c,S[n]? =some c->zeZ K H (NA Z io S) (io n) c
 inj:∀n m,XM S n->XM S m->io n=io m->n=m
 zd:∀a,Z a->∃o,H a=some o
 zc:∀a,Z a->N0 io S a
theorem HRel.cell{K:PySem.W.Frag}{Z:Addr->Prop}{io:Nat->Addr}{S:Sto}{H:Hp}(r:HRel K Z io S H)(n:Nat)(xs:List D)(e:S[n]? =some (.lst xs)):∃vs,H (io n)=some (.lst vs)/\DRels K H (NA Z io S) xs vs:=r.cells n _ e
structure Ext (io:Nat->Addr) (S:Sto) (H:Hp) (io':Nat->Addr) (S':Sto) (H':Hp):Prop where
 len:S.length<=S'.length
 adr:∀n,n<S.length->io' n=io n
 keep:∀a o,H a=some o->N0 io S a->H' a=some o/\N0 io' S' a
abbrev ZS:=Addr->Prop
def FzL(K:PySem.W.Frag)(H:Hp)(a:Addr)(xs:List V):Prop:=
 (∃o,H a=some (.frz o (.lst xs)))\/
   ∃(o:Obj) (its:Array Value) (n:Nat),K.lookup a=some o/\o.cls= .type "list"/\o.dict=none/\o.data= .seq its n/\its.size<=sizeLine/\Vals xs its.toList
theorem FzL.sq{K:PySem.W.Frag}{H:Hp}{a:Addr}{xs:List V}(h:FzL K H a xs):SqL K H a xs:=by
 rcases h with⟨o,h⟩|h
 ·exact .inl (.inr ⟨o,h⟩)
 ·exact .inr h
theorem FzL.keep{K:PySem.W.Frag}{H H':Hp}{a:Addr}{xs:List V}(h:FzL K H a xs)(k:∀a o,H a=some o->Fx o->H' a=some o):FzL K H' a xs:=by
 rcases h with⟨o,h⟩|h
 ·exact .inl ⟨o,k _ _ h trivial⟩
 ·exact .inr h
inductive WRel (K:PySem.W.Frag) (Z:Addr->Prop) (io:Nat->Addr) (S:Sto) (H:Hp):W->V->Prop
 |d {x:D} {v:V}:DRel K H (NA Z io S) x v->WRel K Z io S H (.d x) v
 |ref {n:Nat}:n<S.length->WRel K Z io S H (.ref n) (.ref (io n))
 |fz {a:Addr} {ds:List D} {vs:List V}:FzL K H a vs->DRels K H (NA Z io S) ds vs->WRel K Z io S H (.fz ds) (.ref a)
 |exn {a C:Addr} {c:Str} {a0 tb:Value}:PySem.W.nsIn K mainGlobals c=some (some (.ref C))->H a=some (ZX.XF (ZX.exO (.ref C) none a0 tb))->WRel K Z io S H (.exn c) (.ref a)
 |fk {n:Nat} {o:Obj} {f:FK} {vs:List V}:n<S.length->H (io n)=some (.frz o (f.ho vs))->DRels K H (NA Z io S) f.vals vs->WRel K Z io S H (.fk n f) (.ref (io n))
 |tl {n:Nat} {a:Addr} {pre post:List D} {us vs:List V}:n<S.length->SqT K H a (us++ .ref (io n)::vs)->DRels K H (NA Z io S) pre us->DRels K H (NA Z io S) post vs->WRel K Z io S H (.tl n pre post) (.ref a)
inductive WRels (K:PySem.W.Frag) (Z:Addr->Prop) (io:Nat->Addr) (S:Sto) (H:Hp):List W->List V->Prop
 |nil:WRels K Z io S H [] []
 |cons {w:W} {ws:List W} {v:V} {vs:List V}:WRel K Z io S H w v->WRels K Z io S H ws vs->WRels K Z io S H (w::ws) (v::vs)
structure SRel (K:PySem.W.Frag) (Z:Addr->Prop) (io:Nat->Addr) (S:Sto) (H:Hp) (t:DS) (σ:St):Prop where
 len:t.length=σ.length
 get:∀(i:Nat) (w:W),t[i]? =some (some w)->∃v,σ[i]? =some (some v)/\WRel K Z io S H w v
section
variable {K:PySem.W.Frag} {Z:Addr->Prop} {io io' io2:Nat->Addr} {S S' S2:Sto} {H H' H2:Hp}
theorem HRel.na0{a:Addr}{o:HO}(r:HRel K Z io S H)(h:H a=some o)(n:Fx o):N0 io S a:=λm ⟨c,e,nd⟩ z=>by obtain⟨u,q,nf⟩:=(r.cells m c e).there nd;rw [z,h] at q;cases q;exact nf n
theorem Ext.refl:Ext io S H io S H:=⟨lD _,λ_ _=>rfl,λ_ _ h n=>⟨h,n⟩⟩
theorem Ext.trans(a:Ext io S H io' S' H')(b:Ext io' S' H' io2 S2 H2):Ext io S H io2 S2 H2:=
 ⟨lQ a.len b.len,λn hn=>(b.adr n (lM hn a.len)).trans (a.adr n hn),λx o h n=>let⟨h1,n1⟩:=a.keep x o h n;b.keep x o h1 n1⟩
theorem Ext.k1(r:HRel K Z io S H)(x:Ext io S H io' S' H'):∀a o,H a=some o->Fx o->H' a=some o:=λa o h n=>(x.keep a o h (r.na0 h n)).1
theorem Ext.k2(x:Ext io S H io' S' H'):∀a xs,H a=some (.lst xs)->NA Z io S a->H' a=some (.lst xs)/\NA Z io' S' a:=λa _ h n=>⟨(x.keep a _ h n.1).1,(x.keep a _ h n.1).2,n.2⟩
theorem DRel.ext{d:D}{v:V}(q:DRel K H (NA Z io S) d v)(r:HRel K Z io S H)(x:Ext io S H io' S' H'):DRel K H' (NA Z io' S') d v:=q.mono (x.k1 r) x.k2
theorem DRels.ext{d:List D}{v:List V}(q:DRels K H (NA Z io S) d v)(r:HRel K Z io S H)(x:Ext io S H io' S' H'):DRels K H' (NA Z io' S') d v:=q.mono (x.k1 r) x.k2
theorem WRel.ext{w:W}{v:V}(q:WRel K Z io S H w v)(r:HRel K Z io S H)(x:Ext io S H io' S' H'):WRel K Z io' S' H' w v:=by
 cases q with
 |d q=>exact .d (q.ext r x)
 |ref h=>rw [<-x.adr _ h];exact .ref (lM h x.len)
 |fz h q=>exact .fz (h.keep (x.k1 r)) (q.ext r x)
 |exn h q=>exact .exn h (x.k1 r _ _ q trivial)
 |fk hn h q=>rw [<-x.adr _ hn];exact .fk (lM hn x.len) (by rw [x.adr _ hn];exact x.k1 r _ _ h trivial) (q.ext r x)
 |tl hn h q1 q2=>exact .tl (lM hn x.len) (by rw [x.adr _ hn];exact SqT.keepT (x.k1 r) h) (q1.ext r x) (q2.ext r x)
theorem WRels.ext(r:HRel K Z io S H)(x:Ext io S H io' S' H'):∀{w:List W} {v:List V},WRels K Z io S H w v->WRels K Z io' S' H' w v
 |_,_,.nil=>.nil
 |_,_,.cons q t=>.cons (q.ext r x) (WRels.ext r x t)
theorem WRels.length:∀{w:List W} {v:List V},WRels K Z io S H w v->w.length=v.length
 |_,_,.nil=>rfl
 |_,_,.cons _ t=>congrArg (· +1) t.length
theorem WRels.append:∀{ds es:List W} {vs us:List V},WRels K Z io S H ds vs->WRels K Z io S H es us->WRels K Z io S H (ds++es) (vs++us)
 |_,_,_,_,.nil,s=>s
 |_,_,_,_,.cons r t,s=>.cons r (t.append s)
theorem WRels.get:∀{ds:List W} {vs:List V} {i:Nat} {d:W},WRels K Z io S H ds vs->ds[i]? =some d->∃v,vs[i]? =some v/\WRel K Z io S H d v
 |_,_,_,_,.nil,e=>by simp at e
 |_,_,0,_,.cons r _,e=>by simp at e;subst e;exact⟨_,rfl,r⟩
 |_,_,i+1,d,.cons _ t,e=>by obtain⟨v,h1,h2⟩:=WRels.get (i:=i) (d:=d) t (by simpa using e);exact⟨v,by simpa using h1,h2⟩
theorem SRel.ext{t:DS}{σ:St}(q:SRel K Z io S H t σ)(r:HRel K Z io S H)(x:Ext io S H io' S' H'):SRel K Z io' S' H' t σ:=
 ⟨q.len,λi w e=>let⟨v,h1,h2⟩:=q.get i w e;⟨v,h1,h2.ext r x⟩⟩
theorem SRel.set{t:DS}{σ:St}{w:W}{v:V}(q:SRel K Z io S H t σ)(i:Nat)(r:WRel K Z io S H w v):SRel K Z io S H (t.set i (some w)) (σ.set i (some v)):=by
 refine⟨by simp [q.len],λj u e=>?_⟩;by_cases hj:i=j
 ·subst hj;by_cases hi:i<t.length
  ·rw [lW hi] at e;cases e;exact⟨v,lW (by rw [<-q.len];exact hi),r⟩
  ·rw [yt (by simpa using hi)] at e;cases e
 ·rw [lV hj] at e;obtain⟨v',h1,h2⟩:=q.get j u e;exact⟨v',by rw [lV hj];exact h1,h2⟩
theorem Ext.new{p:Addr}{o:HO}(hp:H p=none):Ext io S H io S (upd H p o):=
 ⟨lD _,λ_ _=>rfl,λa u h n=>⟨by rw [zJ (zu h hp)];exact h,n⟩⟩
theorem zdE{p:Addr}{o:HO}(r:HRel K Z io S H):∀a,Z a->∃u,upd H p o a=some u:=λa z=>by
 by_cases h:a=p
 ·subst h;exact⟨o,xT⟩
 ·rw [zJ h];exact r.zd a z
theorem HRel.new{p:Addr}{o:HO}(r:HRel K Z io S H)(hp:H p=none):HRel K Z io S (upd H p o):=by refine⟨λn c e=>(r.cells n c e).to (λ_ u h=>by rw [zJ (zu h hp)];exact h) ((Ext.new hp).k1 r) (Ext.new hp).k2,r.inj,zdE r,r.zc⟩
theorem HRel.fresh0{p:Addr}(r:HRel K Z io S H)(hp:H p=none):N0 io S p:=λm ⟨c,e,nd⟩ z=>by obtain⟨u,q,_⟩:=(r.cells m c e).there nd;rw [z,hp] at q;cases q
theorem HRel.freshZ{p:Addr}(r:HRel K Z io S H)(hp:H p=none):¬Z p:=λz=>by obtain⟨o,q⟩:=r.zd p z;rw [hp] at q;cases q
theorem HRel.freshNA{p:Addr}(r:HRel K Z io S H)(hp:H p=none):NA Z io S p:=⟨r.fresh0 hp,r.freshZ hp⟩
def jX(io:Nat->Addr)(n:Nat)(p:Addr):Nat->Addr:=λm=>if m=n then p else io m
theorem xi{n:Nat}{p:Addr}:jX io n p n=p:=if_pos rfl
theorem kH{n m:Nat}{p:Addr}(h:m<n):jX io n p m=io m:=if_neg (lY h)
theorem Qz{c:Cell}{n:Nat}(h:XM (S++ [c]) n):XM S n\/n=S.length:=by
 obtain⟨xs,e,nd⟩:=h;by_cases hn:n<S.length
 ·rw [yu hn] at e;exact .inl ⟨xs,e,nd⟩
 ·right;have:=(lI.mp e).1;simp at this;omega
theorem N0.push{p a:Addr}{c:Cell}(n:N0 io S a)(h:p≠a):N0 (jX io S.length p) (S++ [c]) a:=λm l=>by
 rcases Qz l with l|rfl
 ·rw [kH l.lt];exact n m l
 ·rw [xi];exact h
theorem Ext.cell{p:Addr}{o:HO}{c:Cell}(hp:H p=none):Ext io S H (jX io S.length p) (S++ [c]) (upd H p o):=
 ⟨by simp,λn hn=>kH hn,λa u h n=>⟨by rw [zJ (zu h hp)];exact h,n.push (zu h hp).symm⟩⟩
theorem HRel.cellNewC{p:Addr}{o:HO}{c:Cell}(r:HRel K Z io S H)(hp:H p=none)(q:zeZ K (upd H p o) (NA Z (jX io S.length p) (S++ [c])) p c):
 HRel K Z (jX io S.length p) (S++ [c]) (upd H p o):=by
 refine⟨λn d e=>?_,λn m ln lm e=>?_,zdE r,λa z=>(r.zc a z).push (λe=>r.freshZ hp (e▸z))⟩
 ·by_cases hn:n<S.length
  ·rw [yu hn] at e;rw [kH hn];exact(r.cells n d e).to (λ_ u h=>by rw [zJ (zu h hp)];exact h) ((Ext.cell (c:=c) hp).k1 r) (Ext.cell (c:=c) hp).k2
  ·have hn':n=S.length:=by have:=(lI.mp e).1;simp at this;omega
   subst hn';have e':d=c:=by simpa using e.symm
   subst e';rw [xi];exact q
 ·have key:∀m,XM S m->io m≠p:=λm l=>r.fresh0 hp m l
  rcases Qz ln with ln|rfl <;> rcases Qz lm with lm|rfl
  ·rw [kH ln.lt,kH lm.lt] at e;exact r.inj n m ln lm e
  ·rw [kH ln.lt,xi] at e;exact absurd e (key n ln)
  ·rw [kH lm.lt,xi] at e;exact absurd e.symm (key m lm)
  ·rfl
theorem HRel.cellNew{p:Addr}{vs:List V}{xs:List D}(r:HRel K Z io S H)(hp:H p=none)(q:DRels K H (NA Z io S) xs vs):
 HRel K Z (jX io S.length p) (S++ [.lst xs]) (upd H p (.lst vs)):=r.cellNewC hp ⟨vs,xT,q.ext r (Ext.cell hp)⟩
theorem XI{n m:Nat}{c:Cell}(l:XM S n)(hc:c≠Cell.dead):XM (S.set n c) m↔XM S m:=by
 unfold XM;by_cases h:n=m
 ·subst h;rw [lW l.lt];exact⟨λ_=>l,λ_=>⟨c,rfl,hc⟩⟩
 ·rw [lV h]
theorem N0.setC{n:Nat}{c:Cell}{a:Addr}(l:XM S n)(hc:c≠Cell.dead):N0 io (S.set n c) a↔N0 io S a:=
 ⟨λh m lm=>h m ((XI l hc).mpr lm),λh m lm=>h m ((XI l hc).mp lm)⟩
theorem Ext.writeC{n:Nat}{c:Cell}{o:HO}(l:XM S n)(hc:c≠Cell.dead):Ext io S H io (S.set n c) (upd H (io n) o):=
 ⟨by simp,λ_ _=>rfl,λa o h na=>⟨by rw [zJ (λz=>na n l z.symm)];exact h,(N0.setC l hc).mpr na⟩⟩
theorem Ext.write{n:Nat}{xs:List D}{vs:List V}(l:XM S n):Ext io S H io (S.set n (.lst xs)) (upd H (io n) (.lst vs)):=Ext.writeC l λz=>nomatch z
theorem HRel.writeC{n:Nat}{c:Cell}{o:HO}(r:HRel K Z io S H)(l:XM S n)(hc:c≠Cell.dead)(q:zeZ K (upd H (io n) o) (NA Z io (S.set n c)) (io n) c):
 HRel K Z io (S.set n c) (upd H (io n) o):=by
 refine⟨λm d e=>?_,λa b la lb=>r.inj a b ((XI l hc).mp la) ((XI l hc).mp lb),zdE r,λa z=>(N0.setC l hc).mpr (r.zc a z)⟩;by_cases h:n=m
 ·subst h;rw [lW l.lt] at e;cases e;exact q
 ·rw [lV h] at e;exact(r.cells m d e).to (λnd u hu=>by rw [zJ (λz=>h (r.inj n m l ⟨d,e,nd⟩ z.symm))];exact hu) ((Ext.writeC (o:=o) l hc).k1 r) (Ext.writeC (o:=o) l hc).k2
theorem HRel.write{n:Nat}{xs:List D}{vs:List V}(r:HRel K Z io S H)(l:XM S n)(q:DRels K H (NA Z io S) xs vs):
 HRel K Z io (S.set n (.lst xs)) (upd H (io n) (.lst vs)):=r.writeC l (λz=>nomatch z) ⟨vs,xT,q.ext r (Ext.write l)⟩
theorem Zb{n m:Nat}(l:XM (S.set n .dead) m):XM S m/\n≠m:=by
 obtain⟨xs,e,nd⟩:=l;by_cases h:n=m
 ·subst h;by_cases hn:n<S.length
  ·rw [lW hn] at e;cases e;exact absurd rfl nd
  ·rw [yt (by simpa using hn)] at e;cases e
 ·rw [lV h] at e;exact⟨⟨xs,e,nd⟩,h⟩
theorem Ext.freeze{n:Nat}:Ext io S H io (S.set n .dead) H:=
 ⟨by simp,λ_ _=>rfl,λa o h na=>⟨h,λm lm=>na m (Zb lm).1⟩⟩
theorem HRel.freeze{n:Nat}(r:HRel K Z io S H):HRel K Z io (S.set n .dead) H:=by
 refine⟨λm c e=>?_,λa b la lb=>r.inj a b (Zb la).1 (Zb lb).1,r.zd,λa z m lm=>r.zc a z m (Zb lm).1⟩;by_cases nd:c= .dead
 ·subst nd;exact trivial
 have lm:XM (S.set n .dead) m:=⟨c,e,nd⟩;rw [lV (Zb lm).2] at e;exact(r.cells m c e).to (λ_ u h=>h) ((Ext.freeze (n:=n)).k1 r) (Ext.freeze (n:=n)).k2
theorem DRel.frozen{n:Nat}{xs:List D}(r:HRel K Z io S H)(e:S[n]? =some (.lst xs)):DRel K H (NA Z io (S.set n .dead)) (.lst xs) (.ref (io n)):=by obtain⟨us,hu,z⟩:=r.cell n xs e;exact .lst hu ⟨λm lm q=>(Zb lm).2 (r.inj n m (jF e) (Zb lm).1 q.symm),λq=>r.zc _ q n (jF e) rfl⟩ (z.ext r Ext.freeze)
theorem v7{k m:Nat}(l:XM (S.take k) m):XM S m/\m<k:=by
 obtain⟨xs,e,nd⟩:=l;have hm:m<k:=by have:=(lI.mp e).1;rw [lK] at this;omega
 exact⟨⟨xs,by rw [yG hm] at e;exact e,nd⟩,hm⟩
theorem N0.take{k:Nat}{a:Addr}(n:N0 io S a):N0 io (S.take k) a:=λm l=>n m (v7 l).1
theorem NA.take{k:Nat}{a:Addr}(n:NA Z io S a):NA Z io (S.take k) a:=⟨n.1.take,n.2⟩
theorem DRels.take'{k:Nat}{ds:List D}{vs:List V}(q:DRels K H (NA Z io S) ds vs):DRels K H (NA Z io (S.take k)) ds vs:=q.mono (λ_ _ h _=>h) λ_ _ h n=>⟨h,n.take⟩
theorem DRel.take'{k:Nat}{ds:D}{vs:V}(q:DRel K H (NA Z io S) ds vs):DRel K H (NA Z io (S.take k)) ds vs:=q.mono (λ_ _ h _=>h) λ_ _ h n=>⟨h,n.take⟩
theorem HRel.take{k:Nat}(r:HRel K Z io S H):HRel K Z io (S.take k) H:=by
 refine⟨λm c e=>?_,λa b la lb=>r.inj a b (v7 la).1 (v7 lb).1,r.zd,λa z=>(r.zc a z).take⟩;by_cases nd:c= .dead
 ·subst nd;exact trivial
 have lm:XM (S.take k) m:=⟨c,e,nd⟩;rw [yG (v7 lm).2] at e;exact(r.cells m c e).to (λ_ u h=>h) (λ_ _ h _=>h) λ_ _ h n=>⟨h,n.take⟩
theorem Ext.take{k:Nat}(x:Ext io S H io' S' H')(hk:k=S.length):Ext io S H io' (S'.take k) H':=
 ⟨by rw [lK,hk];have:=x.len;omega,x.adr,λa o h n=>let⟨h1,n1⟩:=x.keep a o h n;⟨h1,n1.take⟩⟩
def ZP(Z:Addr->Prop)(p:Addr):Addr->Prop:=λa=>Z a\/a=p
theorem DRels.inZ{p:Addr}(hp:H p=none){ds:List D}{vs:List V}(q:DRels K H (NA Z io S) ds vs):DRels K H (NA (ZP Z p) io S) ds vs:=
 q.mono (λ_ _ h _=>h) λa _ h n=>⟨h,n.1,λz=>z.elim n.2 (zu h hp)⟩
theorem DRel.inZ{p:Addr}(hp:H p=none){ds:D}{vs:V}(q:DRel K H (NA Z io S) ds vs):DRel K H (NA (ZP Z p) io S) ds vs:=
 q.mono (λ_ _ h _=>h) λa _ h n=>⟨h,n.1,λz=>z.elim n.2 (zu h hp)⟩
theorem WRel.inZ{p:Addr}(hp:H p=none){w:W}{v:V}(q:WRel K Z io S H w v):WRel K (ZP Z p) io S H w v:=by
 cases q with
 |d q=>exact .d (q.inZ hp)
 |ref h=>exact .ref h
 |fz h q=>exact .fz h (q.inZ hp)
 |exn h q=>exact .exn h q
 |fk hn h q=>exact .fk hn h (q.inZ hp)
 |tl hn h q1 q2=>exact .tl hn h (q1.inZ hp) (q2.inZ hp)
theorem SRel.inZ{p:Addr}(hp:H p=none){t:DS}{σ:St}(q:SRel K Z io S H t σ):SRel K (ZP Z p) io S H t σ:=
 ⟨q.len,λi w e=>let⟨v,h1,h2⟩:=q.get i w e;⟨v,h1,h2.inZ hp⟩⟩
theorem DRels.outP{p:Addr}{ys zs:List V}(h0:H p=some (.lst ys))(hz:Z p){ds:List D}{vs:List V}(q:DRels K H (NA Z io S) ds vs):DRels K (upd H p (.lst zs)) (NA Z io S) ds vs:=
 q.mono (λa u h n=>by rw [zJ (λz=>by subst z;rw [h0] at h;cases h;exact n)];exact h) λa _ h n=>⟨by rw [zJ (λz=>n.2 (by rw [z];exact hz))];exact h,n⟩
theorem DRel.outP{p:Addr}{ys zs:List V}(h0:H p=some (.lst ys))(hz:Z p){ds:D}{vs:V}(q:DRel K H (NA Z io S) ds vs):DRel K (upd H p (.lst zs)) (NA Z io S) ds vs:=
 q.mono (λa u h n=>by rw [zJ (λz=>by subst z;rw [h0] at h;cases h;exact n)];exact h) λa _ h n=>⟨by rw [zJ (λz=>n.2 (by rw [z];exact hz))];exact h,n⟩
theorem WRel.outP{p:Addr}{ys zs:List V}(h0:H p=some (.lst ys))(hz:Z p){w:W}{v:V}(q:WRel K Z io S H w v):WRel K Z io S (upd H p (.lst zs)) w v:=by
 cases q with
 |d q=>exact .d (q.outP h0 hz)
 |ref h=>exact .ref h
 |fz h q=>exact .fz (h.keep λa u h n=>by rw [zJ (λz=>by subst z;rw [h0] at h;cases h;exact n)];exact h) (q.outP h0 hz)
 |exn h q=>exact .exn h (by rw [zJ (λz=>by subst z;rw [h0] at q;cases q)];exact q)
 |fk hn h q=>exact .fk hn (by rw [zJ (λz=>by rw [z,h0] at h;cases h)];exact h) (q.outP h0 hz)
 |tl hn h q1 q2=>exact .tl hn (SqT.keepT (λa u h n=>by rw [zJ (λz=>by subst z;rw [h0] at h;cases h;exact n)];exact h) h) (q1.outP h0 hz) (q2.outP h0 hz)
theorem SRel.outP{p:Addr}{ys zs:List V}(h0:H p=some (.lst ys))(hz:Z p){t:DS}{σ:St}(q:SRel K Z io S H t σ):SRel K Z io S (upd H p (.lst zs)) t σ:=
 ⟨q.len,λi w e=>let⟨v,h1,h2⟩:=q.get i w e;⟨v,h1,h2.outP h0 hz⟩⟩
theorem HRel.outP{p:Addr}{ys zs:List V}(h0:H p=some (.lst ys))(hz:Z p)(r:HRel K Z io S H):HRel K Z io S (upd H p (.lst zs)):=by refine⟨λn c e=>(r.cells n c e).to (λnd u h=>by rw [zJ (λz=>r.zc p hz n ⟨c,e,nd⟩ z)];exact h) (λa u h n=>by rw [zJ (λz=>by subst z;rw [h0] at h;cases h;exact n)];exact h) λa _ h n=>⟨by rw [zJ (λz=>n.2 (by rw [z];exact hz))];exact h,n⟩,r.inj,zdE r,r.zc⟩
theorem HRel.inZ{p:Addr}{o:HO}(r:HRel K Z io S H)(hp:H p=none):HRel K (ZP Z p) io S (upd H p o):=by
 have r1:=r.new (o:=o) hp;refine⟨λn c e=>?_,r.inj,λa z=>?_,λa z=>?_⟩
 ·exact(r.cells n c e).to (λ_ u h=>by rw [zJ (zu h hp)];exact h) (λa u h _=>by rw [zJ (zu h hp)];exact h) λa _ h n=>⟨by rw [zJ (zu h hp)];exact h,n.1,λz=>z.elim n.2 (zu h hp)⟩
 ·rcases z with z|rfl
  ·exact r1.zd a z
  ·exact⟨o,xT⟩
 ·rcases z with z|rfl
  ·exact r.zc a z
  ·exact r.fresh0 hp
theorem DRels.weakZ{p:Addr}{ds:List D}{vs:List V}(q:DRels K H (NA (ZP Z p) io S) ds vs):DRels K H (NA Z io S) ds vs:=q.mono (λ_ _ h _=>h) λ_ _ h n=>⟨h,n.1,λz=>n.2 (.inl z)⟩
theorem HRel.weakZ{p:Addr}(r:HRel K (ZP Z p) io S H):HRel K Z io S H:=
 ⟨λn c e=>(r.cells n c e).to (λ_ u h=>h) (λ_ _ h _=>h) λ_ _ h n=>⟨h,n.1,λz=>n.2 (.inl z)⟩,r.inj,λa z=>r.zd a (.inl z),λa z=>r.zc a (.inl z)⟩
end
end Z
namespace Z
open PySem PySem.Spec L2
open PyProof.Rows hiding St
structure Fly (X:Cx) (pins:List (Addr×Obj)) (σ:St) (H:Hp) (x:Xn) (u:Value) (s:Shared):Prop where
 ex:∃e C,u= .ref e/\x.fld= []/\PySem.W.nsIn X.K mainGlobals x.cls=some (some (.ref C))/\ZX.zdR X pins σ H e C s
def wE(X:Cx)(e:Expr):TE:=λσ H Q=>∀pins s,Inv X pins σ H s->wpAny (model X.prog X.w) X.A (eval e X.env) (EP X pins σ Q) X.xe s
def wT(X:Cx)(e:Expr):TT:=λσ H Q=>∀pins s,Inv X pins σ H s->wpAny (model X.prog X.w) X.A (isTrue e X.env (eval e X.env)) (TP X pins σ Q) X.xe s
def wW(X:Cx)(e:Expr):TT:=λσ H Q=>∀whole pins s,Inv X pins σ H s->wpAny (model X.prog X.w) X.A (isTrue e X.env whole) (TP X pins σ Q) X.xe s
def wA(X:Cx)(es:List Expr):TA:=λσ H Q=>∀pos pins s,Inv X pins σ H s->wpAny (model X.prog X.w) X.A (spliced (backTo pos (starEach es X.env))) (AP X pins σ Q) X.xe s
def wO(X:Cx)(f:Value->Value->Sem Value):R2:=λx y H Q=>∀pins s σ v u,Inv X pins σ H s->RelV x v->RelV y u->wpAny (model X.prog X.w) X.A (f v u) (EP X pins σ Q) X.xe s
def wC(X:Cx)(f:Value):List V->Hp->VK->Prop:=λxs H Q=>∀pins s σ us,Inv X pins σ H s->Vals xs us->wpAny (model X.prog X.w) X.A (call f us) (EP X pins σ Q) X.xe s
section
variable {X:Cx} {e:Expr} {es:List Expr} {σ:St} {H:Hp}
theorem kN:PE X e (wE X e):=λpins s _ _ _ I h=>h pins s I
theorem zgU:PT X e (wT X e):=λpins s _ _ _ I h=>h pins s I
theorem pw_w:PW X e (wW X e):=λwh pins s _ _ _ I h=>h wh pins s I
theorem zgE:PA X es (wA X es):=λpos pins s _ _ _ I h=>h pos pins s I
theorem zkA{f:Value->Value->Sem Value}:OpR X f (wO X f):=λpins s σ _ _ _ v u _ I rx ry h=>h pins s σ v u I rx ry
theorem KZ{f:Value}:Zj X f (wC X f):=λpins s σ _ _ us _ I rx h=>h pins s σ us I rx
theorem PEw{t:TE}{Q:VK}(h:PE X e t)(q:t σ H Q):wE X e σ H Q:=λpins s I=>h pins s σ H Q I q
theorem PTw{t:TT}{Q:Bool->Hp->Prop}(h:PT X e t)(q:t σ H Q):wT X e σ H Q:=λpins s I=>h pins s σ H Q I q
theorem PWw{t:TT}{Q:Bool->Hp->Prop}(h:PW X e t)(q:t σ H Q):wW X e σ H Q:=λwh pins s I=>h wh pins s σ H Q I q
theorem PAw{t:TA}{Q:List V->Hp->Prop}(h:PA X es t)(q:t σ H Q):wA X es σ H Q:=λpos pins s I=>h pos pins s σ H Q I q
theorem OPw{f:Value->Value->Sem Value}{r:R2}{x y:V}{Q:VK}(h:OpR X f r)(q:r x y H Q):wO X f x y H Q:=λpins s σ v u I rx ry=>h pins s σ H x y v u Q I rx ry q
theorem CAw{f:Value}{r:List V->Hp->VK->Prop}{x:List V}{Q:VK}(h:Zj X f r)(q:r x H Q):wC X f x H Q:=λpins s σ us I rx=>h pins s σ H x us Q I rx q
end
def Acc(X:Cx)(Z:ZS)(io:Nat->Addr)(S:Sto)(H:Hp)(σ:St)(x:Xn)(S':Sto):Prop:=
 ∀pins io' H' u s',Ext io S H io' S' H'->HRel X.K Z io' S' H'->Fly X pins σ H' x u s'->X.xe u s'
def qH{α β:Type}(X:Cx)(Z:ZS)(rel:(Nat->Addr)->Sto->Hp->α->β->Prop)(io:Nat->Addr)(S:Sto)(H:Hp)(σ:St)(r:Res α)(Q:β->Hp->Prop):Prop:=
 match r with
 | .ok w S'=>∀io' H' v,Ext io S H io' S' H'->HRel X.K Z io' S' H'->rel io' S' H' w v->Q v H'
 | .exc x S'=>Acc X Z io S H σ x S'
 | .bad=>False
abbrev RW(X:Cx)(Z:ZS):(Nat->Addr)->Sto->Hp->W->V->Prop:=λio S H=>WRel X.K Z io S H
abbrev RA(X:Cx)(Z:ZS):(Nat->Addr)->Sto->Hp->List W->List V->Prop:=λio S H=>WRels X.K Z io S H
abbrev RT:(Nat->Addr)->Sto->Hp->Bool->Bool->Prop:=λ_ _ _ a b=>a=b
section
variable {X:Cx} {Z:ZS} {io io1:Nat->Addr} {S S1:Sto} {H H1:Hp} {σ:St}
theorem Acc.from{x:Xn}{S':Sto}(p:Acc X Z io S H σ x S')(x1:Ext io S H io1 S1 H1):Acc X Z io1 S1 H1 σ x S':=λpins io' H' u s' x2=>p pins io' H' u s' (x1.trans x2)
theorem qH.from{α β:Type}{rel:(Nat->Addr)->Sto->Hp->α->β->Prop}{r:Res α}{Q:β->Hp->Prop}(p:qH X Z rel io S H σ r Q)(x1:Ext io S H io1 S1 H1):qH X Z rel io1 S1 H1 σ r Q:=by
 cases r with
 |ok w S'=>exact λio' H' v x2=>p io' H' v (x1.trans x2)
 |exc x S'=>exact Acc.from p x1
 |bad=>exact p
theorem qH.bind{α β γ δ:Type}{rel:(Nat->Addr)->Sto->Hp->α->β->Prop}{rel2:(Nat->Addr)->Sto->Hp->γ->δ->Prop}{r:Res α}{f:α->Sto->Res γ}{Q:δ->Hp->Prop}{Q1:β->Hp->Prop}
 (p:qH X Z rel2 io S H σ (r.bind f) Q)
 (k:∀io1 S1 H1 w v,Ext io S H io1 S1 H1->HRel X.K Z io1 S1 H1->rel io1 S1 H1 w v->qH X Z rel2 io1 S1 H1 σ (f w S1) Q->Q1 v H1):qH X Z rel io S H σ r Q1:=by
 cases r with
 |ok w S'=>exact λio' H' v x2 h2 r2=>k io' S' H' w v x2 h2 r2 (qH.from p x2)
 |exc x S'=>exact p
 |bad=>exact p
theorem qH.ok{α β:Type}{rel:(Nat->Addr)->Sto->Hp->α->β->Prop}{w:α}{v:β}{Q:β->Hp->Prop}(p:qH X Z rel io S H σ (.ok w S) Q)(hr:HRel X.K Z io S H)(q:rel io S H w v):Q v H:=p io H v Ext.refl hr q
end
abbrev M:=DS->Sto->Res W
structure ME (X:Cx) (e:Expr) (m:M):Prop where
 run:∀Z io S H t σ Q,HRel X.K Z io S H->SRel X.K Z io S H t σ->qH X Z (RW X Z) io S H σ (m t S) Q->wE X e σ H Q
abbrev MB:=DS->Sto->Res Bool
structure MT (X:Cx) (e:Expr) (m:MB):Prop where
 run:∀Z io S H t σ Q,HRel X.K Z io S H->SRel X.K Z io S H t σ->qH X Z RT io S H σ (m t S) Q->wT X e σ H Q
structure MW (X:Cx) (e:Expr) (m:MB):Prop where
 run:∀Z io S H t σ Q,HRel X.K Z io S H->SRel X.K Z io S H t σ->qH X Z RT io S H σ (m t S) Q->wW X e σ H Q
abbrev MAs:=DS->Sto->Res (List W)
structure MA (X:Cx) (es:List Expr) (m:MAs):Prop where
 run:∀Z io S H t σ Q,HRel X.K Z io S H->SRel X.K Z io S H t σ->qH X Z (RA X Z) io S H σ (m t S) Q->wA X es σ H Q
def zf(i:Nat):M:=λt S=>match t[i]? with|some (some w)=>.ok w S|_=>.bad
def zi(c:D):M:=λ_ S=>.ok (.d c) S
section
variable {X:Cx}
theorem zlt{i:Nat}{x:Str}{pos:Pos}(hN:X.N[i]? =some x)(hv:Vis X.env.scope x)(hd:(x==("__debug__":Str))=false:=by decide)(hcd:(x==("__classdict__":Str))=false:=by decide):ME X (.Name x pos) (zf i):=by
 refine⟨λZ io S H t σ Q hr sr p=>PEw (zlO hN hv hd hcd) ?_⟩;unfold zf at p;split at p
 ·rename_i w e;obtain⟨v,e1,r⟩:=sr.get i w e;exact⟨v,e1,p.ok hr r⟩
 ·exact p.elim
theorem zj{i:Int}{j:Nat}{pos:Pos}:ME X (.Constant (.int i) j pos) (zi (.int i)):=⟨λZ io S H t σ Q hr sr p=>PEw ziC (p.ok hr (.d (.int i)))⟩
theorem Zi{i:Bool}{j:Nat}{pos:Pos}:ME X (.Constant (.bool i) j pos) (zi (.bl i)):=⟨λZ io S H t σ Q hr sr p=>PEw znv (p.ok hr (.d (.bl i)))⟩
theorem Qy{j:Nat}{pos:Pos}:ME X (.Constant .none j pos) (zi .non):=⟨λZ io S H t σ Q hr sr p=>PEw zlh (p.ok hr (.d .non))⟩
theorem zC{i:Str}{j:Nat}{pos:Pos}:ME X (.Constant (.str i) j pos) (zi (.str i)):=⟨λZ io S H t σ Q hr sr p=>PEw zkQ (p.ok hr (.d (.str i)))⟩
inductive GlC:D->Value->Prop
 |int (i:Int) (t:Tok):GlC (.int i) (.int i t)
 |str (i:Str) (t:Tok):GlC (.str i) (.str i t)
theorem zgp{x:Str}{u:Value}{d:D}{pos:Pos}(hg:Gl X x)(hm:X.mg x=some u)(r:GlC d u)(hd:(x==("__debug__":Str))=false:=by decide):ME X (.Name x pos) (zi d):=by
 refine⟨λZ io S H t σ Q hr sr p=>?_⟩;cases r with
 |int i tk=>exact PEw (zcw (v:=.int i) hg hm ⟨tk,rfl⟩ hd) (p.ok hr (.d (.int i)))
 |str i tk=>exact PEw (zcw (v:=.str i) hg hm ⟨tk,rfl⟩ hd) (p.ok hr (.d (.str i)))
end
def zF(S:Sto):W->Option (List D)
 | .d (.lst xs)=>some xs
 | .ref n=>(match S[n]? with|some (.lst xs)=>some xs|_=>none)
 | .fz xs=>some xs
 |_=>none
def zbX(S:Sto):W->Option (List D)
 | .d (.lst xs)=>some xs
 | .ref n=>(match S[n]? with|some (.lst xs)=>some xs|_=>none)
 |_=>none
def zm1:W->Option (List D)
 | .d (.tup xs)=>some xs
 |_=>none
section
variable {X:Cx} {Z:ZS} {io:Nat->Addr} {S:Sto} {H:Hp} {K:PySem.W.Frag}
theorem XN{w:W}{v:V}{xs:List D}(hr:HRel K Z io S H)(r:WRel K Z io S H w v)(e:zF S w=some xs):∃a vs,v= .ref a/\SqL K H a vs/\DRels K H (NA Z io S) xs vs:=by
 cases r with
 |d r=>
  cases r with
  |lst h n q=>cases e;exact⟨_,_,rfl,SqL.of h,q⟩
  |_=>cases e
 |ref hn=>
  unfold zF at e;dsimp only at e;split at e
  ·rename_i ys q;cases e;obtain⟨vs,h1,h2⟩:=hr.cell _ _ q;exact⟨_,vs,rfl,SqL.of h1,h2⟩
  ·cases e
 |fz h q=>cases e;exact⟨_,_,rfl,h.sq,q⟩
 |exn _ _=>cases e
 |fk _ _ _=>cases e
 |tl _ _ _ _=>cases e
theorem zcb{w:W}{v:V}{xs:List D}(hr:HRel K Z io S H)(r:WRel K Z io S H w v)(e:zbX S w=some xs):∃a vs,v= .ref a/\H a=some (.lst vs)/\DRels K H (NA Z io S) xs vs:=by
 cases r with
 |d r=>
  cases r with
  |lst h n q=>cases e;exact⟨_,_,rfl,h,q⟩
  |_=>cases e
 |ref hn=>
  unfold zbX at e;dsimp only at e;split at e
  ·rename_i ys q;cases e;obtain⟨vs,h1,h2⟩:=hr.cell _ _ q;exact⟨_,vs,rfl,h1,h2⟩
  ·cases e
 |fz h q=>cases e
 |exn _ _=>cases e
 |fk _ _ _=>cases e
 |tl _ _ _ _=>cases e
theorem Kv{w:W}{v:V}{xs:List D}(r:WRel K Z io S H w v)(e:zm1 w=some xs):∃a vs,v= .ref a/\SqT K H a vs/\DRels K H (NA Z io S) xs vs:=by
 cases r with
 |d r=>
  cases r with
  |tup h q=>cases e;exact⟨_,_,rfl,h,q⟩
  |_=>cases e
 |_=>cases e
theorem Z9{xs:List D}{vs:List V}{p:Addr}(hr:HRel K Z io S H)(q:DRels K H (NA Z io S) xs vs)(hp:H p=none):WRel K Z io S (upd H p (.lst vs)) (.d (.lst xs)) (.ref p):=
 .d (.lst xT (hr.freshNA hp) (q.ext hr (Ext.new hp)))
theorem KB{xs:List D}{vs:List V}{p:Addr}(hr:HRel K Z io S H)(q:DRels K H (NA Z io S) xs vs)(hp:H p=none):WRel K Z io S (upd H p (.tup vs)) (.d (.tup xs)) (.ref p):=
 .d (.tup (SqT.of xT) (q.ext hr (Ext.new hp)))
theorem kg{σ:St}{w:W}{Q:VK}{o:HO}{p:Addr}(po:qH X Z (RW X Z) io S H σ (.ok w S) Q)(hr:HRel X.K Z io S H)(hp:H p=none)(q:WRel X.K Z io S (upd H p o) w (.ref p)):Q (.ref p) (upd H p o):=
 po io _ _ (Ext.new hp) (hr.new hp) q
end
mutual
def toP:D->PyData
 | .non=>.none
 | .bl b=>.bool b
 | .int i=>.int i
 | .str x=>.str x
 | .tup xs=>.tuple (Ji xs)
 | .lst xs=>.list (Ji xs)
def Ji:List D->List PyData
 | []=>[]
 |d::ds=>toP d::Ji ds
end
section
variable {K:PySem.W.Frag} {H:Hp} {na:Addr->Prop}
mutual
theorem zkO:∀{d:D} {v:V},DRel K H na d v->Dp K H v (toP d)
 |_,_,.non=>.non
 |_,_,.bl b=>.bl b
 |_,_,.int i=>.int i
 |_,_,.str x=>.str x
 |_,_,.tup h t=>.tup h (JD t)
 |_,_,.lst h n t=>.lst (SqL.of h) (JD t)
theorem JD:∀{d:List D} {v:List V},DRels K H na d v->DpAll K H v (Ji d)
 |_,_,.nil=>.nil
 |_,_,.cons r t=>.cons (zkO r) (JD t)
end
theorem zbr:∀{a b:List V} {x y:List PyData},DpAll K H a x->DpAll K H b y->DpAll K H (a++b) (x++y)
 |_,_,_,_,.nil,h2=>h2
 |_,_,_,_,.cons r t,h2=>.cons r (zbr t h2)
theorem zc1:∀(a b:List D),Ji (a++b)=Ji a++Ji b
 | [],_=>rfl
 |x::a,b=>by show toP x::Ji (a++b)=_;rw [zc1 a b];rfl
end
def dataOf(S:Sto):W->Option D
 | .d x=>some x
 | .ref n=>(match S[n]? with|some (.lst xs)=>some (.lst xs)|_=>none)
 | .fz xs=>some (.lst xs)
 | .exn _=>none
 | .fk _ _=>none
 | .tl n pre post=>(match S[n]? with|some (.lst xs)=>some (.tup (pre++ .lst xs::post))|_=>none)
def peq(a b:D):Bool:=PyData.eqv (toP a) (toP b)
def isStr:D->Bool
 | .str _=>true
 |_=>false
def okD(d:D):Bool:=SeqAt.shaped (toP d)
def Vd(a b:D):Bool:=(isStr a&&isStr b)||(okD a&&okD b)
theorem Qv{K:PySem.W.Frag}{Z:ZS}{io:Nat->Addr}{S:Sto}{H:Hp}{w:W}{v:V}{x:D}(hr:HRel K Z io S H)(r:WRel K Z io S H w v)(e:dataOf S w=some x):Dp K H v (toP x):=by
 cases r with
 |d r=>cases e;exact zkO r
 |ref hn=>
  unfold dataOf at e;dsimp only at e;split at e
  ·rename_i ys q;cases e;obtain⟨vs,h1,h2⟩:=hr.cell _ _ q;exact .lst (SqL.of h1) (JD h2)
  ·cases e
 |fz h q=>cases e;exact .lst h.sq (JD q)
 |exn _ _=>cases e
 |fk _ _ _=>cases e
 | @tl _ _ pre post _ _ hn h q1 q2=>
   unfold dataOf at e;dsimp only at e;split at e
   ·rename_i ys q;cases e;obtain⟨vs,h1,h2⟩:=hr.cell _ _ q;refine .tup h ?_;rw [zc1];show DpAll K H _ (Ji pre++(.list (Ji ys)::Ji post));exact zbr (JD q1) (.cons (.lst (SqL.of h1) (JD h2)) (JD q2))
   ·cases e
def Zy(i j:Int):Bool:=decide (i.natAbs<2^64)||decide (j.natAbs<2^64)||(decide (i.natAbs.log2<2^18)&&decide (j.natAbs.log2<2^18))
def Vt(j:Int):Bool:=decide (0<j)&&decide (j.natAbs.log2<9000)
def opD(op:Operator)(x y:W)(S:Sto):Res W:=
 match op,x,y with
 | .Add,.d (.int i),.d (.int j)=>.ok (.d (.int (i+j))) S
 | .Sub,.d (.int i),.d (.int j)=>.ok (.d (.int (i-j))) S
 | .Mult,.d (.int i),.d (.int j)=>if Zy i j=true then .ok (.d (.int (i*j))) S else .bad
 | .FloorDiv,.d (.int i),.d (.int j)=>if Vt j=true then .ok (.d (.int (i/j))) S else .bad
 | .Mod,.d (.int i),.d (.int j)=>if 0<j then .ok (.d (.int (i%j))) S else .bad
 | .Pow,.d (.int i),.d (.int j)=>if 0<=j/\j<=1000000/\i.natAbs<2^64 then .ok (.d (.int (i^j.toNat))) S else .bad
 | .Add,.d (.str i),.d (.str j)=>if i.length+j.length<=sizeLine then .ok (.d (.str (i++j))) S else .bad
 | .Add,.d (.tup xs),.d (.tup ys)=>if (!xs.isEmpty&&decide (xs.length+ys.length<=sizeLine))=true then .ok (.d (.tup (xs++ys))) S else .bad
 | .Add,x,y=>(match zbX S x,zbX S y with
   |some xs,some ys=>if xs.length+ys.length<=sizeLine then .ok (.d (.lst (xs++ys))) S else .bad
   |_,_=>.bad)
 | .Mult,x,.d (.int k)=>(match zbX S x with
   |some xs=>if (decide (0<=k)&&decide (k<2^63)&&decide (xs.length*k.toNat<=sizeLine))=true then .ok (.d (.lst (List.replicate k.toNat xs).flatten)) S else .bad
   |none=>.bad)
 |_,_,_=>.bad
theorem zfr{i:Int}(h:i.natAbs.log2<2^18):Builtin.Int.intBits i<=2^20:=by
 unfold Builtin.Int.intBits;split
 ·exact yx _
 ·omega
theorem zim{i j:Int}(h:Zy i j=true):IntMulOk i j:=by
 unfold Zy at h;simp only [Y0,lG,decide_eq_true_eq] at h;rcases h with(h|h)|⟨h1,h2⟩
 ·exact .of_left (intBits_le_64 (by omega) (by omega))
 ·exact .of_right (intBits_le_64 (by omega) (by omega))
 ·exact .of_bits (zfr h1) (zfr h2)
section
variable {X:Cx} {Z:ZS} {io:Nat->Addr} {S:Sto} {H:Hp} {σ:St}
theorem zkm:OpR X (binaryOp .Mult) (rI (λi j=>Zy i j=true) λi j=>.int (i*j)):=opI λ_ _ _ _ _ _ _ hc q=>mul_int q (zim hc)
theorem zhS{j:Int}(h:Vt j=true):0<j/\j.natAbs.log2<9000:=by unfold Vt at h;simpa using h
theorem zhr:OpR X (binaryOp .FloorDiv) (rI (λ_ j=>Vt j=true) λi j=>.int (i/j)):=by intro pins s σ H x y v u Q I rx ry h;obtain⟨i,j,rfl,rfl,hc,q⟩:=h;obtain⟨t,rfl⟩:=rx;obtain⟨t',rfl⟩:=ry;obtain⟨h1,h2⟩:=zhS hc;refine floordiv_int (by omega) ?_ (.inl (PyProof.noPylong_of_log2 h2));have e:i.fdiv j=i/j:=Int.fdiv_eq_ediv_of_nonneg _ (by omega);rw [e];exact⟨.int (i/j),H,I.tok _,⟨_,rfl⟩,q⟩
theorem zbR{K:PySem.W.Frag}{H:Hp}{na:Addr->Prop}{ds:List D}{vs:List V}(q:DRels K H na ds vs):∀n:Nat,DRels K H na (List.replicate n ds).flatten (List.replicate n vs).flatten
 |0=>.nil
 |n+1=>by rw [yQ,yQ,Lc,Lc];exact q.append (zbR q n)
theorem zk4{op:Operator}{x y:W}{vx vy:V}{Q:VK}(hr:HRel X.K Z io S H)(rx:WRel X.K Z io S H x vx)(ry:WRel X.K Z io S H y vy)(p:qH X Z (RW X Z) io S H σ (opD op x y S) Q):wO X (binaryOp op) vx vy H Q:=by
 have ii:∀{i j:Int},WRel X.K Z io S H (.d (.int i)) vx->WRel X.K Z io S H (.d (.int j)) vy->vx= .int i/\vy= .int j:=λa b=>by cases a with|d a=>cases a;cases b with|d b=>cases b;exact⟨rfl,rfl⟩
 unfold opD at p;split at p
 ·obtain⟨rfl,rfl⟩:=ii rx ry;exact OPw zlw ⟨_,_,rfl,rfl,p.ok hr (.d (.int _))⟩
 ·obtain⟨rfl,rfl⟩:=ii rx ry;exact OPw zkI ⟨_,_,rfl,rfl,p.ok hr (.d (.int _))⟩
 ·obtain⟨rfl,rfl⟩:=ii rx ry;split at p
  ·rename_i hm;exact OPw zkm ⟨_,_,rfl,rfl,hm,p.ok hr (.d (.int _))⟩
  ·exact p.elim
 ·obtain⟨rfl,rfl⟩:=ii rx ry;split at p
  ·rename_i hm;exact OPw zhr ⟨_,_,rfl,rfl,hm,p.ok hr (.d (.int _))⟩
  ·exact p.elim
 ·obtain⟨rfl,rfl⟩:=ii rx ry;split at p
  ·rename_i hm;exact OPw zlS ⟨_,_,rfl,rfl,hm,p.ok hr (.d (.int _))⟩
  ·exact p.elim
 ·obtain⟨rfl,rfl⟩:=ii rx ry;split at p
  ·rename_i hm;exact OPw zlF ⟨_,_,rfl,rfl,hm,p.ok hr (.d (.int _))⟩
  ·exact p.elim
 ·split at p
  ·rename_i hm;cases rx with
   |d rx=>
    cases rx;cases ry with
    |d ry=>
     cases ry;exact OPw zeb ⟨_,_,rfl,rfl,hm,p.ok hr (.d (.str _))⟩
  ·exact p.elim
 ·split at p
  ·rename_i hm;rw [lG,decide_eq_true_eq] at hm;cases rx with
   |d rx=>
    cases rx with
    |tup h1 q1=>
     cases ry with
     |d ry=>
      cases ry with
      |tup h2 q2=>
       refine OPw zi2 ⟨_,_,_,_,rfl,rfl,h1,h2,?_,by rw [<-q1.length,<-q2.length];exact hm.2,λz=>?_,λz pa hp=>?_⟩
       ·intro z;subst z;cases q1;exact absurd hm.1 (by simp)
       ·subst z;cases q2;rw [yn] at p;exact p.ok hr (.d (.tup h1 q1))
       ·exact kg p hr hp (.d (.tup (.inl (.inl xT)) ((q1.append q2).ext hr (Ext.new hp))))
  ·exact p.elim
 ·split at p
  ·rename_i xs ys e1 e2;split at p
   ·rename_i hz;obtain⟨a,vs,rfl,h1,q1⟩:=zcb hr rx e1;obtain⟨b,us,rfl,h2,q2⟩:=zcb hr ry e2;exact OPw zlI ⟨a,b,vs,us,rfl,rfl,h1,h2,by rw [<-q1.length,<-q2.length];exact hz,λpa hp=>kg p hr hp (Z9 hr (q1.append q2) hp)⟩
   ·exact p.elim
  ·exact p.elim
 ·split at p
  ·rename_i xs e1;split at p
   ·rename_i hz;rw [lG,lG,decide_eq_true_eq,decide_eq_true_eq,decide_eq_true_eq] at hz;obtain⟨a,vs,rfl,h1,q1⟩:=zcb hr rx e1;cases ry with
    |d ry=>
     cases ry;exact OPw zlo ⟨a,_,vs,rfl,rfl,h1,by omega,hz.1.2,by rw [<-q1.length];exact hz.2,λpa hp=>kg p hr hp (Z9 hr (zbR q1 _) hp)⟩
   ·exact p.elim
  ·exact p.elim
 ·exact p.elim
end
def zki:D->Bool
 | .non=>true
 |_=>false
def zok:D->Option (List D)
 | .lst xs=>some xs
 | .tup xs=>some xs
 |_=>none
def keyOf:D->Option Key
 | .int i=>some (.inl i)
 | .str x=>some (.inr x)
 |_=>none
def valAt{κ:Type} [DecidableEq κ](kvs:List (κ×D))(k:κ):Option D:=(kvs.find? λkv=>decide (kv.1=k)).map (·.2)
def zj0(S:Sto)(x y:W):Option (Option D):=match x,y with
 | .d a,.ref n=>(match S[n]?,keyOf a with|some (.dk kvs),some k=>some (valAt kvs k)|_,_=>none)
 | .d a,.fk _ (.k kvs)=>(match keyOf a with|some k=>some (valAt kvs k)|_=>none)
 |_,_=>none
def inD(neg:Bool)(x y:W)(S:Sto):Res W:=match zj0 S x y with
 |some o=>.ok (.d (.bl (if neg=true then !o.isSome else o.isSome))) S
 |none=>(match dataOf S x,dataOf S y with
  |some a,some c=>(match zok c with
   |some bs=>if (okD a&&okD c)=true then .ok (.d (.bl (if neg=true then !bs.any (λb=>peq b a) else bs.any (λb=>peq b a)))) S else .bad
   |none=>.bad)
  |_,_=>.bad)
def Vj(op:CmpOp)(x y:W)(S:Sto):Res W:=
 match op,x,y with
 | .Lt,.d (.int i),.d (.int j)=>.ok (.d (.bl (decide (i<j)))) S
 | .LtE,.d (.int i),.d (.int j)=>.ok (.d (.bl (decide (i<=j)))) S
 | .Gt,.d (.int i),.d (.int j)=>.ok (.d (.bl (decide (j<i)))) S
 | .GtE,.d (.int i),.d (.int j)=>.ok (.d (.bl (decide (j<=i)))) S
 | .Lt,.d (.str i),.d (.str j)=>.ok (.d (.bl (decide (i.cps.toList<j.cps.toList)))) S
 | .LtE,.d (.str i),.d (.str j)=>.ok (.d (.bl (!decide (j.cps.toList<i.cps.toList)))) S
 | .Gt,.d (.str i),.d (.str j)=>.ok (.d (.bl (decide (j.cps.toList<i.cps.toList)))) S
 | .GtE,.d (.str i),.d (.str j)=>.ok (.d (.bl (!decide (i.cps.toList<j.cps.toList)))) S
 | .Eq,x,y=>(match dataOf S x,dataOf S y with
   |some a,some b=>if Vd a b=true then .ok (.d (.bl (peq a b))) S else .bad
   |_,_=>.bad)
 | .NotEq,x,y=>(match dataOf S x,dataOf S y with
   |some a,some b=>if Vd a b=true then .ok (.d (.bl (!peq a b))) S else .bad
   |_,_=>.bad)
 | .Is,.d x,.d .non=>.ok (.d (.bl (zki x))) S
 | .IsNot,.d x,.d .non=>.ok (.d (.bl (!zki x))) S
 | .In,.d (.str x),.d (.str z)=>(match x.cps.toList with| [c]=>.ok (.d (.bl (decide (c∈z.cps.toList)))) S|_=>.bad)
 | .NotIn,.d (.str x),.d (.str z)=>(match x.cps.toList with| [c]=>.ok (.d (.bl (!decide (c∈z.cps.toList)))) S|_=>.bad)
 | .In,x,y=>inD false x y S
 | .NotIn,x,y=>inD true x y S
 |_,_,_=>.bad
structure Cok (X:Cx):Prop where
 calm:X.calm=true
 un:X.A.units+64<cLine
 nd:X.N.Nodup
 hp:PassesOwn (model X.prog X.w) X.A X.env X.xe
section
variable {X:Cx} {Z:ZS} {io:Nat->Addr} {S:Sto} {H:Hp} {σ:St}
theorem x9{x:Str}{v:V}(r:WRel X.K Z io S H (.d (.str x)) v):v= .str x:=by cases r with|d r=>cases r;rfl
theorem jR{x:Int}{v:V}(r:WRel X.K Z io S H (.d (.int x)) v):v= .int x:=by cases r with|d r=>cases r;rfl
theorem zbk{x:Bool}{v:V}(r:WRel X.K Z io S H (.d (.bl x)) v):v= .bl x:=by cases r with|d r=>cases r;rfl
theorem ziJ{v:V}(r:WRel X.K Z io S H (.d .non) v):v= .non:=by cases r with|d r=>cases r;rfl
theorem zfE{x:D}{v:V}(r:WRel X.K Z io S H (.d x) v):decide (v=V.non)=zki x:=by
 cases r with
 |d r=>cases r <;> first|rfl|(exact decide_eq_false (λz=>nomatch z))
theorem sign_of{x:Str}{c:Nat}(h:x.cps.toList= [c]):x=⟨#[c]⟩:=by obtain⟨⟨l⟩⟩:=x;simp only at h;rw [h]
theorem znK{x y:W}{vx vy:V}{Q:VK}{a b:D}(c:Cok X)(hr:HRel X.K Z io S H)(rx:WRel X.K Z io S H x vx)(ry:WRel X.K Z io S H y vy)(ea:dataOf S x=some a)(eb:dataOf S y=some b)(hk:Vd a b=true)(q:Q (.bl (peq a b)) H):
 wO X (compareOp .Eq) vx vy H Q:=by
 unfold Vd at hk;by_cases hs:(isStr a&&isStr b)=true
 ·have h1:∃s,a= .str s:=by cases a <;> simp_all [isStr]
  have h2:∃s,b= .str s:=by cases b <;> simp_all [isStr]
  obtain⟨s1,rfl⟩:=h1;obtain⟨s2,rfl⟩:=h2;have e1:x= .d (.str s1):=by
   cases x with
   |d z=>cases ea;rfl
   |ref n=>unfold dataOf at ea;dsimp only at ea;split at ea <;> cases ea
   |fz z=>cases ea
   |exn z=>cases ea
   |fk z u=>cases ea
   |tl z u y=>unfold dataOf at ea;dsimp only at ea;split at ea <;> cases ea
  have e2:y= .d (.str s2):=by
   cases y with
   |d z=>cases eb;rfl
   |ref n=>unfold dataOf at eb;dsimp only at eb;split at eb <;> cases eb
   |fz z=>cases eb
   |exn z=>cases eb
   |fk z u=>cases eb
   |tl z u y=>unfold dataOf at eb;dsimp only at eb;split at eb <;> cases eb
  subst e1;subst e2;obtain rfl:=x9 rx;obtain rfl:=x9 ry;refine OPw zmP ⟨rfl,?_⟩;rw [zaq];exact q
 ·have h2:(okD a&&okD b)=true:=by
   cases h:(isStr a&&isStr b) with
   |true=>exact absurd h hs
   |false=>rw [h] at hk;simpa using hk
  rw [lG] at h2;exact OPw (zk1 c.un) ⟨toP a,toP b,Qv hr rx ea,Qv hr ry eb,h2.1,h2.2,q⟩
theorem znc{x y:W}{vx vy:V}{Q:VK}{a b:D}(c:Cok X)(hr:HRel X.K Z io S H)(rx:WRel X.K Z io S H x vx)(ry:WRel X.K Z io S H y vy)(ea:dataOf S x=some a)(eb:dataOf S y=some b)(hk:Vd a b=true)(q:Q (.bl (!peq a b)) H):
 wO X (compareOp .NotEq) vx vy H Q:=by
 unfold Vd at hk;by_cases hs:(isStr a&&isStr b)=true
 ·have h1:∃s,a= .str s:=by cases a <;> simp_all [isStr]
  have h2:∃s,b= .str s:=by cases b <;> simp_all [isStr]
  obtain⟨s1,rfl⟩:=h1;obtain⟨s2,rfl⟩:=h2;have e1:x= .d (.str s1):=by
   cases x with
   |d z=>cases ea;rfl
   |ref n=>unfold dataOf at ea;dsimp only at ea;split at ea <;> cases ea
   |fz z=>cases ea
   |exn z=>cases ea
   |fk z u=>cases ea
   |tl z u y=>unfold dataOf at ea;dsimp only at ea;split at ea <;> cases ea
  have e2:y= .d (.str s2):=by
   cases y with
   |d z=>cases eb;rfl
   |ref n=>unfold dataOf at eb;dsimp only at eb;split at eb <;> cases eb
   |fz z=>cases eb
   |exn z=>cases eb
   |fk z u=>cases eb
   |tl z u y=>unfold dataOf at eb;dsimp only at eb;split at eb <;> cases eb
  subst e1;subst e2;obtain rfl:=x9 rx;obtain rfl:=x9 ry;refine OPw zm9 ⟨rfl,?_⟩;rw [zaq];exact q
 ·have h2:(okD a&&okD b)=true:=by
   cases h:(isStr a&&isStr b) with
   |true=>exact absurd h hs
   |false=>rw [h] at hk;simpa using hk
  rw [lG] at h2;exact OPw (zl8 c.un) ⟨toP a,toP b,Qv hr rx ea,Qv hr ry eb,h2.1,h2.2,q⟩
theorem zcZ(a:D):∀bs:List D,(Ji bs).any (λy=>PyData.eqv y (toP a))=bs.any λb=>peq b a
 | []=>rfl
 |b::bs=>by unfold Ji;rw [Lu,Lu,zcZ a bs];rfl
theorem zf4{A:Around}{xs:List PyData}{d:PyData}{e:PyData}(he:e= .list xs\/e= .tuple xs)(hs:SeqAt.shaped e=true)(hu:A.units+64<cLine):PyData.canLayAll0 xs=true/\A.units+1+min (PyData.depthAll xs) d.depth<cLine:=by
 have h1:=yH hs;have h2:=SeqAt.depth_of_shaped hs;have h3:min (PyData.depthAll xs) d.depth<=PyData.depthAll xs:=Nat.min_le_left _ _;rcases he with rfl|rfl
 ·simp only [PyData.canLay0,PyData.depth] at h1 h2;exact⟨h1,by omega⟩
 ·simp only [PyData.canLay0,PyData.depth] at h1 h2;exact⟨h1,by omega⟩
theorem zld(hu:X.A.units+64<cLine):OpR X (compareOp .In) (λx y H Q=>∃d e xs,Dp X.K H x d/\Dp X.K H y e/\SeqAt.shaped d=true/\SeqAt.shaped e=true/\(e= .list xs\/e= .tuple xs)/\Q (.bl (xs.any λz=>PyData.eqv z d)) H):=by
 intro pins s σ H x y v u Q I rx ry h;obtain⟨d,e,xs,hd,he,sd,se,ex,q⟩:=h;obtain⟨as,r1⟩:=Dp.reads I d x v hd rx;obtain⟨bs,r2⟩:=Dp.reads I e y u he ry;obtain⟨c1,c2⟩:=zf4 (d:=d) ex se hu;rcases ex with rfl|rfl
 ·exact SeqAt.in_list_reads r2 r1 c1 (yH sd) c2 ⟨.bl _,H,I,rfl,q⟩
 ·exact SeqAt.in_tuple_reads r2 r1 c1 (yH sd) c2 ⟨.bl _,H,I,rfl,q⟩
theorem zgl(hu:X.A.units+64<cLine):OpR X (compareOp .NotIn) (λx y H Q=>∃d e xs,Dp X.K H x d/\Dp X.K H y e/\SeqAt.shaped d=true/\SeqAt.shaped e=true/\(e= .list xs\/e= .tuple xs)/\Q (.bl (!xs.any λz=>PyData.eqv z d)) H):=by
 intro pins s σ H x y v u Q I rx ry h;obtain⟨d,e,xs,hd,he,sd,se,ex,q⟩:=h;obtain⟨as,r1⟩:=Dp.reads I d x v hd rx;obtain⟨bs,r2⟩:=Dp.reads I e y u he ry;obtain⟨c1,c2⟩:=zf4 (d:=d) ex se hu;rcases ex with rfl|rfl
 ·exact SeqAt.notIn_list_reads r2 r1 c1 (yH sd) c2 ⟨.bl _,H,I,rfl,q⟩
 ·exact SeqAt.notIn_tuple_reads r2 r1 c1 (yH sd) c2 ⟨.bl _,H,I,rfl,q⟩
theorem KU{κ:Type} [DecidableEq κ]{K:PySem.W.Frag}{H:Hp}{na:Addr->Prop}{k:κ}:∀{kvs:List (κ×D)} {vs:List V},DRels K H na (kvs.map (·.2)) vs->
 (valAt kvs k=none->zc3 ((kvs.map (·.1)).zip vs) k=none)/\∀d,valAt kvs k=some d->∃v,zc3 ((kvs.map (·.1)).zip vs) k=some v/\DRel K H na d v
 | [],_,.nil=>⟨λ_=>rfl,λd z=>nomatch z⟩
 |(x,d)::r,_,.cons h t=>by
  obtain⟨a,b⟩:=KU (k:=k) t;rw [lU,List.zip_cons_cons];by_cases e:x=k
  ·refine⟨λz=>?_,λd' z=>?_⟩
   ·simp [valAt,e] at z
   ·simp [valAt,e] at z;subst z;exact⟨_,J2 e,h⟩
  ·have e2:valAt ((x,d)::r) k=valAt r k:=by simp [valAt,e]
   rw [e2,JY (p:=(x,_)) e];exact⟨a,b⟩
theorem zlv{a:D}{k:Key}{v:V}(r:WRel X.K Z io S H (.d a) v)(e:keyOf a=some k):v=kV k:=by
 cases r with
 |d r=>cases a with
  |int i=>cases e;cases r;rfl
  |str i=>cases e;cases r;rfl
  |non=>cases e
  |bl _=>cases e
  |tup _=>cases e
  |lst _=>cases e
theorem zjH{x y:W}{vx vy:V}{o:Option D}(hr:HRel X.K Z io S H)(rx:WRel X.K Z io S H x vx)(ry:WRel X.K Z io S H y vy)(e:zj0 S x y=some o):
 ∃a ov,vy= .ref a/\zik H a vx ov/\ov.isSome=o.isSome/\∀d,o=some d->∃v,ov=some v/\WRel X.K Z io S H (.d d) v:=by
 unfold zj0 at e;split at e
 ·rename_i a n;split at e
  ·rename_i kvs k e1 e2;cases e;obtain⟨vs,h1,q⟩:=hr.cells n _ e1;obtain⟨z1,z2⟩:=KU (k:=k) q;cases ry with
   |ref hn=>
    refine⟨_,_,rfl,.inl ⟨_,k,.inl h1,zlv rx e2,rfl⟩,?_,λd ed=>?_⟩
    ·cases c:valAt kvs k with
     |none=>rw [z1 c];rfl
     |some d=>obtain⟨v,e3,_⟩:=z2 d c;rw [e3];rfl
    ·obtain⟨v,e3,e4⟩:=z2 d ed;exact⟨v,e3,.d e4⟩
  ·cases e
 ·rename_i a n kvs;split at e
  ·rename_i k e2;cases e;cases ry with
   |fk hn h1 q=>
    obtain⟨z1,z2⟩:=KU (k:=k) q;refine⟨_,_,rfl,.inl ⟨_,k,.inr ⟨_,h1⟩,zlv rx e2,rfl⟩,?_,λd ed=>?_⟩
    ·cases c:valAt kvs k with
     |none=>rw [z1 c];rfl
     |some d=>obtain⟨v,e3,_⟩:=z2 d c;rw [e3];rfl
    ·obtain⟨v,e3,e4⟩:=z2 d ed;exact⟨v,e3,.d e4⟩
  ·cases e
 ·cases e
theorem zlm:X.A.units+1<cLine->OpR X (compareOp .In) (λx y H Q=>∃a o,y= .ref a/\zik H a x o/\Q (.bl o.isSome) H):=λhu=>by intro pins s σ H x y v u Q I rx ry h;obtain⟨a,o,rfl,g,q⟩:=h;cases ry;exact zor hu I g rx λs' I'=>⟨.bl _,H,I',rfl,q⟩
theorem zgq:X.A.units+1<cLine->OpR X (compareOp .NotIn) (λx y H Q=>∃a o,y= .ref a/\zik H a x o/\Q (.bl (!o.isSome)) H):=λhu=>by intro pins s σ H x y v u Q I rx ry h;obtain⟨a,o,rfl,g,q⟩:=h;cases ry;exact zkc hu I g rx λs' I'=>⟨.bl _,H,I',rfl,q⟩
theorem ziW{neg:Bool}{x y:W}{vx vy:V}{Q:VK}(c:Cok X)(hr:HRel X.K Z io S H)(rx:WRel X.K Z io S H x vx)(ry:WRel X.K Z io S H y vy)(p:qH X Z (RW X Z) io S H σ (inD neg x y S) Q):wO X (compareOp (if neg=true then .NotIn else .In)) vx vy H Q:=by
 have hu:=c.un;unfold inD at p;split at p
 ·rename_i o e;obtain⟨a,ov,rfl,g,es,_⟩:=zjH hr rx ry e;rw [<-es] at p;cases neg with
  |true=>exact OPw (zgq (by omega)) ⟨a,ov,rfl,g,p.ok hr (.d (.bl _))⟩
  |false=>exact OPw (zlm (by omega)) ⟨a,ov,rfl,g,p.ok hr (.d (.bl _))⟩
 ·split at p
  ·rename_i a c' ea ec;split at p
   ·rename_i bs es;split at p
    ·rename_i hk;rw [lG] at hk;have ex:toP c'= .list (Ji bs)\/toP c'= .tuple (Ji bs):=by
      cases c' with
      |lst xs=>cases es;exact .inl rfl
      |tup xs=>cases es;exact .inr rfl
      |non=>cases es
      |bl _=>cases es
      |int _=>cases es
      |str _=>cases es
     rw [<-zcZ] at p;cases neg with
     |true=>exact OPw (zgl hu) ⟨toP a,toP c',Ji bs,Qv hr rx ea,Qv hr ry ec,hk.1,hk.2,ex,p.ok hr (.d (.bl _))⟩
     |false=>exact OPw (zld hu) ⟨toP a,toP c',Ji bs,Qv hr rx ea,Qv hr ry ec,hk.1,hk.2,ex,p.ok hr (.d (.bl _))⟩
    ·exact p.elim
   ·exact p.elim
  ·exact p.elim
theorem Jo{op:CmpOp}{x y:W}{vx vy:V}{Q:VK}(c:Cok X)(hr:HRel X.K Z io S H)(rx:WRel X.K Z io S H x vx)(ry:WRel X.K Z io S H y vy)(p:qH X Z (RW X Z) io S H σ (Vj op x y S) Q):wO X (compareOp op) vx vy H Q:=by
 unfold Vj at p;split at p
 ·obtain rfl:=jR rx;obtain rfl:=jR ry;exact OPw znp ⟨_,_,rfl,rfl,p.ok hr (.d (.bl _))⟩
 ·obtain rfl:=jR rx;obtain rfl:=jR ry;exact OPw znr ⟨_,_,rfl,rfl,p.ok hr (.d (.bl _))⟩
 ·obtain rfl:=jR rx;obtain rfl:=jR ry;exact OPw znn ⟨_,_,rfl,rfl,p.ok hr (.d (.bl _))⟩
 ·obtain rfl:=jR rx;obtain rfl:=jR ry;exact OPw znd ⟨_,_,rfl,rfl,p.ok hr (.d (.bl _))⟩
 ·obtain rfl:=x9 rx;obtain rfl:=x9 ry;exact OPw zfq ⟨_,_,rfl,rfl,p.ok hr (.d (.bl _))⟩
 ·obtain rfl:=x9 rx;obtain rfl:=x9 ry;exact OPw zfv ⟨_,_,rfl,rfl,p.ok hr (.d (.bl _))⟩
 ·obtain rfl:=x9 rx;obtain rfl:=x9 ry;exact OPw zfO ⟨_,_,rfl,rfl,p.ok hr (.d (.bl _))⟩
 ·obtain rfl:=x9 rx;obtain rfl:=x9 ry;exact OPw zfa ⟨_,_,rfl,rfl,p.ok hr (.d (.bl _))⟩
 ·split at p
  ·rename_i a b ea eb;split at p
   ·rename_i hk;exact znK c hr rx ry ea eb hk (p.ok hr (.d (.bl _)))
   ·exact p.elim
  ·exact p.elim
 ·split at p
  ·rename_i a b ea eb;split at p
   ·rename_i hk;exact znc c hr rx ry ea eb hk (p.ok hr (.d (.bl _)))
   ·exact p.elim
  ·exact p.elim
 ·obtain rfl:=ziJ ry;refine OPw zlq ⟨rfl,?_⟩;rw [zfE rx];exact p.ok hr (.d (.bl _))
 ·obtain rfl:=ziJ ry;refine OPw zj3 ⟨rfl,?_⟩;rw [zfE rx];exact p.ok hr (.d (.bl _))
 ·split at p
  ·rename_i cc e;obtain rfl:=x9 rx;obtain rfl:=x9 ry;exact OPw zdT ⟨cc,_,by rw [sign_of e],rfl,p.ok hr (.d (.bl _))⟩
  ·exact p.elim
 ·split at p
  ·rename_i cc e;obtain rfl:=x9 rx;obtain rfl:=x9 ry;exact OPw zaI ⟨cc,_,by rw [sign_of e],rfl,p.ok hr (.d (.bl _))⟩
  ·exact p.elim
 ·exact ziW (neg:=false) c hr rx ry p
 ·exact ziW (neg:=true) c hr rx ry p
 ·exact p.elim
end
def zz(op:Operator)(a b:M):M:=λt S=>(a t S).bind λx S1=>(b t S1).bind λy S2=>opD op x y S2
def zK(op:CmpOp)(a b:M):M:=λt S=>(a t S).bind λx S1=>(b t S1).bind λy S2=>Vj op x y S2
def zo3(b0:Bool)(neg:Bool)(a:M):M:=λt S=>(a t S).bind λx S1=>match x with| .d (.bl b)=>.ok (.d (.bl ((b==b0) !=neg))) S1|_=>.bad
def asB(w:W)(S:Sto):Res Bool:=match w with| .d (.bl b)=>.ok b S|_=>.bad
def zt(op op':CmpOp)(a b c:M):M:=λt S=>(a t S).bind λx S1=>(b t S1).bind λy S2=>(Vj op x y S2).bind λz S3=>(asB z S3).bind λk S4=>if k=true then(c t S4).bind λu S5=>Vj op' y u S5 else .ok (.d (.bl false)) S4
def dT(a:M):MB:=λt S=>(a t S).bind asB
def xw(a b:M):M:=λt S=>(a t S).bind λx S1=>(asB x S1).bind λk S2=>if k=true then b t S2 else .ok (.d (.bl false)) S2
def dOr(a b:M):M:=λt S=>(a t S).bind λx S1=>(asB x S1).bind λk S2=>if k=true then .ok (.d (.bl true)) S2 else b t S2
def xX(a:M):M:=λt S=>(a t S).bind λx S1=>(asB x S1).bind λk S2=>.ok (.d (.bl (!k))) S2
def zL(a b:MB):MB:=λt S=>(a t S).bind λk S1=>if k=true then b t S1 else .ok false S1
def qI(a b:MB):MB:=λt S=>(a t S).bind λk S1=>if k=true then .ok true S1 else b t S1
def zy(a:MB):MB:=λt S=>(a t S).bind λk S1=>.ok (!k) S1
def dIf(c:MB)(a b:M):M:=λt S=>(c t S).bind λk S1=>if k=true then a t S1 else b t S1
def zo5(w:W)(S:Sto):Res Bool:=
 match w with
 | .d .non=>.ok false S
 | .d (.bl b)=>.ok b S
 | .d (.int i)=>.ok (i !=0) S
 | .d (.str x)=>if x.length<=sizeLine then .ok (x.length !=0) S else .bad
 | .d (.tup xs)=>.ok (!xs.isEmpty) S
 |w=>(match zF S w with|some xs=>.ok (!xs.isEmpty) S|none=>.bad)
def zo:MAs:=λ_ S=>.ok [] S
def za(a:M)(as:MAs):MAs:=λt S=>(a t S).bind λx S1=>(as t S1).bind λxs S2=>.ok (x::xs) S2
def xm:List W->Option (List D)
 | []=>some []
 | .d x::r=>(xm r).map (x:: ·)
 |_::_=>none
def qz(as:MAs):M:=λt S=>(as t S).bind λws S1=>match xm ws with|some ds=>if ds.length<=sizeLine then .ok (.d (.tup ds)) S1 else .bad|none=>.bad
def qh(as:MAs):M:=λt S=>(as t S).bind λws S1=>match xm ws with|some ds=>if ds.length<=sizeLine then .ok (.d (.lst ds)) S1 else .bad|none=>.bad
def zT(as:MAs):M:=λt S=>(as t S).bind λws S1=>match xm ws with|some ds=>if ds.length<=sizeLine then .ok (.ref S1.length) (S1++ [.lst ds]) else .bad|none=>.bad
def ixD(x y:W)(S:Sto):Res W:=
 match x,y with
 | .d (.tup xs),.d (.int i)=>(match atI xs i with|some v=>.ok (.d v) S|none=>.bad)
 | .d (.str z),.d (.int i)=>if z.length<=sizeLine then(match atI z.cps.toList i with|some c=>.ok (.d (.str ⟨#[c]⟩)) S|none=>.bad) else .bad
 |x,.d (.int i)=>(match zF S x with|some xs=>(match atI xs i with|some v=>.ok (.d v) S|none=>.bad)|none=>.bad)
 |_,_=>.bad
def zH(a b:M):M:=λt S=>(a t S).bind λx S1=>(b t S1).bind λy S2=>ixD x y S2
section
variable {X:Cx} {a b c e:Expr} {es rest:List Expr} {ma mb mc:M} {mas:MAs} {ta tb:MB} {pos:Pos}
theorem zv{op:Operator}(ha:ME X a ma)(hb:ME X b mb):ME X (.BinOp a op b pos) (zz op ma mb):=by refine⟨λZ io S H t σ Q hr sr p=>PEw (zmY zkA kN kN) ?_⟩;refine ha.run Z io S H t σ _ hr sr (qH.bind p λio1 S1 H1 w v x1 hr1 rw1 p1=>?_);refine hb.run Z io1 S1 H1 t σ _ hr1 (sr.ext hr x1) (qH.bind p1 λio2 S2 H2 w2 v2 x2 hr2 rw2 p2=>?_);exact zk4 hr2 (rw1.ext hr1 x2) rw2 p2
theorem JI{op:CmpOp}(k:Cok X)(ha:ME X a ma)(hb:ME X b mb)(hm:behindInMarks op b=false:=by first|exact ziA _|rfl):ME X (.Compare a [op] [b] pos) (zK op ma mb):=by refine⟨λZ io S H t σ Q hr sr p=>PEw (zkw zkA kN kN hm) ?_⟩;refine ha.run Z io S H t σ _ hr sr (qH.bind p λio1 S1 H1 w v x1 hr1 rw1 p1=>?_);refine hb.run Z io1 S1 H1 t σ _ hr1 (sr.ext hr x1) (qH.bind p1 λio2 S2 H2 w2 v2 x2 hr2 rw2 p2=>?_);exact Jo k hr2 (rw1.ext hr1 x2) rw2 p2
theorem qA{op:CmpOp}(k:Cok X)(ha:ME X a ma)(hb:ME X b mb)(hm:behindInMarks op b=false:=by first|exact ziA _|rfl):MT X (.Compare a [op] [b] pos) (dT (zK op ma mb)):=by
 refine⟨λZ io S H t σ Q hr sr p=>PTw (zj4 zkA kN kN hm) ?_⟩;unfold dT zK at p;rw [bind_assoc] at p;refine ha.run Z io S H t σ _ hr sr (qH.bind p λio1 S1 H1 w v x1 hr1 rw1 p1=>?_);rw [bind_assoc] at p1;refine hb.run Z io1 S1 H1 t σ _ hr1 (sr.ext hr x1) (qH.bind p1 λio2 S2 H2 w2 v2 x2 hr2 rw2 p2=>?_);refine Jo k hr2 (rw1.ext hr1 x2) rw2 (qH.bind p2 λio3 S3 H3 w3 v3 x3 hr3 rw3 p3=>?_);unfold asB at p3;split at p3
 ·obtain rfl:=zbk rw3;exact⟨_,rfl,p3.ok hr3 rfl⟩
 ·exact p3.elim
theorem zam{op op':CmpOp}(k:Cok X)(ha:ME X a ma)(hb:ME X b mb)(hc:ME X c mc)(hm:lastMarks [op,op'] [b,c]=false:=by with_unfolding_all rfl):ME X (.Compare a [op,op'] [b,c] pos) (zt op op' ma mb mc):=by
 refine⟨λZ io S H t σ Q hr sr p=>PEw (zhs zkA zkA kN kN kN hm) ?_⟩;refine ha.run Z io S H t σ _ hr sr (qH.bind p λio1 S1 H1 w v x1 hr1 rw1 p1=>?_);refine hb.run Z io1 S1 H1 t σ _ hr1 (sr.ext hr x1) (qH.bind p1 λio2 S2 H2 w2 v2 x2 hr2 rw2 p2=>?_);refine Jo k hr2 (rw1.ext hr1 x2) rw2 (qH.bind p2 λio3 S3 H3 w3 v3 x3 hr3 rw3 p3=>?_);unfold asB at p3;split at p3
 ·rename_i z;obtain rfl:=zbk rw3;refine⟨z,rfl,?_⟩;cases z with
  |true=>
   rw [if_pos rfl];refine hc.run Z io3 S3 H3 t σ _ hr3 (((sr.ext hr x1).ext hr1 x2).ext hr2 x3) (qH.bind p3 λio4 S4 H4 w4 v4 x4 hr4 rw4 p4=>?_);exact Jo k hr4 ((rw2.ext hr2 x3).ext hr3 x4) rw4 p4
  |false=>rw [if_neg lE];exact qH.ok (w:=W.d (.bl false)) p3 hr3 (.d (.bl false))
 ·exact False.elim p3
theorem zcU{op op':CmpOp}(k:Cok X)(ha:ME X a ma)(hb:ME X b mb)(hc:ME X c mc)(hm:lastMarks [op,op'] [b,c]=false:=by with_unfolding_all rfl):MT X (.Compare a [op,op'] [b,c] pos) (dT (zt op op' ma mb mc)):=by
 refine⟨λZ io S H t σ Q hr sr p=>PTw (zhB zkA zkA kN kN kN hm) ?_⟩;unfold dT zt at p;simp only [bind_assoc] at p;refine ha.run Z io S H t σ _ hr sr (qH.bind p λio1 S1 H1 w v x1 hr1 rw1 p1=>?_);refine hb.run Z io1 S1 H1 t σ _ hr1 (sr.ext hr x1) (qH.bind p1 λio2 S2 H2 w2 v2 x2 hr2 rw2 p2=>?_);refine Jo k hr2 (rw1.ext hr1 x2) rw2 (qH.bind p2 λio3 S3 H3 w3 v3 x3 hr3 rw3 p3=>?_);unfold asB at p3;split at p3
 ·rename_i z;obtain rfl:=zbk rw3;refine⟨z,rfl,?_⟩;cases z with
  |true=>
   rw [if_pos rfl];simp only [zB,if_true,bind_assoc] at p3;refine hc.run Z io3 S3 H3 t σ _ hr3 (((sr.ext hr x1).ext hr1 x2).ext hr2 x3) (qH.bind p3 λio4 S4 H4 w4 v4 x4 hr4 rw4 p4=>?_);refine Jo k hr4 ((rw2.ext hr2 x3).ext hr3 x4) rw4 (qH.bind p4 λio5 S5 H5 w5 v5 x5 hr5 rw5 p5=>?_);split at p5
   ·obtain rfl:=zbk rw5;exact⟨_,rfl,p5.ok hr5 rfl⟩
   ·exact p5.elim
  |false=>rw [if_neg lE];exact⟨false,rfl,qH.ok (w:=false) p3 hr3 rfl⟩
 ·exact False.elim p3
theorem Ki{op:BoolOp}(ha:ME X a ma):ME X (.BoolOp op [a] pos) ma:=⟨λZ io S H t σ Q hr sr p=>PEw (zmo kN) (ha.run Z io S H t σ Q hr sr p)⟩
theorem QC(ha:ME X a ma)(hb:ME X (.BoolOp .And (b::rest) pos) mb):ME X (.BoolOp .And (a::b::rest) pos) (xw ma mb):=by
 refine⟨λZ io S H t σ Q hr sr p=>PEw (zlV kN kN) ?_⟩;refine ha.run Z io S H t σ _ hr sr (qH.bind p λio1 S1 H1 w v x1 hr1 rw1 p1=>?_);unfold asB at p1;split at p1
 ·rename_i k;obtain rfl:=zbk rw1;refine⟨k,rfl,?_⟩;cases k with
  |true=>rw [if_pos rfl];exact hb.run Z io1 S1 H1 t σ _ hr1 (sr.ext hr x1) p1
  |false=>rw [if_neg lE];exact qH.ok (w:=W.d (.bl false)) p1 hr1 (.d (.bl false))
 ·exact False.elim p1
theorem ziQ(ha:ME X a ma):ME X (.UnaryOp .Not a pos) (xX ma):=by
 refine⟨λZ io S H t σ Q hr sr p=>PEw (zlD kN) ?_⟩;refine ha.run Z io S H t σ _ hr sr (qH.bind p λio1 S1 H1 w v x1 hr1 rw1 p1=>?_);unfold asB at p1;split at p1
 ·obtain rfl:=zbk rw1;exact⟨_,rfl,qH.ok (w:=W.d (.bl _)) p1 hr1 (.d (.bl _))⟩
 ·exact False.elim p1
theorem zmg(ha:ME X a ma):ME X (.UnaryOp .USub a pos) (λt S=>(ma t S).bind λx S1=>match x with| .d (.int i)=>.ok (.d (.int (-i))) S1|_=>.bad):=by
 refine⟨λZ io S H t σ Q hr sr p=>PEw (zlu zi0 kN) ?_⟩;refine ha.run Z io S H t σ _ hr sr (qH.bind p λio1 S1 H1 w v x1 hr1 rw1 p1=>?_);split at p1
 ·obtain rfl:=jR rw1;exact⟨_,rfl,p1.ok hr1 (.d (.int _))⟩
 ·exact False.elim p1
theorem zjc{tc:MB}(hc:MT X c tc)(ha:ME X a ma)(hb:ME X b mb):ME X (.IfExp c a b pos) (dIf tc ma mb):=by
 refine⟨λZ io S H t σ Q hr sr p=>PEw (zhN zgU kN kN) ?_⟩;refine hc.run Z io S H t σ _ hr sr (qH.bind p λio1 S1 H1 w v x1 hr1 rw1 p1=>?_);cases rw1;cases w with
 |true=>rw [if_pos rfl];exact ha.run Z io1 S1 H1 t σ _ hr1 (sr.ext hr x1) p1
 |false=>rw [if_neg lE];exact hb.run Z io1 S1 H1 t σ _ hr1 (sr.ext hr x1) p1
theorem Je(ha:MT X a ta):MW X (.BoolOp .And [a] pos) ta:=⟨λZ io S H t σ Q hr sr p=>PWw (pw_and1 zgU) (ha.run Z io S H t σ Q hr sr p)⟩
theorem Zp(ha:MT X a ta):MW X (.BoolOp .Or [a] pos) ta:=⟨λZ io S H t σ Q hr sr p=>PWw (pw_or1 zgU) (ha.run Z io S H t σ Q hr sr p)⟩
theorem K1(ha:MT X a ta)(hb:MW X (.BoolOp .And (b::rest) pos) tb):MW X (.BoolOp .And (a::b::rest) pos) (zL ta tb):=by
 refine⟨λZ io S H t σ Q hr sr p=>PWw (pw_and zgU pw_w) ?_⟩;refine ha.run Z io S H t σ _ hr sr (qH.bind p λio1 S1 H1 w v x1 hr1 rw1 p1=>?_);cases rw1;cases w with
 |true=>rw [if_pos rfl];exact hb.run Z io1 S1 H1 t σ _ hr1 (sr.ext hr x1) p1
 |false=>rw [if_neg lE];exact qH.ok (w:=false) p1 hr1 rfl
theorem Qk(ha:MT X a ta)(hb:MW X (.BoolOp .Or (b::rest) pos) tb):MW X (.BoolOp .Or (a::b::rest) pos) (qI ta tb):=by
 refine⟨λZ io S H t σ Q hr sr p=>PWw (pw_or zgU pw_w) ?_⟩;refine ha.run Z io S H t σ _ hr sr (qH.bind p λio1 S1 H1 w v x1 hr1 rw1 p1=>?_);cases rw1;cases w with
 |true=>rw [if_pos rfl];exact qH.ok (w:=true) p1 hr1 rfl
 |false=>rw [if_neg lE];exact hb.run Z io1 S1 H1 t σ _ hr1 (sr.ext hr x1) p1
theorem MW.mt(h:MW X e ta):MT X e ta:=⟨λZ io S H t σ Q hr sr p pins s I=>h.run Z io S H t σ Q hr sr p _ pins s I⟩
theorem jw(ha:MT X a ta):MT X (.UnaryOp .Not a pos) (zy ta):=by refine⟨λZ io S H t σ Q hr sr p=>PTw (zmm zgU) ?_⟩;refine ha.run Z io S H t σ _ hr sr (qH.bind p λio1 S1 H1 w v x1 hr1 rw1 p1=>?_);cases rw1;exact qH.ok (w:= !w) p1 hr1 rfl
theorem xZ(ha:ME X a ma)(he:∀whole,isTrue a X.env whole=(do let v<-whole;standAt a.pos;holding [v] (truthy v)):=by intro _;rfl):MT X a (dT ma):=by
 refine⟨λZ io S H t σ Q hr sr p=>PTw (zl9 kN he) ?_⟩;refine ha.run Z io S H t σ _ hr sr (qH.bind p λio1 S1 H1 w v x1 hr1 rw1 p1=>?_);unfold asB at p1;split at p1
 ·obtain rfl:=zbk rw1;exact⟨_,rfl,p1.ok hr1 rfl⟩
 ·exact p1.elim
theorem zl:MA X [] zo:=⟨λZ io S H t σ Q hr sr p=>PAw Qj (qH.ok (w:=([]:List W)) (v:=([]:List V)) p hr .nil)⟩
theorem zb(ha:ME X e ma)(hr':MA X es mas)(hs:starEach (e::es) X.env=(false,eval e X.env)::starEach es X.env:=by rfl):MA X (e::es) (za ma mas):=by refine⟨λZ io S H t σ Q hr sr p=>PAw (j3 kN zgE hs) ?_⟩;refine ha.run Z io S H t σ _ hr sr (qH.bind p λio1 S1 H1 w v x1 hr1 rw1 p1=>?_);refine hr'.run Z io1 S1 H1 t σ _ hr1 (sr.ext hr x1) (qH.bind p1 λio2 S2 H2 w2 v2 x2 hr2 rw2 p2=>?_);exact qH.ok (w:=w::w2) p2 hr2 (.cons (rw1.ext hr1 x2) rw2)
theorem Kb{K:PySem.W.Frag}{Z:ZS}{io:Nat->Addr}{S:Sto}{H:Hp}:∀{ws:List W} {vs:List V} {ds:List D},WRels K Z io S H ws vs->xm ws=some ds->DRels K H (NA Z io S) ds vs
 | [],_,_,h,e=>by cases h;cases e;exact .nil
 | .d x::ws,_,ds,h,e=>by
   cases h with
   |cons r t=>
    unfold xm at e;cases q:xm ws with
    |none=>rw [q] at e;cases e
    |some ys=>
     rw [q] at e;cases e;cases r with
     |d r=>exact .cons r (Kb t q)
 | .ref n::ws,_,_,h,e=>by cases e
 | .fz n::ws,_,_,h,e=>by cases e
 | .fk n _::ws,_,_,h,e=>by cases e
 | .tl _ _ _::ws,_,_,h,e=>by cases e
theorem kO{k:Nat}(h:MA X es mas):ME X (.Tuple es k pos) (qz mas):=by
 refine⟨λZ io S H t σ Q hr sr p=>PEw (zk0 zgE) ?_⟩;refine h.run Z io S H t σ _ hr sr (qH.bind p λio1 S1 H1 w v x1 hr1 rw1 p1=>?_);split at p1
 ·rename_i ds e;split at p1
  ·rename_i hz;have q:=Kb rw1 e;exact⟨by rw [<-q.length];exact hz,λpa hp=>kg p1 hr1 hp (KB hr1 q hp)⟩
  ·exact p1.elim
 ·exact p1.elim
theorem xO(h:MA X es mas):ME X (.List es pos) (qh mas):=by
 refine⟨λZ io S H t σ Q hr sr p=>PEw (ziM zgE) ?_⟩;refine h.run Z io S H t σ _ hr sr (qH.bind p λio1 S1 H1 w v x1 hr1 rw1 p1=>?_);split at p1
 ·rename_i ds e;split at p1
  ·rename_i hz;have q:=Kb rw1 e;exact⟨by rw [<-q.length];exact hz,λpa hp=>kg p1 hr1 hp (Z9 hr1 q hp)⟩
  ·exact p1.elim
 ·exact p1.elim
theorem zaP{Z:ZS}{io:Nat->Addr}{S:Sto}{H:Hp}{σ:St}{Q:VK}{ds:List D}{vs:List V}{p:Addr}(po:qH X Z (RW X Z) io S H σ (.ok (.ref S.length) (S++ [.lst ds])) Q)(hr:HRel X.K Z io S H)(q:DRels X.K H (NA Z io S) ds vs)(hp:H p=none):Q (.ref p) (upd H p (.lst vs)):=by refine po (jX io S.length p) _ _ (Ext.cell hp) (hr.cellNew hp q) ?_;have h:=WRel.ref (K:=X.K) (Z:=Z) (io:=jX io S.length p) (S:=S++ [.lst ds]) (H:=upd H p (.lst vs)) (n:=S.length) (by simp);rw [xi] at h;exact h
theorem zcC(h:MA X es mas):ME X (.List es pos) (zT mas):=by
 refine⟨λZ io S H t σ Q hr sr p=>PEw (ziM zgE) ?_⟩;refine h.run Z io S H t σ _ hr sr (qH.bind p λio1 S1 H1 w v x1 hr1 rw1 p1=>?_);split at p1
 ·rename_i ds e;split at p1
  ·rename_i hz;have q:=Kb rw1 e;exact⟨by rw [<-q.length];exact hz,λpa hp=>zaP p1 hr1 q hp⟩
  ·exact p1.elim
 ·exact p1.elim
theorem zgw{K:PySem.W.Frag}{H:Hp}{na:Addr->Prop}{ds:List D}{vs:List V}{i:Int}{d:D}(q:DRels K H na ds vs)(e:atI ds i=some d):∃v,atI vs i=some v/\DRel K H na d v:=by
 unfold atI at e⊢;rw [q.length] at e;cases h:ixN vs.length i with
 |none=>rw [h] at e;cases e
 |some j=>rw [h] at e;exact q.get e
def wI(X:Cx):R2:=λx y H Q=>∀(value slice:Expr) pins s σ v u,Inv X pins σ H s->RelV x v->RelV y u->subscripted slice false v u=operate [v,u] (getItem v u)->wpAny (model X.prog X.w) X.A (subscriptTail value slice v u) (EP X pins σ Q) X.xe s
theorem zmS:IxR X (wI X):=λvalue slice pins s σ _ _ _ v u _ I rx ry h hs=>h value slice pins s σ v u I rx ry hs
theorem IXw{r:R2}{H:Hp}{x y:V}{Q:VK}(h:IxR X r)(q:r x y H Q):wI X x y H Q:=λvalue slice pins s σ v u I rx ry hs=>h value slice pins s σ H x y v u Q I rx ry q hs
theorem zQ(ha:ME X a ma)(hb:ME X b mb)(hs:zfB b:=by intro _ _;rfl):ME X (.Subscript a b pos) (zH ma mb):=by
 refine⟨λZ io S H t σ Q hr sr p=>PEw (znF zmS kN kN hs) ?_⟩;refine ha.run Z io S H t σ _ hr sr (qH.bind p λio1 S1 H1 w v x1 hr1 rw1 p1=>?_);refine hb.run Z io1 S1 H1 t σ _ hr1 (sr.ext hr x1) (qH.bind p1 λio2 S2 H2 w2 v2 x2 hr2 rw2 p2=>?_);have rw1:=rw1.ext hr1 x2;unfold ixD at p2;split at p2
 ·rename_i xs i;split at p2
  ·rename_i d e;obtain rfl:=jR rw2;obtain⟨pa,vs,rfl,h1,q⟩:=Kv rw1 rfl;obtain⟨z,e1,r1⟩:=zgw q e;exact IXw zlj ⟨pa,vs,_,z,rfl,rfl,h1,e1,p2.ok hr2 (.d r1)⟩
  ·exact p2.elim
 ·split at p2
  ·rename_i hz;split at p2
   ·rename_i cc e;obtain rfl:=jR rw2;obtain rfl:=x9 rw1;exact IXw zk3 ⟨_,_,cc,rfl,rfl,hz,e,p2.ok hr2 (.d (.str _))⟩
   ·exact p2.elim
  ·exact p2.elim
 ·split at p2
  ·rename_i xs e0;split at p2
   ·rename_i d e;obtain rfl:=jR rw2;obtain⟨pa,vs,rfl,h1,q⟩:=XN hr2 rw1 e0;obtain⟨z,e1,r1⟩:=zgw q e;exact IXw zja ⟨pa,vs,_,z,rfl,rfl,h1,e1,p2.ok hr2 (.d r1)⟩
   ·exact p2.elim
  ·exact p2.elim
 ·exact p2.elim
end
structure CD (X:Cx) (f:Value) (g:List W->Sto->Res W):Prop where
 run:∀Z io S H σ ws vs Q,HRel X.K Z io S H->WRels X.K Z io S H ws vs->qH X Z (RW X Z) io S H σ (g ws S) Q->wC X f vs H Q
def zh(g:List W->Sto->Res W)(as:MAs):M:=λt S=>(as t S).bind g
section
variable {X:Cx} {x:Str} {p pos:Pos} {a b e:Expr} {es:List Expr} {mas:MAs} {ma mb:M} {ident T:String} {g:List W->Sto->Res W}
theorem z9(hc:CD X (.builtin ident) g)(hg:Gl X x)(hm:X.mg x=none)(hv:bootBuiltins x=some (.builtin ident))(ha:MA X (e::es) mas)(hn:x≠"__name__":=by decide)(hdb:(x==("__debug__":Str))=false:=by decide)
 (he:starEach (e::es) X.env=(false,eval e X.env)::starEach es X.env:=by rfl) (hpl:(backTo pos (starEach es X.env)).any (·.1)=false:=by rfl):ME X (.Call (.Name x p) (e::es) [] pos) (zh g mas):=by
 refine⟨λZ io S H t σ Q hr sr po=>PEw (XH KZ hg hm hv zgE hn hdb he hpl) ?_⟩;exact ha.run Z io S H t σ _ hr sr (qH.bind po λio1 S1 H1 w v x1 hr1 rw1 p1=>hc.run Z io1 S1 H1 σ w v Q hr1 rw1 p1)
theorem qv(hc:CD X (.type T) g)(hg:Gl X x)(hm:X.mg x=none)(hv:bootBuiltins x=some (.type T))(ha:MA X (e::es) mas)(hn:x≠"__name__":=by decide)(hdb:(x==("__debug__":Str))=false:=by decide)
 (he:starEach (e::es) X.env=(false,eval e X.env)::starEach es X.env:=by rfl) (hpl:(backTo pos (starEach es X.env)).any (·.1)=false:=by rfl):ME X (.Call (.Name x p) (e::es) [] pos) (zh g mas):=by
 refine⟨λZ io S H t σ Q hr sr po=>PEw (zbV KZ hg hm hv zgE hn hdb he hpl) ?_⟩;exact ha.run Z io S H t σ _ hr sr (qH.bind po λio1 S1 H1 w v x1 hr1 rw1 p1=>hc.run Z io1 S1 H1 σ w v Q hr1 rw1 p1)
def xM(S:Sto):W->Option Nat
 | .d (.str x)=>if x.length<=sizeLine then some x.length else none
 | .d (.tup xs)=>some xs.length
 |w=>(zF S w).map (·.length)
def qg:List W->Sto->Res W
 | [w],S=>(match xM S w with|some n=>.ok (.d (.int n)) S|none=>.bad)
 |_,_=>.bad
theorem Qt{K:PySem.W.Frag}{Z:ZS}{io:Nat->Addr}{S:Sto}{H:Hp}{w:W}{vs:List V}(r:WRels K Z io S H [w] vs):∃v,vs= [v]/\WRel K Z io S H w v:=by cases r with|cons r t=>cases t;exact⟨_,rfl,r⟩
theorem ziV{K:PySem.W.Frag}{Z:ZS}{io:Nat->Addr}{S:Sto}{H:Hp}{w w':W}{vs:List V}(r:WRels K Z io S H [w,w'] vs):∃v v',vs= [v,v']/\WRel K Z io S H w v/\WRel K Z io S H w' v':=by cases r with|cons r t=>cases t with|cons r' t=>cases t;exact⟨_,_,rfl,r,r'⟩
theorem jY:CD X (.builtin "len") qg:=by
 refine⟨λZ io S H σ ws vs Q hr rs p=>?_⟩;unfold qg at p;split at p
 ·rename_i w;split at p
  ·rename_i n e;obtain⟨v,rfl,r⟩:=Qt rs;have fin:Q (.int n) H:=p.ok hr (.d (.int _));unfold xM at e;split at e
   ·split at e
    ·rename_i hz;cases e;obtain rfl:=x9 r;exact CAw za2 ⟨_,rfl,hz,fin⟩
    ·cases e
   ·cases e;obtain⟨pa,vs,rfl,h1,q⟩:=Kv r rfl;rw [q.length] at fin;exact CAw Jx ⟨pa,vs,rfl,.inr h1,fin⟩
   ·cases q0:zF S w with
    |none=>rw [q0] at e;cases e
    |some xs=>
     rw [q0] at e;cases e;obtain⟨pa,vs,rfl,h1,q⟩:=XN hr r q0;dsimp only at fin;rw [q.length] at fin;exact CAw Jx ⟨pa,vs,rfl,.inl h1,fin⟩
  ·exact p.elim
 ·exact p.elim
def zjJ:List W->Sto->Res W
 | [.d (.int i)],S=>.ok (.d (.int i)) S
 | [.d (.bl b)],S=>.ok (.d (.int (if b then 1 else 0))) S
 |_,_=>.bad
theorem ziO:CD X (.type "int") zjJ:=by
 refine⟨λZ io S H σ ws vs Q hr rs p=>?_⟩;unfold zjJ at p;split at p
 ·obtain⟨v,rfl,r⟩:=Qt rs;obtain rfl:=jR r;exact CAw zbg (.inl ⟨_,rfl,p.ok hr (.d (.int _))⟩)
 ·obtain⟨v,rfl,r⟩:=Qt rs;obtain rfl:=zbk r;exact CAw zbg (.inr ⟨_,rfl,p.ok hr (.d (.int _))⟩)
 ·exact p.elim
def Vf(S:Sto):W->Option (List D)
 | .d (.tup xs)=>some xs
 |w=>zF S w
theorem zfI{K:PySem.W.Frag}{Z:ZS}{io:Nat->Addr}{S:Sto}{H:Hp}{w:W}{v:V}{xs:List D}(hr:HRel K Z io S H)(r:WRel K Z io S H w v)(e:Vf S w=some xs):
 ∃a vs,v= .ref a/\(SqL K H a vs\/SqT K H a vs)/\DRels K H (NA Z io S) xs vs:=by
 unfold Vf at e;split at e
 ·cases e;obtain⟨a,vs,rfl,h,q⟩:=Kv r rfl;exact⟨a,vs,rfl,.inr h,q⟩
 ·obtain⟨a,vs,rfl,h,q⟩:=XN hr r e;exact⟨a,vs,rfl,.inl h,q⟩
def zfX:List W->Sto->Res W
 | [w],S=>(match Vf S w with|some xs=>.ok (.d (.lst xs)) S|none=>.bad)
 |_,_=>.bad
def zdp:List W->Sto->Res W
 | [w],S=>(match Vf S w with|some xs=>.ok (.ref S.length) (S++ [.lst xs])|none=>.bad)
 |_,_=>.bad
theorem zjO:CD X (.type "list") zfX:=by
 refine⟨λZ io S H σ ws vs Q hr rs p=>?_⟩;unfold zfX at p;split at p
 ·split at p
  ·rename_i xs e;obtain⟨v,rfl,r⟩:=Qt rs;obtain⟨pa,vs,rfl,h1,q⟩:=zfI hr r e;exact CAw JL ⟨pa,vs,rfl,h1,λl hl=>kg p hr hl (Z9 hr q hl)⟩
  ·exact p.elim
 ·exact p.elim
theorem zhd:CD X (.type "list") zdp:=by
 refine⟨λZ io S H σ ws vs Q hr rs p=>?_⟩;unfold zdp at p;split at p
 ·split at p
  ·rename_i xs e;obtain⟨v,rfl,r⟩:=Qt rs;obtain⟨pa,vs,rfl,h1,q⟩:=zfI hr r e;exact CAw JL ⟨pa,vs,rfl,h1,λl hl=>zaP p hr q hl⟩
  ·exact p.elim
 ·exact p.elim
def xI:List W->Sto->Res W
 | [w],S=>(match Vf S w with|some xs=>.ok (.d (.tup xs)) S|none=>.bad)
 |_,_=>.bad
theorem kq:CD X (.type "tuple") xI:=by
 refine⟨λZ io S H σ ws vs Q hr rs p=>?_⟩;unfold xI at p;split at p
 ·split at p
  ·rename_i w xs e;obtain⟨v,rfl,r⟩:=Qt rs;unfold Vf at e;split at e
   ·cases e;obtain⟨pa,vs,rfl,h1,q⟩:=Kv r rfl;exact CAw X5 ⟨pa,vs,rfl,.inr ⟨h1,p.ok hr r⟩⟩
   ·obtain⟨pa,vs,rfl,h1,q⟩:=XN hr r e;exact CAw X5 ⟨pa,vs,rfl,.inl ⟨h1,λl hl=>kg p hr hl (KB hr q hl)⟩⟩
  ·exact p.elim
 ·exact p.elim
def zee:List W->Sto->Res W
 | [.d (.int i),.d (.int j)],S=>.ok (.d (.int (if j>i then j else i))) S
 |_,_=>.bad
def zdW:List W->Sto->Res W
 | [.d (.int i),.d (.int j)],S=>.ok (.d (.int (if j<i then j else i))) S
 |_,_=>.bad
theorem zjC(c:Cok X):CD X (.builtin "max") zee:=by
 refine⟨λZ io S H σ ws vs Q hr rs p=>?_⟩;unfold zee at p;split at p
 ·obtain⟨v,v',rfl,r,r'⟩:=ziV rs;obtain rfl:=jR r;obtain rfl:=jR r';exact CAw (zey c.calm) ⟨_,_,rfl,p.ok hr (.d (.int _))⟩
 ·exact p.elim
theorem zjg(c:Cok X):CD X (.builtin "min") zdW:=by
 refine⟨λZ io S H σ ws vs Q hr rs p=>?_⟩;unfold zdW at p;split at p
 ·obtain⟨v,v',rfl,r,r'⟩:=ziV rs;obtain rfl:=jR r;obtain rfl:=jR r';exact CAw (zgk c.calm) ⟨_,_,rfl,p.ok hr (.d (.int _))⟩
 ·exact p.elim
def boolsOf:List D->Option (List Bool)
 | []=>some []
 | .bl b::r=>(boolsOf r).map (b:: ·)
 |_::_=>none
theorem zaQ{K:PySem.W.Frag}{H:Hp}{na:Addr->Prop}:∀{ds:List D} {vs:List V} {bs:List Bool},DRels K H na ds vs->boolsOf ds=some bs->vs=bs.map V.bl
 | [],_,_,h,e=>by cases h;cases e;rfl
 | .bl b::r,_,_,h,e=>by
   cases h with
   |cons h1 t=>
    unfold boolsOf at e;cases q:boolsOf r with
    |none=>rw [q] at e;cases e
    |some ys=>rw [q] at e;cases e;cases h1;rw [zaQ t q];rfl
 | .non::r,_,_,h,e=>by cases e
 | .int _::r,_,_,h,e=>by cases e
 | .str _::r,_,_,h,e=>by cases e
 | .tup _::r,_,_,h,e=>by cases e
 | .lst _::r,_,_,h,e=>by cases e
def zaJ:List W->Sto->Res W
 | [w],S=>(match (zF S w).bind boolsOf with|some bs=>.ok (.d (.bl (bs.all id))) S|none=>.bad)
 |_,_=>.bad
theorem zbe(c:Cok X):CD X (.builtin "all") zaJ:=by
 refine⟨λZ io S H σ ws vs Q hr rs p=>?_⟩;unfold zaJ at p;split at p
 ·rename_i w;split at p
  ·rename_i bs e;obtain⟨v,rfl,r⟩:=Qt rs;cases q0:zF S w with
   |none=>rw [q0] at e;cases e
   |some xs=>
    rw [q0] at e;obtain⟨pa,vs,rfl,h1,q⟩:=XN hr r q0;rw [zaQ q e] at h1;exact CAw (zlJ c.calm) ⟨pa,bs,rfl,h1,p.ok hr (.d (.bl _))⟩
  ·exact p.elim
 ·exact p.elim
def strsOf:List D->Option (List Str)
 | []=>some []
 | .str b::r=>(strsOf r).map (b:: ·)
 |_::_=>none
theorem J0{K:PySem.W.Frag}{H:Hp}{na:Addr->Prop}:∀{ds:List D} {vs:List V} {bs:List Str},DRels K H na ds vs->strsOf ds=some bs->vs=bs.map V.str
 | [],_,_,h,e=>by cases h;cases e;rfl
 | .str b::r,_,_,h,e=>by
   cases h with
   |cons h1 t=>
    unfold strsOf at e;cases q:strsOf r with
    |none=>rw [q] at e;cases e
    |some ys=>rw [q] at e;cases e;cases h1;rw [J0 t q];rfl
 | .non::r,_,_,h,e=>by cases e
 | .int _::r,_,_,h,e=>by cases e
 | .bl _::r,_,_,h,e=>by cases e
 | .tup _::r,_,_,h,e=>by cases e
 | .lst _::r,_,_,h,e=>by cases e
theorem Kp{K:PySem.W.Frag}{H:Hp}{na:Addr->Prop}:∀(bs:List Str),DRels K H na (bs.map D.str) (bs.map V.str)
 | []=>.nil
 |b::r=>.cons (.str b) (Kp r)
theorem zjY{x y:Str}(h:x.cps.toList=y.cps.toList):x=y:=by obtain⟨⟨l⟩⟩:=x;obtain⟨⟨m⟩⟩:=y;simp only at h;rw [h]
def leS(x y:Str):Bool:= !ltCps y.cps.toList x.cps.toList
def zkG(x:Str):List Str->List Str
 | []=>[x]
 |y::r=>if leS x y=true then x::y::r else y::zkG x r
def QF:List Str->List Str
 | []=>[]
 |x::r=>zkG x (QF r)
theorem vb:∀(a b:List Nat),ltCps a b=true↔a<b
 | [],[]=>by simp [ltCps]
 | [],_::_=>by simp [ltCps]
 |_::_,[]=>by simp [ltCps]
 |x::a,y::b=>by
  unfold ltCps;have ih:=vb a b;simp only [List.cons_lt_cons_iff];by_cases h:x<y
  ·simp [h]
  ·by_cases h2:x=y
   ·subst h2;simp [ih]
   ·have:y<x:=by omega
    simp [h,h2,ih]
theorem zf2(x y:Str):leS x y=true\/leS y x=true:=by
 unfold leS;simp only [yN];by_cases h:ltCps y.cps.toList x.cps.toList=true
 ·right;rw [vb] at h;cases q:ltCps x.cps.toList y.cps.toList with
  |false=>rfl
  |true=>rw [vb] at q;exact absurd (List.lt_trans h q) (List.lt_irrefl _)
 ·left;simpa using h
theorem zbQ{x y z:Str}(h1:leS x y=true)(h2:leS y z=true):leS x z=true:=by
 unfold leS at*;simp only [yN] at*;cases q:ltCps z.cps.toList x.cps.toList with
 |false=>rfl
 |true=>
  rw [vb] at q;have n1:¬y.cps.toList<x.cps.toList:=λh=>by rw [(vb _ _).mpr h] at h1;cases h1
  have n2:¬z.cps.toList<y.cps.toList:=λh=>by rw [(vb _ _).mpr h] at h2;cases h2
  exact absurd q (Yw.mpr (List.le_trans (Yw.mp n1) (Yw.mp n2)))
theorem zdA{x y:Str}(h1:leS x y=true)(h2:leS y x=true):x=y:=by
 unfold leS at*;simp only [yN] at*;have n1:¬y.cps.toList<x.cps.toList:=λh=>by rw [(vb _ _).mpr h] at h1;cases h1
 have n2:¬x.cps.toList<y.cps.toList:=λh=>by rw [(vb _ _).mpr h] at h2;cases h2
 exact zjY (List.le_antisymm (Yw.mp n1) (Yw.mp n2))
abbrev ZW(l:List Str):Prop:=l.Pairwise λa b=>leS a b=true
theorem VO:∀{r:List Str} {p:Str},risingS p r=true->ZW (p::r)
 | [],p,_=>YN _ _
 |x::r,p,h=>by
  have h':(!ltCps x.cps.toList p.cps.toList&&risingS x r)=true:=h;rw [lG] at h';have ih:=VO h'.2;refine yp.mpr ⟨λy hy=>?_,ih⟩;rcases lu.mp hy with rfl|hy
  ·exact h'.1
  ·exact zbQ h'.1 ((yp.mp ih).1 y hy)
theorem zec{l:List Str}(h:sortedS l=true):ZW l:=by
 cases l with
 |nil=>exact List.Pairwise.nil
 |cons x r=>exact VO h
theorem KN(x:Str):∀l:List Str,(zkG x l).Perm (x::l)
 | []=>lae _
 |y::r=>by
  unfold zkG;split
  ·exact lae _
  ·exact((KN x r).cons y).trans (List.Perm.swap x y r)
theorem kj:∀l:List Str,(QF l).Perm l
 | []=>lae _
 |x::r=>(KN x (QF r)).trans ((kj r).cons x)
theorem KC(x:Str):∀{l:List Str},ZW l->ZW (zkG x l)
 | [],_=>YN _ _
 |y::r,h=>by
  unfold zkG;split
  ·rename_i hxy;refine yp.mpr ⟨λz hz=>?_,h⟩;rcases lu.mp hz with rfl|hz
   ·exact hxy
   ·exact zbQ hxy ((yp.mp h).1 z hz)
  ·rename_i hxy;have hyx:leS y x=true:=(zf2 x y).resolve_left hxy;obtain⟨h1,h2⟩:=yp.mp h;refine yp.mpr ⟨λz hz=>?_,KC x h2⟩;rcases lu.mp ((KN x r).mem_iff.mp hz) with rfl|hz
   ·exact hyx
   ·exact h1 z hz
theorem vM:∀l:List Str,ZW (QF l)
 | []=>List.Pairwise.nil
 |x::r=>KC x (vM r)
theorem Xh:∀{l m:List Str},l.Perm m->ZW l->ZW m->l=m
 | [],m,p,_,_=>(List.nil_perm.mp p).symm
 |x::l,[],p,_,_=>absurd p.length_eq (by simp)
 |x::l,y::m,p,h1,h2=>by
  obtain⟨a1,b1⟩:=yp.mp h1;obtain⟨a2,b2⟩:=yp.mp h2;have e:x=y:=by
   have hx:x∈y::m:=p.mem_iff.mp lC;have hy:y∈x::l:=p.mem_iff.mpr lC;rcases lu.mp hx with e|hx
   ·exact e
   ·rcases lu.mp hy with e|hy
    ·exact e.symm
    ·exact zdA (a1 y hy) (a2 x hx)
  subst e;rw [Xh (List.perm_cons _ |>.mp p) b1 b2]
theorem zbt{l m:List Str}(p:l.Perm m)(h:sortedS l=true):l=QF m:=Xh (p.trans (kj m).symm) (zec h) (vM m)
def K5:List W->Sto->Res W
 | [w],S=>(match (zF S w).bind strsOf with|some bs=>if bs.length<64 then .ok (.d (.lst ((QF bs).map D.str))) S else .bad|none=>.bad)
 |_,_=>.bad
theorem zeC:CD X (.builtin "sorted") K5:=by
 refine⟨λZ io S H σ ws vs Q hr rs p=>?_⟩;unfold K5 at p;split at p
 ·rename_i w;split at p
  ·rename_i bs e;split at p
   ·rename_i h64;obtain⟨v,rfl,r⟩:=Qt rs;cases q0:zF S w with
    |none=>rw [q0] at e;cases e
    |some xs=>
     rw [q0] at e;obtain⟨pa,vs,rfl,h1,q⟩:=XN hr r q0;rw [J0 q e] at h1;refine CAw zd6 ⟨pa,bs,rfl,h1,h64,λys l hp hs hl=>?_⟩;rw [zbt hp hs];exact kg p hr hl (Z9 hr (Kp _) hl)
   ·exact p.elim
  ·exact p.elim
 ·exact p.elim
end
inductive Ty where
 |int|bool|str|tuple|list
def tyS:Ty->String
 | .int=>"int"| .bool=>"bool"| .str=>"str"| .tuple=>"tuple"| .list=>"list"
def xp(T:Ty):W->Bool
 | .d .non=>false
 | .d (.bl _)=>(match T with| .int=>true| .bool=>true|_=>false)
 | .d (.int _)=>(match T with| .int=>true|_=>false)
 | .d (.str _)=>(match T with| .str=>true|_=>false)
 | .d (.tup _)=>(match T with| .tuple=>true|_=>false)
 | .d (.lst _)=>(match T with| .list=>true|_=>false)
 | .ref _=>(match T with| .list=>true|_=>false)
 | .fz _=>(match T with| .list=>true|_=>false)
 | .exn _=>false
 | .fk _ _=>false
 | .tl _ _ _=>(match T with| .tuple=>true|_=>false)
def qM(T:Ty)(a:M):M:=λt S=>(a t S).bind λw S1=>match w with| .fz _=>.bad| .exn _=>.bad| .fk _ _=>.bad| .ref n=>(match S1[n]? with|some (.lst _)=>.ok (.d (.bl (xp T w))) S1|_=>.bad)|_=>.ok (.d (.bl (xp T w))) S1
theorem zjs(K:PySem.W.Frag):∀T:Ty,PySem.W.kitOne K (.type "NoneType") (.type (tyS T))=some false
 | .int=>by kernel_rfl| .bool=>by kernel_rfl| .str=>by kernel_rfl| .tuple=>by kernel_rfl| .list=>by kernel_rfl
theorem zkM(K:PySem.W.Frag):∀T:Ty,PySem.W.kitOne K (.type "bool") (.type (tyS T))=some (match T with| .int=>true| .bool=>true|_=>false)
 | .int=>by kernel_rfl| .bool=>by kernel_rfl| .str=>by kernel_rfl| .tuple=>by kernel_rfl| .list=>by kernel_rfl
theorem zkp(K:PySem.W.Frag):∀T:Ty,PySem.W.kitOne K (.type "int") (.type (tyS T))=some (match T with| .int=>true|_=>false)
 | .int=>by kernel_rfl| .bool=>by kernel_rfl| .str=>by kernel_rfl| .tuple=>by kernel_rfl| .list=>by kernel_rfl
theorem zkz(K:PySem.W.Frag):∀T:Ty,PySem.W.kitOne K (.type "str") (.type (tyS T))=some (match T with| .str=>true|_=>false)
 | .int=>by kernel_rfl| .bool=>by kernel_rfl| .str=>by kernel_rfl| .tuple=>by kernel_rfl| .list=>by kernel_rfl
theorem zfR(K:PySem.W.Frag):∀T:Ty,PySem.W.kitOne K (.type "tuple") (.type (tyS T))=some (match T with| .tuple=>true|_=>false)
 | .int=>by kernel_rfl| .bool=>by kernel_rfl| .str=>by kernel_rfl| .tuple=>by kernel_rfl| .list=>by kernel_rfl
theorem zeU(K:PySem.W.Frag):∀T:Ty,PySem.W.kitOne K (.type "list") (.type (tyS T))=some (match T with| .list=>true|_=>false)
 | .int=>by kernel_rfl| .bool=>by kernel_rfl| .str=>by kernel_rfl| .tuple=>by kernel_rfl| .list=>by kernel_rfl
theorem zaj:bootBuiltins "isinstance"=some (.builtin "isinstance"):=by decide+kernel
section
variable {X:Cx}
theorem zkX{Z:ZS}{io:Nat->Addr}{S:Sto}{H:Hp}{T:Ty}{w:W}{v:V}{pins:List (Addr×Obj)}{s:Shared}{σ:St}{u:Value}{Q:Value->Shared->Prop}{A:Around}{E:Value->Shared->Prop}(hr:HRel X.K Z io S H)(r:WRel X.K Z io S H w v)
 (hl:∀n,w= .ref n->zhM S n) (hf:∀xs,w≠ .fz xs) (hx:∀c,w≠ .exn c) (hk:∀n c,w≠ .fk n c) (I:Inv X pins σ H s) (ru:RelV v u) (h:∀tk,Q (.bool (xp T w)) {s with toks:=tk}):wpAny (model X.prog X.w) A (call (.builtin "isinstance") [u,.type (tyS T)]) Q E s:=by
 cases r with
 |d r=>
  cases r with
  |non=>exact ZA I ru (.non) (zjs _ T) h
  |bl b=>exact ZA I ru (.bl b) (zkM _ T) h
  |int i=>exact ZA I ru (.int i) (zkp _ T) h
  |str x=>exact ZA I ru (.str x) (zkz _ T) h
  |tup hs q=>
   cases ru;obtain⟨its,_,⟨o,h1,h2,_⟩,_⟩:=I.tuple hs;exact yw Yj I.kIn ⟨o,h1,h2⟩ (zfR _ T) (λz=>nomatch z) h
  |lst hs n q=>exact ZA I ru (.lst hs) (zeU _ T) h
 |ref hn=>
  obtain⟨xs,e⟩:=hl _ rfl;obtain⟨vs,h1,_⟩:=hr.cell _ _ e;exact ZA I ru (.lst h1) (zeU _ T) h
 |fz hs q=>exact absurd rfl (hf _)
 |exn _ _=>exact absurd rfl (hx _)
 |fk _ _ _=>exact absurd rfl (hk _ _)
 |tl hn hs q1 q2=>
  cases ru;obtain⟨its,_,⟨o,h1,h2,_⟩,_⟩:=I.tuple hs;exact yw Yj I.kIn ⟨o,h1,h2⟩ (zfR _ T) (λz=>nomatch z) h
theorem Ze{T:Ty}{x:Str}{a:Expr}{ma:M}{p p2 pos:Pos}(hx:x=Str.ofString (tyS T):=by rfl)(hg0:Gl X "isinstance")(hm0:X.mg "isinstance"=none)(hg:Gl X x)(hm:X.mg x=none)(hv:bootBuiltins x=some (.type (tyS T)))
 (ha:ME X a ma) (hn:x≠"__name__":=by decide) (hd:(x==("__debug__":Str))=false:=by decide)
 (hs:starEach [a,.Name x p2] X.env=(false,eval a X.env)::starEach [.Name x p2] X.env:=by rfl) (hs2:starEach [.Name x p2] X.env=(false,eval (.Name x p2) X.env)::starEach [] X.env:=by rfl) (hpl:(backTo pos (starEach [.Name x p2] X.env)).any (·.1)=false:=by rfl):
 ME X (.Call (.Name "isinstance" p) [a,.Name x p2] [] pos) (qM T ma):=by
 refine⟨λZ io S H t σ Q hr sr po=>PEw (XH KZ hg0 hm0 zaj (j3 kN (j3 (ze0 (v:=.ty (tyS T)) hg hm hv rfl hn hd) Qj hs2) hs) (by decide) (by decide) hs hpl) ?_⟩;refine ha.run Z io S H t σ _ hr sr (qH.bind po λio1 S1 H1 w v x1 hr1 rw1 p1=>?_);have key:(∀n,w= .ref n->zhM S1 n)->(∀xs,w≠ .fz xs)->(∀c,w≠ .exn c)->(∀n c,w≠ .fk n c)->Q (.bl (xp T w)) H1->wC X (.builtin "isinstance") [v,.ty (tyS T)] H1 Q:=λhl hf hxx hkk q pins s σ us I rs=>by obtain⟨u,w',rfl,r1,r2⟩:=vals2 rs;obtain rfl:w'=Value.type (tyS T):=r2;exact zkX hr1 rw1 hl hf hxx hkk I r1 λtk=>⟨.bl _,H1,I.tok _,rfl,q⟩
 show wC X (.builtin "isinstance") [v,.ty (tyS T)] H1 Q;split at p1
 ·exact p1.elim
 ·exact p1.elim
 ·exact p1.elim
 ·rename_i n;split at p1
  ·rename_i xs e;exact key (λm e'=>by cases e';exact⟨xs,e⟩) (λys z=>nomatch z) (λc z=>nomatch z) (λc u z=>nomatch z) (p1.ok hr1 (.d (.bl _)))
  ·exact p1.elim
 ·rename_i hnf hnx hnk hne;exact key (λm e'=>absurd e' (hne m)) (λys e'=>hnf ys e') (λc e'=>hnx c e') (λc u e'=>hnk c u e') (p1.ok hr1 (.d (.bl _)))
def zdX(a:Str)(w2:W)(S:Sto):Res W:=
 match (Vf S w2).bind strsOf with
 |some ys=>if (ys.map (·.length)).sum+ys.length*a.length<=16777216 then .ok (.d (.str (Txt.join a ys))) S else .bad
 |none=>.bad
def Zh(a b:M):M:=λt S=>(a t S).bind λx S1=>match x with| .d (.str s)=>(b t S1).bind λy S2=>zdX s y S2|_=>.bad
theorem Qm{o e:Expr}{mo me:M}{apos pos:Pos}(ho:ME X o mo)(he:ME X e me)(hs:starEach [e] X.env= [(false,eval e X.env)]:=by rfl)(hbase:attributeBase o "join" X.env (eval o X.env)=eval o X.env:=by rfl)(hline:(apos.endLine==pos.line)=true:=by rfl):
 ME X (.Call (.Attribute o "join" apos) [e] [] pos) (Zh mo me):=by
 refine⟨λZ io S H t σ Q hr sr po=>PEw (zjQ kN kN hs hbase hline) ?_⟩;refine ho.run Z io S H t σ _ hr sr (qH.bind po λio1 S1 H1 w v x1 hr1 rw1 p1=>?_);split at p1
 ·rename_i a;obtain rfl:=x9 rw1;refine⟨⟨a,rfl⟩,?_⟩;refine he.run Z io1 S1 H1 t σ _ hr1 (sr.ext hr x1) (qH.bind p1 λio2 S2 H2 w2 v2 x2 hr2 rw2 p2=>?_);unfold zdX at p2;split at p2
  ·rename_i ys e2;split at p2
   ·rename_i hz;cases q0:Vf S2 w2 with
    |none=>rw [q0] at e2;cases e2
    |some xs=>
     rw [q0] at e2;obtain⟨pa,vs,rfl,h1,q⟩:=zfI hr2 rw2 q0;rw [J0 q e2] at h1;exact⟨a,pa,ys,rfl,rfl,h1,hz,p2.ok hr2 (.d (.str _))⟩
   ·exact p2.elim
  ·exact p2.elim
 ·exact p1.elim
end
abbrev Y:=V⊕(V×V)
inductive YRel (K:PySem.W.Frag) (H:Hp) (na:Addr->Prop):D->Y->Prop
 |one {d:D} {v:V}:DRel K H na d v->YRel K H na d (.inl v)
 |two {d e:D} {v u:V}:DRel K H na d v->DRel K H na e u->YRel K H na (.tup [d,e]) (.inr (v,u))
def YIs(y:Y)(x:V)(H H2:Hp):Prop:=
 match y with
 | .inl v=>H2=H/\x=v
 | .inr (v,u)=>∃T,H T=none/\x= .ref T/\H2=upd H T (.tup [v,u])
structure Walks (K:PySem.W.Frag) (Z:ZS) (io:Nat->Addr) (S:Sto) (H:Hp) (ds:List D) (J:It):Prop where
 ex:∃ys:List Y,ys.length=ds.length/\(∀(i:Nat) (d:D),ds[i]? =some d->∃y,ys[i]? =some y/\YRel K H (NA Z io S) d y)/\
  ∀H',(∀a o,H a=some o->N0 io S a->H' a=some o)->(∀(i:Nat) (y:Y),ys[i]? =some y->J.go i H'/\∀x H2,J.yld i H' x H2->YIs y x H' H2)/\J.stop ys.length H'
def wIt(X:Cx)(tg iter:Expr):TI:=λσ H R=>∀pins s,Inv X pins σ H s->wpAny (model X.prog X.w) X.A (eval iter X.env) (λv s1=>wpAny (model X.prog X.w) X.A (pyIter v) (PIE X pins σ tg R) X.xe s1) X.xe s
theorem zmC{X:Cx}{tg iter:Expr}:PI X tg iter (wIt X tg iter):=λpins s _ _ _ I h=>h pins s I
theorem PIw{X:Cx}{tg iter:Expr}{wi:TI}{σ:St}{H:Hp}{R:It->Hp->Prop}(h:PI X tg iter wi)(q:wi σ H R):wIt X tg iter σ H R:=λpins s I=>h pins s σ H R I q
abbrev MIs:=DS->Sto->Res (List D)
structure MI (X:Cx) (tg iter:Expr) (m:MIs):Prop where
 run:∀Z io S H t σ R,HRel X.K Z io S H->SRel X.K Z io S H t σ->qH X Z (λio S H=>Walks X.K Z io S H) io S H σ (m t S) R->wIt X tg iter σ H R
def zA:W->Option (List D)
 | .d (.lst xs)=>some xs
 | .d (.tup xs)=>some xs
 | .fz xs=>some xs
 | .d (.str x)=>some (x.cps.toList.map λc=>D.str ⟨#[c]⟩)
 |_=>none
def ql(a:M):MIs:=λt S=>(a t S).bind λw S1=>match zA w with|some ds=>.ok ds S1|none=>.bad
def kG(a:M):MIs:=λt S=>(a t S).bind λw S1=>match w with| .d (.int j)=>if-(2^62)<=j/\j<2^62 then .ok ((List.range j.toNat).map λ(i:Nat)=>D.int (0+i)) S1 else .bad|_=>.bad
def zjK(a b:M):MIs:=λt S=>(a t S).bind λw S1=>(b t S1).bind λw2 S2=>match w,w2 with| .d (.lst xs),.d (.lst ys)=>.ok ((xs.zip ys).map λp=>D.tup [p.1,p.2]) S2|_,_=>.bad
section
variable {X:Cx} {K:PySem.W.Frag} {Z:ZS} {io:Nat->Addr} {S:Sto} {H:Hp}
theorem Vx{a:Addr}{vs:List V}{ds:List D}(keep:∀H',(∀a o,H a=some o->N0 io S a->H' a=some o)->SqL K H' a vs)(q:DRels K H (NA Z io S) ds vs):Walks K Z io S H ds (Itl K a):=by
 refine⟨vs.map Sum.inl,by simp [q.length],λi d e=>?_,λH' k=>⟨λi y e=>?_,?_⟩⟩
 ·obtain⟨v,h1,h2⟩:=q.get e;exact⟨.inl v,by simp [h1],.one h2⟩
 ·rw [ya] at e;cases h:vs[i]? with
  |none=>rw [h] at e;cases e
  |some v=>
   rw [h] at e;cases e;exact⟨⟨vs,v,keep H' k,h⟩,λx H2 yy=>⟨yy.1,Option.some.inj ((yy.2 vs (keep H' k)).symm.trans h)⟩⟩
 ·exact⟨vs,keep H' k,by simp⟩
theorem zgf{a:Addr}{vs:List V}{ds:List D}(keep:∀H',(∀a o,H a=some o->N0 io S a->H' a=some o)->SqT K H' a vs)(q:DRels K H (NA Z io S) ds vs):Walks K Z io S H ds (Itt K a):=by
 refine⟨vs.map Sum.inl,by simp [q.length],λi d e=>?_,λH' k=>⟨λi y e=>?_,?_⟩⟩
 ·obtain⟨v,h1,h2⟩:=q.get e;exact⟨.inl v,by simp [h1],.one h2⟩
 ·rw [ya] at e;cases h:vs[i]? with
  |none=>rw [h] at e;cases e
  |some v=>
   rw [h] at e;cases e;exact⟨⟨vs,v,keep H' k,h⟩,λx H2 yy=>⟨yy.1,Option.some.inj ((yy.2 vs (keep H' k)).symm.trans h)⟩⟩
 ·exact⟨vs,keep H' k,by simp⟩
theorem Ky{lo:Int}{n:Nat}:Walks K Z io S H ((List.range n).map λ(k:Nat)=>D.int (lo+k)) (Itr lo n):=by
 refine⟨(List.range n).map λ(k:Nat)=>.inl (.int (lo+k)),by simp,λi d e=>?_,λH' k=>⟨λi y e=>?_,?_⟩⟩
 ·rw [ya] at e;cases h:(List.range n)[i]? with
  |none=>rw [h] at e;cases e
  |some j=>
   rw [h] at e;cases e;exact⟨.inl (.int (lo+j)),by simp [h],.one (.int _)⟩
 ·rw [ya] at e;cases h:(List.range n)[i]? with
  |none=>rw [h] at e;cases e
  |some j=>
   rw [h] at e;cases e;have hj:=lI.mp h;obtain⟨hi,ej⟩:=hj;simp at hi ej;subst ej;exact⟨hi,λx H2 yy=>yy⟩
 ·show n<=_;simp
theorem zgb{x:Str}:Walks K Z io S H (x.cps.toList.map λc=>D.str ⟨#[c]⟩) (Its x):=by
 refine⟨x.cps.toList.map λc=>.inl (.str ⟨#[c]⟩),by simp,λi d e=>?_,λH' k=>⟨λi y e=>?_,?_⟩⟩
 ·rw [ya] at e;cases h:x.cps.toList[i]? with
  |none=>rw [h] at e;cases e
  |some j=>
   rw [h] at e;cases e;exact⟨.inl (.str ⟨#[j]⟩),by rw [ya,h];rfl,.one (.str _)⟩
 ·rw [ya] at e;cases h:x.cps.toList[i]? with
  |none=>rw [h] at e;cases e
  |some j=>
   rw [h] at e;cases e;have hi:i<x.cps.size:=by have:=(lI.mp h).1;simpa using this
   refine⟨hi,λy H2 ⟨e1,c,e2,e3⟩=>⟨e1,?_⟩⟩;rw [yA] at h;rw [h] at e2;cases e2;exact e3
 ·show x.cps.size<=_;simp
theorem zfM{a b:Addr}{vs us:List V}{xs ys:List D}(k1:∀H',(∀a o,H a=some o->N0 io S a->H' a=some o)->SqL K H' a vs)(k2:∀H',(∀a o,H a=some o->N0 io S a->H' a=some o)->SqL K H' b us)(q1:DRels K H (NA Z io S) xs vs)(q2:DRels K H (NA Z io S) ys us):
 Walks K Z io S H ((xs.zip ys).map λp=>D.tup [p.1,p.2]) (Itz K a b):=by
 have l1:=q1.length;have l2:=q2.length;refine⟨(vs.zip us).map Sum.inr,by simp [l1,l2],λi d e=>?_,λH' k=>⟨λi y e=>?_,?_⟩⟩
 ·rw [ya] at e;cases h:(xs.zip ys)[i]? with
  |none=>rw [h] at e;cases e
  |some p=>
   rw [h] at e;cases e;obtain⟨h1,h2⟩:=LF.mp h;obtain⟨v,e1,r1⟩:=q1.get h1;obtain⟨u,e2,r2⟩:=q2.get h2;exact⟨.inr (v,u),by rw [ya,LF (z:=(v,u)) |>.mpr ⟨e1,e2⟩];rfl,.two r1 r2⟩
 ·rw [ya] at e;cases h:(vs.zip us)[i]? with
  |none=>rw [h] at e;cases e
  |some p=>
   rw [h] at e;cases e;obtain⟨h1,h2⟩:=LF.mp h;refine⟨⟨vs,us,p.1,p.2,k1 H' k,k2 H' k,h1,h2⟩,λx H2 ⟨T,x',y',e1,e2,e3,e4,e5⟩=>⟨T,e2,e1,?_⟩⟩;have a1:=Option.some.inj ((e4 vs (k1 H' k)).symm.trans h1);have a2:=Option.some.inj ((e5 us (k2 H' k)).symm.trans h2);rw [e3,a1,a2]
 ·refine⟨vs,us,k1 H' k,k2 H' k,?_⟩;simp;omega
theorem js{tg iter:Expr}{m:M}(h:ME X iter m):MI X tg iter (ql m):=by
 refine⟨λZ io S H t σ R hr sr p=>?_⟩
 have key:∀{w:W} {S1:Sto},m t S= .ok w S1->zA w≠none->wIt X tg iter σ H R:=λ{w S1} e hne=>by
  unfold ql at p;rw [e] at p;dsimp only [zB] at p;have run:=λQ=>h.run Z io S H t σ Q hr sr
  rw [e] at run;cases w with
  |ref n=>exact absurd rfl hne
  |exn c=>exact absurd rfl hne
  |fk c _=>exact absurd rfl hne
  |tl c _ _=>exact absurd rfl hne
  |fz xs=>
   refine PIw (zcy kN) (run _ λio1 H1 v x1 hr1 rw1=>?_);cases rw1 with
   |fz h1 q=>
    exact⟨_,rfl,⟨_,h1.sq⟩,p io1 H1 _ x1 hr1 (Vx (λH' k=>(h1.keep λa o h n=>k a o h (hr1.na0 h n)).sq) q)⟩
  |d x=>
   cases x with
   |lst xs=>
    refine PIw (zcy kN) (run _ λio1 H1 v x1 hr1 rw1=>?_);cases rw1 with
    |d rw1=>
     cases rw1 with
     |lst h1 n q=>exact⟨_,rfl,⟨_,SqL.of h1⟩,p io1 H1 _ x1 hr1 (Vx (λH' k=>SqL.of (k _ _ h1 n.1)) q)⟩
   |tup xs=>
    refine PIw (zk9 kN) (run _ λio1 H1 v x1 hr1 rw1=>?_);obtain⟨pa,vs,rfl,h1,q⟩:=Kv rw1 rfl;exact⟨pa,rfl,⟨_,h1⟩,p io1 H1 _ x1 hr1 (zgf (λH' k=>SqT.keepT (λa o h n=>k a o h (hr1.na0 h n)) h1) q)⟩
   |str xs=>
    refine PIw (zly kN) (run _ λio1 H1 v x1 hr1 rw1=>?_);obtain rfl:=x9 rw1;exact⟨_,rfl,p io1 H1 _ x1 hr1 zgb⟩
   |non=>exact absurd rfl hne
   |bl _=>exact absurd rfl hne
   |int _=>exact absurd rfl hne
 have run:=λQ=>h.run Z io S H t σ Q hr sr
 cases e:m t S with
 |ok w S1=>
  refine key e λz=>?_
  unfold ql at p;rw [e] at p;dsimp only [zB] at p;rw [z] at p;exact p
 |exc x S1=>
  unfold ql at p;rw [e] at p run;exact PIw (zcy kN) (run _ p)
 |bad=>
  unfold ql at p;rw [e] at p;exact p.elim
end
section
variable {X:Cx}
theorem Qx{tg a:Expr}{m:M}{p pos:Pos}(hg:Gl X "range")(hm:X.mg "range"=none)(ha:ME X a m)(hs:starEach [a] X.env= [(false,eval a X.env)]:=by rfl):MI X tg (.Call (.Name "range" p) [a] [] pos) (kG m):=by
 refine⟨λZ io S H t σ R hr sr po=>PIw (zfh hg hm (j3 kN Qj hs) hs) ?_⟩;refine ha.run Z io S H t σ _ hr sr (qH.bind po λio1 S1 H1 w v x1 hr1 rw1 p1=>?_);split at p1
 ·rename_i j;split at p1
  ·rename_i hj;obtain rfl:=jR rw1;exact⟨j,rfl,hj.1,hj.2,p1 io1 H1 _ Ext.refl hr1 Ky⟩
  ·exact p1.elim
 ·exact p1.elim
theorem zmr{a b:Expr}{m m2:M}{p pos tpos:Pos}{elts:List Expr}{kk:Nat}(hg:Gl X "zip")(hm:X.mg "zip"=none)(ha:ME X a m)(hb:ME X b m2)(hs:starEach [a,b] X.env=(false,eval a X.env)::starEach [b] X.env:=by rfl)(hs2:starEach [b] X.env=(false,eval b X.env)::starEach [] X.env:=by rfl)(hpl:(backTo pos (starEach [b] X.env)).any (·.1)=false:=by rfl):
 MI X (.Tuple elts kk tpos) (.Call (.Name "zip" p) [a,b] [] pos) (zjK m m2):=by
 refine⟨λZ io S H t σ R hr sr po=>PIw (zlH hg hm (j3 kN (j3 kN Qj hs2) hs) hs hpl) ?_⟩;refine ha.run Z io S H t σ _ hr sr (qH.bind po λio1 S1 H1 w v x1 hr1 rw1 p1=>?_);refine hb.run Z io1 S1 H1 t σ _ hr1 (sr.ext hr x1) (qH.bind p1 λio2 S2 H2 w2 v2 x2 hr2 rw2 p2=>?_);have rx1:=rw1.ext hr1 x2;clear rw1;split at p2
 ·cases rx1 with
  |d rx1=>
   cases rx1 with
   |lst h1 n1 q1=>
    cases rw2 with
    |d rw2=>
     cases rw2 with
     |lst h2 n2 q2=>
      exact⟨_,_,_,_,rfl,SqL.of h1,SqL.of h2,p2 io2 H2 _ Ext.refl hr2 (zfM (λH' k=>SqL.of (k _ _ h1 n1.1)) (λH' k=>SqL.of (k _ _ h2 n2.1)) q1 q2)⟩
 ·exact p2.elim
end
def wG(X:Cx)(tg:Expr):TG:=λv σ H Q=>∀pins s u,Inv X pins σ H s->RelV v u->wpAny (model X.prog X.w) X.A (assign tg X.env u) (λ_ s'=>∃σ' H',Inv X pins σ' H' s'/\Q σ' H') X.xe s
theorem znk{X:Cx}{tg:Expr}:PG X tg (wG X tg):=λpins s _ _ _ u _ I r h=>h pins s u I r
theorem PGw{X:Cx}{tg:Expr}{g:TG}{v:V}{σ:St}{H:Hp}{Q:St->Hp->Prop}(h:PG X tg g)(q:g v σ H Q):wG X tg v σ H Q:=λpins s u I r=>h pins s σ H v u Q I r q
def wGs(X:Cx)(ts:List Expr):TGs:=λvs σ H Q=>∀pins s us,Inv X pins σ H s->Vals vs us->wpAny (model X.prog X.w) X.A (assignInOrder ((assignEach ts X.env).map (·.2)) us) (λ_ s'=>∃σ' H',Inv X pins σ' H' s'/\Q σ' H') X.xe s
theorem zlZ{X:Cx}{tg:List Expr}:PGs X tg (wGs X tg):=λpins s _ _ _ u _ I r h=>h pins s u I r
theorem znQ{X:Cx}{tg:List Expr}{g:TGs}{v:List V}{σ:St}{H:Hp}{Q:St->Hp->Prop}(h:PGs X tg g)(q:g v σ H Q):wGs X tg v σ H Q:=λpins s u I r=>h pins s σ H v u Q I r q
structure MG (X:Cx) (tg:Expr) (sl:List Nat) (g:W->DS->Option DS):Prop where
 run:∀Z io S H t σ w v t1 Q,HRel X.K Z io S H->SRel X.K Z io S H t σ->WRel X.K Z io S H w v->g w t=some t1->
  (∀σ1,SRel X.K Z io S H t1 σ1->(∀j,j∉sl->σ1[j]? =σ[j]?)->σ1.length=σ.length->Q σ1 H)->wG X tg v σ H Q
structure MGs (X:Cx) (tg:List Expr) (sl:List Nat) (g:List D->DS->Option DS):Prop where
 run:∀Z io S H t σ w v t1 Q,HRel X.K Z io S H->SRel X.K Z io S H t σ->DRels X.K H (NA Z io S) w v->g w t=some t1->
  (∀σ1,SRel X.K Z io S H t1 σ1->(∀j,j∉sl->σ1[j]? =σ[j]?)->σ1.length=σ.length->Q σ1 H)->wGs X tg v σ H Q
def gN(i:Nat):W->DS->Option DS:=λw t=>some (t.set i (some w))
def vD:List D->DS->Option DS:=λds t=>match ds with| []=>some t|_=>none
def zX(g:W->DS->Option DS)(gs:List D->DS->Option DS):List D->DS->Option DS:=λds t=>match ds with|d::r=>(g (.d d) t).bind (gs r)| []=>none
def gTp(n:Nat)(gs:List D->DS->Option DS):W->DS->Option DS:=λw t=>match w with| .d (.tup ds)=>if ds.length=n then gs ds t else none|_=>none
section
variable {X:Cx} {pos:Pos}
theorem zeQ{i:Nat}{x:Str}(hN:X.N.Nodup)(hi:X.N[i]? =some x)(hx:Loc X.env.scope x)(hf:X.fn x=true\/X.env.scope.names.lookup x=some .local:=by first|exact .inl rfl|exact .inr rfl|assumption):MG X (.Name x pos) [i] (gN i):=by refine⟨λZ io S H t σ w v t1 Q hr sr rw e k=>PGw (zkh hN hi hx hf) ?_⟩;cases e;exact k _ (sr.set i rw) (λj hj=>by rw [lV (λz=>hj (by simp [z]))]) (by simp)
theorem Zg:MGs X [] [] vD:=by
 refine⟨λZ io S H t σ w v t1 Q hr sr rw e k=>znQ zjq ?_⟩;cases rw with
 |nil=>cases e;exact⟨rfl,k σ sr (λ_ _=>rfl) rfl⟩
 |cons _ _=>cases e
theorem qk{e:Expr}{es:List Expr}{sl sls:List Nat}{g:W->DS->Option DS}{gs:List D->DS->Option DS}(h1:MG X e sl g)(h2:MGs X es sls gs)
 (hs:(assignEach (e::es) X.env).map (·.2)=assign e X.env::(assignEach es X.env).map (·.2):=by rfl):MGs X (e::es) (sl++sls) (zX g gs):=by
 refine⟨λZ io S H t σ w v t1 Q hr sr rw e k=>znQ (zgN znk zlZ hs) ?_⟩;cases rw with
 |nil=>cases e
 | @cons d ds v vs r rs=>
   unfold zX at e;dsimp only at e;cases q:g (.d d) t with
   |none=>rw [q] at e;cases e
   |some t2=>
    rw [q] at e;refine⟨v,vs,rfl,?_⟩;refine h1.run Z io S H t σ (.d d) v t2 _ hr sr (.d r) q λσ1 s1 k1 l1=>?_
    refine h2.run Z io S H t2 σ1 ds vs t1 _ hr s1 rs e λσ2 s2 k2 l2=>?_
    exact k σ2 s2 (λj hj=>(k2 j (λz=>hj (lX _ z))).trans (k1 j (λz=>hj (yB _ z)))) (l2.trans l1)
theorem Qr{es:List Expr}{kk n:Nat}{sl:List Nat}{gs:List D->DS->Option DS}(c:Cok X)(h:MGs X es sl gs)
 (hn:(assignEach es X.env).length=n:=by rfl) (hst:(assignEach es X.env).findIdx? (·.1)=none:=by rfl):MG X (.Tuple es kk pos) sl (gTp n gs):=by
 refine⟨λZ io S H t σ w v t1 Q hr sr rw e k=>PGw (zmq c.calm zlZ hn hst) ?_⟩;unfold gTp at e;split at e
 ·rename_i ds;split at e
  ·rename_i hl;obtain⟨a,vs,rfl,h1,q⟩:=Kv rw rfl;exact⟨a,vs,rfl,h1,by rw [<-q.length];exact hl,h.run Z io S H t σ ds vs t1 Q hr sr q e k⟩
  ·cases e
 ·cases e
end
def kJ(t:DS):List Nat->DS
 | []=>t
 |v::vs=>(kJ t vs).set v none
theorem SRel.wipe{K:PySem.W.Frag}{Z:ZS}{io:Nat->Addr}{S:Sto}{H:Hp}{t:DS}{σ:St}(q:SRel K Z io S H t σ):∀vs:List Nat,SRel K Z io S H (kJ t vs) (wipe σ vs)
 | []=>q
 |v::vs=>by
  have ih:=SRel.wipe q vs;refine⟨by simp [kJ,L2.wipe,ih.len],λi w e=>?_⟩;unfold kJ at e;unfold L2.wipe;by_cases h:v=i
  ·subst h;by_cases hv:v<(kJ t vs).length
   ·rw [lW hv] at e;cases e
   ·rw [yt (by simpa using hv)] at e;cases e
  ·rw [lV h] at e⊢;exact ih.get i w e
theorem zdh{σ:St}{i:Nat}:∀{vs:List Nat},i∉vs->(wipe σ vs)[i]? =σ[i]?
 | [],_=>rfl
 |v::vs,h=>by unfold L2.wipe;rw [lV (λz=>h (by simp [z])),zdh λz=>h (lA _ z)]
theorem zcM{σ:St}{i:Nat}(hi:i<σ.length):∀{vs:List Nat},i∈vs->(wipe σ vs)[i]? =some none
 | [],h=>by cases h
 |v::vs,h=>by
  unfold L2.wipe;by_cases e:v=i
  ·subst e;rw [lW (by rw [jz];exact hi)]
  ·rw [lV e];rcases lu.mp h with z|z
   ·exact absurd z.symm e
   ·exact zcM hi z
theorem zbv{σ σ':St}{vs:List Nat}(k:∀j,j∉vs->σ'[j]? =(wipe σ vs)[j]?)(l:σ'.length=(wipe σ vs).length):wipe σ' vs=wipe σ vs:=by
 apply List.ext_getElem?;intro i;rw [jz] at l;by_cases hi:i∈vs
 ·by_cases hl:i<σ.length
  ·rw [zcM (by omega) hi,zcM hl hi]
  ·rw [yt (by rw [jz];omega),yt (by rw [jz];omega)]
 ·rw [zdh hi,k i hi]
def lcD(g:W->DS->Option DS)(mt:MB)(me:M):List D->DS->Sto->List D->Res (List D)
 | [],_,S,acc=>.ok acc S
 |d::ds,t,S,acc=>match g (.d d) t with
  |none=>.bad
  |some t1=>match mt t1 S with
   | .ok true S1=>(match me t1 S1 with
     | .ok (.d x) S2=>if acc.length<sizeLine then lcD g mt me ds t S2 (acc++ [x]) else .bad
     |_=>.bad)
   | .ok false S1=>lcD g mt me ds t S1 acc
   |_=>.bad
def dLc(own:List Nat)(mi:MIs)(g:W->DS->Option DS)(mt:MB)(me:M):M:=λt S=>(mi t S).bind λds S1=>(lcD g mt me ds (kJ t own) S1 []).bind λxs S2=>.ok (.d (.lst xs)) S2
def vG:MB:=λ_ S=>.ok true S
structure MTs (X:Cx) (es:List Expr) (m:MB):Prop where
 run:∀Z io S H t σ Q,HRel X.K Z io S H->SRel X.K Z io S H t σ->qH X Z RT io S H σ (m t S) Q->
  ∀pins s,Inv X pins σ H s->wpAny (model X.prog X.w) X.A (forIn es true λc r=>if r=true then do let ok<-isTrue c X.env (eval c X.env);pure (ForInStep.yield ok) else pure (ForInStep.yield r)) (TP X pins σ Q) X.xe s
theorem xW{X:Cx}:MTs X [] vG:=⟨λZ io S H t σ Q hr sr p pins s I=>zjp pins s σ H Q I (qH.ok (w:=true) p hr rfl)⟩
theorem zcu{X:Cx}{c:Expr}{m:MB}(h:MT X c m):MTs X [c] m:=⟨λZ io S H t σ Q hr sr p pins s I=>zj2 zgU pins s σ H Q I (h.run Z io S H t σ Q hr sr p)⟩
section
variable {X:Cx}
theorem zfu{K:PySem.W.Frag}{Z Z':ZS}{io io':Nat->Addr}{S S':Sto}{H H' H2:Hp}{d:D}{y:Y}{x:V}(hr:HRel K Z' io' S' H')(yr:YRel K H' (NA Z' io' S') d y)(ys:YIs y x H' H2):
 Ext io' S' H' io' S' H2/\HRel K Z' io' S' H2/\WRel K Z' io' S' H2 (.d d) x/\∀a o,H' a=some o->H2 a=some o:=by
 cases yr with
 |one r=>
  obtain⟨rfl,rfl⟩:=ys;exact⟨Ext.refl,hr,.d r,λ_ _ h=>h⟩
 |two r1 r2=>
  obtain⟨T,hT,rfl,rfl⟩:=ys;exact⟨Ext.new hT,hr.new hT,KB hr (.cons r1 (.cons r2 .nil)) hT,λa o h=>by rw [zJ (zu h hT)];exact h⟩
theorem YRel.mono{K:PySem.W.Frag}{H H':Hp}{na na':Addr->Prop}(k:∀a o,H a=some o->Fx o->H' a=some o)(kl:∀a xs,H a=some (.lst xs)->na a->H' a=some (.lst xs)/\na' a){d:D}{y:Y}(h:YRel K H na d y):YRel K H' na' d y:=by
 cases h with
 |one r=>exact .one (r.mono k kl)
 |two r s=>exact .two (r.mono k kl) (s.mono k kl)
def gB(X:Cx)(scope:Scope)(tg:Expr):TG:=λv σ H Q=>∀s H0 C cl fp,wG (X.blk s H0 scope (compEnvC scope cl C X.env) fp) tg v σ H Q
def ttB(X:Cx)(scope:Scope)(ifs:List Expr):TT:=λσ H Q=>∀s H0 C cl fp pins s1,Inv (X.blk s H0 scope (compEnvC scope cl C X.env) fp) pins σ H s1->wpAny (model X.prog X.w) X.A (forIn ifs true λc r=>if r=true then do let ok<-isTrue c (compEnvC scope cl C X.env) (eval c (compEnvC scope cl C X.env));pure (ForInStep.yield ok) else pure (ForInStep.yield r)) (TP (X.blk s H0 scope (compEnvC scope cl C X.env) fp) pins σ Q) (λ_ _=>False) s1
def teB(X:Cx)(scope:Scope)(elt:Expr):TE:=λσ H Q=>∀s H0 C cl fp,wE (X.blk s H0 scope (compEnvC scope cl C X.env) fp) elt σ H Q
theorem zgL{scope:Scope}{tg:Expr}(s:Shared)(H:Hp)(C:Addr)(cl:List (Str×Addr))(fp:List Addr):PG (X.blk s H scope (compEnvC scope cl C X.env) fp) tg (gB X scope tg):=λpins s1 σ1 H1 v u Q1 I r h=>h s H C cl fp pins s1 u I r
theorem zdv{scope:Scope}{ifs:List Expr}(s:Shared)(H:Hp)(C:Addr)(cl:List (Str×Addr))(fp:List Addr):PTs (X.blk s H scope (compEnvC scope cl C X.env) fp) ifs (ttB X scope ifs):=λpins s1 σ1 H1 Q1 I h=>h s H C cl fp pins s1 I
theorem ze3{scope:Scope}{elt:Expr}(s:Shared)(H:Hp)(C:Addr)(cl:List (Str×Addr))(fp:List Addr):PE (X.blk s H scope (compEnvC scope cl C X.env) fp) elt (teB X scope elt):=λpins s1 σ1 H1 Q1 I h=>h s H C cl fp pins s1 I
theorem zcO{elt tg iter:Expr}{ifs:List Expr}{scope:Scope}{own:List (Str×Nat)}{mi:MIs}{g:W->DS->Option DS}{sl:List Nat}{mt:MB}{me:M}{fin:List D->Sto->Res W}{wi:TI}(hi:∀Z io S H t σ R,HRel X.K Z io S H->SRel X.K Z io S H t σ->qH X Z (λio S H=>Walks X.K Z io S H) io S H σ (mi t S) R->wi σ H R)(ok:BlkOk X.N X.env.scope scope own)
 (hg:∀(s:Shared) (H:Hp) (C:Addr) (cl:List (Str×Addr)) (fp:List Addr),MG (X.blk s H scope (compEnvC scope cl C X.env) fp) tg sl g) (hsl:∀i∈sl,i∈own.map (·.2))
 (ht:∀(s:Shared) (H:Hp) (C:Addr) (cl:List (Str×Addr)) (fp:List Addr),MTs (X.blk s H scope (compEnvC scope cl C X.env) fp) ifs mt)
 (he:∀(s:Shared) (H:Hp) (C:Addr) (cl:List (Str×Addr)) (fp:List Addr),ME (X.blk s H scope (compEnvC scope cl C X.env) fp) elt me) (hs:∀x,foldedSetIterable iter X.env x=pure x)
 (hfin:∀Z io1 S1 H1 io S H σ Q p vs xs,H1 p=none->Ext io1 S1 H1 io S H->HRel X.K (ZP Z p) io S H->¬Z p->H p=some (.lst vs)->DRels X.K H (NA (ZP Z p) io S) xs vs->qH X Z (RW X Z) io1 S1 H1 σ (fin xs S) Q->Q (.ref p) H)
 {Z:ZS} {io:Nat->Addr} {S:Sto} {H:Hp} {t:DS} {σ:St} {Q:VK} (hr:HRel X.K Z io S H) (sr:SRel X.K Z io S H t σ)
 (po:qH X Z (RW X Z) io S H σ ((mi t S).bind λds S1=>(lcD g mt me ds (kJ t (own.map (·.2))) S1 []).bind fin) Q):
 tLc wi (gB X scope tg) (ttB X scope ifs) (teB X scope elt) (own.map (·.2)) σ H Q:=by
 refine hi Z io S H t σ _ hr sr (qH.bind po λio1 S1 H1 ds J x1 hr1 wk p1=>?_);intro D hD;obtain⟨ys,ylen,yrel,ywalk⟩:=wk.ex;have sr1:=sr.ext hr x1
 let Pv:Nat->Hp->Prop:=λi H'=>∃io' S' acc vs,Ext io1 S1 H1 io' S' H'/\HRel X.K (ZP Z D) io' S' H'/\H' D=some (.lst vs)/\DRels X.K H' (NA (ZP Z D) io' S') acc vs/\
  SRel X.K (ZP Z D) io' S' H' (kJ t (own.map (·.2))) (wipe σ (own.map (·.2)))/\qH X Z (RW X Z) io1 S1 H1 σ ((lcD g mt me (ds.drop i) (kJ t (own.map (·.2))) S' acc).bind fin) Q/\
  ∀(j:Nat) (d:_root_.Z.D),ds[j]? =some d->∃y,ys[j]? =some y/\YRel X.K H' (NA (ZP Z D) io' S') d y
 have kz:∀a xs,H1 a=some (.lst xs)->NA Z io1 S1 a->(upd H1 D (.lst [])) a=some (.lst xs)/\NA (ZP Z D) io1 S1 a:=λa xs h n=>⟨by rw [zJ (zu h hD)];exact h,n.1,λz=>z.elim n.2 (zu h hD)⟩
 have kn:∀a o,H1 a=some o->Fx o->(upd H1 D (.lst [])) a=some o:=λa o h _=>by rw [zJ (zu h hD)];exact h
 have start:Pv 0 (upd H1 D (.lst [])):=by
  refine⟨io1,S1,[],[],Ext.new hD,hr1.inZ hD,xT,.nil,?_,by simpa using p1,λj d e=>?_⟩
  ·have:=(sr1.inZ hD).wipe (own.map (·.2));refine⟨this.len,λi w e=>?_⟩;obtain⟨v,h1,h2⟩:=this.get i w e;refine⟨v,h1,?_⟩;cases h2 with
   |d q=>exact .d (q.mono kn λa xs h n=>⟨by rw [zJ (zu h hD)];exact h,n⟩)
   |ref h=>exact .ref h
   |fz h q=>exact .fz (h.keep kn) (q.mono kn λa xs h n=>⟨by rw [zJ (zu h hD)];exact h,n⟩)
   |exn h q=>exact .exn h (kn _ _ q trivial)
   |fk hn h q=>exact .fk hn (kn _ _ h trivial) (q.mono kn λa xs h n=>⟨by rw [zJ (zu h hD)];exact h,n⟩)
   |tl hn h q1 q2=>exact .tl hn (SqT.keepT kn h) (q1.mono kn λa xs h n=>⟨by rw [zJ (zu h hD)];exact h,n⟩) (q2.mono kn λa xs h n=>⟨by rw [zJ (zu h hD)];exact h,n⟩)
  ·obtain⟨y,e1,r⟩:=yrel j d e;exact⟨y,e1,r.mono kn kz⟩
 refine⟨λi m H'=>m=ds.length-i/\i<=ds.length/\Pv i H',⟨ds.length,(YX _).symm,yx _,start⟩,?_⟩;rintro i m H' ⟨rfl,hil,io',S',acc,vs,x2,hr2,hD2,qa,s2,p2,yr2⟩;have keep:∀a o,H1 a=some o->N0 io1 S1 a->H' a=some o:=λa o h n=>(x2.keep a o h n).1
 obtain⟨wgo,wstop⟩:=ywalk H' keep;by_cases hlt:i<ds.length
 ·obtain⟨d,hd⟩:∃d,ds[i]? =some d:=⟨ds[i],by simp [hlt]⟩;have edrop:ds.drop i=d::ds.drop (i+1):=by rw [yR hlt];congr 1;have:=(lI.mp hd).2;exact this
  obtain⟨y,ey,ry⟩:=yr2 i d hd;obtain⟨go,yl⟩:=wgo i y ey;refine .inr ⟨go,Pv (i+1),λH3 p3=>⟨ds.length-(i+1),by omega,rfl,hlt,p3⟩,λx H3 hy s0 H0 C cl fp=>?_⟩;obtain⟨x3,hr3,wr3,kp3⟩:=zfu (Z:=Z) (io:=io1) (S:=S1) (H:=H1) hr2 ry (yl x H3 hy);rw [edrop] at p2;unfold lcD at p2;cases hgd:g (.d d) (kJ t (own.map (·.2))) with
  |none=>rw [hgd] at p2;exact p2.elim
  |some t1=>
   rw [hgd] at p2;dsimp only at p2;have s3:=s2.ext hr2 x3;refine(hg s0 H0 C cl fp).run (ZP Z D) io' S' H3 _ _ (.d d) x t1 _ hr3 s3 wr3 hgd λσ1 s4 k4 l4=>?_
   refine⟨zbv (λj hj=>k4 j λz=>hj (hsl j z)) l4,λs5 H5 C5 cl5 fp5 pins5 s6 I6=>?_⟩;have hD3:H3 D=some (.lst vs):=kp3 _ _ hD2;have qa3:=qa.ext hr2 x3;have yr3:∀(j:Nat) (d:_root_.Z.D),ds[j]? =some d->∃y,ys[j]? =some y/\YRel X.K H3 (NA (ZP Z D) io' S') d y:=λj d e=>let⟨y,e1,r⟩:=yr2 j d e;⟨y,e1,r.mono (x3.k1 hr2) x3.k2⟩
   have s3w:=s3;refine(ht s5 H5 C5 cl5 fp5).run (ZP Z D) io' S' H3 t1 σ1 _ hr3 s4 ?_ pins5 s6 I6;cases hmt:mt t1 S' with
   |bad=>rw [hmt] at p2;exact p2.elim
   |exc xx SS=>rw [hmt] at p2;exact p2.elim
   |ok b S4=>
    rw [hmt] at p2;intro io4 H4 bv x4 hr4 eb;subst eb;have s5':=s4.ext hr3 x4;have hD4:H4 D=some (.lst vs):=(x4.keep D _ hD3 (hr3.zc D (.inr rfl))).1;have qa4:=qa3.ext hr3 x4;have yr4:∀(j:Nat) (d:_root_.Z.D),ds[j]? =some d->∃y,ys[j]? =some y/\YRel X.K H4 (NA (ZP Z D) io4 S4) d y:=λj d e=>let⟨y,e1,r⟩:=yr3 j d e;⟨y,e1,r.mono (x4.k1 hr3) x4.k2⟩
    have w4:=s3w.ext hr3 x4;cases b with
    |false=>
     rw [if_neg lE];exact⟨io4,S4,acc,vs,(x2.trans x3).trans x4,hr4,hD4,qa4,w4,p2,yr4⟩
    |true=>
     rw [if_pos rfl];intro s7 H7 C7 cl7 fp7;refine(he s7 H7 C7 cl7 fp7).run (ZP Z D) io4 S4 H4 t1 σ1 _ hr4 s5' ?_;dsimp only at p2;cases hme:me t1 S4 with
     |bad=>rw [hme] at p2;exact p2.elim
     |exc xx SS=>rw [hme] at p2;exact p2.elim
     |ok w S5=>
      rw [hme] at p2;cases w with
      |ref n=>exact p2.elim
      |fz n=>exact p2.elim
      |exn n=>exact p2.elim
      |fk n _=>exact p2.elim
      |tl _ _ _=>exact p2.elim
      |d xd=>
       dsimp only at p2;intro io5 H5 v5 x5 hr5 rw5;have hD5:H5 D=some (.lst vs):=(x5.keep D _ hD4 (hr4.zc D (.inr rfl))).1;by_cases hz:acc.length<sizeLine
       ·rw [if_pos hz] at p2;have qa5:=qa4.ext hr4 x5;have lv:acc.length=vs.length:=qa5.length;have hzd:ZP Z D D:=.inr rfl;cases rw5 with
        |d r5=>
         refine⟨vs,hD5,by rw [<-lv];exact hz,io5,S5,acc++ [xd],vs++ [v5],?_,hr5.outP hD5 hzd,xT,?_,?_,p2,λj d e=>?_⟩
         ·have xx:=((x2.trans x3).trans x4).trans x5;refine⟨xx.len,xx.adr,λa o h n=>?_⟩;have:=xx.keep a o h n;refine⟨?_,this.2⟩;rw [zJ (zu h hD)];exact this.1
         ·exact(qa5.append (.cons r5 .nil)).outP hD5 hzd
         ·exact(w4.ext hr4 x5).outP hD5 hzd
         ·obtain⟨y,e1,r⟩:=yr4 j d e;refine⟨y,e1,?_⟩;have r':=r.mono (x5.k1 hr4) (x5.k2 (Z:=ZP Z D));cases r' with
          |one r9=>exact .one (r9.outP hD5 hzd)
          |two r9 s9=>exact .two (r9.outP hD5 hzd) (s9.outP hD5 hzd)
       ·rw [if_neg hz] at p2;exact p2.elim
 ·have e:i=ds.length:=by omega
  subst e;refine .inl ⟨by rw [<-ylen];exact wstop,?_⟩;rw [yS] at p2;exact hfin Z io1 S1 H1 io' S' H' σ Q D vs acc hD x2 hr2 (hr1.freshZ hD) hD2 qa p2
theorem zdN:∀(Z:ZS) io1 S1 H1 io S H σ Q p vs (xs:List D),H1 p=none->Ext io1 S1 H1 io S H->HRel X.K (ZP Z p) io S H->¬Z p->H p=some (.lst vs)->DRels X.K H (NA (ZP Z p) io S) xs vs->qH X Z (RW X Z) io1 S1 H1 σ (.ok (.d (.lst xs)) S) Q->Q (.ref p) H:=
 λZ io1 S1 H1 io S H σ Q p vs xs h0 x2 hr hz hp q po=>po io H (.ref p) x2 hr.weakZ (.d (.lst hp ⟨hr.zc p (.inr rfl),hz⟩ q.weakZ))
theorem QZ{elt tg iter:Expr}{ifs:List Expr}{scope:Scope}{own:List (Str×Nat)}{pos:Pos}{mi:MIs}{g:W->DS->Option DS}{sl:List Nat}{mt:MB}{me:M}(c:Cok X)(hi:MI X tg iter mi)(ok:BlkOk X.N X.env.scope scope own)
 (hg:∀(s:Shared) (H:Hp) (C:Addr) (cl:List (Str×Addr)) (fp:List Addr),MG (X.blk s H scope (compEnvC scope cl C X.env) fp) tg sl g) (hsl:∀i∈sl,i∈own.map (·.2))
 (ht:∀(s:Shared) (H:Hp) (C:Addr) (cl:List (Str×Addr)) (fp:List Addr),MTs (X.blk s H scope (compEnvC scope cl C X.env) fp) ifs mt)
 (he:∀(s:Shared) (H:Hp) (C:Addr) (cl:List (Str×Addr)) (fp:List Addr),ME (X.blk s H scope (compEnvC scope cl C X.env) fp) elt me) (hs:∀x,foldedSetIterable iter X.env x=pure x:=by intro _;rfl):
 ME X (.ListComp elt [⟨tg,iter,ifs,0⟩] scope pos) (dLc (own.map (·.2)) mi g mt me):=by
 exact⟨λZ io S H t σ Q hr sr po=>PEw (znD c.calm c.nd zmC ok zgL zdv ze3 hs) (zcO hi.run ok hg hsl ht he hs (fin:=λxs S2=>.ok (.d (.lst xs)) S2) zdN hr sr po)⟩
end
def wS(X:Cx)(st:Stmt):TS:=λD σ H=>∀pins s,Inv X pins σ H s->wpAny (model X.prog X.w) X.A (exec st X.env) (SP X pins D) X.xe s
def wSs(X:Cx)(st:List Stmt):TS:=λD σ H=>∀pins s,Inv X pins σ H s->wpAny (model X.prog X.w) X.A (execs st X.env) (SP X pins D) X.xe s
theorem znW{X:Cx}{st:Stmt}:PS X st (wS X st):=λpins s _ _ _ I h=>h pins s I
theorem VV{X:Cx}{st:List Stmt}:PSs X st (wSs X st):=λpins s _ _ _ I h=>h pins s I
theorem PSw{X:Cx}{st:Stmt}{t:TS}{D:Ends}{σ:St}{H:Hp}(h:PS X st t)(q:t D σ H):wS X st D σ H:=λpins s I=>h pins s σ H D I q
theorem znj{X:Cx}{st:List Stmt}{t:TS}{D:Ends}{σ:St}{H:Hp}(h:PSs X st t)(q:t D σ H):wSs X st D σ H:=λpins s I=>h pins s σ H D I q
def ke(X:Cx)(Z:ZS)(io:Nat->Addr)(S:Sto)(H:Hp)(r:SR)(D:Ends):Prop:=
 match r with
 | .nx t S'=>∀io' H' σ',Ext io S H io' S' H'->HRel X.K Z io' S' H'->SRel X.K Z io' S' H' t σ'->D.nx σ' H'
 | .bk t S'=>∀io' H' σ',Ext io S H io' S' H'->HRel X.K Z io' S' H'->SRel X.K Z io' S' H' t σ'->D.bk σ' H'
 | .ct t S'=>∀io' H' σ',Ext io S H io' S' H'->HRel X.K Z io' S' H'->SRel X.K Z io' S' H' t σ'->D.ct σ' H'
 | .rt w S'=>∀io' H' v,Ext io S H io' S' H'->HRel X.K Z io' S' H'->WRel X.K Z io' S' H' w v->D.rt v H'
 | .exc x t S'=>∀pins io' H' σ' u s',Ext io S H io' S' H'->HRel X.K Z io' S' H'->SRel X.K Z io' S' H' t σ'->Fly X pins σ' H' x u s'->X.xe u s'
 | .bad=>False
abbrev MSt:=DS->Sto->SR
structure MS (X:Cx) (st:Stmt) (m:MSt):Prop where
 run:∀Z io S H t σ D,HRel X.K Z io S H->SRel X.K Z io S H t σ->ke X Z io S H (m t S) D->wS X st D σ H
structure MSs (X:Cx) (st:List Stmt) (m:MSt):Prop where
 run:∀Z io S H t σ D,HRel X.K Z io S H->SRel X.K Z io S H t σ->ke X Z io S H (m t S) D->wSs X st D σ H
def SR.seq(r:SR)(f:MSt):SR:=match r with| .nx t S=>f t S|r=>r
@[simp] theorem znV(t:DS)(S:Sto)(f:MSt):(SR.nx t S).seq f=f t S:=rfl
@[simp] theorem zn7(t:W)(S:Sto)(f:MSt):(SR.rt t S).seq f= .rt t S:=rfl
@[simp] theorem znR(t:DS)(S:Sto)(f:MSt):(SR.bk t S).seq f= .bk t S:=rfl
@[simp] theorem zn5(t:DS)(S:Sto)(f:MSt):(SR.ct t S).seq f= .ct t S:=rfl
@[simp] theorem znf(x:Xn)(t:DS)(S:Sto)(f:MSt):(SR.exc x t S).seq f= .exc x t S:=rfl
@[simp] theorem zni(f:MSt):(SR.bad).seq f= .bad:=rfl
def zr:MSt:=λt S=>.nx t S
def zg(a b:MSt):MSt:=λt S=>(a t S).seq b
def sIf(c:MB)(a b:MSt):MSt:=λt S=>(c t S).then t λk S1=>if k=true then a t S1 else b t S1
def zU(a:M):MSt:=λt S=>(a t S).then t λw S1=>.rt w S1
def zO(a:M):MSt:=λt S=>(a t S).then t λ_ S1=>.nx t S1
def zN(a:M)(g:W->DS->Option DS):MSt:=λt S=>(a t S).then t λw S1=>match g w t with|some t1=>.nx t1 S1|none=>.bad
def Vk(g:W->DS->Option DS)(body:MSt):List D->MSt
 | [],t,S=>.nx t S
 |d::ds,t,S=>match g (.d d) t with
  |none=>.bad
  |some t1=>match body t1 S with
   | .nx t2 S2=>Vk g body ds t2 S2
   | .ct t2 S2=>Vk g body ds t2 S2
   | .bk t2 S2=>.nx t2 S2
   |r=>r
def xl(mi:MIs)(g:W->DS->Option DS)(body:MSt):MSt:=λt S=>(mi t S).then t λds S1=>Vk g body ds t S1
def Q2(c:MB)(body:MSt):Nat->MSt
 |0,_,_=>.bad
 |n+1,t,S=>(c t S).then t λk S1=>if k=true then(match body t S1 with
   | .nx t2 S2=>Q2 c body n t2 S2
   | .ct t2 S2=>Q2 c body n t2 S2
   | .bk t2 S2=>.nx t2 S2
   |r=>r) else .nx t S1
section
variable {X:Cx} {Z:ZS} {io io1:Nat->Addr} {S S1:Sto} {H H1:Hp} {t:DS} {σ:St} {D:Ends}
theorem ke.from{r:SR}(p:ke X Z io S H r D)(x:Ext io S H io1 S1 H1):ke X Z io1 S1 H1 r D:=by
 cases r with
 |nx t S'=>exact λio' H' σ' x2=>p io' H' σ' (x.trans x2)
 |bk t S'=>exact λio' H' σ' x2=>p io' H' σ' (x.trans x2)
 |ct t S'=>exact λio' H' σ' x2=>p io' H' σ' (x.trans x2)
 |rt t S'=>exact λio' H' σ' x2=>p io' H' σ' (x.trans x2)
 |exc y t S'=>exact λpins io' H' σ' u s' x2=>p pins io' H' σ' u s' (x.trans x2)
 |bad=>exact p
theorem ke.then{α β:Type}{rel:(Nat->Addr)->Sto->Hp->α->β->Prop}{r:Res α}{f:α->Sto->SR}{Q1:β->Hp->Prop}(p:ke X Z io S H (r.then t f) D)(sr:SRel X.K Z io S H t σ)(hr:HRel X.K Z io S H)
 (k:∀io1 S1 H1 w v,Ext io S H io1 S1 H1->HRel X.K Z io1 S1 H1->rel io1 S1 H1 w v->SRel X.K Z io1 S1 H1 t σ->ke X Z io1 S1 H1 (f w S1) D->Q1 v H1):qH X Z rel io S H σ r Q1:=by
 cases r with
 |ok w S'=>exact λio' H' v x2 h2 r2=>k io' S' H' w v x2 h2 r2 (sr.ext hr x2) (ke.from p x2)
 |exc x S'=>exact λpins io' H' u s' x2 h2 fl=>p pins io' H' σ u s' x2 h2 (sr.ext hr x2) fl
 |bad=>exact p
theorem ke.nx'(p:ke X Z io S H (.nx t S) D)(hr:HRel X.K Z io S H)(sr:SRel X.K Z io S H t σ):D.nx σ H:=p io H σ Ext.refl hr sr
end
section
variable {X:Cx} {st:Stmt} {rest sts:List Stmt} {e c:Expr} {m m2:MSt} {me:M} {mt:MB} {pos:Pos}
theorem zm:MSs X [] zr:=⟨λZ io S H t σ D hr sr p=>znj zf7 (p.nx' hr sr)⟩
theorem ze(h1:MS X st m)(h2:MSs X rest m2):MSs X (st::rest) (zg m m2):=by
 refine⟨λZ io S H t σ D hr sr p=>znj (zdH znW VV) ?_⟩;refine h1.run Z io S H t σ _ hr sr ?_;unfold zg at p;cases h:m t S with
 |nx t1 S1=>
  rw [h] at p;exact λio' H' σ' x2 hr2 sr2=>h2.run Z io' S1 H' t1 σ' D hr2 sr2 (ke.from p x2)
 |bk t1 S1=>rw [h] at p;exact p
 |ct t1 S1=>rw [h] at p;exact p
 |rt t1 S1=>rw [h] at p;exact p
 |exc x t1 S1=>rw [h] at p;exact p
 |bad=>rw [h] at p;exact p
theorem jh(hc:MT X c mt)(ha:MSs X sts m)(hb:MSs X rest m2):MS X (.If c sts rest pos) (sIf mt m m2):=by
 refine⟨λZ io S H t σ D hr sr p=>PSw (zm4 zgU VV VV) ?_⟩;refine hc.run Z io S H t σ _ hr sr (ke.then p sr hr λio1 S1 H1 w v x1 hr1 rw1 sr1 p1=>?_);cases rw1;cases w with
 |true=>exact ha.run Z io1 S1 H1 t σ D hr1 sr1 p1
 |false=>exact hb.run Z io1 S1 H1 t σ D hr1 sr1 p1
theorem zR(h:ME X e me):MS X (.Return (some e) pos) (zU me):=by refine⟨λZ io S H t σ D hr sr p=>PSw (zkS kN) ?_⟩;refine h.run Z io S H t σ _ hr sr (ke.then p sr hr λio1 S1 H1 w v x1 hr1 rw1 sr1 p1=>?_);exact p1 io1 H1 v Ext.refl hr1 rw1
theorem K3(h:ME X e me)(hs:swapsWith e none pos.line X.env=pure false:=by rfl):MS X (.Expr e pos) (zO me):=by refine⟨λZ io S H t σ D hr sr p=>PSw (zjA kN hs) ?_⟩;refine h.run Z io S H t σ _ hr sr (ke.then p sr hr λio1 S1 H1 w v x1 hr1 rw1 sr1 p1=>?_);exact p1.nx' hr1 sr1
theorem VC{tg:Expr}{sl:List Nat}{g:W->DS->Option DS}(he:ME X e me)(hg:MG X tg sl g)(hs:swapsWithSole [tg] e pos.line X.env=pure false:=by rfl)(hw:swappedStores [tg] e X.env=pure none:=by rfl)
 (h1:(assignEach [tg] X.env).map (·.2)= [assign tg X.env]:=by rfl):MS X (.Assign [tg] e pos) (zN me g):=by
 refine⟨λZ io S H t σ D hr sr p=>PSw (zeK kN znk hs hw h1) ?_⟩;refine he.run Z io S H t σ _ hr sr (ke.then p sr hr λio1 S1 H1 w v x1 hr1 rw1 sr1 p1=>?_);cases q:g w t with
 |none=>rw [q] at p1;exact p1.elim
 |some t1=>
  rw [q] at p1;exact hg.run Z io1 S1 H1 t σ w v t1 _ hr1 sr1 rw1 q λσ1 s1 _ _=>p1 io1 H1 σ1 Ext.refl hr1 s1
theorem Qd{i:Nat}{x:Str}{pos':Pos}(hN:X.N.Nodup)(hi:X.N[i]? =some x)(hx:Loc X.env.scope x)(he:ME X e me)(hs:swapsWith e (some (.Name x pos')) pos.line X.env=pure false:=by rfl)(hf:X.fn x=true\/X.env.scope.names.lookup x=some .local:=by first|exact .inl rfl|exact .inr rfl|assumption):
 MS X (.Assign [.Name x pos'] e pos) (zN me (gN i)):=by
 refine⟨λZ io S H t σ D hr sr p=>PSw (ziK hN hi hx kN hs hf) ?_⟩;refine he.run Z io S H t σ _ hr sr (ke.then p sr hr λio1 S1 H1 w v x1 hr1 rw1 sr1 p1=>?_);exact p1 io1 H1 _ Ext.refl hr1 (sr1.set i rw1)
theorem XV{tg iter:Expr}{mi:MIs}{sl:List Nat}{g:W->DS->Option DS}(k:Cok X)(hi:MI X tg iter mi)(hg:MG X tg sl g)(hb:MSs X sts m)(hs:∀x,foldedSetIterable iter X.env x=pure x:=by intro _;rfl):MS X (.For tg iter sts [] pos) (xl mi g m):=by
 refine⟨λZ io S H t σ D hr sr p=>PSw (zmh k.hp k.calm zmC znk VV hs) ?_⟩;refine hi.run Z io S H t σ _ hr sr (ke.then p sr hr λio1 S1 H1 ds J x1 hr1 wk sr1 p1=>?_);obtain⟨ys,ylen,yrel,ywalk⟩:=wk.ex
 let Pv:Nat->St->Hp->Prop:=λi σ' H'=>∃io' S' t',Ext io1 S1 H1 io' S' H'/\HRel X.K Z io' S' H'/\SRel X.K Z io' S' H' t' σ'/\ke X Z io1 S1 H1 (Vk g m (ds.drop i) t' S') D
 refine⟨λi mm σ' H'=>mm=ds.length-i/\i<=ds.length/\Pv i σ' H',⟨ds.length,(YX _).symm,yx _,io1,S1,t,Ext.refl,hr1,sr1,p1⟩,?_⟩;rintro i mm σ' H' ⟨rfl,hil,io',S',t',x2,hr2,sr2,p2⟩;have keep:∀a o,H1 a=some o->N0 io1 S1 a->H' a=some o:=λa o h n=>(x2.keep a o h n).1
 obtain⟨wgo,wstop⟩:=ywalk H' keep;by_cases hlt:i<ds.length
 ·obtain⟨d,hd⟩:∃d,ds[i]? =some d:=⟨ds[i],by simp [hlt]⟩;have edrop:ds.drop i=d::ds.drop (i+1):=by rw [yR hlt];congr 1;exact(lI.mp hd).2
  obtain⟨y,ey,ry⟩:=yrel i d hd;obtain⟨go,yl⟩:=wgo i y ey;refine .inr ⟨go,Pv (i+1),λσ3 H3 p3=>⟨ds.length-(i+1),by omega,rfl,hlt,p3⟩,λx H3 hy=>?_⟩;have ry':=ry.mono (x2.k1 hr1) x2.k2;obtain⟨x3,hr3,wr3,kp3⟩:=zfu (Z:=Z) (io:=io1) (S:=S1) (H:=H1) hr2 ry' (yl x H3 hy);rw [edrop] at p2;unfold Vk at p2;cases hgd:g (.d d) t' with
  |none=>rw [hgd] at p2;exact p2.elim
  |some t1=>
   rw [hgd] at p2;dsimp only at p2;refine hg.run Z io' S' H3 t' σ' (.d d) x t1 _ hr3 (sr2.ext hr2 x3) wr3 hgd λσ1 s4 _ _=>?_
   refine hb.run Z io' S' H3 t1 σ1 _ hr3 s4 ?_;have x23:=x2.trans x3;cases hm:m t1 S' with
   |nx t2 S2=>
    rw [hm] at p2;exact λio5 H5 σ5 x5 hr5 sr5=>⟨io5,S2,t2,x23.trans x5,hr5,sr5,p2⟩
   |ct t2 S2=>
    rw [hm] at p2;exact λio5 H5 σ5 x5 hr5 sr5=>⟨io5,S2,t2,x23.trans x5,hr5,sr5,p2⟩
   |bk t2 S2=>
    rw [hm] at p2;exact λio5 H5 σ5 x5 hr5 sr5=>p2 io5 H5 σ5 (x23.trans x5) hr5 sr5
   |rt t2 S2=>
    rw [hm] at p2;exact λio5 H5 σ5 x5 hr5 sr5=>p2 io5 H5 σ5 (x23.trans x5) hr5 sr5
   |exc xx t2 S2=>
    rw [hm] at p2;exact λpins io5 H5 σ5 u s5 x5 hr5 sr5 fl=>p2 pins io5 H5 σ5 u s5 (x23.trans x5) hr5 sr5 fl
   |bad=>rw [hm] at p2;exact p2.elim
 ·have e:i=ds.length:=by omega
  subst e;refine .inl ⟨by rw [<-ylen];exact wstop,?_⟩;rw [yS] at p2;exact p2 io' H' σ' x2 hr2 sr2
theorem zh8{fu:Nat}(k:Cok X)(hc:MT X c mt)(hb:MSs X sts m):MS X (.While c sts [] pos) (Q2 mt m fu):=by
 refine⟨λZ io S H t σ D hr sr p=>PSw (zg5 k.hp zgU VV) ?_⟩;refine⟨λmm σ' H'=>∃io' S' t',Ext io S H io' S' H'/\HRel X.K Z io' S' H'/\SRel X.K Z io' S' H' t' σ'/\ke X Z io S H (Q2 mt m mm t' S') D,⟨fu,io,S,t,Ext.refl,hr,sr,p⟩,?_⟩;rintro mm σ' H' ⟨io',S',t',x2,hr2,sr2,p2⟩;cases mm with
 |zero=>exact p2.elim
 |succ n=>
  unfold Q2 at p2;refine hc.run Z io' S' H' t' σ' _ hr2 sr2 ?_;cases hmt:mt t' S' with
  |bad=>rw [hmt] at p2;exact p2.elim
  |exc x S3=>
   rw [hmt] at p2;exact λpins io5 H5 u s5 x5 hr5 fl=>p2 pins io5 H5 σ' u s5 (x2.trans x5) hr5 (sr2.ext hr2 x5) fl
  |ok w S3=>
   rw [hmt] at p2;dsimp only [Zx] at p2;intro io3 H3 v x3 hr3 rw3;cases rw3;have sr3:=sr2.ext hr2 x3;have x23:=x2.trans x3;cases w with
   |false=>
    rw [if_neg lE] at p2⊢;exact p2 io3 H3 σ' x23 hr3 sr3
   |true=>
    rw [if_pos rfl] at p2⊢;refine⟨λσ5 H5=>∃io5 S5 t5,Ext io S H io5 S5 H5/\HRel X.K Z io5 S5 H5/\SRel X.K Z io5 S5 H5 t5 σ5/\ke X Z io S H (Q2 mt m n t5 S5) D,λσ5 H5 q=>⟨n,LB _,q⟩,?_⟩;refine hb.run Z io3 S3 H3 t' σ' _ hr3 sr3 ?_;cases hm:m t' S3 with
    |nx t2 S2=>
     rw [hm] at p2;exact λio5 H5 σ5 x5 hr5 sr5=>⟨io5,S2,t2,x23.trans x5,hr5,sr5,p2⟩
    |ct t2 S2=>
     rw [hm] at p2;exact λio5 H5 σ5 x5 hr5 sr5=>⟨io5,S2,t2,x23.trans x5,hr5,sr5,p2⟩
    |bk t2 S2=>
     rw [hm] at p2;exact λio5 H5 σ5 x5 hr5 sr5=>p2 io5 H5 σ5 (x23.trans x5) hr5 sr5
    |rt t2 S2=>
     rw [hm] at p2;exact λio5 H5 σ5 x5 hr5 sr5=>p2 io5 H5 σ5 (x23.trans x5) hr5 sr5
    |exc xx t2 S2=>
     rw [hm] at p2;exact λpins io5 H5 σ5 u s5 x5 hr5 sr5 fl=>p2 pins io5 H5 σ5 u s5 (x23.trans x5) hr5 sr5 fl
    |bad=>rw [hm] at p2;exact p2.elim
end
section
variable {X:Cx}
theorem QT{i:Nat}{y:Str}{py:Pos}{elt tg iter:Expr}{ifs:List Expr}{scope:Scope}{own:List (Str×Nat)}{pos spos:Pos}{mi:MIs}{g:W->DS->Option DS}{sl:List Nat}{mt:MB}{me:M}(c:Cok X)(hy:X.N[i]? =some y)(hyl:X.env.scope.names.lookup y=some .local)
 (hsw:swapsWith (.ListComp elt [⟨tg,iter,ifs,0⟩] scope pos) (some (.Name y py)) spos.line X.env=pure true) (hi:MI X tg iter mi) (ok:BlkOk X.N X.env.scope scope own)
 (hg:∀(s:Shared) (H:Hp) (C:Addr) (cl:List (Str×Addr)) (fp:List Addr),MG (X.blk s H scope (compEnvC scope cl C X.env) fp) tg sl g) (hsl:∀i∈sl,i∈own.map (·.2))
 (ht:∀(s:Shared) (H:Hp) (C:Addr) (cl:List (Str×Addr)) (fp:List Addr),MTs (X.blk s H scope (compEnvC scope cl C X.env) fp) ifs mt)
 (he:∀(s:Shared) (H:Hp) (C:Addr) (cl:List (Str×Addr)) (fp:List Addr),ME (X.blk s H scope (compEnvC scope cl C X.env) fp) elt me) (hs:∀x,foldedSetIterable iter X.env x=pure x:=by intro _;rfl):
 MS X (.Assign [.Name y py] (.ListComp elt [⟨tg,iter,ifs,0⟩] scope pos) spos) (zN (dLc (own.map (·.2)) mi g mt me) (gN i)):=by
 refine⟨λZ io S H t σ D hr sr p=>PSw (zin c.calm c.nd hy hyl hsw zmC ok zgL zdv ze3 hs) ?_⟩;refine zcO hi.run ok hg hsl ht he hs (fin:=λxs S2=>.ok (.d (.lst xs)) S2) zdN hr sr (ke.then p sr hr λio1 S1 H1 w v x1 hr1 rw1 sr1 p1=>?_);exact p1 io1 H1 _ Ext.refl hr1 (sr1.set i rw1)
def jb(a o i:M):MSt:=λt S=>(a t S).then t λw S1=>(o t S1).then t λow S2=>(i t S2).then t λiw S3=>match w,ow,iw with
 | .d x,.ref n,.d (.int k)=>(match S3[n]? with
   |some (.lst xs)=>(match ixN xs.length k with|some j=>.nx t (S3.set n (.lst (xs.set j x)))|none=>.bad)
   |_=>.bad)
 |_,_,_=>.bad
theorem VJ{Z:ZS}{io:Nat->Addr}{S:Sto}{H:Hp}{t:DS}{σ:St}{D:Ends}{n:Nat}{xs ys:List _root_.Z.D}{vs:List V}(p:ke X Z io S H (.nx t (S.set n (.lst ys))) D)(hr:HRel X.K Z io S H)(sr:SRel X.K Z io S H t σ)(e:S[n]? =some (.lst xs))(q:DRels X.K H (NA Z io S) ys vs):D.nx σ (upd H (io n) (.lst vs)):=
 p io _ σ (Ext.write (jF e)) (hr.write (jF e) q) (sr.ext hr (Ext.write (jF e)))
theorem vn{o i e:Expr}{mo mi me:M}{pos pos':Pos}(he:ME X e me)(ho:ME X o mo)(hi:ME X i mi)
 (ha:∀v,assign (.Subscript o i pos') X.env v=(do
   let ov<-holding [v] (eval o X.env)
   let iv<-holding [v,ov] (eval i X.env)
   standAt pos'
   holding [v,ov,iv] (setItem ov iv v)
   release [v,ov,iv] []):=by intro _;rfl)
 (hs:swapsWithSole [.Subscript o i pos'] e pos.line X.env=pure false:=by rfl) (hw:swappedStores [.Subscript o i pos'] e X.env=pure none:=by rfl)
 (h1:(assignEach [.Subscript o i pos'] X.env).map (·.2)= [assign (.Subscript o i pos') X.env]:=by rfl):MS X (.Assign [.Subscript o i pos'] e pos) (jb me mo mi):=by
 refine⟨λZ io S H t σ D hr sr p=>PSw (zeK kN (zme kN kN set_list ha) hs hw h1) ?_⟩;refine he.run Z io S H t σ _ hr sr (ke.then p sr hr λio1 S1 H1 w v x1 hr1 rw1 sr1 p1=>?_);refine ho.run Z io1 S1 H1 t σ _ hr1 sr1 (ke.then p1 sr1 hr1 λio2 S2 H2 w2 v2 x2 hr2 rw2 sr2 p2=>?_);refine hi.run Z io2 S2 H2 t σ _ hr2 sr2 (ke.then p2 sr2 hr2 λio3 S3 H3 w3 v3 x3 hr3 rw3 sr3 p3=>?_);have rx1:=(rw1.ext hr1 x2).ext hr2 x3;have rx2:=rw2.ext hr2 x3;clear rw1 rw2;split at p3
 ·rename_i x n k;split at p3
  ·rename_i xs e;split at p3
   ·rename_i j ej;obtain⟨vs,h1,q⟩:=hr3.cell n xs e;obtain rfl:=jR rw3;cases rx2 with
    |ref hn=>
     cases rx1 with
     |d r1=>exact⟨_,vs,k,j,rfl,rfl,h1,by rw [<-q.length];exact ej,VJ p3 hr3 sr3 e (q.set r1 j)⟩
   ·exact p3.elim
  ·exact p3.elim
 ·exact p3.elim
def znm(o a:M):M:=λt S=>(o t S).bind λow S1=>(a t S1).bind λw S2=>match ow,w with
 | .ref n,.d x=>(match S2[n]? with|some (.lst xs)=>if xs.length<sizeLine then .ok (.d .non) (S2.set n (.lst (xs++ [x]))) else .bad|_=>.bad)
 |_,_=>.bad
def Xd(S:Sto):W->Bool
 | .ref n=>(match S[n]? with|some (.lst _)=>true|_=>false)
 |_=>false
def vF(o a:M):M:=λt S=>(o t S).bind λow S1=>if Xd S1 ow=true then(a t S1).bind λw S2=>match ow,w with
 | .ref n,.d x=>(match S2[n]? with|some (.lst xs)=>if xs.length<sizeLine then .ok (.d .non) (S2.set n (.lst (xs++ [x]))) else .bad|_=>.bad)
 |_,_=>.bad
 else .bad
theorem zck{Z:ZS}{io:Nat->Addr}{S:Sto}{H:Hp}{w:W}{v:V}(hr:HRel X.K Z io S H)(r:WRel X.K Z io S H w v)(e:Xd S w=true):tyV X.K "list" v H:=by
 cases r with
 |d _=>cases e
 |fz _ _=>cases e
 |exn _ _=>cases e
 |fk _ _ _=>cases e
 |tl _ _ _ _=>cases e
 |ref hn=>
  unfold Xd at e;dsimp only at e;split at e
  ·rename_i xs q;obtain⟨vs,h1,_⟩:=hr.cell _ _ q;exact .inl ⟨rfl,vs,SqL.of h1⟩
  ·cases e
theorem zaS{o e:Expr}{mo me:M}{apos cpos:Pos}(ho:ME X o mo)(he:ME X e me)(hbase:attributeBase o "append" X.env (eval o X.env)=eval o X.env:=by rfl)
 (hfew:((backTo cpos (starEach [e] X.env)).all (λx=> !x.1)&&(backToKw cpos (keywordEach [] X.env)).all (λx=>x.1.isSome)
   &&decide ([e].length+([]:List Keyword).length+(if ([]:List Keyword).isEmpty then 0 else 1)<30))=true:=by rfl)
 (hline:(apos.endLine==cpos.line)=true:=by rfl) (hs:starEach [e] X.env=(false,eval e X.env)::starEach [] X.env:=by rfl) (hplain:(backTo cpos (starEach [] X.env)).any (·.1)=false:=by rfl):
 ME X (.Call (.Attribute o "append" apos) [e] [] cpos) (vF mo me):=by
 refine⟨λZ io S H t σ Q hr sr p=>PEw (zjU LS YA PySem.F.type_list_append zex kN (j3 kN Qj hs) hbase hfew hline hs hplain) ?_⟩;refine ho.run Z io S H t σ _ hr sr (qH.bind p λio1 S1 H1 w v x1 hr1 rw1 p1=>?_);split at p1
 ·rename_i hc;refine⟨zck hr1 rw1 hc,?_⟩;refine he.run Z io1 S1 H1 t σ _ hr1 (sr.ext hr x1) (qH.bind p1 λio2 S2 H2 w2 v2 x2 hr2 rw2 p2=>?_);have rx1:=rw1.ext hr1 x2;clear rw1;split at p2
  ·rename_i n x;split at p2
   ·rename_i xs e;split at p2
    ·rename_i hz;obtain⟨vs,h1,q⟩:=hr2.cell n xs e;cases rx1 with
     |ref hn=>
      cases rw2 with
      |d r2=>exact⟨_,vs,v2,rfl,rfl,h1,by rw [<-q.length];exact hz,p2 io2 _ .non (Ext.write (jF e)) (hr2.write (jF e) (q.append (.cons r2 .nil))) (.d .non)⟩
    ·exact p2.elim
   ·exact p2.elim
  ·exact p2.elim
 ·exact p1.elim
def zdJ(o a:M):M:=λt S=>(o t S).bind λow S1=>if Xd S1 ow=true then(a t S1).bind λw S2=>match ow,w with
 | .ref n,.d (.int i)=>(match S2[n]? with
   |some (.lst xs)=>if 0<=i/\i<2^63 then(match xs[i.toNat]? with|some x=>.ok (.d x) (S2.set n (.lst (xs.eraseIdx i.toNat)))|none=>.bad) else .bad
   |_=>.bad)
 |_,_=>.bad
 else .bad
theorem zhK{o e:Expr}{mo me:M}{apos cpos:Pos}(ho:ME X o mo)(he:ME X e me)(hbase:attributeBase o "pop" X.env (eval o X.env)=eval o X.env:=by rfl)
 (hfew:((backTo cpos (starEach [e] X.env)).all (λx=> !x.1)&&(backToKw cpos (keywordEach [] X.env)).all (λx=>x.1.isSome)
   &&decide ([e].length+([]:List Keyword).length+(if ([]:List Keyword).isEmpty then 0 else 1)<30))=true:=by rfl)
 (hline:(apos.endLine==cpos.line)=true:=by rfl) (hs:starEach [e] X.env=(false,eval e X.env)::starEach [] X.env:=by rfl) (hplain:(backTo cpos (starEach [] X.env)).any (·.1)=false:=by rfl):
 ME X (.Call (.Attribute o "pop" apos) [e] [] cpos) (zdJ mo me):=by
 refine⟨λZ io S H t σ Q hr sr p=>PEw (zjU LS PySem.F.slot_list_pop PySem.F.type_list_pop zhD kN (j3 kN Qj hs) hbase hfew hline hs hplain) ?_⟩;refine ho.run Z io S H t σ _ hr sr (qH.bind p λio1 S1 H1 w v x1 hr1 rw1 p1=>?_);split at p1
 ·rename_i hc;refine⟨zck hr1 rw1 hc,?_⟩;refine he.run Z io1 S1 H1 t σ _ hr1 (sr.ext hr x1) (qH.bind p1 λio2 S2 H2 w2 v2 x2 hr2 rw2 p2=>?_);have rx1:=rw1.ext hr1 x2;clear rw1;split at p2
  ·rename_i n i;split at p2
   ·rename_i xs e;split at p2
    ·rename_i hi;split at p2
     ·rename_i x ex;obtain⟨vs,h1,q⟩:=hr2.cell n xs e;obtain rfl:=jR rw2;obtain⟨u,eu,ru⟩:=q.get ex;have hlen:i.toNat<vs.length:=(lI.mp eu).1;cases rx1 with
      |ref hn=>
       refine⟨_,vs,i,i.toNat,u,rfl,rfl,h1,by omega,hi.2,seqIndex_of hi.1 (by omega),eu,?_⟩;exact p2 io2 _ u (Ext.write (jF e)) (hr2.write (jF e) (q.erase _)) (.d (ru.ext hr2 (Ext.write (jF e))))
     ·exact p2.elim
    ·exact p2.elim
   ·exact p2.elim
  ·exact p2.elim
 ·exact p1.elim
end
def zkF(k:Nat):SR->Res W
 | .nx _ S=>.ok (.d .non) (S.take k)
 | .rt (.d x) S=>.ok (.d x) (S.take k)
 | .rt (.ref n) S=>if n<k then .ok (.ref n) (S.take k) else(match S[n]? with|some (.lst xs)=>.ok (.ref k) (S.take k++ [.lst xs])|some (.dk xs)=>.ok (.ref k) (S.take k++ [.dk xs])|some (.dt xs)=>.ok (.ref k) (S.take k++ [.dt xs])|_=>.bad)
 | .rt (.tl n pre post) S=>if n<k then .bad else(match S[n]? with|some (.lst xs)=>.ok (.tl k pre post) (S.take k++ [.lst xs])|_=>.bad)
 | .exc x _ S=>.exc x (S.take k)
 |_=>.bad
def fnD(n:Nat)(m:MSt):List W->Sto->Res W:=λws S=>zkF S.length (m (ws.map some++List.replicate (n-ws.length) none) S)
def zcW(K:PySem.W.Frag)(np:Nat)(g:List W->Sto->Res W):Sp:=λvs H Q E=>vs.length=np/\∃Z io S ws,HRel K Z io S H/\WRels K Z io S H ws vs/\
 match g ws S with
 | .ok w S'=>∀io' H' v,Ext io S H io' S' H'->HRel K Z io' S' H'->WRel K Z io' S' H' w v->Q v H'
 |_=>False
theorem Kw{K:PySem.W.Frag}{Z:ZS}{io:Nat->Addr}{S:Sto}{H:Hp}{ws:List W}{vs:List V}{N:List Str}(r:WRels K Z io S H ws vs):SRel K Z io S H (ws.map some++List.replicate (N.length-ws.length) none) (start N vs):=by
 have hl:=r.length;unfold L2.start;refine⟨by simp [hl],λi w e=>?_⟩;by_cases hi:i<ws.length
 ·rw [yu (by simpa using hi),ya] at e;cases q:ws[i]? with
  |none=>rw [q] at e;cases e
  |some w'=>
   rw [q] at e;cases e;obtain⟨v,e1,r1⟩:=r.get q;exact⟨v,by rw [yu (by simpa using (by omega:i<vs.length)),ya,e1];rfl,r1⟩
 ·rw [Lz (by simpa using hi),YG] at e;split at e <;> cases e
theorem Ext.movedC{io io':Nat->Addr}{S S':Sto}{H H':Hp}{n:Nat}{c:Cell}(x:Ext io S H io' S' H')(e:S'[n]? =some c)(hc:c≠ .dead):
 Ext io S H (jX io' S.length (io' n)) (S'.take S.length++ [c]) H':=by
 have hlen:(S'.take S.length).length=S.length:=by rw [lK];have:=x.len;omega
 refine⟨by simp [hlen],λm hm=>(kH hm).trans (x.adr m hm),λa o h na=>⟨(x.keep a o h na).1,?_⟩⟩;have h1:=((x.keep a o h na).2.take (k:=S.length)).push (p:=io' n) (c:=c) λz=>(x.keep a o h na).2 n ⟨c,e,hc⟩ z
 rw [hlen] at h1;exact h1
theorem HRel.movedC{K:PySem.W.Frag}{Z:ZS}{io:Nat->Addr}{S:Sto}{H:Hp}{k n:Nat}{c:Cell}(r:HRel K Z io S H)(hk:k<=n)(hl:k<=S.length)(e:S[n]? =some c)(hc:c≠ .dead):HRel K Z (jX io k (io n)) (S.take k++ [c]) H:=by
 have hlen:(S.take k).length=k:=by rw [lK];omega
 have old:∀m,XM (S.take k++ [c]) m->(m<k/\XM S m/\jX io k (io n) m=io m)\/(m=k/\jX io k (io n) m=io n):=λm l=>by
  rcases Qz l with l|l
  ·obtain⟨a,b⟩:=v7 l;exact .inl ⟨b,a,kH b⟩
  ·rw [hlen] at l;subst l;exact .inr ⟨rfl,xi⟩
 have na:∀a,NA Z io S a->NA Z (jX io k (io n)) (S.take k++ [c]) a:=λa h=>⟨λm l=>by
  rcases old m l with⟨_,h2,h3⟩|⟨_,h3⟩
  ·rw [h3];exact h.1 m h2
  ·rw [h3];exact h.1 n ⟨c,e,hc⟩,h.2⟩
 refine⟨λm d em=>?_,λa b la lb eab=>?_,r.zd,λa z m l=>?_⟩
 ·by_cases nd:d= .dead
  ·subst nd;exact trivial
  rcases old m ⟨d,em,nd⟩ with⟨h1,_,h3⟩|⟨h1,h3⟩
  ·rw [yu (by rw [hlen];exact h1),yG h1] at em;rw [h3];exact(r.cells m d em).to (λ_ u h=>h) (λ_ _ h _=>h) λa _ h n=>⟨h,na a n⟩
  ·subst h1;rw [Lz (by rw [hlen];exact lD _),hlen] at em;have e':d=c:=by simpa using em.symm
   subst e';rw [h3];exact(r.cells n d e).to (λ_ u h=>h) (λ_ _ h _=>h) λa _ h n=>⟨h,na a n⟩
 ·rcases old a la with⟨a1,a2,a3⟩|⟨a1,a3⟩ <;> rcases old b lb with⟨b1,b2,b3⟩|⟨b1,b3⟩
  ·rw [a3,b3] at eab;exact r.inj a b a2 b2 eab
  ·rw [a3,b3] at eab;have:=r.inj a n a2 ⟨c,e,hc⟩ eab;omega
  ·rw [a3,b3] at eab;have:=r.inj n b ⟨c,e,hc⟩ b2 eab;omega
  ·rw [a1,b1]
 ·rcases old m l with⟨_,h2,h3⟩|⟨_,h3⟩
  ·rw [h3];exact r.zc a z m h2
  ·rw [h3];exact r.zc a z n ⟨c,e,hc⟩
theorem NA.movedC{Z:ZS}{io:Nat->Addr}{S:Sto}{k n:Nat}{c:Cell}(hl:k<=S.length)(e:S[n]? =some c)(hc:c≠ .dead){a:Addr}(h:NA Z io S a):NA Z (jX io k (io n)) (S.take k++ [c]) a:=by
 have hlen:(S.take k).length=k:=by rw [lK];omega
 refine⟨λm l=>?_,h.2⟩;rcases Qz l with l|l
 ·obtain⟨a,b⟩:=v7 l;rw [kH b];exact h.1 m a
 ·rw [hlen] at l;subst l;rw [xi];exact h.1 n ⟨c,e,hc⟩
theorem zcA{K:PySem.W.Frag}{Z:ZS}{io io1:Nat->Addr}{S S1:Sto}{H H1:Hp}{n:Nat}{pre post:List D}{v:V}{Q:V->Hp->Prop}(x1:Ext io S H io1 S1 H1)(hr1:HRel K Z io1 S1 H1)(rw1:WRel K Z io1 S1 H1 (.tl n pre post) v)
 (h:∀w S',zkF S.length (.rt (.tl n pre post) S1)= .ok w S'->∀io' H' v,Ext io S H io' S' H'->HRel K Z io' S' H'->WRel K Z io' S' H' w v->Q v H') (h2:zkF S.length (.rt (.tl n pre post) S1)≠ .bad):Q v H1:=by
 unfold zkF at h h2;dsimp only at h h2;by_cases hlt:n<S.length
 ·rw [if_pos hlt] at h2;exact absurd rfl h2
 ·rw [if_neg hlt] at h h2;cases q:S1[n]? with
  |none=>rw [q] at h2;exact absurd rfl h2
  |some ce=>
   rw [q] at h h2;cases ce with
   |dead=>exact absurd rfl h2
   |tb _ _ _=>exact absurd rfl h2
   |dk _=>exact absurd rfl h2
   |dt _=>exact absurd rfl h2
   |lst xs=>
    have hl:S.length<=S1.length:=by have:=x1.len;omega
    have hk:=hr1.movedC (k:=S.length) (by omega) hl q (λz=>nomatch z);have hlen:(S1.take S.length).length=S.length:=by rw [lK];omega
    cases rw1 with
    |tl hn hs q1 q2=>
     have na:=λa (z:NA Z io1 S1 a)=>NA.movedC hl q (λz=>nomatch z) z
     refine h _ _ rfl _ H1 _ (x1.movedC q (λz=>nomatch z)) hk (.tl (by simp [hlen]) ?_ (q1.mono (λa o z _=>z) λa xs z n=>⟨z,na a n⟩) (q2.mono (λa o z _=>z) λa xs z n=>⟨z,na a n⟩));rw [xi];exact hs
section
variable {P:Program} {w:World} {K:PySem.W.Frag} {mg:Str->Option Value} {base:Heap}
abbrev cxF(P:Program)(w:World)(K:PySem.W.Frag)(mg:Str->Option Value)(base:Heap)(N:List Str)(qual:Str)(st:Stmt)(f:Addr)(cdv:Value)(A:Around)(outer:List Env)(s:Shared)(H:Hp)(E:XK):Cx:=(zgI CX0 P w K mg base N qual (zp st) f cdv A outer s H E).nox
def FC(K:PySem.W.Frag)(f:Addr)(cdv:Value):Prop:=∃oc od fd sl,K.lookup f=some ⟨oc,od,.func fd,sl⟩/\fd.code=cdv
theorem zlL{x qual:Str}{st:Stmt}{f:Addr}{fd:FuncData}{N ps:List Str}{k:Nat}{m:MSt}(F:Fun K x qual st f fd)(Sc:FnScope N ps (zp st))
 (hb:∀(cdv:Value) (A:Around) (outer:List Env) (s:Shared) (H:Hp) (E:XK),Room k (A.deeper (envOfC qual (zp st) s.heap.objs.size f cdv))->Cok (cxF P w K mg base N qual st f cdv A outer s H E)->FC K f cdv->MSs (cxF P w K mg base N qual st f cdv A outer s H E) (zP st) m):
 FnOk P w K mg base CX0 (k+1) f fd ps (zcW K ps.length (fnD N.length m)):=by
 obtain⟨oc,od,kV,doc,pm,an,cdv,ct,osl,rfl,lk,hcd⟩:=F.ex;refine zmp lk hcd Sc (λvs H Q E h=>h.1) λA outer s H vs Q E hr h=>?_
 have fc:FC K f cdv:=⟨oc,od,_,osl,lk,rfl⟩;suffices z:∃t,PSs (cxF P w K mg base N qual st f cdv A outer s H E) (zP st) t/\t {nx:=λ_ H'=>Q .non H',rt:=Q} (start N vs) H by obtain⟨t,h1,h2⟩:=z;exact⟨t,h1.nox,h2⟩
 obtain⟨hl,Z,io,S,ws,hrel,rs,h⟩:=h;have c:Cok (cxF P w K mg base N qual st f cdv A outer s H E):=⟨rfl,hr.units,Sc.nd,Lx⟩;refine⟨_,VV,?_⟩;refine(hb cdv A outer s H E hr c fc).run Z io S H _ _ _ hrel (Kw rs) ?_;unfold fnD at h;cases hm:m (ws.map some++List.replicate (N.length-ws.length) none) S with
 |nx t1 S1=>
  rw [hm] at h;exact λio1 H1 σ1 x1 hr1 sr1=>h io1 H1 .non (x1.take rfl) hr1.take (.d .non)
 |rt w1 S1=>
  rw [hm] at h;intro io1 H1 v x1 hr1 rw1;cases w1 with
  |d y=>
   cases rw1 with
   |d r=>exact h io1 H1 v (x1.take rfl) hr1.take (.d r.take')
  |fz y=>exact h.elim
  |exn y=>exact h.elim
  |fk y _=>exact h.elim
  |tl n pre post=>exact zcA x1 hr1 rw1 (λw S' e=>by rw [e] at h;exact h) (λe=>by rw [e] at h;exact h)
  |ref n=>
   have h:(match (if n<S.length then Res.ok (.ref n) (S1.take S.length) else(match S1[n]? with|some (.lst xs)=>Res.ok (.ref S.length) (S1.take S.length++ [.lst xs])|some (.dk xs)=>Res.ok (.ref S.length) (S1.take S.length++ [.dk xs])|some (.dt xs)=>Res.ok (.ref S.length) (S1.take S.length++ [.dt xs])|_=>.bad)) with
    | .ok w S'=>∀io' H' v,Ext io S H io' S' H'->HRel K Z io' S' H'->WRel K Z io' S' H' w v->Q v H'
    |_=>False):=h
   cases rw1 with
   |ref hn=>
    by_cases hlt:n<S.length
    ·rw [if_pos hlt] at h;exact h io1 H1 _ (x1.take rfl) hr1.take (.ref (by rw [lK];omega))
    ·rw [if_neg hlt] at h;cases q:S1[n]? with
     |none=>rw [q] at h;exact h.elim
     |some ce=>
      rw [q] at h;cases ce with
      |dead=>exact h.elim
      |tb _ _ _=>exact h.elim
      |lst xs=>
       have hk:=hr1.movedC (k:=S.length) (by omega) (by have:=x1.len;omega) q (λz=>nomatch z);have hlen:(S1.take S.length).length=S.length:=by rw [lK];have:=x1.len;omega
       have hw:=WRel.ref (K:=K) (Z:=Z) (io:=jX io1 S.length (io1 n)) (S:=S1.take S.length++ [.lst xs]) (H:=H1) (n:=S.length) (by simp [hlen]);rw [xi] at hw;exact h _ H1 _ (x1.movedC q (λz=>nomatch z)) hk hw
      |dk xs=>
       have hk:=hr1.movedC (k:=S.length) (by omega) (by have:=x1.len;omega) q (λz=>nomatch z);have hlen:(S1.take S.length).length=S.length:=by rw [lK];have:=x1.len;omega
       have hw:=WRel.ref (K:=K) (Z:=Z) (io:=jX io1 S.length (io1 n)) (S:=S1.take S.length++ [.dk xs]) (H:=H1) (n:=S.length) (by simp [hlen]);rw [xi] at hw;exact h _ H1 _ (x1.movedC q (λz=>nomatch z)) hk hw
      |dt xs=>
       have hk:=hr1.movedC (k:=S.length) (by omega) (by have:=x1.len;omega) q (λz=>nomatch z);have hlen:(S1.take S.length).length=S.length:=by rw [lK];have:=x1.len;omega
       have hw:=WRel.ref (K:=K) (Z:=Z) (io:=jX io1 S.length (io1 n)) (S:=S1.take S.length++ [.dt xs]) (H:=H1) (n:=S.length) (by simp [hlen]);rw [xi] at hw;exact h _ H1 _ (x1.movedC q (λz=>nomatch z)) hk hw
 |bk t1 S1=>rw [hm] at h;exact h.elim
 |ct t1 S1=>rw [hm] at h;exact h.elim
 |exc x t1 S1=>rw [hm] at h;exact h.elim
 |bad=>rw [hm] at h;exact h.elim
theorem zlW{x qual:Str}{st:Stmt}{f:Addr}{fd:FuncData}{N ps:List Str}{k:Nat}{m:MSt}(F:Fun K x qual st f fd)(Sc:FnScope N ps (zp st))
 (hb:∀(cdv:Value) (A:Around) (outer:List Env) (s:Shared) (H:Hp) (E:XK),Room k (A.deeper (envOfC qual (zp st) s.heap.objs.size f cdv))->Cok (cxF P w K mg base N qual st f cdv A outer s H E)->MSs (cxF P w K mg base N qual st f cdv A outer s H E) (zP st) m):
 FnOk P w K mg base CX0 (k+1) f fd ps (zcW K ps.length (fnD N.length m)):=zlL F Sc λcdv A outer s H E hr c _=>hb cdv A outer s H E hr c
end
section
variable {X:Cx} {k:Nat} {f:Addr} {fd:FuncData} {ps:List Str} {x:Str} {p pos:Pos} {e:Expr} {es:List Expr} {mas:MAs} {g:List W->Sto->Res W} {ds:List Value} {dvs:List V} {dws:List W}
inductive DfRel:List W->List V->List Value->Prop
 |nil:DfRel [] [] []
 |int {i:Int} {t:Tok} {a:List W} {b:List V} {c:List Value}:DfRel a b c->DfRel (.d (.int i)::a) (.int i::b) (.int i t::c)
 |str {i:Str} {t:Tok} {a:List W} {b:List V} {c:List Value}:DfRel a b c->DfRel (.d (.str i)::a) (.str i::b) (.str i t::c)
theorem DfRel.vals:∀{a:List W} {b:List V} {c:List Value},DfRel a b c->Vals b c
 |_,_,_,.nil=>.nil
 |_,_,_,.int h=>.cons ⟨_,rfl⟩ h.vals
 |_,_,_,.str h=>.cons ⟨_,rfl⟩ h.vals
theorem DfRel.wrels{K:PySem.W.Frag}{Z:ZS}{io:Nat->Addr}{S:Sto}{H:Hp}:∀{a:List W} {b:List V} {c:List Value},DfRel a b c->WRels K Z io S H a b
 |_,_,_,.nil=>.nil
 |_,_,_,.int h=>.cons (.d (.int _)) h.wrels
 |_,_,_,.str h=>.cons (.d (.str _)) h.wrels
def JE(g:List W->Sto->Res W)(dws:List W)(as:MAs):M:=λt S=>(as t S).bind λws S1=>g (ws++dws) S1
theorem zgM{vs:List V}{ws:List W}{Z:ZS}{io:Nat->Addr}{S:Sto}{H:Hp}{σ:St}{Q:VK}(hr:HRel X.K Z io S H)(rs:WRels X.K Z io S H ws vs)(hl:vs.length=ps.length)(p:qH X Z (RW X Z) io S H σ (g ws S) Q)(hne:∀x S',g ws S≠ .exc x S'):zcW X.K ps.length g vs H Q E0:=by
 refine⟨hl,Z,io,S,ws,hr,rs,?_⟩;cases h:g ws S with
 |ok w S'=>rw [h] at p;exact p
 |exc x S'=>exact hne x S' h
 |bad=>rw [h] at p;exact p
def noX(g:List W->Sto->Res W):List W->Sto->Res W:=λws S=>match g ws S with| .exc _ _=>.bad|r=>r
theorem zkd(F:FnOk X.prog X.w X.K X.mg X.base CX0 k f fd ps (zcW X.K ps.length g))(hr:Room k X.A)(hg:Gl X x)(hm:X.mg x=some (.ref f))(hk:PySem.W.keepIn X.K (.ref f)=true)(hb:Binds X.K fd ps ds)(hd:DfRel dws dvs ds)
 (ha:MA X (e::es) mas) (hlen:∀t S ws S1,mas t S= .ok ws S1->(ws++dws).length=ps.length) (hdb:(x==("__debug__":Str))=false:=by decide) (he:starEach (e::es) X.env=(false,eval e X.env)::starEach es X.env:=by rfl) (hpl:(backTo pos (starEach es X.env)).any (·.1)=false:=by rfl):
 ME X (.Call (.Name x p) (e::es) [] pos) (JE (noX g) dws mas):=by
 refine⟨λZ io S H t σ Q hrr sr po=>PEw (zjh F hr hg hm hk hb hd.vals zm7 zgE hdb he hpl) ?_⟩;unfold JE at po;cases hq:mas t S with
 |bad=>rw [hq] at po;exact po.elim
 |exc x S1=>
  rw [hq] at po;have:=ha.run Z io S H t σ (λvs H1=>zcW X.K ps.length g (vs++dvs) H1 Q E0) hrr sr;rw [hq] at this;exact this po
 |ok ws S1=>
  have:=ha.run Z io S H t σ (λvs H1=>zcW X.K ps.length g (vs++dvs) H1 Q E0) hrr sr;rw [hq] at this po;refine this λio1 H1 vs x1 hr1 rs1=>?_
  have rs2:=rs1.append (hd.wrels (K:=X.K) (Z:=Z) (io:=io1) (S:=S1) (H:=H1));have hl:(vs++dvs).length=ps.length:=by rw [<-rs2.length];exact hlen t S ws S1 hq
  have po1:qH X Z (RW X Z) io1 S1 H1 σ (noX g (ws++dws) S1) Q:=qH.from po x1
  have po2:qH X Z (RW X Z) io1 S1 H1 σ (g (ws++dws) S1) Q/\∀x S',g (ws++dws) S1≠ .exc x S':=by
   unfold noX at po1;cases h:g (ws++dws) S1 with
   |ok a b=>rw [h] at po1;exact⟨po1,λ_ _ z=>nomatch z⟩
   |exc a b=>rw [h] at po1;exact po1.elim
   |bad=>rw [h] at po1;exact po1.elim
  exact zgM hr1 rs2 hl po2.1 po2.2
def zjZ(m:M):M:=λt S=>(m t S).bind λw S'=>match w with
 | .ref n=>if S.length<=n/\n+1=S'.length then(match S'[n]? with|some (.lst xs)=>.ok (.d (.lst xs)) (S'.take n)|_=>.bad) else .bad
 |w=>.ok w S'
theorem zis{m:M}(h:ME X e m):ME X e (zjZ m):=by
 refine⟨λZ io S H t σ Q hr sr p=>h.run Z io S H t σ Q hr sr ?_⟩;unfold zjZ at p;cases hq:m t S with
 |bad=>rw [hq] at p;exact p
 |exc x S1=>rw [hq] at p;exact p
 |ok w S1=>
  rw [hq] at p;dsimp only [zB] at p;cases w with
  |d y=>exact p
  |fz y=>exact p
  |exn y=>exact p
  |fk y _=>exact p
  |tl _ _ _=>exact p
  |ref n=>
   dsimp only at p;split at p
   ·rename_i hc;split at p
    ·rename_i xs e2;intro io1 H1 v x1 hr1 rw1;cases rw1 with
     |ref hn=>
      obtain⟨vs,h1,q⟩:=hr1.cell n xs e2;refine p io1 H1 _ ⟨by rw [lK];omega,x1.adr,λa o ha na=>⟨(x1.keep a o ha na).1,(x1.keep a o ha na).2.take⟩⟩ hr1.take (.d (.lst h1 ⟨λm lm z=>?_,λz=>hr1.zc _ z n (jF e2) rfl⟩ q.take'));obtain⟨l1,l2⟩:=v7 lm;have:=hr1.inj m n l1 (jF e2) z;omega
    ·exact p.elim
   ·exact p.elim
end
section
variable {prog:Program} {w:World} {A:Around} {E:Value->Shared->Prop} {s:Shared}
theorem zeh(n:Nat):Builtin.Slice.slicePlaces ((n:Int)-1) (-1) (-1)=n:=by
 unfold Builtin.Slice.slicePlaces;have h1:¬((-1:Int)>0):=by omega
 simp only [h1,if_false];split
 ·rw [show(- -1:Int)=1 by decide,Int.ediv_one];omega
 ·omega
theorem zef(n:Nat):Builtin.Slice.sliceAdjust none none (-1) (n:Int)=((n:Int)-1,-1):=by
 unfold Builtin.Slice.sliceAdjust;first
  |rfl
  |simp
theorem zdF{α β:Type}{f g:α->Option β}:∀{l:List α},(∀x∈l,f x=g x)->l.filterMap f=l.filterMap g
 | [],_=>rfl
 |x::r,h=>by rw [Li,Li,h x lC,zdF λy hy=>h y (lA _ hy)]
theorem zhQ(xs:Array Value):((List.range xs.size).filterMap λ(m:Nat)=>xs[(((xs.size:Int)-1)+(m:Int)*(-1)).toNat]?)=xs.toList.reverse:=by
 have e:((List.range xs.size).filterMap λ(m:Nat)=>xs[(((xs.size:Int)-1)+(m:Int)*(-1)).toNat]?)=((List.range xs.size).map λk=>xs.size-1-k).filterMap (xs[·]?):=by
  rw [List.filterMap_map];refine zdF λm hm=>?_
  have:=LV.mp hm;have e1:(((xs.size:Int)-1)+(m:Int)*(-1)).toNat=xs.size-1-m:=by omega
  simp only [Function.comp,e1]
 rw [e,PySem.W.krv_range,List.filterMap_reverse,PySem.W.krv_all]
theorem zi6{t sl:Addr}{items:Array Value}{vs:Value}{Q:Value->Shared->Prop}(ht:IsTup s.heap t items)(hs:s.heap.IsSliceOf sl .none .none vs)(ps:IsPart vs (some (-1)))
 (h:Q (.ref s.heap.objs.size) {s with heap:=s.heap.push {cls:=.type "tuple",data:=.seq items.toList.reverse.toArray}}) (hsz:items.size<=sizeLine):wpAny (model prog w) A (getItem (.ref t) (.ref sl)) Q E s:=by
 obtain⟨os,hos,hcs,hds⟩:=id hs;have hT:s.TypeIs (.ref sl) "slice":=⟨os,hos,hcs⟩;unfold getItem;try with_reducible refine wpAny_holding ?_
 first|refine wpAny_bind (wpAny_pure ?_)|skip
 refine wpAny_bind (wpAny_sequenceKey ht.typeIs (by decide) ?_);refine wpAny_bind (wpAny_callSpecial?_slot (name:=Str.ofString "__getitem__") ht.typeIs Lh (wpAny_call_entry Lh ht.typeIs entry_tuple_getitem ?_ (args_tuple_getitem _ _)));show wpAny _ _ (Builtin.Tuple.tupleItemsOf (.ref t)>>=_) _ _ s;refine wpAny_bind (tupleItemsOf_ ht ?_);refine wpAny_bind (wpAny_typeOf hT ?_);rw [if_pos (by decide)];refine wpAny_bind ?_;unfold Builtin.Slice.sliceApplied Builtin.Slice.sliceFields;refine wpAny_bind (wpAny_bind (wpAny_field hos hds (x:=.none) rfl (wpAny_bind (wpAny_field hos hds (x:=.none) rfl (wpAny_bind (wpAny_field hos hds (x:=vs) rfl (wpAny_pure ?_)))))));refine wpAny_bind (HT.Jc ps ?_);show wpAny _ _ (if ((-1:Int)==0)=true then _ else _) _ _ s;rw [if_neg (by decide)];refine wpAny_bind (HT.Jc .none (wpAny_bind (HT.Jc .none (wpAny_bind (wpAny_pure ?_)))));show wpAny _ _ (match Builtin.Slice.sliceAdjust none none (-1) (items.size:Int) with|(lo,hi)=>pure (lo,(-1:Int),Builtin.Slice.slicePlaces lo hi (-1))) _ _ s;rw [zef];dsimp only;rw [zeh];refine wpAny_pure ?_;dsimp only;rw [if_neg (by simp),zhQ];have hz:sizeOk (.seq items.toList.reverse.toArray):=by show items.toList.reverse.toArray.size<=sizeLine;rw [lF,Lj,lR];exact hsz
 first
  |exact wpAny_bind (m:=Builtin.Tuple.tupleExact _) (wpAny_newObj_type (wpAny_pure ⟨_,rfl,wpAny_pure h⟩) hz)
  |exact wpAny_bind (m:=Builtin.Tuple.tupleExact _) (wpAny_newObj_type (wpAny_bind (wpAny_pure (wpAny_pure ⟨_,rfl,wpAny_pure h⟩))) hz)
  |exact wpAny_bind (wpAny_bind (m:=Builtin.Tuple.tupleExact _) (wpAny_newObj_type (wpAny_pure (wpAny_pure ⟨_,rfl,wpAny_pure h⟩)) hz))
  |exact wpAny_bind (wpAny_bind (m:=Builtin.Tuple.tupleExact _) (wpAny_newObj_type (wpAny_pure ⟨_,rfl,wpAny_pure h⟩) hz))
end
section
variable {X:Cx}
def zoN(K:PySem.W.Frag)(x:V)(H:Hp)(Q:VK):Prop:=(∃a xs,x= .ref a/\SqL K H a xs/\∀p,H p=none->Q (.ref p) (upd H p (.lst xs.reverse)))\/∃a xs,x= .ref a/\SqT K H a xs/\∀p,H p=none->Q (.ref p) (upd H p (.tup xs.reverse))
theorem Vals.rev:∀{xs:List V} {us:List Value},Vals xs us->Vals xs.reverse us.reverse
 |_,_,.nil=>.nil
 |x::xs,u::us,.cons r t=>by rw [Ly,Ly];exact(Vals.rev t).append (.cons r .nil)
theorem zlX{e:Expr}{te:TE}{j:Nat}{q q2 p2 pos:Pos}(he:PE X e te):PE X (.Subscript e (.Slice none none (some (.UnaryOp .USub (.Constant (.int 1) j q) q2)) p2) pos) (λσ H Q=>te σ H λx H1=>zoN X.K x H1 Q):=by
 intro pins s σ H Q I h;refine Subscript_ (thn (he pins s σ H _ I h) λv s1 ⟨x,H1,I1,r1,q1⟩=>?_);refine wpAny_Slice ?_;rw [evalPart_none];refine wpAny_pure (wpAny_pure ?_);rw [evalPart_some];refine thn ((zlu zi0 ziC:PE X (.UnaryOp .USub (.Constant (.int 1) j q) q2) _) pins s1 σ H1 (λy H2=>y= .int (-1)/\H2=H1) I1 ⟨1,rfl,rfl,rfl⟩) λvk s2 ⟨y,H2,I2,r2,ey,eH⟩=>?_
 subst ey;subst eH;obtain⟨tk,rfl⟩:=r2;have I3:Inv X pins σ H2 {s2 with heap:=s2.heap.push {cls:=.type "slice",data:=.fields #[.none,.none,.int (-1) tk]}}:=I2.kept (t':=s2.toks) λb ob q=>lj _ q
 have hsl:(s2.heap.push {cls:=.type "slice",data:=.fields #[.none,.none,.int (-1) tk]}).IsSliceOf s2.heap.objs.size .none .none (.int (-1) tk):=LL ..;show wpAny (model X.prog X.w) X.A (subscriptTail e _ v (.ref s2.heap.objs.size)) (EP X pins σ Q) X.xe {s2 with heap:=s2.heap.push {cls:=.type "slice",data:=.fields #[.none,.none,.int (-1) tk]}};rcases q1 with⟨a,xs,rfl,hx,k⟩|⟨a,xs,rfl,hx,k⟩
 ·cases r1;obtain⟨its,rv,ht,hz⟩:=I3.list hx;refine tail_any (ops:=[.ref a,.ref s2.heap.objs.size]) ht.isList.typeIs slot_list_getitem.lookup ?_ (by with_unfolding_all rfl);refine wpAny_getItem_list_slice ht.isList hsl .none .none (.int _ _) (by decide) ?_ (by rw [lF,<-rv.length];exact hz);rw [PySem.W.krv_pick];refine⟨.ref _,_,I3.laid (t':=s2.toks) (o:=.lst xs.reverse) (λb ob q=>lj _ q) (lD _) ?_,rfl,k _ (I3.hok.fresh (lD _))⟩;exact⟨by rw [Lj];exact hz,_,0,Vals.rev rv,lz _ rfl⟩
 ·cases r1;obtain⟨its,rv,ht,hz⟩:=I3.tuple hx;refine tail_any (ops:=[.ref a,.ref s2.heap.objs.size]) ht.typeIs Lh.lookup ?_ (by with_unfolding_all rfl);refine zi6 ht hsl (.int _ _) ?_ (by rw [lF,<-rv.length];exact hz);refine⟨.ref _,_,I3.laid (t':=s2.toks) (o:=.tup xs.reverse) (λb ob q=>lj _ q) (lD _) ?_,rfl,k _ (I3.hok.fresh (lD _))⟩;exact⟨by rw [Lj];exact hz,_,Vals.rev rv,LZ _ _⟩
def zmE(a:M):M:=λt S=>(a t S).bind λw S1=>match w with
 | .d (.tup xs)=>.ok (.d (.tup xs.reverse)) S1
 |w=>(match zF S1 w with|some xs=>.ok (.d (.lst xs.reverse)) S1|none=>.bad)
theorem zkU{e:Expr}{me:M}{j:Nat}{q q2 p2 pos:Pos}(he:ME X e me):ME X (.Subscript e (.Slice none none (some (.UnaryOp .USub (.Constant (.int 1) j q) q2)) p2) pos) (zmE me):=by
 refine⟨λZ io S H t σ Q hr sr po=>PEw (zlX kN) ?_⟩;refine he.run Z io S H t σ _ hr sr (qH.bind po λio1 S1 H1 w v x1 hr1 rw1 p1=>?_);split at p1
 ·obtain⟨a,vs,rfl,h1,q⟩:=Kv rw1 rfl;exact .inr ⟨a,vs,rfl,h1,λp hp=>kg p1 hr1 hp (KB hr1 q.reverse hp)⟩
 ·split at p1
  ·rename_i xs e2;obtain⟨a,vs,rfl,h1,q⟩:=XN hr1 rw1 e2;exact .inl ⟨a,vs,rfl,h1,λp hp=>kg p1 hr1 hp (Z9 hr1 q.reverse hp)⟩
  ·exact p1.elim
def cutD(xs:List D)(lo hi:Option Int):List D:=(xs.drop (HT.sIx xs.length 0 lo)).take (HT.sIx xs.length xs.length hi-HT.sIx xs.length 0 lo)
abbrev MO:=DS->Sto->Res (Option Int)
def xK:MO:=λ_ S=>.ok none S
def qG(a:M):MO:=λt S=>(a t S).bind λw S1=>match w with| .d (.int i)=>.ok (some i) S1|_=>.bad
abbrev RO:(Nat->Addr)->Sto->Hp->Option Int->Option Int->Prop:=λ_ _ _ a b=>a=b
def wPo(X:Cx)(e:Option Expr):TO:=λσ H Q=>∀pins s,Inv X pins σ H s->wpAny (model X.prog X.w) X.A (evalPart e X.env) (λu s'=>∃o H',Inv X pins σ H' s'/\IsPart u o/\Q o H') X.xe s
theorem zkE{e:Option Expr}:PO X e (wPo X e):=λpins s _ _ _ I h=>h pins s I
theorem POw{e:Option Expr}{t:TO}{σ:St}{H:Hp}{Q:Option Int->Hp->Prop}(h:PO X e t)(q:t σ H Q):wPo X e σ H Q:=λpins s I=>h pins s σ H Q I q
structure MPo (X:Cx) (e:Option Expr) (m:MO):Prop where
 run:∀Z io S H t σ Q,HRel X.K Z io S H->SRel X.K Z io S H t σ->qH X Z RO io S H σ (m t S) Q->wPo X e σ H Q
theorem kC:MPo X none xK:=⟨λZ io S H t σ Q hr sr p=>POw zkr (qH.ok (w:=(none:Option Int)) p hr rfl)⟩
theorem jc{e:Expr}{m:M}(h:ME X e m):MPo X (some e) (qG m):=by
 refine⟨λZ io S H t σ Q hr sr p=>POw (zjV kN) ?_⟩;refine h.run Z io S H t σ _ hr sr (qH.bind p λio1 S1 H1 w v x1 hr1 rw1 p1=>?_);split at p1
 ·obtain rfl:=jR rw1;exact⟨_,rfl,qH.ok (w:=some _) p1 hr1 rfl⟩
 ·exact p1.elim
def Ve(a:M)(lo hi:MO):M:=λt S=>(a t S).bind λw S1=>(lo t S1).bind λl S2=>(hi t S2).bind λu S3=>match zF S3 w with|some xs=>.ok (.d (.lst (cutD xs l u))) S3|none=>.bad
theorem zbD{e:Expr}{lo hi:Option Expr}{me:M}{ml mh:MO}{p2 pos:Pos}(he:ME X e me)(hl:MPo X lo ml)(hh:MPo X hi mh):ME X (.Subscript e (.Slice lo hi none p2) pos) (Ve me ml mh):=by
 refine⟨λZ io S H t σ Q hr sr po=>PEw (zc7 zjk kN zkE zkE) ?_⟩;refine he.run Z io S H t σ _ hr sr (qH.bind po λio1 S1 H1 w v x1 hr1 rw1 p1=>?_);refine hl.run Z io1 S1 H1 t σ _ hr1 (sr.ext hr x1) (qH.bind p1 λio2 S2 H2 w2 v2 x2 hr2 rw2 p2=>?_);refine hh.run Z io2 S2 H2 t σ _ hr2 ((sr.ext hr x1).ext hr1 x2) (qH.bind p2 λio3 S3 H3 w3 v3 x3 hr3 rw3 p3=>?_);cases rw2;cases rw3;have rx:=(rw1.ext hr1 x2).ext hr2 x3;clear rw1;split at p3
 ·rename_i xs e2;obtain⟨a,vs,rfl,h1,q⟩:=XN hr3 rx e2;refine⟨a,vs,rfl,h1,λp hp=>kg p3 hr3 hp (Z9 hr3 ?_ hp)⟩;unfold cutD zkP;rw [q.length];exact(q.drop _).take _
 ·exact p3.elim
end
section
variable {prog:Program} {w:World} {A:Around} {E:Value->Shared->Prop} {s:Shared}
theorem zcg{a c n:Nat}(ha:a<=n)(hac:a<=c):sliceBounds (some (a:Int)) (some (c:Int)) none n=((a:Int),((min c n:Nat):Int),1):=by
 simp only [sliceBounds,YI];have h1:¬((a:Int)<0):=by omega
 have h2:¬((c:Int)<0):=by omega
 simp only [h1,h2,if_false,show(1:Int)>0 by decide,if_true];congr 1
 ·omega
 ·congr 1;omega
theorem zbx{l b sl:Addr}{items new:Array Value}{n n2:Nat}{vl vu:Value}{a c:Nat}{Q:Unit->Shared->Prop}
 (e:s.heap.get? l=some {cls:=.type "list",data:=.seq items n}) (e2:s.heap.get? b=some {cls:=.type "list",data:=.seq new n2}) (hne:l≠b)
 (hs:s.heap.IsSliceOf sl vl vu .none) (pl:IsPart vl (some (a:Int))) (pu:IsPart vu (some (c:Int))) (ha:a<=items.size) (hac:a<=c)
 (hsz:items.size+new.size<=sizeLine) (h:Q () {s with heap:=s.heap.update l (Obj.mapSeq λxs=>xs.extract 0 a++new++xs.extract (min c items.size) xs.size)}):
 wpAny (model prog w) A (setItem (.ref l) (.ref sl) (.ref b)) Q E s:=by
 have hl:s.heap.IsList l items:=PySem.IsL.isList e;have hb:s.heap.IsList b new:=PySem.IsL.isList e2;obtain⟨os,hos,hcs,hds⟩:=id hs;have hTs:s.TypeIs (.ref sl) "slice":=⟨os,hos,hcs⟩;have hstep:¬((rawPart none==rawInt 0)=true):=lE;have hsame:Builtin.List.listSameRef (.ref l) (.ref b)=false:=by unfold Builtin.List.listSameRef;exact beq_eq_false_iff_ne.mpr hne
 have hmax:(max (a:Int) ((min c items.size:Nat):Int)).toNat=min c items.size:=by omega
 have hz':((λxs:Array Value=>xs.extract 0 a++new++xs.extract (min c items.size) xs.size) items).size<=sizeLine+1:=by simp only [Array.size_append,Array.size_extract];omega
 unfold setItem;try with_reducible refine wpAny_holding ?_
 first|refine wpAny_bind (wpAny_pure ?_)|skip
 refine wpAny_bind (wpAny_sequenceKey hl.typeIs (by decide) ?_);refine wpAny_bind (wpAny_callSpecial?_slot (name:=Str.ofString "__setitem__") hl.typeIs slot_list_setitem
  (wpAny_call_entry slot_list_setitem hl.typeIs entry_list_setitem ?_ (args_list_setitem _ _ _)))
 show wpAny _ _ (Builtin.List.listSubscript? (.ref sl)>>=_) _ _ s;refine wpAny_bind ?_;unfold Builtin.List.listSubscript?;refine wpAny_bind (wpAny_specialOf hTs slice_no_index ?_);simp only [Option.isNone_none,if_true];refine wpAny_pure ?_;show wpAny _ _ (typeOf (.ref sl)>>=_) _ _ s;refine wpAny_bind (wpAny_typeOf hTs ?_);first
  |rw [if_neg (by decide)]
  |refine Yq (by decide) ?_
 rw [listSliceParts_eq];refine wpAny_bind (wpAny_bind (wpAny_field hos hds (x:=.none) rfl (wpAny_bind (wpAny_listPart .none ?_))));rw [if_neg hstep];refine wpAny_bind (wpAny_field hos hds (x:=vl) rfl (wpAny_bind (wpAny_listPart pl ?_)));refine wpAny_bind (wpAny_field hos hds (x:=vu) rfl (wpAny_bind (wpAny_listPart pu (wpAny_pure ?_))));first
  |simp only [hsame,yz,if_false]
  |refine Yq hsame ?_
  |(dsimp only
    rw [if_neg (by rw [hsame];exact lE)])
 refine wpAny_bind (m:=Builtin.List.listAllItems (.ref b) "must assign iterable to extended slice") ?_;unfold Builtin.List.listAllItems;refine wpAny_bind (wpAny_typeOf hb.typeIs ?_);first
  |refine PySem.W.KFB.if_so (by decide) ?_
  |rw [if_pos (by decide)]
  |simp only [beq_self_eq_true,Bool.true_or,if_true]
 unfold Builtin.List.listItems;refine wpAny_bind (wpAny_seqItems e2 rfl (wpAny_pure ?_));refine wpAny_bind (wpAny_bind (wpAny_seqItems e rfl (wpAny_pure ?_)));refine wpAny_bind (wpAny_of_eq ((sliceIndices_raw (some (a:Int)) (some (c:Int)) none items.size (by simp)).trans (congrArg (pure:Int×Int×Int->Sem (Int×Int×Int)) (zcg ha hac))) ?_);show wpAny _ _ (if ((1:Int)==1)=true then _ else _) _ _ s;rw [if_pos (by decide)];refine wpAny_bind (wpAny_rule ?_);first
  |simp only [J5 hsz,yz,if_false]
  |refine Yq (J5 hsz) ?_
 first|refine wpAny_bind (wpAny_pure ?_)|skip
 show wpAny _ _ (updateSeq l (λxs=>xs.extract 0 ((a:Int)).toNat++new++xs.extract (max (a:Int) ((min c items.size:Nat):Int)).toNat xs.size)>>=_) _ _ s;rw [hmax,yL];refine wpAny_bind (wpAny_updateSeq (hz:=lQ (Ll _ _) hsz) (_hz':=hz') e rfl ?_);refine wpAny_bind (wpAny_letGo ?_);first
  |exact wpAny_bind (wpAny_pure (wpAny_pure ⟨.none,rfl,wpAny_pure h⟩))
  |exact wpAny_pure ⟨.none,rfl,wpAny_pure h⟩
end
section
variable {X:Cx}
theorem zgn:MtM X "list.insert" (λx vs H Q=>∃l xs i y,x= .ref l/\vs= [.int i,y]/\H l=some (.lst xs)/\0<=i/\i<2^63/\xs.length<sizeLine/\Q .non (upd H l (.lst (xs.take i.toNat++y::xs.drop i.toNat)))):=by
 intro pins s σ H x vs v us Q I rx rv h;obtain⟨l,xs,i,y,rfl,rfl,hH,h0,h1,hz,q⟩:=h;cases rx;obtain⟨u,u2,rfl,ru,ru2⟩:=vals2 rv;obtain⟨t,rfl⟩:=ru;obtain⟨z,its,n,r,hl,e⟩:=I.lstM hH;have hf:Builtin.List.listFitsIndex i=true:=fitsIndex_both (by omega) h1;refine call_meets YB ⟨_,e,rfl⟩ F.entry_list_insert (F.args_list_insert_3 _ _ _) (AutoSeq1.list_insert_list_int_val_1 l its.toArray n i t u2 (by rw [hf];exact lE) (by rw [lF];omega)) ⟨e,?_⟩;refine⟨.non,_,I.lset (its':=its.take i.toNat++u2::its.drop i.toNat) (t':=s.toks) hH e ?_ ((r.take _).append (.cons ru2 (r.drop _))) ?_,rfl,q⟩
 ·show(its.toArray.extract 0 (if i<0 then(i+(its.toArray.size:Int)).toNat else min i.toNat its.toArray.size)).push u2++its.toArray.extract (if i<0 then(i+(its.toArray.size:Int)).toNat else min i.toNat its.toArray.size)=_;rw [if_neg (by omega),lF];apply YK.mp;by_cases hc:i.toNat<=its.length
  ·rw [Nat.min_eq_left hc];simp [Ys,yk]
  ·rw [Nat.min_eq_right (by omega)];have e1:its.take i.toNat=its:=yk (by omega);have e2:its.drop i.toNat= []:=List.drop_eq_nil_of_le (by omega);rw [e1,e2];simp [Ys,yk]
 ·rw [lH,lO,lK,ym];omega
def zaH(o a b:M):M:=λt S=>(o t S).bind λow S1=>if Xd S1 ow=true then(a t S1).bind λiw S2=>(b t S2).bind λw S3=>match ow,iw,w with
 | .ref n,.d (.int i),.d x=>(match S3[n]? with
   |some (.lst xs)=>if 0<=i/\i<2^63/\xs.length<sizeLine then .ok (.d .non) (S3.set n (.lst (xs.take i.toNat++x::xs.drop i.toNat))) else .bad
   |_=>.bad)
 |_,_,_=>.bad
 else .bad
theorem zeS{o e e2:Expr}{mo me me2:M}{apos cpos:Pos}(ho:ME X o mo)(he:ME X e me)(he2:ME X e2 me2)(hbase:attributeBase o "insert" X.env (eval o X.env)=eval o X.env:=by rfl)
 (hfew:((backTo cpos (starEach [e,e2] X.env)).all (λx=> !x.1)&&(backToKw cpos (keywordEach [] X.env)).all (λx=>x.1.isSome)
   &&decide ([e,e2].length+([]:List Keyword).length+(if ([]:List Keyword).isEmpty then 0 else 1)<30))=true:=by rfl)
 (hline:(apos.endLine==cpos.line)=true:=by rfl) (hs:starEach [e,e2] X.env=(false,eval e X.env)::starEach [e2] X.env:=by rfl) (hs2:starEach [e2] X.env=(false,eval e2 X.env)::starEach [] X.env:=by rfl) (hplain:(backTo cpos (starEach [e2] X.env)).any (·.1)=false:=by rfl):
 ME X (.Call (.Attribute o "insert" apos) [e,e2] [] cpos) (zaH mo me me2):=by
 refine⟨λZ io S H t σ Q hr sr p=>PEw (zjU LS YB PySem.F.type_list_insert zgn kN (j3 kN (j3 kN Qj hs2) hs) hbase hfew hline hs hplain) ?_⟩;refine ho.run Z io S H t σ _ hr sr (qH.bind p λio1 S1 H1 w v x1 hr1 rw1 p1=>?_);split at p1
 ·rename_i hc;refine⟨zck hr1 rw1 hc,?_⟩;refine he.run Z io1 S1 H1 t σ _ hr1 (sr.ext hr x1) (qH.bind p1 λio2 S2 H2 w2 v2 x2 hr2 rw2 p2=>?_);refine he2.run Z io2 S2 H2 t σ _ hr2 ((sr.ext hr x1).ext hr1 x2) (qH.bind p2 λio3 S3 H3 w3 v3 x3 hr3 rw3 p3=>?_);have rx1:=(rw1.ext hr1 x2).ext hr2 x3;have rx2:=rw2.ext hr2 x3;clear rw1 rw2;split at p3
  ·rename_i n i x;split at p3
   ·rename_i xs e;split at p3
    ·rename_i hz;obtain⟨vs,h1,q⟩:=hr3.cell n xs e;obtain rfl:=jR rx2;cases rx1 with
     |ref hn=>
      cases rw3 with
      |d r3=>exact⟨_,vs,i,v3,rfl,rfl,h1,hz.1,hz.2.1,by rw [<-q.length];exact hz.2.2,p3 io3 _ .non (Ext.write (jF e)) (hr3.write (jF e) ((q.take _).append (.cons r3 (q.drop _)))) (.d .non)⟩
    ·exact p3.elim
   ·exact p3.elim
  ·exact p3.elim
 ·exact p1.elim
end
end Z
namespace ZS1
open PySem PySem.Spec PyProof.Rows
section
variable {prog:Program} {w:World}
abbrev sK(prog:Program)(w:World):PySem.KeyKind prog w Str:=PySem.strKind prog w
def byT(w:World):Bool:=w.params.followText "set-order"
structure SetS (prog:Program) (w:World) (h:Heap) (a:Addr) (ks:List Str):Prop where
 ex:∃o es ep t ls,h.get? a=some o/\o.ExactSet/\o.data= .set es ep t/\Paired (λ(e:Int×Value) (k:Str)=>(sK prog w).is k e.2=true/\e.1=(sK prog w).hash k) es.toList ls/\ls.Perm ks/\
  t.fits es.size=true/\t.led= !byT w/\(0<es.size->t.plain=false)
 nd:ks.Nodup
 few:ks.length<scanBound
theorem ZQ{α β:Type}{F:α->β->Prop}:∀{l:List α} {m:List β},Paired F l m->∀a∈l,∃b∈m,F a b
 |_,_,.nil,a,h=>by cases h
 |_,_,.cons r t,a,h=>by
  rcases lu.mp h with rfl|h
  ·exact⟨_,lC,r⟩
  ·obtain⟨b,hb,q⟩:=ZQ t a h;exact⟨b,lA _ hb,q⟩
theorem Xt{α β:Type}{F:α->β->Prop}:∀{l:List α} {m:List β},Paired F l m->∀b∈m,∃a∈l,F a b
 |_,_,.nil,a,h=>by cases h
 |_,_,.cons r t,a,h=>by
  rcases lu.mp h with rfl|h
  ·exact⟨_,lC,r⟩
  ·obtain⟨b,hb,q⟩:=Xt t a h;exact⟨b,lA _ hb,q⟩
theorem Jf{α β:Type}{F:α->β->Prop}:∀{l l':List α} {m m':List β},Paired F l m->Paired F l' m'->Paired F (l++l') (m++m')
 |_,_,_,_,.nil,s=>s
 |_,_,_,_,.cons r t,s=>.cons r (Jf t s)
theorem Z4{α β:Type}{F:α->β->Prop}{l l':List α}(p:l.Perm l'):∀{m:List β},Paired F l m->∃m',Paired F l' m'/\m.Perm m':=by
 induction p with
 |nil=>intro m h;exact⟨m,h,.refl _⟩
 |cons x _ ih=>
  intro m h;cases h with
  |cons r t=>
   obtain⟨m',h1,h2⟩:=ih t;exact⟨_::m',.cons r h1,h2.cons _⟩
 |swap x y l=>
  intro m h;cases h with
  |cons r t=>
   cases t with
   |cons r2 t2=>exact⟨_::_::_,.cons r2 (.cons r t2),List.Perm.swap _ _ _⟩
 |trans _ _ ih1 ih2=>
  intro m h;obtain⟨m1,h1,p1⟩:=ih1 h;obtain⟨m2,h2,p2⟩:=ih2 h1;exact⟨m2,h2,p1.trans p2⟩
theorem J7{l:List (Int×Value)}{ls:List Str}(p:Paired (λ(e:Int×Value) (k:Str)=>(sK prog w).is k e.2=true/\e.1=(sK prog w).hash k) l ls):ElemsOf (sK prog w) l:=λe he=>by obtain⟨k,_,h1,h2⟩:=ZQ p e he;refine⟨⟨k,h1,h2⟩,?_⟩;obtain⟨t,q⟩:=LD h1;rw [q];rfl
theorem zhv{t:SetTable}{n:Nat}(h:t.fits n=true):({t with plain:=false}:SetTable).fits n=true:=by cases t;exact h
theorem zhZ(t:SetTable)(n:Nat):(t.orStandIn n).led=t.led:=by unfold SetTable.orStandIn;split <;> rfl
theorem VR(t:SetTable)(es:Array (Int×Value))(h:Int)(x:Value):(layNew t es h x).2.1.led=t.led:=by
 unfold layNew;split
 ·exact zhZ _ _
 ·rfl
theorem zh3{mask finger moves:Nat}{led plain:Bool}{hs:Array Int}{t:SetTable}{o:Array Nat}(h:SetTable.laid mask finger moves led plain hs=some (t,o)):t.led=led/\t.plain=plain:=by
 unfold SetTable.laid at h;cases q:SetTable.layClean mask hs with
 |none=>rw [q] at h;cases h
 |some ow=>rw [q] at h;cases h;exact⟨rfl,rfl⟩
theorem za3(t:SetTable)(es:Array (Int×Value))(n:Nat):(relayAll t es n).2.1.led=t.led/\(t.plain=false->(relayAll t es n).2.1.plain=false):=by
 unfold relayAll;split
 ·rename_i t' o q;dsimp only;have:=zh3 (show SetTable.laid _ _ _ _ _ _=some (t',o) from q);split
  ·exact⟨this.1,λz=>this.2.trans z⟩
  ·exact⟨rfl,λ_=>rfl⟩
 ·exact⟨rfl,λ_=>rfl⟩
variable {A:Around} {E:Value->Shared->Prop} {s:Shared}
theorem QQ{g:Bool->Sem Unit}(hg:∀(b:Bool) (s1:Shared) (Q':Unit->Shared->Prop),Q' () s1->wpAny (model prog w) A (g b) Q' E s1){a:Addr}{o:Obj}{es:Array (Int×Value)}{ep:Nat}{t:SetTable}
 (ho:s.heap.get? a=some o) (hex:o.ExactSet) (hd:o.data= .set es ep t) {es1:Array (Int×Value)} {t2:SetTable} {ls1 ks1:List Str}
 (p1:Paired (λ(e:Int×Value) (k:Str)=>(sK prog w).is k e.2=true/\e.1=(sK prog w).hash k) es1.toList ls1) (pm:ls1.Perm ks1) (nd:ks1.Nodup) (few:ks1.length<scanBound)
 (hf:t2.fits es1.size=true) (hl:t2.led= !byT w) (hpl:t2.plain=false) {wd:Bool} {R:Option Bool->Shared->Prop}
 (h:∀h',Heap.SameBut a s.heap h'->SetS prog w h' a ks1->R (some true) {s with heap:=h'}):
 wpAny (model prog w) A (do
  storeSet a es1 t2
  if (!wd&&t2.tooFull)=true then do
   g (relayAll t2 es1 (SetTable.grown es1.size)).2.2
   storeSet a (relayAll t2 es1 (SetTable.grown es1.size)).1 (relayAll t2 es1 (SetTable.grown es1.size)).2.1
   pure (some true)
  else pure (some true)) R E s:=by
 have zlA:es1.size=ls1.length:=by rw [<-lR];exact y3 p1
 have small:es1.size<scanBound:=by rw [zlA,pm.length_eq];exact few
 have mk:∀{hp:Heap} {ob:Obj} {esx:Array (Int×Value)} {epx:Nat} {tx:SetTable},hp.get? a=some ob->ob.ExactSet->ob.data= .set esx epx tx->∀{es':Array (Int×Value)} {t':SetTable} {ls':List Str},
  Paired (λ(e:Int×Value) (k:Str)=>(sK prog w).is k e.2=true/\e.1=(sK prog w).hash k) es'.toList ls'->ls'.Perm ks1->t'.fits es'.size=true->t'.led= !byT w->t'.plain=false->
  (hp.update a (Obj.putSet es' t')).get? a=some {ob with data:=.set es' (epx+1) t'}/\SetS prog w (hp.update a (Obj.putSet es' t')) a ks1:=λ{hp ob esx epx tx} h1 h2 h3 {es' t' ls'} q1 q2 q3 q4 q5=>by
  have z:(hp.update a (Obj.putSet es' t')).get? a=some {ob with data:=.set es' (epx+1) t'}:=by have y:=yg (Obj.putSet es' t') h1 (by rw [putSet_of es' t' h3];rfl);rw [putSet_of es' t' h3] at y;exact y
  exact⟨z,⟨_,es',epx+1,t',ls',z,h2,rfl,q1,q2,q3,q4,λ_=>q5⟩,nd,few⟩
 refine wpAny_bind (wpAny_storeSet_of ho hd ?_ (fits_of_scanBound small));obtain⟨ho1,S1⟩:=mk ho hex hd p1 pm hf hl hpl;have sb1:=yf s.heap a (Obj.putSet es1 t2);by_cases hc:(!wd&&t2.tooFull)=true
 ·rw [if_pos hc];have rp:=relayAll_perm t2 es1 (SetTable.grown es1.size);have rf:=relayAll_fits t2 es1 (SetTable.grown es1.size);obtain⟨rl,rn⟩:=za3 t2 es1 (SetTable.grown es1.size);obtain⟨ls2,p2,pp⟩:=Z4 rp.symm p1;have sz2:(relayAll t2 es1 (SetTable.grown es1.size)).1.size=es1.size:=by rw [<-lR,rp.length_eq,lR]
  refine wpAny_bind (hg _ _ _ ?_);refine wpAny_bind (wpAny_storeSet_of ho1 rfl ?_ (fits_of_scanBound (by rw [sz2];exact small)));obtain⟨_,S2⟩:=mk ho1 hex rfl p2 (pp.symm.trans pm) rf (rl.trans hl) (rn hpl);exact wpAny_pure (h _ (sb1.trans (yf _ a _)) S2)
 ·rw [if_neg hc];exact wpAny_pure (h _ sb1 S1)
theorem zhb{a:Addr}{ks:List Str}{k:Str}{tk:Tok}{Q:Bool->Shared->Prop}(hS:SetS prog w s.heap a ks)(room:ks.length+1<scanBound)
 (h:∀h' b,Heap.SameBut a s.heap h'->SetS prog w h' a (if k∈ks then ks else ks++ [k])->Q b {s with heap:=h'}):
 wpAny (model prog w) A (setAddHashed a (.str k tk) ((sK prog w).hash k)) Q E s:=by
 obtain⟨⟨o,es,ep,t,ls,ho,hex,hd,pr,pm,hf,hl,hpl⟩,nd,few⟩:=id hS;have hel:=J7 pr;have hk:(sK prog w).is k (.str k tk)=true:=by simp [PySem.strKind,Value.isStrOf]
 have len:es.size=ls.length:=by rw [<-lR];exact y3 pr
 have small:es.size<scanBound:=by rw [len,pm.length_eq];exact few
 unfold setAddHashed setAddHashedIn;refine wpAny_holding (wpAny_bind (wpAny_setState_of ho hd hf ?_));dsimp only;rw [byScan_of (knd:=sK prog w) rfl small hel];simp only [↓reduceIte];unfold setAddByScan;refine wpAny_bind (wpAny_bind (wpAny_rule (wpAny_bind (wpAny_setScan_of hk ho hd hf hel ?_))));cases hr:List.findIdx? (λe=>(sK prog w).is k e.2) es.toList with
 |some j=>
  dsimp only;obtain⟨hj,hpj,_⟩:=LU.mp hr;have inl:k∈ks:=by obtain⟨k',hk',h1,_⟩:=ZQ pr _ (L9 hj);rw [(sK prog w).inj _ k k' hpj h1];exact pm.mem_iff.mp hk'
  have e:s={s with heap:=s.heap}:=by cases s;rfl
  have z:=h s.heap false (YO a s.heap) (by rw [if_pos inl];exact hS);refine wpAny_pure (wpAny_pure ?_);rw [e];exact z
 |none=>
  dsimp only;have out:k∉ks:=λhin=>by obtain⟨e,he,h1,_⟩:=Xt pr k (pm.mem_iff.mpr hin);have z:=Yt.mp hr e he;rw [h1] at z;cases z
  have lp:=layNew_perm t es ((sK prog w).hash k) (.str k tk);have lf:=layNew_fits t es ((sK prog w).hash k) (.str k tk);have ll:=VR t es ((sK prog w).hash k) (.str k tk);generalize hL:layNew t es ((sK prog w).hash k) (.str k tk)=L at lp lf ll⊢;obtain⟨es1,t1,wd,gave⟩:=L;dsimp only at lp lf ll⊢;rw [Yx] at lp;obtain⟨ls1,p1,pp⟩:=Z4 lp.symm (Jf pr (.cons ⟨hk,rfl⟩ .nil):Paired (λ(e:Int×Value) (k:Str)=>(sK prog w).is k e.2=true/\e.1=(sK prog w).hash k) (es.toList++ [((sK prog w).hash k,Value.str k tk)]) (ls++ [k]));have pm1:ls1.Perm (ks++ [k]):=pp.symm.trans (pm.append_right _);have nd1:(ks++ [k]).Nodup:=by rw [L6];exact⟨nd,Lb.mpr ⟨by simp,Yr⟩,λx hx y hy=>by rw [yT.mp hy];exact λz=>out (z▸hx)⟩
  have few1:(ks++ [k]).length<scanBound:=by rw [lH];exact room
  have hend:∀h',Heap.SameBut a s.heap h'->SetS prog w h' a (ks++ [k])->Q true {s with heap:=h'}:=λh' sb S'=>h h' true sb (by rw [if_neg out];exact S')
  have hgw:∀(b:Bool) (s1:Shared) (Q':Unit->Shared->Prop),Q' () s1->wpAny (model prog w) A (match b with|true=>rule "set.scan.the-table-gave-way"|false=>pure ()) Q' E s1:=
   λb s1 Q' hq=>by cases b;exact wpAny_pure hq;exact wpAny_rule hq
  refine wpAny_bind (hgw _ _ _ ?_);by_cases ht:t1.plain=true
  ·rw [if_pos ht];refine wpAny_bind ?_;rw [hashByValue_scannable 8 (show(Value.str k tk).scannable=true from rfl)];refine wpAny_pure ?_;exact QQ hgw ho hex hd p1 pm1 nd1 few1 (zhv lf) (ll.trans hl) rfl λh' sb S'=>wpAny_pure (hend h' sb S')
  ·rw [if_neg ht];refine wpAny_bind (wpAny_pure ?_);exact QQ hgw ho hex hd p1 pm1 nd1 few1 lf (ll.trans hl) (by simpa using ht) λh' sb S'=>wpAny_pure (hend h' sb S')
end
def stepT(acc:List Str)(x:Str):List Str:=if x∈acc then acc else acc++ [x]
def xJ(xs:List Str):List Str:=xs.foldl stepT []
theorem zgv(acc:List Str)(x:Str):(stepT acc x).length<=acc.length+1:=by
 unfold stepT;split
 ·omega
 ·simp
theorem XR:∀(xs:List Str) (acc:List Str),(xs.foldl stepT acc).length<=acc.length+xs.length
 | [],acc=>by simp
 |x::r,acc=>by have h1:=XR r (stepT acc x);have h2:=zgv acc x;simp only [LO,lO];omega
section
variable {prog:Program} {w:World} {A:Around} {E:Value->Shared->Prop} {s:Shared} {R:Result->Shared->Prop}
theorem zba{I:Addr}{fp wr:List Addr}{G:Array GenState->Array GenState->Prop}{n:Nat}{P:Nat->Value->Prop}{St:Nat->Shared->Prop}(W:WalksS prog w A.in1 I fp wr G n P St)(S:Addr)(hS:S∉fp)
 (xs:List Str) (hn:n=xs.length) (hv:∀i v,P i v->∃x t,xs[i]? =some x/\v= .str x t) (hb:n+1<scanBound):
 ∀(k i:Nat) (s:Shared),n-i=k->i<=n->St i s->SetS prog w s.heap S (xJ (xs.take i))->
  (∀s',Moved (S::wr) G s s'->SetS prog w s'.heap S (xJ xs)->R (.ok (.ret .none)) s')->codeAny (model prog w) A (.builtin "set.update.loop" ⟨[.ref S,.ref I],[]⟩) R s:=by
 have Sw:S∉wr:=λz=>hS (W.sub _ z)
 have sub:∀b∈wr,b∈S::wr:=λb z=>lA _ z
 have carry:∀{s1 s2:Shared} {ks:List Str},Moved wr G s1 s2->SetS prog w s1.heap S ks->SetS prog w s2.heap S ks:=λ{s1 s2 ks} mv q=>by obtain⟨⟨o,es,ep,t,ls,ho,rest⟩,nd,few⟩:=q;exact⟨⟨o,es,ep,t,ls,mv.heap S o Sw ho,rest⟩,nd,few⟩
 intro k;induction k with
 |zero=>
  intro i s hk hi st q hR;have e:i=n:=by omega
  refine codeAny_builtin LK ?_;rw [yO y4 _];show wpAny _ A.in1 (pyNext (.ref I)>>=_) _ _ s;refine wpAny_bind (W.done s _ _ (e▸st) λs' mv=>?_);have q':=carry mv q;rw [e,hn,lh] at q';exact wpAny_pure (hR s' (mv.mono sub) q')
 |succ k ih=>
  intro i s hk hi st q hR;have hlt:i<n:=by omega
  refine codeAny_builtin LK ?_;rw [yO y4 _];show wpAny _ A.in1 (pyNext (.ref I)>>=_) _ _ s;refine wpAny_bind (W.item i s _ _ hlt st λv s' hP st' mv=>?_);obtain⟨x,t,ex,rfl⟩:=hv i v hP;have q':=carry mv q;show wpAny _ A.in1 (holding [Value.str x t] (setAdd S (.str x t))>>=_) _ _ s';refine wpAny_bind (wpAny_holding ?_);unfold setAdd;refine wpAny_holding (wpAny_bind ((sK prog w).pyHash (k:=x) (by simp [PySem.strKind,Value.isStrOf]) ?_));have room:(xJ (xs.take i)).length+1<scanBound:=by
   have h1:=XR (xs.take i) [];rw [lK] at h1;have:(xJ (xs.take i)).length<=i:=by unfold xJ;simp at h1;omega
   omega
  refine zhb (s:={s' with toks:=s'.toks+1}) q' room λh' b sb q2=>?_
  have etake:xJ (xs.take (i+1))=if x∈xJ (xs.take i) then xJ (xs.take i) else xJ (xs.take i)++ [x]:=by
   have e1:xs.take (i+1)=xs.take i++ [x]:=by rw [List.take_add_one,ex];rfl
   unfold xJ;rw [e1,List.foldl_append];rfl
  rw [<-etake] at q2;refine wpAny_pure ⟨plainId_quiet y4 _,ih (i+1) _ (by omega) hlt (W.frame _ s' _ _ st' (Lm _) λb hb o e=>?_) q2 λs'' mv2 q3=>?_⟩
  ·exact(sb.2 b λz=>hS (z▸hb)).trans e
  ·refine hR s'' (Moved.trans W.gtrans ((mv.mono sub).then_heap (Lm _) λb o hb e=>?_) mv2) q3;exact(sb.2 b λz=>hb (z▸lC)).trans e
theorem zky(a:Value){Q1:Value->Shared->Prop}
 (h:Q1 (.ref s.heap.objs.size) {s with heap:=s.heap.push {cls:=.type "set",dict:=none,data:=.set #[] 0 (.fresh 0 0 (!byT w))}}):
 codeAny (model prog w) A (.call (.builtin "set.__new__") ⟨[.type "set",a],[]⟩) (wants Q1 E) s:=by
 refine codeAny_of_tree ?_;show wpAny _ A.in1 (do checkBuiltinCall "set.__new__" ⟨[.type "set",a],[]⟩;again (.builtin "set.__new__" ⟨[.type "set",a],[]⟩)) _ _ s;refine wpAny_bind (wpAny_of_eq (F.newCall_set_1 a) (wpAny_pure ⟨plainId_quiet F.plain_set_new _,codeAny_builtin F.entry_set_new ?_⟩));rw [yO F.plain_set_new _];unfold Builtin.«set.__new__» Builtin.Frozenset.newClass;have sub:=sub_set_self;obtain⟨hp,g,d,tk,os⟩:=s;dsimp only
 wp_walk
 refine wpAny_askSetting (wpAny_pure ?_);dsimp only;simp only [newObj];exact wpAny_bind (wpAny_alloc (wpAny_pure (wpAny_pure h)))
end
end ZS1
namespace ZB
open PySem PySem.Spec
open PySem.SetTable
abbrev zc9(L:List Nat):Prop:=L.Pairwise (· < ·)
theorem getD_list(xs:Array Nat)(k d:Nat):xs.getD k d=xs.toList.getD k d:=by rw [Yh,yc,yA]
theorem zaB(xs:Array Nat)(j:Nat):∀(fuel lo hi:Nat),hi-lo<=fuel->lo<=hi->hi<=xs.size->zc9 xs.toList->(∀k,k<lo->xs.toList.getD k j<j)->(∀k,hi<=k->k<xs.size->j<=xs.toList.getD k j)->
 below.go xs j fuel lo hi<=xs.size/\(∀k,k<below.go xs j fuel lo hi->xs.toList.getD k j<j)/\∀k,below.go xs j fuel lo hi<=k->k<xs.size->j<=xs.toList.getD k j
 |0,lo,hi,h1,h2,h3,hr,h4,h5=>by
  have:lo=hi:=by omega
  subst this;exact⟨h3,h4,h5⟩
 |fuel+1,lo,hi,h1,h2,h3,hr,h4,h5=>by
  unfold below.go;by_cases h:lo<hi
  ·rw [if_pos h];dsimp only;rw [getD_list];have m1:lo<=(lo+hi)/2:=by omega
   have m2:(lo+hi)/2<hi:=by omega
   have pw:=LG.mp hr;have len:xs.toList.length=xs.size:=lR;by_cases c:xs.toList.getD ((lo+hi)/2) j<j
   ·rw [if_pos c];refine zaB xs j fuel _ hi (by omega) (by omega) h3 hr (λk hk=>?_) h5;rcases Nat.lt_or_ge k ((lo+hi)/2) with q|q
    ·have b1:(lo+hi)/2<xs.toList.length:=by omega
     have b0:k<xs.toList.length:=by omega
     have:=pw k _ b0 b1 q;rw [yc,yi b1] at c;rw [yc,yi b0];simp only [Ya] at c⊢;omega
    ·have:k=(lo+hi)/2:=by omega
     subst this;exact c
   ·rw [if_neg c];refine zaB xs j fuel lo _ (by omega) (by omega) (by omega) hr h4 λk hk hs=>?_
    rcases Nat.lt_or_ge ((lo+hi)/2) k with q|q
    ·have b1:(lo+hi)/2<xs.toList.length:=by omega
     have b0:k<xs.toList.length:=by omega
     have:=pw _ k b1 b0 q;rw [yc,yi b1] at c;rw [yc,yi b0];simp only [Ya] at c⊢;omega
    ·have:k=(lo+hi)/2:=by omega
     subst this;omega
  ·rw [if_neg h];have:lo=hi:=by omega
   subst this;exact⟨h3,h4,h5⟩
theorem zay{xs:Array Nat}{j:Nat}(hr:zc9 xs.toList):below xs j<=xs.toList.length/\(∀x∈xs.toList.take (below xs j),x<j)/\∀x∈xs.toList.drop (below xs j),j<=x:=by
 obtain⟨h1,h2,h3⟩:=zaB xs j xs.size 0 xs.size (by omega) (by omega) (by omega) hr (λk z=>absurd z (by omega)) λk a b=>absurd b (by omega)
 have len:xs.toList.length=xs.size:=lR;refine⟨by rw [len];exact h1,λx hx=>?_,λx hx=>?_⟩
 ·obtain⟨k,hk,rfl⟩:=LH.mp hx;have:=h2 k (by show k<below xs j;omega);rw [yc,yi (by omega)] at this;exact this
 ·obtain⟨k,hk,rfl⟩:=LI.mp hx;have:=h3 (below xs j+k) (by show below xs j<=_;omega) (by omega);rw [yc,yi (by omega)] at this;simpa [Nat.add_comm] using this
def fng(t:SetTable)(i:Nat):Int:=if i=0 then 0 else((t.place.toList.getD (i-1) 0:Nat):Int)+1
theorem zbn{t:SetTable}(hr:zc9 t.place.toList){i:Nat}(hi:i<=t.place.toList.length):below t.place (fng t i).toNat=i:=by
 obtain⟨h1,h2,h3⟩:=zay (j:=(fng t i).toNat) hr;have pw:=LG.mp hr;generalize hb:below t.place (fng t i).toNat=b at h1 h2 h3⊢;rcases Nat.lt_trichotomy b i with q|q|q
 ·have hbl:b<t.place.toList.length:=by omega
  have hil:i-1<t.place.toList.length:=by omega
  have h:=h3 (t.place.toList[b]) (LI.mpr ⟨0,by omega,by simp⟩);have e:(fng t i).toNat=t.place.toList[i-1]+1:=by unfold fng;rw [if_neg (by omega),yc,yi hil];simp only [Ya];omega
  rw [e] at h;by_cases hx:b=i-1
  ·subst hx;omega
  ·have:=pw b (i-1) hbl hil (by omega);omega
 ·exact q
 ·have hil:i<t.place.toList.length:=by omega
  have h:=h2 (t.place.toList[i]) (LH.mpr ⟨i,by omega,rfl⟩);by_cases h0:i=0
  ·subst h0;unfold fng at h;simp at h
  ·have hil2:i-1<t.place.toList.length:=by omega
   have e:(fng t i).toNat=t.place.toList[i-1]+1:=by unfold fng;rw [if_neg h0,yc,yi hil2];simp only [Ya];omega
   rw [e] at h;have:=pw (i-1) i hil2 hil (by omega);omega
theorem zgX{t:SetTable}{i j:Nat}(e:t.place[i]? =some j):fng t (i+1)=((j+1:Nat):Int):=by unfold fng;rw [if_neg (by omega),yc,Nat.add_sub_cancel,yA,e];simp
theorem VZ{α:Type}(xs:Array α)(p:Nat)(x:α)(h:p<=xs.toList.length):(insertAt xs p x).toList=xs.toList.take p++x::xs.toList.drop p:=by unfold insertAt;simp;rw [yk (l:=List.drop p xs.toList) (by simp)]
theorem zcn{L:List Nat}{p j:Nat}(hr:zc9 L)(h1:∀x∈L.take p,x<j)(h2:∀x∈L.drop p,j<=x)(hj:j∉L):zc9 (L.take p++j::L.drop p):=by
 rw [zc9,List.pairwise_append];refine⟨hr.sublist (List.take_sublist _ _),?_,λa ha b hb=>?_⟩
 ·rw [yp];refine⟨λb hb=>?_,hr.sublist (List.drop_sublist _ _)⟩;have:=h2 b hb;rcases Nat.lt_or_ge j b with q|q
  ·exact q
  ·have:b=j:=by omega
   subst this;exact absurd (yX hb) hj
 ·have ha':=h1 a ha;rcases lu.mp hb with rfl|hb
  ·exact ha'
  ·have:=h2 b hb;omega
end ZB
namespace ZS1
open PySem PySem.Spec PyProof.Rows
theorem slot_next:Slot "set_iterator" "__next__" "set_iterator.__next__":=
 .of (owner:="set_iterator") (n:="__next__") (by rw [typeLookup_type,builtinLookup_eq_fast];kernel_rfl) (by decide+kernel) (by decide+kernel) (by decide+kernel) (by first|exact .inl (by decide+kernel)|exact .inr (by decide+kernel)) (by rw [isSubtype_type];kernel_rfl)
theorem entry_next:entryFor table "set_iterator.__next__"=some Builtin.«set_iterator.__next__»:=entryFor_of_tree (by kernel_rfl)
theorem args_next(a:Value):argsOk "set_iterator.__next__" ⟨[a],[]⟩:=by unfold argsOk;kernel_rfl
theorem zdV:entryFor table "set.__iter__"=some Builtin.«frozenset.__iter__»:=entryFor_alias (id':="frozenset.__iter__") (by kernel_rfl) rfl (by decide+kernel) (by kernel_rfl)
section
variable {prog:Program} {w:World} {A:Around} {E:Value->Shared->Prop} {s:Shared}
theorem zd4{src:Source}{n:Nat}{Q:Nat->Shared->Prop}(hn:n≠0)(h:∀k d,k<n->Q k {s with drawn:=d}):wpAny (model prog w) A (choose src n) Q E s:=by intro G p hG;exact⟨hn,h _ _ (Nat.mod_lt _ (Nat.pos_of_ne_zero hn))⟩
theorem Jh{α:Type}:∀(xs:List α) (i:Nat) (x:α),xs[i]? =some x->(x::xs.eraseIdx i).Perm xs
 | [],i,x,h=>by simp at h
 |y::r,0,x,h=>by simp at h;subst h;exact .refl _
 |y::r,i+1,x,h=>by simp only [lJ] at h;simp only [List.eraseIdx_cons_succ];exact(List.Perm.swap y x _).trans ((Jh r i x h).cons y)
theorem zbJ{α:Type}:∀(n:Nat) (xs:List α) (s:Shared) (Q:List α->Shared->Prop),n=xs.length->(∀ys d,ys.Perm xs->Q ys {s with drawn:=d})->wpAny (model prog w) A (drawOrder n xs) Q E s
 |0,xs,s,Q,e,h=>by have z:xs= []:=YQ.mp e.symm;subst z;exact wpAny_pure (h [] s.drawn (.refl _))
 |n+1,[],s,Q,e,h=>by cases e
 |n+1,x::r,s,Q,e,h=>by
  show wpAny _ _ (do
   let i<-choose .order (x::r).length
   match (x::r)[i]? with
   |some y=>return y::(<-drawOrder n ((x::r).eraseIdx i))
   |none=>unsupported "internal:drawOrder") _ _ _
  refine wpAny_bind (zd4 (by simp) λk d hk=>?_);have ek:(x::r)[k]? =some (x::r)[k]:=yi hk;rw [ek];dsimp only;refine wpAny_bind (zbJ n _ _ _ (by rw [List.length_eraseIdx,if_pos hk];omega) λys d' p=>wpAny_pure ?_);exact h _ d' ((p.cons _).trans (Jh _ k _ ek))
structure SO (w:World) (h:Heap) (a:Addr) (es:Array (Int×Value)) (ep:Nat) (t:SetTable):Prop where
 ob:∃o,h.get? a=some o/\o.ExactSet/\o.data= .set es ep t
 fit:t.fits es.size=true
 led:t.led= !byT w
 pl:(0<es.size->t.plain=false)\/(t.plain=true/\ZB.zc9 t.place.toList)
theorem SO.ty{a:Addr}{es:Array (Int×Value)}{ep:Nat}{t:SetTable}(q:SO w s.heap a es ep t):s.TypeIs (.ref a) "set":=by obtain⟨o,h1,h2,_⟩:=q.ob;exact⟨o,h1,h2.1⟩
theorem SO.at{h h':Heap}{a:Addr}{es:Array (Int×Value)}{ep:Nat}{t:SetTable}(q:SO w h a es ep t)(e:∀o,h.get? a=some o->h'.get? a=some o):SO w h' a es ep t:=
 ⟨let⟨o,h1,h2⟩:=q.ob;⟨o,e o h1,h2⟩,q.fit,q.led,q.pl⟩
theorem vh{a:Addr}{es:Array (Int×Value)}{ep:Nat}{t:SetTable}{Q:(Array (Int×Value)×Nat×SetTable)->Shared->Prop}(q:SO w s.heap a es ep t)(h:Q (es,ep,t) s):wpAny (model prog w) A (setState a) Q E s:=by obtain⟨o,h1,_,h3⟩:=q.ob;exact wpAny_setState_of h1 h3 q.fit h
theorem QN{Q:Bool->Shared->Prop}(h:Q (byT w) s):wpAny (model prog w) A setsByText Q E s:=by unfold setsByText;exact wpAny_bind (wpAny_askSetting (wpAny_pure h))
structure SI (h:Heap) (I:Addr) (f0:Value) (i:Nat) (a:Addr) (n ep:Nat):Prop where
 ob:h.get? I=some {cls:=.type "set_iterator",data:=.fields #[f0,.int i 0,.ref a,.int n 0,.int ep 0]}
inductive Way (w:World) (a:Addr) (es:Array (Int×Value)) (ep:Nat) (t:SetTable) (h:Heap):Value->Nat->List Value->Prop
 |drawn {T:Addr} {ps:List Nat} {i:Nat}:byT w=false->ps.Perm (List.range es.size)->h.get? T=some {cls:=.type "tuple",data:=.seq (ps.map λ(p:Nat)=>rawInt p).toArray}->
   Way w a es ep t h (.ref T) i (ps.filterMap λp=>(es[p]?).map (·.2))
 |text {i:Nat}:byT w=true->Way w a es ep t h (.int 0 0) i ((pickOrder (w.params.setOrder a ep) es).toList.map (·.2))
 |one {i:Nat} {k:Int}:byT w=false->es.size<=1->(i=0->k=0)->(i=1->∀(j:Nat),t.place[0]? =some j->k=j+1)->Way w a es ep t h (.int k 0) i (es.toList.map (·.2))
 |tab {i:Nat}:byT w=false->t.plain=true->ZB.zc9 t.place.toList->Way w a es ep t h (.int (ZB.fng t i) 0) i (es.toList.map (·.2))
theorem zf5{a:Addr}{es:Array (Int×Value)}{ep:Nat}{t:SetTable}{Q:Bool->Shared->Prop}(q:SO w s.heap a es ep t)(h:Q (!byT w&&(!t.plain&&decide (es.size>1))) s):wpAny (model prog w) A (setDrawn a) Q E s:=by unfold setDrawn;exact wpAny_bind (vh q (wpAny_bind (QN (wpAny_pure h))))
theorem Js{a:Addr}{es:Array (Int×Value)}{ep:Nat}{t:SetTable}{Q:Array (Int×Value)->Shared->Prop}(q:SO w s.heap a es ep t)(h:Q es s):wpAny (model prog w) A (setEntries a) Q E s:=by unfold setEntries;exact wpAny_bind (vh q (wpAny_pure h))
theorem zif{a:Addr}{es:Array (Int×Value)}{ep:Nat}{t:SetTable}{Q:Nat->Shared->Prop}(q:SO w s.heap a es ep t)(h:Q ep s):wpAny (model prog w) A (setEpoch a) Q E s:=by unfold setEpoch;exact wpAny_bind (vh q (wpAny_pure h))
theorem zkg{a:Addr}{es:Array (Int×Value)}{ep:Nat}{t:SetTable}{Q:Nat->Shared->Prop}(q:SO w s.heap a es ep t)(h:Q es.size s):wpAny (model prog w) A (Builtin.Frozenset.sizeOf a) Q E s:=by unfold Builtin.Frozenset.sizeOf;exact wpAny_bind (Js q (wpAny_pure h))
theorem zhh{a:Addr}{es:Array (Int×Value)}{ep:Nat}{t:SetTable}{Q:Value->Shared->Prop}(q:SO w s.heap a es ep t)(hz:es.size<=4096)
 (h:∀I h' d f0 ord,(∀b o,s.heap.get? b=some o->h'.get? b=some o)->s.heap.objs.size<=I->SI h' I f0 0 a es.size ep->Way w a es ep t h' f0 0 ord->(∀T,f0= .ref T->T≠I/\s.heap.objs.size<=T)->Q (.ref I) {s with heap:=h',drawn:=d}):
 wpAny (model prog w) A (pyIter (.ref a)) Q E s:=by
 refine wpAny_pyIter_slot q.ty PySem.F.slot_set_iter (wpAny_call_entry PySem.F.slot_set_iter q.ty zdV ?_ (PySem.F.args_set_iter_1 _));unfold Builtin.«frozenset.__iter__»;refine wpAny_bind (wpAny_pure (wpAny_bind (zkg (s:=s) q (wpAny_bind (zf5 q ?_)))))
 have last:∀(s1:Shared) (f0:Value) (ord:List Value),SO w s1.heap a es ep t->(∀b o,s.heap.get? b=some o->s1.heap.get? b=some o)->s.heap.objs.size<=s1.heap.objs.size->(∃hh d,s1={s with heap:=hh,drawn:=d})->
  (∀h',(∀b o,s1.heap.get? b=some o->h'.get? b=some o)->Way w a es ep t h' f0 0 ord)->(∀T,f0= .ref T->T<s1.heap.objs.size/\s.heap.objs.size<=T)->
  wpAny (model prog w) A.in1 (do let e<-setEpoch a;let v<-newFields "set_iterator" [f0,rawInt 0,.ref a,rawInt es.size,rawInt e];ret v)
   (λfin s'=>∃v,fin=Fin.done (Flow.ret v)/\∃T' r,s'.TypeIs v T'/\typeLookup (Value.type T') (Str.ofString "__next__")=pure (some r)/\Q v s') E s1:=λs1 f0 ord q1 k1 hs ⟨hh,d,e1⟩ hw hT=>by
  refine wpAny_bind (zif q1 (wpAny_bind ?_));unfold newFields;refine wpAny_newObj_type (wpAny_pure ⟨_,rfl,"set_iterator",_,⟨_,lz _ rfl,rfl⟩,slot_next.lookup,?_⟩) (by size_fits);subst e1;exact h _ _ d f0 ord (λb o e=>lj _ (k1 b o e)) hs ⟨lz _ rfl⟩ (hw _ λb o e=>lj _ e) λT e=>⟨lY (hT T e).1,(hT T e).2⟩
 by_cases hb:(!byT w&&(!t.plain&&decide (es.size>1)))=true
 ·rw [hb];simp only [if_true];have hb':byT w=false:=by
   cases z:byT w with
   |false=>rfl
   |true=>rw [z] at hb;cases hb
  refine wpAny_bind (zbJ es.size (List.range es.size) s _ (by simp) λys d p=>wpAny_bind (wpAny_newTuple ?_ (by rw [lB,p.length_eq,Le,sizeLine_eq];omega)));have kp:∀b o,s.heap.get? b=some o->(s.heap.push {cls:=.type "tuple",data:=.seq (ys.map λ(i:Nat)=>rawInt i).toArray}).get? b=some o:=λb o e=>lj _ e
  refine last _ (.ref s.heap.objs.size) (ys.filterMap λp=>(es[p]?).map (·.2)) (q.at λo e=>kp a o e) kp (by rw [lT];exact Lm _) ⟨_,_,rfl⟩ (λh' k=>.drawn hb' p (k _ _ (lz _ rfl))) λT e=>?_
  cases e;exact⟨by rw [lT];exact LB _,lD _⟩
 ·have hb2:(!byT w&&(!t.plain&&decide (es.size>1)))=false:=yE.mpr hb;rw [hb2];simp only [yz,if_false];refine wpAny_bind (wpAny_pure ?_);by_cases hy:byT w=true
  ·exact last s (rawInt 0) _ q (λ_ _ e=>e) (lD _) ⟨s.heap,s.drawn,rfl⟩ (λh' k=>.text hy) λT e=>nomatch e
  ·have hy':byT w=false:=by simpa using hy
   rcases q.pl with qp|⟨qp,qr⟩
   ·have h1:es.size<=1:=by
     by_cases z:es.size>1
     ·rw [hy',qp (by omega),decide_eq_true z] at hb2;cases hb2
     ·omega
    exact last s (rawInt 0) _ q (λ_ _ e=>e) (lD _) ⟨s.heap,s.drawn,rfl⟩ (λh' k=>.one hy' h1 (λ_=>rfl) λe=>absurd e (by decide)) λT e=>nomatch e
   ·exact last s (rawInt 0) _ q (λ_ _ e=>e) (lD _) ⟨s.heap,s.drawn,rfl⟩ (λh' k=>.tab (i:=0) hy' qp qr) λT e=>nomatch e
theorem za8{α:Type}(f:Nat->Nat)(xs:Array α):(pickOrder f xs).toList.Perm xs.toList:=by
 have go:∀(n k:Nat) (l:List α) (out:Array α),n=l.length->(pickOrder.go f n k l out).toList.Perm (out.toList++l):=by
  intro n;induction n with
  |zero=>
   intro k l out e;have z:l= []:=YQ.mp e.symm;subst z;simp [pickOrder.go]
  |succ n ih=>
   intro k l out e;have hl:f k%l.length<l.length:=Nat.mod_lt _ (by omega);have ek:l[f k%l.length]? =some l[f k%l.length]:=yi hl;unfold pickOrder.go;rw [ek];refine(ih (k+1) _ _ (by rw [List.length_eraseIdx,if_pos hl];omega)).trans ?_;rw [Yx,yD];exact List.Perm.append_left _ (Jh l _ _ ek)
 have z:=go xs.size 0 xs.toList #[] (by simp);rw [show(#[]:Array α).toList++xs.toList=xs.toList from rfl] at z;exact z
theorem zg1{a:Addr}{es:Array (Int×Value)}{ep:Nat}{t:SetTable}{h:Heap}{f0:Value}{i:Nat}{ord:List Value}(q:Way w a es ep t h f0 i ord):ord.Perm (es.toList.map (·.2)):=by
 cases q with
 |drawn _ p _=>
  refine(p.filterMap _).trans ?_;have e:(List.range es.size).filterMap (λp=>(es[p]?).map (·.2))=((List.range es.size).filterMap λp=>es[p]?).map (·.2):=by rw [List.map_filterMap]
  rw [e,filterMap_getElem?_range]
 |text _=>exact(za8 _ es).map _
 |one _ _ _ _=>exact .refl _
 |tab _ _ _=>exact .refl _
theorem ziq{α β:Type}{f:α->Option β}:∀(ps:List α) {i:Nat},(∀x∈ps,∃y,f x=some y)->(ps.filterMap f)[i]? =(ps[i]?).bind f
 | [],i,_=>by simp
 |x::r,i,h=>by
  obtain⟨y,e⟩:=h x lC;rw [YC e];cases i with
  |zero=>simp [e]
  |succ i=>simp only [lJ];exact ziq r λz hz=>h z (lA _ hz)
theorem zbE{a:Addr}{es:Array (Int×Value)}{ep:Nat}{t:SetTable}{Q:Array (Int×Value)->Shared->Prop}(hb:byT w=true)(q:SO w s.heap a es ep t)(h:Q (pickOrder (w.params.setOrder a ep) es) s):wpAny (model prog w) A (setWalk a) Q E s:=by unfold setWalk;refine wpAny_bind (vh q ?_);dsimp only;refine wpAny_bind (QN ?_);rw [hb];simp only [if_true];exact wpAny_bind (wpAny_askSetting (wpAny_pure h))
theorem zdM{a:Addr}{es:Array (Int×Value)}{ep:Nat}{t:SetTable}{Q:Unit->Shared->Prop}(hb:byT w=false)(q:SO w s.heap a es ep t)(h:Q () s):wpAny (model prog w) A (if (!t.led&& !es.isEmpty)=true then unsupported "set:maker-not-led" else pure ()) Q E s:=by rw [q.led,hb];exact wpAny_pure h
theorem zmy{h:Heap}{I:Addr}{f0:Value}{i:Nat}{a:Addr}{n ep:Nat}(q:SI h I f0 i a n ep):SI (h.update I (Obj.mapFields (·.setIfInBounds 1 (rawInt ((i:Int)+1))))) I f0 (i+1) a n ep:=by refine⟨?_⟩;have e:=yg (Obj.mapFields (·.setIfInBounds 1 (rawInt ((i:Int)+1)))) q.ob (y8 (yV rfl _));rw [e];rfl
theorem zmz{h:Heap}{I:Addr}{f0:Value}{k:Int}{i:Nat}{a:Addr}{n ep:Nat}(q:SI h I f0 i a n ep):SI (h.update I (Obj.mapFields (·.setIfInBounds 0 (rawInt k)))) I (.int k 0) i a n ep:=by refine⟨?_⟩;have e:=yg (Obj.mapFields (·.setIfInBounds 0 (rawInt k))) q.ob (y8 (yV rfl _));rw [e];rfl
theorem SI.ty{I:Addr}{f0:Value}{i:Nat}{a:Addr}{n ep:Nat}(q:SI s.heap I f0 i a n ep):s.TypeIs (.ref I) "set_iterator":=⟨_,q.ob,rfl⟩
set_option maxHeartbeats 2000000 in
theorem next_item{a I:Addr}{es:Array (Int×Value)}{ep:Nat}{t:SetTable}{f0:Value}{i:Nat}{ord:List Value}{v:Value}{Q:Option Value->Shared->Prop}(q:SO w s.heap a es ep t)(qi:SI s.heap I f0 i a es.size ep)(qw:Way w a es ep t s.heap f0 i ord)(ev:ord[i]? =some v)
 (hQ:∀h' f0',SI h' I f0' (i+1) a es.size ep->(∀hx,(∀T o,f0= .ref T->s.heap.get? T=some o->hx.get? T=some o)->Way w a es ep t hx f0' (i+1) ord)->(∀T,f0'= .ref T->f0= .ref T)->Heap.SameBut I s.heap h'->Q (some v) {s with heap:=h'}):
 wpAny (model prog w) A (pyNext (.ref I)) Q E s:=by
 unfold pyNext;refine wpAny_bind (wpAny_attempt (wpAny_callSpecial?_slot (name:=Str.ofString "__next__") qi.ty slot_next (wpAny_call_entry slot_next qi.ty entry_next ?_ (args_next _))));unfold Builtin.«set_iterator.__next__»;refine wpAny_bind (wpAny_pure ?_);refine wpAny_bind (wpAny_fieldsOf qi.ob rfl ?_);dsimp only;refine wpAny_bind (Js q ?_);rw [if_neg (by simp)];cases qw with
 | @drawn T ps _ hb p hT=>
   have all:∀x∈ps,∃y,((es[x]?).map (·.2):Option Value)=some y:=λx hx=>by have:x<es.size:=LV.mp (p.mem_iff.mp hx);exact⟨es[x].2,by simp [this]⟩
   rw [ziq ps all] at ev;cases hp:ps[i]? with
   |none=>rw [hp] at ev;cases ev
   |some x=>
    rw [hp] at ev;cases he:es[x]? with
    |none=>rw [yK,he] at ev;cases ev
    |some en=>
     rw [yK,he] at ev;dsimp only;refine wpAny_bind (wpAny_seqItems hT rfl ?_);dsimp only;have ep1:(List.map (λ(p:Nat)=>rawInt p) ps).toArray[((i:Nat):Int).toNat]? =some (.int x 0):=by rw [yL,L8,ya,hp];rfl
     rw [ep1];dsimp only;unfold setNextDrawn;refine wpAny_bind (wpAny_bind (vh q ?_));dsimp only;rw [if_neg (by simp),yL,he];refine wpAny_pure ?_;refine wpAny_bind (wpAny_setField qi.ob rfl (by simp) ?_);refine wpAny_pure ⟨_,rfl,wpAny_pure ?_⟩;cases ev;exact hQ _ _ (zmy qi) (λhx k=>.drawn hb p (k T _ rfl hT)) (λT' e=>e) (yf ..)
 |text hb=>
  dsimp only;unfold setNext;refine wpAny_bind (wpAny_bind (vh q (wpAny_bind (QN ?_))));rw [hb];simp only [if_true];rw [if_neg (by simp)];refine wpAny_bind (zbE hb q ?_);have e2:((pickOrder (w.params.setOrder a ep) es)[((i:Nat):Int).toNat]?).map (·.2)=some v:=by rw [ya] at ev;rw [yL,<-yA];exact ev
  cases he:(pickOrder (w.params.setOrder a ep) es)[((i:Nat):Int).toNat]? with
  |none=>rw [he] at e2;cases e2
  |some en=>
   rw [he] at e2;cases e2;refine wpAny_pure ?_;dsimp only [Option.map_some];refine wpAny_bind (wpAny_setField qi.ob rfl (by simp) ?_);have q0:=zmz (k:=((Int.toNat 0:Nat):Int)) qi;refine wpAny_bind (wpAny_setField (s:={s with heap:=s.heap.update I _}) q0.ob rfl (by simp) ?_);refine wpAny_pure ⟨_,rfl,wpAny_pure ?_⟩;exact hQ _ _ (zmy q0) (λhx k=>.text hb) (λT' e=>nomatch e) ((yf ..).trans (yf ..))
 | @one _ k hb h1 h2 h3=>
   dsimp only;have hi0:i=0:=by have:=(lI.mp ev).1;rw [lB,lR] at this;omega
   subst hi0;obtain rfl:=h2 rfl;unfold setNext;refine wpAny_bind (wpAny_bind (vh q (wpAny_bind (QN ?_))));rw [hb];simp only [yz,if_false];refine wpAny_ite_split (λz=>absurd z ?_) (λ_=>?_)
   ·show ¬((!t.plain&&decide (es.size>1))=true);rw [decide_eq_false (show ¬es.size>1 by omega),Lk];exact lE
   refine wpAny_bind (zdM (hb:=hb) q (Q:=λ_ s'=>wpAny (model prog w) A.in1 _ _ _ s') ?_);have hsz:es.size=1:=by have:=(lI.mp ev).1;rw [lB,lR] at this;omega
   have hpl:t.place.size=1:=by have f:=q.fit;simp only [SetTable.fits,lG,beq_iff_eq] at f;rw [f.1,hsz]
   have hbel:SetTable.below t.place (Int.toNat 0)=0:=by unfold SetTable.below;rw [hpl];rfl
   rw [hbel];cases he:es[0]? with
   |none=>rw [yq] at he;omega
   |some en=>
    cases hj:t.place[0]? with
    |none=>rw [yq] at hj;omega
    |some j=>
     rw [ya,yA,he] at ev;cases ev;refine wpAny_pure ?_;dsimp only;refine wpAny_bind (wpAny_setField qi.ob rfl (by simp) ?_);have q0:=zmz (k:=((j+1:Nat):Int)) qi;refine wpAny_bind (wpAny_setField (s:={s with heap:=s.heap.update I _}) q0.ob rfl (by simp) ?_);refine wpAny_pure ⟨_,rfl,wpAny_pure ?_⟩;exact hQ _ _ (zmy q0) (λhx k=>.one hb h1 (λz=>absurd z (by decide)) λ_ j' e'=>by rw [hj] at e';cases e';rfl) (λT' e=>nomatch e) ((yf ..).trans (yf ..))
 |tab hb hp hr=>
  dsimp only;unfold setNext;refine wpAny_bind (wpAny_bind (vh q (wpAny_bind (QN ?_))));rw [hb];simp only [yz,if_false];refine wpAny_ite_split (λz=>absurd z ?_) (λ_=>?_)
  ·show ¬((!t.plain&&decide (es.size>1))=true);rw [hp];exact lE
  refine wpAny_bind (zdM (hb:=hb) q (Q:=λ_ s'=>wpAny (model prog w) A.in1 _ _ _ s') ?_);have hlt:i<es.size:=by have:=(lI.mp ev).1;rw [lB,lR] at this;omega
  have hpl:t.place.size=es.size:=by have f:=q.fit;simp only [SetTable.fits,lG,beq_iff_eq] at f;exact f.1
  rw [ZB.zbn hr (by rw [lR];omega)];cases he:es[i]? with
  |none=>rw [yq] at he;omega
  |some en=>
   cases hj:t.place[i]? with
   |none=>rw [yq] at hj;omega
   |some j=>
    rw [ya,yA,he] at ev;cases ev;refine wpAny_pure ?_;dsimp only;refine wpAny_bind (wpAny_setField qi.ob rfl (by simp) ?_);have q0:=zmz (k:=((j+1:Nat):Int)) qi;refine wpAny_bind (wpAny_setField (s:={s with heap:=s.heap.update I _}) q0.ob rfl (by simp) ?_);refine wpAny_pure ⟨_,rfl,wpAny_pure ?_⟩;exact hQ _ _ (zmy q0) (λhx k=>by rw [<-ZB.zgX hj];exact .tab hb hp hr) (λT' e=>nomatch e) ((yf ..).trans (yf ..))
theorem zgT{α:Type}{Q:α->Shared->Prop}(hh:A.handled=none)(h:∀h' e,(∀b o,s.heap.get? b=some o->h'.get? b=some o)->Shared.TypeIs {s with heap:=h'} (.ref e) "StopIteration"->E (.ref e) {s with heap:=h'}):
 wpAny (model prog w) A (newExc (.type "StopIteration") []>>=λe=>(raiseNew e:Sem α)) Q E s:=by
 refine wpAny_bind ?_;simp only [newExc,newTuple];refine wpAny_bind (wpAny_newObj_type ?_ (by size_fits));refine wpAny_bind (m:=firstArgMember _ _) (wpAny_of_eq (a:=Value.none) (by first|rfl|(simp only [firstArgMember];rfl)) ?_);refine wpAny_newObj_type ?_ (by size_fits);simp only [raiseNew];refine wpAny_bind (wpAny_handled ?_);rw [hh];refine wpAny_bind (wpAny_pure (wpAny_throw ?_));exact h _ _ (λb o e=>lj _ (lj _ e)) ⟨_,lz _ rfl,rfl⟩
theorem zeR{j:Nat}{xs:Array Nat}(h:xs.size=1)(e:xs[0]? =some j):SetTable.below xs (j+1)=1:=by
 unfold SetTable.below;rw [h];show(if 0<1 then(if xs.getD 0 (j+1)<j+1 then SetTable.below.go xs (j+1) 0 (0+1) 1 else SetTable.below.go xs (j+1) 0 0 0) else 0)=1;have z:xs.getD 0 (j+1)=j:=by rw [Yh,e];rfl
 rw [z];simp [SetTable.below.go]
set_option maxHeartbeats 2000000 in
theorem next_end{a I:Addr}{es:Array (Int×Value)}{ep:Nat}{t:SetTable}{f0:Value}{i:Nat}{ord:List Value}{Q:Option Value->Shared->Prop}(hh:A.handled=none)(q:SO w s.heap a es ep t)(qi:SI s.heap I f0 i a es.size ep)(qw:Way w a es ep t s.heap f0 i ord)(hi:i=es.size)
 (hQ:∀h',(∀b o,b≠I->s.heap.get? b=some o->h'.get? b=some o)->Q none {s with heap:=h'}):
 wpAny (model prog w) A (pyNext (.ref I)) Q E s:=by
 unfold pyNext;refine wpAny_bind (wpAny_attempt (wpAny_callSpecial?_slot (name:=Str.ofString "__next__") qi.ty slot_next (wpAny_call_entry slot_next qi.ty entry_next ?_ (args_next _))));unfold Builtin.«set_iterator.__next__»;refine wpAny_bind (wpAny_pure ?_);refine wpAny_bind (wpAny_fieldsOf qi.ob rfl ?_);dsimp only;refine wpAny_bind (Js q ?_);rw [if_neg (by simp)]
 have fin:∀(s1:Shared),(∃hp,s1={s with heap:=hp}/\∀b o,b≠I->s.heap.get? b=some o->hp.get? b=some o)->wpAny (model prog w) A.in1 (newExc (.type "StopIteration") []>>=λe=>(raiseNew e:Sem Fin))
  (λfin s'=>∃v,fin=Fin.done (Flow.ret v)/\wpAny (model prog w) A (pure (some v)) Q E s') (λe s'=>wpAny (model prog w) A (do
    let __do_lift<-isInstance e (Value.type "StopIteration")
    if __do_lift=true then pure none else throw e) Q E s') s1:=by
  rintro s1 ⟨hp,rfl,k⟩;refine zgT (by rw [show A.in1.handled=A.handled from rfl];exact hh) λh' e k2 ty=>?_
  refine wpAny_bind (wpAny_isInstance (T:="StopIteration") (b:=true) ty isSubtype_stop ?_);exact wpAny_pure (hQ h' λb o hb eb=>k2 b o (k b o hb eb))
 have oth:∀(f:Obj->Obj) (hp:Heap),∀b o,b≠I->hp.get? b=some o->(hp.update I f).get? b=some o:=λf hp b o hb e=>(ye _ _ (yY hb)).trans e
 cases qw with
 | @drawn T ps _ hb p hT=>
   dsimp only;refine wpAny_bind (wpAny_seqItems hT rfl ?_);dsimp only;have ep1:(List.map (λ(p:Nat)=>rawInt p) ps).toArray[((i:Nat):Int).toNat]? =none:=by rw [yL,L8,List.getElem?_eq_none_iff,lB,p.length_eq,Le];omega
   rw [ep1];dsimp only;refine wpAny_bind (wpAny_setField qi.ob rfl (by simp) ?_);have q0:=zmz (k:=0) qi;refine wpAny_bind (wpAny_setField (s:={s with heap:=s.heap.update I _}) q0.ob rfl (by simp) ?_);exact fin _ ⟨_,rfl,λb o hb e=>oth _ _ b o hb (oth _ _ b o hb e)⟩
 |text hb=>
  dsimp only;unfold setNext;refine wpAny_bind (wpAny_bind (vh q (wpAny_bind (QN ?_))));rw [hb];simp only [if_true];rw [if_neg (by simp)];refine wpAny_bind (zbE hb q ?_);have he:(pickOrder (w.params.setOrder a ep) es)[((i:Nat):Int).toNat]? =none:=by rw [yL,yq,<-lR,(za8 _ es).length_eq,lR];omega
  rw [he];refine wpAny_pure ?_;dsimp only [Option.map_none];refine wpAny_bind (wpAny_setField qi.ob rfl (by simp) ?_);exact fin _ ⟨_,rfl,λb o hb e=>oth _ _ b o hb e⟩
 | @one _ k hb h1 h2 h3=>
   dsimp only;unfold setNext;refine wpAny_bind (wpAny_bind (vh q (wpAny_bind (QN ?_))));rw [hb];simp only [yz,if_false];refine wpAny_ite_split (λz=>absurd z ?_) (λ_=>?_)
   ·show ¬((!t.plain&&decide (es.size>1))=true);rw [decide_eq_false (show ¬es.size>1 by omega),Lk];exact lE
   refine wpAny_bind (zdM (hb:=hb) q (Q:=λ_ s'=>wpAny (model prog w) A.in1 _ _ _ s') ?_);have f:=q.fit;simp only [SetTable.fits,lG,beq_iff_eq] at f;have hbel:es[SetTable.below t.place k.toNat]? =none:=by
    rw [yq];by_cases hs:es.size=0
    ·omega
    ·have h1':es.size=1:=by omega
     cases hj:t.place[0]? with
     |none=>rw [yq] at hj;omega
     |some j=>
      have ek:=h3 (by omega) j hj;subst ek;rw [show((j:Int)+1).toNat=j+1 by omega,zeR (by omega) hj];omega
   rw [hbel];refine wpAny_pure ?_;dsimp only;refine wpAny_bind (wpAny_setField qi.ob rfl (by simp) ?_);exact fin _ ⟨_,rfl,λb o hb e=>oth _ _ b o hb e⟩
 |tab hb hp hr=>
  dsimp only;unfold setNext;refine wpAny_bind (wpAny_bind (vh q (wpAny_bind (QN ?_))));rw [hb];simp only [yz,if_false];refine wpAny_ite_split (λz=>absurd z ?_) (λ_=>?_)
  ·show ¬((!t.plain&&decide (es.size>1))=true);rw [hp];exact lE
  refine wpAny_bind (zdM (hb:=hb) q (Q:=λ_ s'=>wpAny (model prog w) A.in1 _ _ _ s') ?_);have f:=q.fit;simp only [SetTable.fits,lG,beq_iff_eq] at f;rw [ZB.zbn hr (by rw [lR];omega)];have hbel:es[i]? =none:=by rw [yq];omega
  rw [hbel];refine wpAny_pure ?_;dsimp only;refine wpAny_bind (wpAny_setField qi.ob rfl (by simp) ?_);exact fin _ ⟨_,rfl,λb o hb e=>oth _ _ b o hb e⟩
end
def zbZ:Value->List Addr
 | .ref T=>[T]
 |_=>[]
section
variable {prog:Program} {w:World} {A:Around} {E:Value->Shared->Prop} {s:Shared}
theorem zbm:Slot "set_iterator" "__iter__" "set_iterator.__iter__":=
 .of (owner:="set_iterator") (n:="__iter__") (by rw [typeLookup_type,builtinLookup_eq_fast];kernel_rfl) (by decide+kernel) (by decide+kernel) (by decide+kernel) (by first|exact .inl (by decide+kernel)|exact .inr (by decide+kernel)) (by rw [isSubtype_type];kernel_rfl)
theorem zdU:entryFor table "set_iterator.__iter__"=some Builtin.«dict_keyiterator.__iter__»:=entryFor_alias (id':="dict_keyiterator.__iter__") (by kernel_rfl) rfl (by decide+kernel) (by kernel_rfl)
theorem zge(a:Value):argsOk "set_iterator.__iter__" ⟨[a],[]⟩:=by unfold argsOk;kernel_rfl
theorem Way.at{a:Addr}{es:Array (Int×Value)}{ep:Nat}{t:SetTable}{h h':Heap}{f0:Value}{i:Nat}{ord:List Value}(q:Way w a es ep t h f0 i ord)(k:∀T∈zbZ f0,∀o,h.get? T=some o->h'.get? T=some o):Way w a es ep t h' f0 i ord:=by
 cases q with
 |drawn h1 h2 h3=>exact .drawn h1 h2 (k _ (by simp [zbZ]) _ h3)
 |text h1=>exact .text h1
 |one h1 h2 h3 h4=>exact .one h1 h2 h3 h4
 |tab h1 h2 h3=>exact .tab h1 h2 h3
theorem zeE(hh:A.handled=none){a I:Addr}{es:Array (Int×Value)}{ep:Nat}{t:SetTable}{F0:Value}{ord:List Value}(hn:ord.length=es.size)(haI:a≠I)(hTI:∀T∈zbZ F0,T≠I):
 Walks prog w A I (I::a::zbZ F0) [I] es.size (λi v=>ord[i]? =some v) (λi h=>SO w h a es ep t/\∃f0,SI h I f0 i a es.size ep/\Way w a es ep t h f0 i ord/\(∀T∈zbZ f0,T∈zbZ F0)) where
 sub:=λb hb=>by simp at hb;simp [hb]
 frame:=λi h h' ⟨q,f0,qi,qw,qt⟩ k=>⟨q.at λo e=>k a (by simp) o e,f0,⟨k I (by simp) _ qi.ob⟩,qw.at λT hT o e=>k T (by simp [qt T hT]) o e,qt⟩
 item:=λi s Q E hi ⟨q,f0,qi,qw,qt⟩ hQ=>by
  obtain⟨v,ev⟩:∃v,ord[i]? =some v:=⟨ord[i]'(by omega),by simp [hn,hi]⟩;refine next_item q qi qw ev λh' f0' qi' qw' ft sb=>?_
  refine hQ v h' s.toks ev ⟨q.at λo e=>(sb.2 a haI).trans e,f0',qi',qw' h' (λT o e eo=>(sb.2 T (hTI T (qt T (by rw [e];simp [zbZ])))).trans eo),λT hT=>?_⟩ λb o hb e=>(sb.2 b λz=>hb (by simp [z])).trans e
  cases f0' with
  |ref T'=>
   have e':=ft T' rfl;have:T=T':=by simpa [zbZ] using hT
   subst this;exact qt T (by rw [e'];simp [zbZ])
  |_=>simp [zbZ] at hT
 done:=λs Q E ⟨q,f0,qi,qw,qt⟩ hQ=>next_end hh q qi qw rfl λh' k=>hQ h' s.toks λb o hb e=>k b o (λz=>hb (by simp [z])) e
 self:=λi s Q E ⟨q,f0,qi,qw,qt⟩ hQ=>by refine wpAny_pyIter_slot qi.ty zbm (wpAny_call_entry zbm qi.ty zdU ?_ (zge _));show wpAny _ _ (ret (.ref I)) _ _ s;exact wpAny_pure ⟨_,rfl,"set_iterator",_,qi.ty,slot_next.lookup,hQ⟩
theorem zhG{r:Addr}{Q:Bool->Shared->Prop}(hT:s.TypeIs (.ref r) "set")(h:Q false s):wpAny (model prog w) A (Builtin.List.listLengthHint (.ref r)) Q E s:=by unfold Builtin.List.listLengthHint;refine wpAny_bind (wpAny_specialOf hT PySem.F.slot_set_len.lookup ?_);generalize hid:("set.__len__":String)=nm;wp_delta;rw [show splitId nm=some ("set","__len__") from by subst hid;decide+kernel];subst hid;refine wpAny_bind (wpAny_isInstance (T:="set") (b:=true) hT (by rw [isSubtype_type];kernel_rfl) ?_);refine wpAny_ite_split (λz=>absurd z (by decide)) (λ_=>?_);refine wpAny_ite_split (λ_=>?_) (λz=>absurd (by decide+kernel) z);exact wpAny_bind (wpAny_typeOf hT (wpAny_pure h))
theorem zjR{R:Result->Shared->Prop}{a:Addr}{es:Array (Int×Value)}{ep:Nat}{t:SetTable}(hh:A.handled=none)(q:SO w s.heap a es ep t)(hz:es.size<=4096)(S:Addr)(hSa:S≠a)(res:Value)(c0:Nat)(hS:s.heap.get? S=some {cls:=.type "list",data:=.seq #[] c0})
 (hR:∀h' d tk acc' c',(∀b o,b≠S->s.heap.get? b=some o->h'.get? b=some o)->h'.get? S=some {cls:=.type "list",dict:=none,data:=.seq acc' c',slots:= #[]}->acc'.toList.Perm (es.toList.map (·.2))->R (.ok (.ret res)) {s with heap:=h',drawn:=d,toks:=tk}):
 wpAny (model prog w) A.in1 (Builtin.List.listExtendWith (.ref S) (.ref a) res)
  (λfin s'=>match fin with| .done f=>R (.ok f) s'| .again c'=>c'.quiet=true/\codeAny (model prog w) A c' R s') (λe s'=>R (.error e) s') s:=by
 unfold Builtin.List.listExtendWith;refine wpAny_bind (wpAny_typeOf (T:="set") q.ty ?_);have h1:Builtin.List.listSameRef (.ref S) (.ref a)=false:=by simp [Builtin.List.listSameRef,hSa]
 have h2:(Value.type "set"==Value.type "list")=false:=by decide
 have h3:(Value.type "set"==Value.type "tuple")=false:=by decide
 simp only [h1,h2,h3,Bool.or_false,yz,if_false];refine wpAny_bind (zhh q hz λI hp d F0 ord kp hI qi qw qT=>?_);have hpm:=zg1 qw;have hlen:ord.length=es.size:=by rw [hpm.length_eq];simp
 have hSlt:S<s.heap.objs.size:=lq hS;have halt:a<s.heap.objs.size:=let⟨o,e,_⟩:=q.ob;lq e;have nSI:S≠I:=lY (lM hSlt hI);have naI:a≠I:=lY (lM halt hI)
 have tT:∀T∈zbZ F0,T≠I/\s.heap.objs.size<=T:=λT hT=>by
  cases F0 with
  |ref T'=>exact qT T (by have:T=T':=by simpa [zbZ] using hT
                          rw [this])
  |_=>simp [zbZ] at hT
 have nS:S∉I::a::zbZ F0:=by simp only [lu,not_or];exact⟨nSI,hSa,λz=>absurd (lM hSlt (tT S z).2) (yF _)⟩
 have W:=zeE (prog:=prog) (w:=w) (A:=A.in1) (ep:=ep) (t:=t) hh hlen naI λT hT=>(tT T hT).1
 have st0:∀hx:Heap,(∀b o,b≠S->hp.get? b=some o->hx.get? b=some o)->SO w hx a es ep t/\∃f0,SI hx I f0 0 a es.size ep/\Way w a es ep t hx f0 0 ord/\(∀T∈zbZ f0,T∈zbZ F0):=λhx k=>
  ⟨q.at λo e=>k a o (yY hSa) (kp a o e),F0,⟨k I _ (yY nSI) qi.ob⟩,qw.at λT hT o e=>k T o (λz=>by rw [z] at hT;exact nS (by simp [hT])) e,λT hT=>hT⟩
 have key:∀(hx:Heap) (c1 tk:Nat),(∀b o,b≠S->hp.get? b=some o->hx.get? b=some o)->hx.get? S=some {cls:=.type "list",data:=.seq #[] c1}->
  codeAny (model prog w) A (.builtin "list.extend.loop" ⟨[.ref S,.ref I,res],[]⟩) R {s with heap:=hx,drawn:=d,toks:=tk}:=λhx c1 tk k e=>by
  refine codeAny_extend_loopS W.toS (by rw [sizeLine_eq];omega) S nS res es.size 0 _ #[] c1 rfl (yx _) (st0 hx k) e (ItemsOf.nil _) λs' acc' c' mv e' it=>?_
  rw [Moved.eq_with mv];refine hR s'.heap d s'.toks acc' c' (λb o hb eb=>mv.heap b o (λhm=>?_) (k b o hb (kp b o eb))) e' ?_
  ·rcases lu.mp hm with z|z
   ·exact hb z
   ·have z':b=I:=by simpa using z
    rw [z'] at eb;exact absurd (lM (lq eb) hI) (yF _)
  ·have ea:acc'.toList=ord:=by
    apply List.ext_getElem?;intro j;by_cases hj:j<es.size
    ·have hj':j<acc'.size:=by rw [it.1];exact hj
     have:=it.2 j acc'[j] (by simp [hj']);rw [this,yA];simp [hj']
    ·rw [yt (by rw [lR,it.1];omega),yt (by omega)]
   rw [ea];exact hpm
 have hS1:=kp _ _ hS;refine wpAny_bind (wpAny_holding (zhG (s:={s with heap:=hp,drawn:=d}) ((st0 hp λb o _ e=>e).1.ty) ?_));refine wpAny_ite_split (λ_=>?_) (λ_=>wpAny_pure ⟨plainId_quiet Yu _,key hp c0 s.toks (λb o _ e=>e) hS1⟩);refine wpAny_bind (wpAny_rule (wpAny_bind ?_));show wpAny _ _ (updateSeq S (·.push .none)>>=λ_=>updateSeq S (·.pop)) _ _ _;refine wpAny_bind (wpAny_updateSeq hS1 rfl ?_);have hS2:=yg (Obj.mapSeq (·.push Value.none)) hS1 rfl;refine wpAny_updateSeq (hz:=by seq_fits) hS2 rfl ?_;have hS3:=yg (Obj.mapSeq (·.pop)) hS2 rfl;refine wpAny_pure ⟨plainId_quiet Yu _,key _ _ _ (λb o hb e=>?_) hS3⟩;exact(ye _ _ (yY hb)).trans ((ye _ _ (yY hb)).trans e)
theorem zbd{h:Heap}{a:Addr}(e:h.get? a=some {cls:=.type "set",dict:=none,data:=.set #[] 0 (.fresh 0 0 (!byT w))}):SetS prog w h a []:=
 ⟨⟨_,#[],0,_,[],e,⟨rfl,rfl,rfl⟩,rfl,.nil,.refl _,rfl,rfl,λz=>absurd z (by simp)⟩,Yr,by unfold scanBound;simp⟩
set_option maxHeartbeats 4000000 in
theorem zdl{l:Addr}{items:Array Value}{xs:List Str}{Q:Value->Shared->Prop}(hh:A.handled=none)(hl:s.heap.IsList l items)(hn:items.size=xs.length)(hv:∀(i:Nat) (v:Value),items[i]? =some v->∃x t,xs[i]? =some x/\v= .str x t)(hb:items.size+1<scanBound)
 (h:∀(h':Heap) (tk:Nat),SetS prog w h' s.heap.objs.size (xJ xs)->(∀b o,b<s.heap.objs.size->s.heap.get? b=some o->h'.get? b=some o)->Q (.ref s.heap.objs.size) {s with heap:=h',toks:=tk}):
 wpAny (model prog w) A (call (.type "set") [.ref l]) Q E s:=by
 obtain⟨c,tl,mro⟩:=yI.mro;have made:=yI.made;have sub:=yI.sub;refine wpAny_call (codeAny_of_tree ?_);show wpAny _ _ (callAny (.type "set") _) _ _ _;refine wpAny_pure ⟨Code.quiet_builtin _ (by decide+kernel),codeAny_builtin F.entry_type_call ?_⟩;rw [Around.under_plain (weight_type_call_type "set" [.ref l] []) rfl];have f1:=yI.notType;have f2:=yI.canCreate;have f3:=F.typeCall_set_1 (.ref l);wp_delta;with_reducible apply wpAny_ite_false
 focus assumption
 with_reducible apply wpAny_ite_false
 focus assumption
 with_reducible_and_instances refine(wpAny_bind ?_)
 with_reducible_and_instances refine(wpAny_of_eq (by assumption) ?_)
 with_reducible_and_instances refine(wpAny_bind ?_)
 with_reducible_and_instances refine(wpAny_of_eq (by assumption) ?_)
 with_reducible apply wpAny_ite_false
 focus assumption
 with_reducible_and_instances refine(wpAny_bind ?_)
 with_reducible_and_instances refine(wpAny_of_eq (by assumption) ?_)
 with_reducible_and_instances refine(wpAny_bind ?_)
 with_reducible_and_instances refine(wpAny_pure ?_)
 with_reducible_and_instances refine(wpAny_bind ?_)
 with_reducible_and_instances refine(wpAny_holding ?_)
 with_reducible_and_instances refine(wpAny_call ?_)
 refine codeAny_mono (zky (.ref l) (E:=E) (Q1:=λobj s1=>obj= .ref s.heap.objs.size/\s1={s with heap:=s.heap.push {cls:=.type "set",dict:=none,data:=.set #[] 0 (.fresh 0 0 (!byT w))}}) ⟨rfl,rfl⟩) λr s1 hr=>?_
 cases r with
 |error e=>exact hr
 |ok fl=>
  cases fl with
  |next=>exact hr.elim
  |brk=>exact hr.elim
  |cont=>exact hr.elim
  |ret obj=>
   obtain⟨rfl,rfl⟩:=hr;generalize ef:(SetTable.fresh 0 0 (!byT w))=tf;have eS:(s.heap.push {cls:=.type "set",dict:=none,data:=.set #[] 0 tf}).get? s.heap.objs.size=some {cls:=.type "set",dict:=none,data:=.set #[] 0 tf}:=lz _ rfl;have eT:Shared.TypeIs {s with heap:=s.heap.push {cls:=.type "set",dict:=none,data:=.set #[] 0 tf}} (.ref s.heap.objs.size) "set":=⟨_,eS,rfl⟩;have f4:=yI.init.lookup;have f5:=yI.init.bind (.ref s.heap.objs.size);with_reducible_and_instances refine(wpAny_bind ?_)
   with_reducible_and_instances refine(wpAny_isInstance (by assumption) (by assumption) ?_)
   with_reducible apply wpAny_ite_false
   focus assumption
   with_reducible_and_instances refine(wpAny_bind ?_)
   with_reducible_and_instances refine(wpAny_holding ?_)
   wp_delta;with_reducible_and_instances refine(wpAny_bind ?_)
   with_reducible_and_instances refine(wpAny_specialOf (by assumption) (by assumption) ?_)
   with_reducible_and_instances refine(wpAny_holding ?_)
   with_reducible_and_instances refine(wpAny_bind ?_)
   with_reducible_and_instances refine(wpAny_of_eq (by assumption) ?_)
   with_reducible_and_instances refine(wpAny_bind ?_)
   with_reducible_and_instances refine(wpAny_call ?_)
   refine codeAny_mono (codeAny_call_builtin (R:=wants (λr s2=>r= .none/\∃h' tk,s2={s with heap:=h',toks:=tk}/\SetS prog w h' s.heap.objs.size (xJ xs)/\
    (∀b o,b<s.heap.objs.size->s.heap.get? b=some o->h'.get? b=some o)) E) yI.init.plain F.entry_set_init (check_set_init_1 eT ?_)) λr2 s2 hr2=>?_
   ·obtain⟨ol,hol,hcl,nl,hdl⟩:=hl;obtain⟨oc,od,odt,osl⟩:=ol;simp only at hcl hdl;subst hcl;subst hdl;have hol':(s.heap.push {cls:=.type "set",dict:=none,data:=.set #[] 0 tf}).get? l=some {cls:=.type "list",dict:=od,data:=.seq items nl,slots:=osl}:=lj _ hol;have g1:=F.sub_list_set;have g2:=F.sub_list_frozenset;have g3:(Value.type "list"==Value.type "dict")=false:=by decide
    have hl1:(s.heap.push {cls:=.type "set",dict:=none,data:=.set #[] 0 tf}).IsList l items:=⟨_,hol',rfl,nl,rfl⟩;have g4:(tf.fill !=0)=false:=by subst ef;rfl
    have g5:(tf.place.size !=(#[]:Array (Int×Value)).size||decide (tf.fill>tf.mask))=false:=by subst ef;rfl
    unfold Builtin.«set.__init__» noKeywords Builtin.Frozenset.updateFrom;generalize hPI:pyIter=PI;subst ef;with_reducible_and_instances refine(wpAny_bind ?_)
    with_reducible apply wpAny_ite_true
    focus rfl
    with_reducible_and_instances refine(wpAny_pure ?_)
    wp_delta;with_reducible_and_instances refine(wpAny_bind ?_)
    wp_delta;with_reducible_and_instances refine(wpAny_bind ?_)
    wp_delta;with_reducible_and_instances refine(wpAny_bind ?_)
    with_reducible_and_instances refine(wpAny_typeOf (by assumption) ?_)
    with_reducible apply wpAny_ite_false
    focus assumption
    with_reducible_and_instances refine(wpAny_pure ?_)
    wp_delta;wp_delta;with_reducible_and_instances refine(wpAny_pure ?_)
    with_reducible_and_instances refine(wpAny_bind ?_)
    wp_delta;with_reducible apply wpAny_ite_false
    focus assumption
    with_reducible apply wpAny_ite_false
    focus assumption
    with_reducible apply wpAny_ite_false
    focus assumption
    with_reducible_and_instances refine(wpAny_pure ?_)
    with_reducible_and_instances refine(wpAny_bind ?_)
    wp_delta;with_reducible_and_instances refine(wpAny_pure ?_)
    with_reducible_and_instances refine(wpAny_bind ?_)
    wp_delta;with_reducible_and_instances refine(wpAny_bind ?_)
    wp_delta;with_reducible_and_instances refine(wpAny_bind ?_)
    with_reducible apply wpAny_load'
    focus (heap_get;done)
    with_reducible apply wpAny_ite_false
    focus assumption
    with_reducible_and_instances refine(wpAny_pure ?_)
    with_reducible_and_instances refine(wpAny_pure ?_)
    with_reducible apply wpAny_ite_false
    focus assumption
    wp_delta;with_reducible_and_instances refine(wpAny_bind ?_)
    with_reducible_and_instances refine(wpAny_bind ?_)
    wp_delta;wp_delta;with_reducible_and_instances refine(wpAny_bind ?_)
    wp_delta;with_reducible_and_instances refine(wpAny_bind ?_)
    wp_delta;with_reducible_and_instances refine(wpAny_bind ?_)
    with_reducible apply wpAny_loadPart'
    focus (heap_get;done)
    with_reducible_and_instances refine(wpAny_pure ?_)
    with_reducible_and_instances refine(wpAny_of_eq (by assumption) ?_)
    wp_delta;wp_delta;with_reducible_and_instances refine(wpAny_bind ?_)
    wp_delta;with_reducible_and_instances refine(wpAny_bind ?_)
    with_reducible apply wpAny_loadPart'
    focus (heap_get;done)
    with_reducible_and_instances refine(wpAny_pure ?_)
    with_reducible_and_instances refine(wpAny_of_eq (by assumption) ?_)
    with_reducible apply wpAny_ite_false
    focus assumption
    with_reducible_and_instances refine(wpAny_bind ?_)
    wp_delta;with_reducible_and_instances refine(wpAny_bind ?_)
    with_reducible apply wpAny_loadPart'
    focus (heap_get;done)
    with_reducible_and_instances refine(wpAny_pure ?_)
    with_reducible apply wpAny_ite_false
    focus assumption
    with_reducible_and_instances refine(wpAny_bind ?_)
    subst hPI;refine wpAny_pyIter_list hl1 (wpAny_bind (wpAny_runValue ?_));have lS:l<s.heap.objs.size:=lq hol;have h3:A.in1.in1.in1.handled=none:=by simp [hh]
    have nI:l≠(s.heap.push {cls:=.type "set",dict:=none,data:=.set #[] 0 (.fresh 0 0 (!byT w))}).objs.size:=by rw [lT];exact lY (yM lS)
    have nS:s.heap.objs.size∉ [(s.heap.push {cls:=.type "set",dict:=none,data:=.set #[] 0 (.fresh 0 0 (!byT w))}).objs.size,l]:=by rw [lT];simp only [lu,lP,or_false,not_or];exact⟨lY (LB _),Ln lS⟩
    refine zba ((Walks.list h3 _ l nI items).toS) s.heap.objs.size nS xs hn hv hb (items.size-0) 0 _ (by omega) (yx _) ⟨⟨_,lz _ rfl,rfl,rfl⟩,(hl1.push _)⟩ ?_ ?_
    ·exact zbd (lj _ eS)
    ·intro s' mv q;obtain⟨h',g',d',tk',os'⟩:=s';obtain rfl:g'=s.gens:=mv.gens;obtain rfl:d'=s.drawn:=mv.drawn;obtain rfl:os'=s.os:=mv.os;show wpAny _ _ _ _ _ _;refine wpAny_pure ?_;show wpAny _ _ (ret Value.none) _ _ _;refine wpAny_pure ⟨rfl,h',tk',rfl,q,λb o hb e=>mv.heap b o ?_ (lj _ (lj _ e))⟩;simp only [lu,lP,or_false,not_or];rw [lT];exact⟨lY hb,lY (yM hb)⟩
   ·cases r2 with
    |error e=>exact hr2
    |ok fl2=>
     cases fl2 with
     |next=>exact hr2.elim
     |brk=>exact hr2.elim
     |cont=>exact hr2.elim
     |ret r=>
      obtain⟨rfl,h',tk,rfl,q,hk⟩:=hr2;repeat (any_goals (first|assumption|wp_step))
      exact h _ _ q hk
theorem SetS.so{h:Heap}{a:Addr}{ks:List Str}(q:SetS prog w h a ks):∃es ep t ls,SO w h a es ep t/\Paired (λ(e:Int×Value) (k:Str)=>(sK prog w).is k e.2=true/\e.1=(sK prog w).hash k) es.toList ls/\ls.Perm ks:=by obtain⟨⟨o,es,ep,t,ls,h1,h2,h3,h4,h5,h6,h7,h8⟩,_,_⟩:=q;exact⟨es,ep,t,ls,⟨⟨o,h1,h2,h3⟩,h6,h7,.inl h8⟩,h4,h5⟩
theorem zjD{l:List (Int×Value)}{ls:List Str}(p:Paired (λ(e:Int×Value) (k:Str)=>(sK prog w).is k e.2=true/\e.1=(sK prog w).hash k) l ls):StrsAre (l.map (·.2)) ls:=by
 induction p with
 |nil=>exact .nil
 |cons r _ ih=>
  obtain⟨t,e⟩:=LD r.1;rw [lU,e];exact .cons _ t ih
theorem zfc{l m:List Value}(p:l.Perm m):∀{xs:List Str},StrsAre l xs->∃ys,StrsAre m ys/\xs.Perm ys:=by
 induction p with
 |nil=>intro xs h;exact⟨xs,h,.refl _⟩
 |cons x _ ih=>
  intro xs h;cases h with
  |cons y t h=>obtain⟨ys,h1,h2⟩:=ih h;exact⟨y::ys,.cons y t h1,h2.cons _⟩
 |swap x y l=>
  intro xs h;cases h with
  |cons a t h=>cases h with
   |cons b u h=>exact⟨b::a::_,.cons b u (.cons a t h),List.Perm.swap _ _ _⟩
 |trans _ _ ih1 ih2=>
  intro xs h;obtain⟨y1,h1,p1⟩:=ih1 h;obtain⟨y2,h2,p2⟩:=ih2 h1;exact⟨y2,h2,p1.trans p2⟩
theorem zcj{R:List Value->Shared->Prop}{a:Addr}{es:Array (Int×Value)}{ep:Nat}{t:SetTable}(hh:A.handled=none)(q:SO w s.heap a es ep t)(hz:es.size<=4096)
 (h:∀(h':Heap) d (tk:Nat) (acc:Array Value),(∀b o,s.heap.get? b=some o->h'.get? b=some o)->s.heap.objs.size<=h'.objs.size->acc.toList.Perm (es.toList.map (·.2))->R acc.toList {s with heap:=h',drawn:=d,toks:=tk}):
 wpAny (model prog w) A (collect (.ref a)) R E s:=by
 have halt:a<s.heap.objs.size:=let⟨o,e,_⟩:=q.ob;lq e;unfold collect;refine wpAny_bind (wpAny_runValue (codeAny_builtin entry_proto_collect' ?_));rw [yO PySem.F.plain_proto_collect _];show wpAny _ A.in1 (newList []>>=λl=>again (.builtin "list.__iadd__" ⟨[l,.ref a],[]⟩)) _ _ s;refine wpAny_bind (wpAny_newObj_type (wpAny_pure ⟨plainId_quiet YR _,codeAny_builtin entry_list_iadd' ?_⟩));rw [yO YR _];have e1:(s.heap.push {cls:=.type "list",data:=.seq ([]:List Value).toArray}).get? s.heap.objs.size=some {cls:=.type "list",data:=.seq #[]}:=lz _ rfl;show wpAny _ A.in1 (Builtin.List.listExtendWith (.ref s.heap.objs.size) (.ref a) (.ref s.heap.objs.size)) _ _ _;have kp:∀b o,s.heap.get? b=some o->(s.heap.push {cls:=.type "list",data:=.seq ([]:List Value).toArray}).get? b=some o:=λb o e=>lj _ e
 have key:=zjR (prog:=prog) (A:=A) (s:={s with heap:=s.heap.push {cls:=.type "list",data:=.seq ([]:List Value).toArray}}) (R:=λ(r:Result) (s':Shared)=>∃(h':Heap) (d:Drawn) (tk:Nat) (acc':Array Value) (c':Nat),r= .ok (.ret (.ref s.heap.objs.size))/\s'={s with heap:=h',drawn:=d,toks:=tk}/\
  (∀b o,s.heap.get? b=some o->h'.get? b=some o)/\h'.get? s.heap.objs.size=some {cls:=.type "list",dict:=none,data:=.seq acc' c',slots:= #[]}/\acc'.toList.Perm (es.toList.map (·.2)))
  hh (q.at λo e=>kp a o e) hz s.heap.objs.size (Ln halt) (.ref s.heap.objs.size) 0 e1
  (λh' d tk acc' c' hk hS hp=>⟨h',d,tk,acc',c',rfl,rfl,λb o e=>hk b o (lY (lq e)) (kp b o e),hS,hp⟩)
 refine wpAny_mono key (λfin s' x=>?_) λe s' x=>?_
 ·cases fin with
  |done f=>
   obtain⟨h',d,tk,acc',c',ee,rfl,hk,hS,hp⟩:=x;cases ee;show wpAny _ A (load s.heap.objs.size>>=_) _ _ _;exact wpAny_bind (wpAny_load hS (wpAny_pure (h h' d tk acc' hk (Yg (lq hS)) hp)))
  |again c1=>
   refine⟨x.1,codeAny_mono x.2 λr s2 y=>?_⟩;obtain⟨h',d,tk,acc',c',rfl,rfl,hk,hS,hp⟩:=y;show wpAny _ A (load s.heap.objs.size>>=_) _ _ _;exact wpAny_bind (wpAny_load hS (wpAny_pure (h h' d tk acc' hk (Yg (lq hS)) hp)))
 ·obtain⟨_,_,_,_,_,ee,_⟩:=x;cases ee
theorem zd3{a:Addr}{ks:List Str}{Q:Value->Shared->Prop}(hh:A.handled=none)(q:SetS prog w s.heap a ks)(h64:ks.length<64)
 (h:∀(h':Heap) d (tk:Nat) (D:Addr) (out:List Value) (ys:List Str) (c:Nat),(∀b o,s.heap.get? b=some o->h'.get? b=some o)->s.heap.objs.size<=D->h'.get? D=some {cls:=.type "list",data:=.seq out.toArray c}->StrsAre out ys->ys.Perm ks->sortedS ys=true->
   Q (.ref D) {s with heap:=h',drawn:=d,toks:=tk}):wpAny (model prog w) A (call (.builtin "sorted") [.ref a]) Q E s:=by
 obtain⟨es,ep,t,ls,so,pr,pm⟩:=q.so;have hsz:es.size=ks.length:=by rw [<-lR,y3 pr,pm.length_eq]
 refine Calls.call_function_entry kind_sorted plain_sorted entry_sorted (args_sorted1 _) ?_;unfold Builtin.«sorted»;refine wpAny_bind (m:=checkCount "sorted" 1 1 _) (wpAny_pure ?_);refine wpAny_bind (zcj (A:=A.in1) hh so (by omega) λh' d tk acc hk hsz' hp=>?_);obtain⟨ys0,sa,p0⟩:=zfc hp.symm (zjD pr);have hl:acc.toList.length<64:=by rw [hp.length_eq,lB,lR];omega
 refine wpAny_bind (wpAny_newList ?_ (by rw [sizeLine_eq];omega));have hoL:(h'.push (seqObj "list" acc.toList.toArray 0)).get? h'.objs.size=some (seqObj "list" acc.toList.toArray 0):=lz _ rfl
 refine wpAny_bind (wpAny_holding (wpAny_call_entry (s:={s with heap:=h'.push (seqObj "list" acc.toList.toArray 0),drawn:=d,toks:=tk}) slot_list_sort ⟨_,hoL,rfl⟩ entry_list_sort
  (list_sort_treeK (s:={s with heap:=h'.push (seqObj "list" acc.toList.toArray 0),drawn:=d,toks:=tk}) strKind_oneLt hoL sa.keysOf (λv1 v2 rest e=>keyKind_strs (by rw [<-e];exact sa)) hl λst' a1 a2=>⟨_,rfl,?_⟩) (args_list_sort _)))
 obtain⟨ys,b1,b2,b3⟩:=sorted_out_str sa a1 a2;obtain⟨c,hc⟩:=sortedHeap_at (vs:=acc.toList) (out:=(arrOf st').map (·.2)) hoL;refine wpAny_pure ⟨_,rfl,h _ d tk h'.objs.size ((arrOf st').map (·.2)).toList ys c (λb o e=>?_) ?_ (by rw [Array.toArray_toList];exact hc) b1 (b2.trans (p0.symm.trans pm)) b3⟩
 ·have e1:=hk b o e;rw [sortedHeap_old (lY (lq e1)) (by rw [lT];exact yM (lq e1))];exact lj _ e1
 ·exact hsz'
end
end ZS1
namespace Z
open PySem PySem.Spec L2
open PyProof.Rows hiding St
section
variable {X:Cx}
theorem zj7(c:Cok X):Zj X (.type "set") (λxs H Q=>∃l ss,xs= [.ref l]/\SqL X.K H l (ss.map V.str)/\ss.length<64/\∀p,H p=none->Q (.ref p) (upd H p (.ext λh=>ZS1.SetS X.prog X.w h p (ZS1.xJ ss)))):=by
 intro pins s σ H xs us Q I r h;obtain⟨l,ss,rfl,hs,h64,q⟩:=h;obtain⟨its,rv,hl,_⟩:=I.list hs;rw [Vals.ref1 r];have len:=rv.length;rw [lB] at len;have st:=rv.strs;refine ZS1.zdl (xs:=ss) (I.ok.hd c.calm) hl.isList (by rw [lF];exact len.symm) (λi v e=>?_) (by rw [lF];unfold scanBound;omega) λh' tk hS hk=>?_
 ·rw [L8] at e;have z:∀{us:List Value} {xs:List Str},StrsAre us xs->∀(i:Nat) (v:Value),us[i]? =some v->∃x t,xs[i]? =some x/\v= .str x t:=by
   intro us xs q;induction q with
   |nil=>intro i v e;simp at e
   |cons x t _ ih=>
    intro i v e;cases i with
    |zero=>simp at e;subst e;exact⟨x,t,rfl,rfl⟩
    |succ i=>simp only [lJ] at e⊢;exact ih i v e
  exact z st i v e
 ·have kp:∀b o,s.heap.get? b=some o->h'.get? b=some o:=λb o e=>hk b o (lq e) e
  refine⟨.ref s.heap.objs.size,_,I.laid (t':=tk) (o:=.ext λh=>ZS1.SetS X.prog X.w h s.heap.objs.size (ZS1.xJ ss)) kp (lD _) ?_,rfl,q _ (I.hok.fresh (lD _))⟩;have carry:∀h1 h2:Heap,ZS1.SetS X.prog X.w h1 s.heap.objs.size (ZS1.xJ ss)->(∀o,h1.get? s.heap.objs.size=some o->h2.get? s.heap.objs.size=some o)->ZS1.SetS X.prog X.w h2 s.heap.objs.size (ZS1.xJ ss):=λh1 h2 q k=>by obtain⟨⟨o,es,ep,t,ls,ho,rest⟩,nd,few⟩:=q;exact⟨⟨o,es,ep,t,ls,k o ho,rest⟩,nd,few⟩
  exact⟨hS,let⟨⟨o,_,_,_,_,ho,_⟩,_,_⟩:=hS;⟨o,ho⟩,carry⟩
theorem zbN(c:Cok X):Zj X (.builtin "sorted") (λxs H Q=>∃a ks,xs= [.ref a]/\H a=some (.ext λh=>ZS1.SetS X.prog X.w h a ks)/\ks.length<64/\∀ys p,List.Perm ys ks->sortedS ys=true->H p=none->Q (.ref p) (upd H p (.lst (ys.map V.str)))):=by
 intro pins s σ H xs us Q I r h;obtain⟨a,ks,rfl,hs,h64,q⟩:=h;rw [Vals.ref1 r];obtain⟨hS,_,_⟩:=(show kE X.prog X.w H s.heap a (.ext λh=>ZS1.SetS X.prog X.w h a ks) from I.hok a _ hs);refine ZS1.zd3 (I.ok.hd c.calm) hS h64 λh' d tk D out ys cc kp hD e st pm so=>?_
 have hn:=I.hok.fresh hD;have un:Un (frs X.stack) [] H (upd H D (.lst (ys.map V.str))) s.heap h':=Un.laid kp hD hn;have new:kE X.prog X.w (upd H D (.lst (ys.map V.str))) h' D (.lst (ys.map V.str)):=⟨by rw [lB,pm.length_eq];exact zft h64,out,cc,QL st,e⟩;exact⟨.ref D,_,I.call (t':=tk) (d':=d) (g':=s.gens) (ch:=[]) un (I.hok.laid kp hD new) I.bare (λb z=>absurd z (by simp)),rfl,q ys D pm so hn⟩
def Kd:List W->Sto->Res W
 | [w],S=>(match (zF S w).bind strsOf with|some bs=>if bs.length<64 then .ok (.d (.lst ((QF (ZS1.xJ bs)).map D.str))) S else .bad|none=>.bad)
 |_,_=>.bad
def V5(a:M):M:=λt S=>(a t S).bind λw S1=>Kd [w] S1
theorem zbb:bootBuiltins "sorted"=some (.builtin "sorted"):=by decide+kernel
theorem zeT:bootBuiltins "set"=some (.type "set"):=by decide+kernel
theorem zd5{e:Expr}{me:M}{p p2 q pos:Pos}(c:Cok X)(hg1:Gl X "sorted")(hm1:X.mg "sorted"=none)(hg2:Gl X "set")(hm2:X.mg "set"=none)(he:ME X e me)
 (s1:starEach [e] X.env=(false,eval e X.env)::starEach [] X.env:=by rfl) (s2:starEach [.Call (.Name "set" p2) [e] [] q] X.env=(false,eval (.Call (.Name "set" p2) [e] [] q) X.env)::starEach [] X.env:=by rfl)
 (l1:(backTo q (starEach [] X.env)).any (·.1)=false:=by rfl) (l2:(backTo pos (starEach [] X.env)).any (·.1)=false:=by rfl):ME X (.Call (.Name "sorted" p) [.Call (.Name "set" p2) [e] [] q] [] pos) (V5 me):=by
 refine⟨λZ io S H t σ Q hr sr po=>PEw (XH KZ hg1 hm1 zbb (j3 (zbV KZ hg2 hm2 zeT (j3 kN Qj s1) (by decide) (by decide) s1 l1) Qj s2) (by decide) (by decide) s2 l2) ?_⟩;refine he.run Z io S H t σ _ hr sr (qH.bind po λio1 S1 H1 w v x1 hr1 rw1 p1=>?_);unfold Kd at p1;dsimp only at p1;split at p1
 ·rename_i bs e2;split at p1
  ·rename_i h64;cases q0:zF S1 w with
   |none=>rw [q0] at e2;cases e2
   |some xs=>
    rw [q0] at e2;obtain⟨pa,vs,rfl,h1,q⟩:=XN hr1 rw1 q0;rw [J0 q e2] at h1;have few:(ZS1.xJ bs).length<64:=by have:=ZS1.XR bs [];unfold ZS1.xJ;simp at this;omega
    refine CAw (zj7 c) ⟨pa,bs,rfl,h1,h64,λpp hp=>?_⟩;refine CAw (zbN c) ⟨pp,ZS1.xJ bs,rfl,xT,few,λys l hpm hso hl=>?_⟩;rw [zbt hpm hso];have hr2:=hr1.new (o:=.ext λh=>ZS1.SetS X.prog X.w h pp (ZS1.xJ bs)) hp;exact qH.from p1 (Ext.new hp) io1 _ _ (Ext.new hl) (hr2.new hl) (Z9 hr2 (Kp _) hl)
  ·exact p1.elim
 ·exact p1.elim
theorem zhk{pins:List (Addr×Obj)}{s:Shared}{σ:St}{H:Hp}{l b sl:Addr}{xs ys:List V}{a c:Int}{vl vu:Value}{Q:Unit->Shared->Prop}(I:Inv X pins σ H s)
 (hH:H l=some (.lst xs)) (hB:H b=some (.lst ys)) (hne:l≠b) (hs:s.heap.IsSliceOf sl vl vu .none) (pl:IsPart vl (some a)) (pu:IsPart vu (some c)) (h0:0<=a) (hac:a<=c) (ha:a<=xs.length)
 (hz:xs.length+ys.length<=sizeLine) (h:∀s',Inv X pins σ (upd H l (.lst (xs.take a.toNat++ys++xs.drop (min c.toNat xs.length)))) s'->Q () s'):
 wpAny (model X.prog X.w) X.A (setItem (.ref l) (.ref sl) (.ref b)) Q X.xe s:=by
 obtain⟨z,its,n,r,hl,e⟩:=I.lstM hH;obtain⟨z2,its2,n2,r2,hl2,e2⟩:=I.lstM hB;obtain⟨a',rfl⟩:=YS h0;obtain⟨c',rfl⟩:=YS (YY h0 hac);simp only [yL] at h;have hlen:its.length=xs.length:=r.length.symm;have hlen2:its2.length=ys.length:=r2.length.symm;refine zbx (a:=a') (c:=c') e e2 hne hs pl pu (by rw [lF];omega) (by omega) (by rw [lF,lF];omega) (h _ ?_);refine I.lset (its':=its.take a'++its2++its.drop (min c' its.toArray.size)) (t':=s.toks) hH e ?_ ?_ ?_
 ·exact zga its its2 a' (min c' its.toArray.size)
 ·rw [lF,hlen];exact Vals.append (Vals.append (r.take _) r2) (r.drop _)
 ·rw [lH,lH,lK,ym];omega
theorem zkK{o:Expr}{lo hi:Option Expr}{p2 pos:Pos}{to:TE}{tl th:TO}(ho:PE X o to)(hl:PO X lo tl)(hu:PO X hi th)
 (ha:∀v,assign (.Subscript o (.Slice lo hi none p2) pos) X.env v=(do
   let ov<-holding [v] (eval o X.env)
   let iv<-holding [v,ov] (eval (.Slice lo hi none p2) X.env)
   standAt pos
   holding [v,ov,iv] (setItem ov iv v)
   release [iv,v,ov] []):=by intro _;rfl):
 PG X (.Subscript o (.Slice lo hi none p2) pos) (λv σ H Q=>to σ H λx H1=>tl σ H1 λoa H2=>th σ H2 λoc H3=>∃l b xs ys a c,x= .ref l/\v= .ref b/\oa=some a/\oc=some c/\H3 l=some (.lst xs)/\H3 b=some (.lst ys)/\l≠b/\
  0<=a/\a<=c/\a<=(xs.length:Int)/\xs.length+ys.length<=sizeLine/\Q σ (upd H3 l (.lst (xs.take a.toNat++ys++xs.drop (min c.toNat xs.length))))):=by
 intro pins s σ H v u Q I r h;rw [ha];refine wpAny_bind (wpAny_holding (thn (ho pins s σ H _ I h) λov s1 ⟨x,H1,I1,r1,q1⟩=>?_));refine wpAny_bind (wpAny_holding ?_);refine wpAny_Slice (thn (hl pins s1 σ H1 _ I1 q1) λvl s2 ⟨l,H2,I2,pl,q2⟩=>thn (hu pins s2 σ H2 _ I2 q2) λvu s3 ⟨uu,H3,I3,pu,q3⟩=>?_);rw [evalPart_none];refine wpAny_pure ?_;have I4:Inv X pins σ H3 {s3 with heap:=s3.heap.push {cls:=.type "slice",data:=.fields #[vl,vu,.none]}}:=I3.kept (t':=s3.toks) λb ob q=>lj _ q
 obtain⟨la,lb,xs,ys,a,c,rfl,rfl,rfl,rfl,e1,e2,hne,h0,hac,hax,hz,q⟩:=q3;cases r;cases r1;refine wpAny_bind (wpAny_standAt (wpAny_bind (wpAny_holding (zhk I4 e1 e2 hne (LL ..) pl pu h0 hac hax hz λs5 I5=>?_))));exact wpAny_release ⟨σ,_,I5,q⟩
def zae(a o:M)(lo hi:MO):MSt:=λt S=>(a t S).then t λw S1=>(o t S1).then t λow S2=>(lo t S2).then t λl S3=>(hi t S3).then t λu S4=>match w,ow,l,u with
 | .d (.lst ys),.ref n,some i,some j=>(match S4[n]? with
   |some (.lst xs)=>if 0<=i/\i<=j/\i<=(xs.length:Int)/\xs.length+ys.length<=sizeLine then .nx t (S4.set n (.lst (xs.take i.toNat++ys++xs.drop (min j.toNat xs.length)))) else .bad
   |_=>.bad)
 |_,_,_,_=>.bad
theorem zfC{o e:Expr}{lo hi:Option Expr}{mo me:M}{ml mh:MO}{p2 pos pos':Pos}(he:ME X e me)(ho:ME X o mo)(hl:MPo X lo ml)(hh:MPo X hi mh)
 (ha:∀v,assign (.Subscript o (.Slice lo hi none p2) pos') X.env v=(do
   let ov<-holding [v] (eval o X.env)
   let iv<-holding [v,ov] (eval (.Slice lo hi none p2) X.env)
   standAt pos'
   holding [v,ov,iv] (setItem ov iv v)
   release [iv,v,ov] []):=by intro _;rfl)
 (hs:swapsWithSole [.Subscript o (.Slice lo hi none p2) pos'] e pos.line X.env=pure false:=by rfl) (hw:swappedStores [.Subscript o (.Slice lo hi none p2) pos'] e X.env=pure none:=by rfl)
 (h1:(assignEach [.Subscript o (.Slice lo hi none p2) pos'] X.env).map (·.2)= [assign (.Subscript o (.Slice lo hi none p2) pos') X.env]:=by rfl):MS X (.Assign [.Subscript o (.Slice lo hi none p2) pos'] e pos) (zae me mo ml mh):=by
 refine⟨λZ io S H t σ D hr sr p=>PSw (zeK kN (zkK kN zkE zkE ha) hs hw h1) ?_⟩;refine he.run Z io S H t σ _ hr sr (ke.then p sr hr λio1 S1 H1 w v x1 hr1 rw1 sr1 p1=>?_);refine ho.run Z io1 S1 H1 t σ _ hr1 sr1 (ke.then p1 sr1 hr1 λio2 S2 H2 w2 v2 x2 hr2 rw2 sr2 p2=>?_);refine hl.run Z io2 S2 H2 t σ _ hr2 sr2 (ke.then p2 sr2 hr2 λio3 S3 H3 w3 v3 x3 hr3 rw3 sr3 p3=>?_);refine hh.run Z io3 S3 H3 t σ _ hr3 sr3 (ke.then p3 sr3 hr3 λio4 S4 H4 w4 v4 x4 hr4 rw4 sr4 p4=>?_);have rx1:=((rw1.ext hr1 x2).ext hr2 x3).ext hr3 x4;have rx2:=(rw2.ext hr2 x3).ext hr3 x4;clear rw1 rw2;cases rw3;cases rw4;split at p4
 ·rename_i ys n i j;split at p4
  ·rename_i xs e;split at p4
   ·rename_i hz;obtain⟨vs,h1,q⟩:=hr4.cell n xs e;cases rx2 with
    |ref hn=>
     cases rx1 with
     |d r1=>
      cases r1 with
      |lst hb nb qb=>
       have le1:=q.length;have le2:=qb.length;refine⟨_,_,vs,_,i,j,rfl,rfl,rfl,rfl,h1,hb,λz=>nb.1 n (jF e) z,hz.1,hz.2.1,by rw [<-le1];exact hz.2.2.1,by rw [<-le1,<-le2];exact hz.2.2.2,?_⟩;rw [<-le1];exact VJ p4 hr4 sr4 e (((q.take _).append qb).append (q.drop _))
   ·exact p4.elim
  ·exact p4.elim
 ·exact p4.elim
end
structure HasFn (P:Program) (w:World) (K:PySem.W.Frag) (mg:Str->Option Value) (base:Heap) (k:Nat) (x:Str) (ps:List Str) (g:List W->Sto->Res W):Prop where
 ex:∃f fd,mg x=some (.ref f)/\PySem.W.keepIn K (.ref f)=true/\Binds K fd ps []/\FnOk P w K mg base CX0 k f fd ps (zcW K ps.length g)
structure AL (m:MAs) (n:Nat):Prop where
 len:∀t S ws S1,m t S= .ok ws S1->ws.length=n
theorem zx:AL zo 0:=⟨λt S ws S1 e=>by cases e;rfl⟩
theorem zk{a:M}{m:MAs}{n:Nat}(h:AL m n):AL (za a m) (n+1):=by
 refine⟨λt S ws S1 e=>?_⟩;unfold za at e;cases q:a t S with
 |bad=>rw [q] at e;cases e
 |exc _ _=>rw [q] at e;cases e
 |ok x S2=>
  rw [q] at e;dsimp only [zB] at e;cases q2:m t S2 with
  |bad=>rw [q2] at e;cases e
  |exc _ _=>rw [q2] at e;cases e
  |ok xs S3=>
   rw [q2] at e;cases e;rw [lO,h.len _ _ _ _ q2]
section
variable {X:Cx} {k n:Nat} {ps:List Str} {x:Str} {p pos:Pos} {e:Expr} {es:List Expr} {mas:MAs} {g:List W->Sto->Res W}
theorem zm0(F:HasFn X.prog X.w X.K X.mg X.base k x ps g)(hr:Room k X.A)(hg:Gl X x)(ha:MA X (e::es) mas)(hal:AL mas n)(hn:n=ps.length:=by rfl)(hdb:(x==("__debug__":Str))=false:=by decide)
 (he:starEach (e::es) X.env=(false,eval e X.env)::starEach es X.env:=by rfl) (hpl:(backTo pos (starEach es X.env)).any (·.1)=false:=by rfl):ME X (.Call (.Name x p) (e::es) [] pos) (zh (noX g) mas):=by
 obtain⟨f,fd,h1,h2,h3,h4⟩:=F.ex;have h:=zkd h4 hr hg h1 h2 h3 .nil ha (λt S ws S1 q=>by rw [yn,hal.len t S ws S1 q];exact hn) hdb he hpl (p:=p);have e:JE (noX g) [] mas=zh (noX g) mas:=by
  funext t S
  unfold JE zh;cases mas t S with
  |ok a b=>show noX g (a++ []) b=noX g a b;rw [yn]
  |exc _ _=>rfl
  |bad=>rfl
 rw [e] at h;exact h
theorem mv(i:Nat)(hN:X.N[i]? =some x:=by rfl)(hv:Vis X.env.scope x:=by first|exact Or.inl rfl|exact Or.inr (Or.inl rfl)|exact Or.inr (Or.inr rfl))(hd:(x==("__debug__":Str))=false:=by decide)(hcd:(x==("__classdict__":Str))=false:=by decide):ME X (.Name x p) (zf i):=zlt hN hv hd hcd
end
section
variable {P:Program} {w:World} {K:PySem.W.Frag} {mg:Str->Option Value} {base:Heap}
theorem jm{x:Str}{st:Stmt}{f:Addr}{fd:FuncData}{N ps:List Str}{k:Nat}{m:MSt}(hm:mg x=some (.ref f))(F:Fun K x x st f fd)(B:Binds K fd ps [])(Sc:FnScope N ps (zp st))
 (hb:∀(cdv:Value) (A:Around) (outer:List Env) (s:Shared) (H:Hp) (E:XK),Room k (A.deeper (envOfC x (zp st) s.heap.objs.size f cdv))->Cok (cxF P w K mg base N x st f cdv A outer s H E)->MSs (cxF P w K mg base N x st f cdv A outer s H E) (zP st) m):
 HasFn P w K mg base (k+1) x ps (fnD N.length m):=⟨f,fd,hm,F.kp,B,zlW F Sc hb⟩
theorem zfg{x:Str}{st:Stmt}{f:Addr}{fd:FuncData}{ps:List Str}(hm:mg x=some (.ref f))(F:Fun K x x st f fd)(B:Binds K fd ps [])(k:Nat):
 HasFn P w K mg base k x ps (λ_ _=>.bad):=by
 refine⟨f,fd,hm,F.kp,B,⟨λvs H Q E h=>h.1,λA outer s H args us vs Q E _ _ _ _ h=>?_⟩⟩;obtain⟨_,Z,io,S,ws,_,_,h⟩:=h;exact h.elim
end
theorem Cok.blk{X:Cx}(c:Cok X)(s:Shared)(H:Hp)(scope:Scope)(cenv:Env)(fp:List Addr):Cok (X.blk s H scope cenv fp):=⟨c.calm,c.un,c.nd,Lx⟩
theorem zc2{K:PySem.W.Frag}{H:Hp}{na:Addr->Prop}:∀ns:List Int,DRels K H na (ns.map D.int) (ns.map V.int)
 | []=>.nil
 |n::r=>.cons (.int n) (zc2 r)
theorem zlx{K:PySem.W.Frag}{g:List W->Sto->Res W}(h:∀ns:List Int,ns.length<=63->∃S,g [.fz (ns.map D.int)] []= .ok (.d (.bl true)) S){H:Hp}{a:Addr}{ns:List Int}(hl:ns.length<=63)(hO:zmF H)(hS:SqL K H a (ns.map V.int)):
 zcW K 1 g [.ref a] H (λv _=>v= .bl true) λ_ _ _=>False:=by
 have f:FzL K H a (ns.map V.int):=by
  rcases hS with(hS|hS)|hS
  ·rcases hO a with z|⟨o,xs,z⟩
   ·rw [z] at hS;cases hS
   ·rw [z] at hS;cases hS
  ·exact .inl hS
  ·exact .inr hS
 refine⟨rfl,λ_=>False,λ_=>0,[],[.fz (ns.map D.int)],⟨λn xs e=>by simp at e,λn m ln=>by obtain⟨xs,e,_⟩:=ln;simp at e,λa z=>z.elim,λa z=>z.elim⟩,.cons (.fz f (zc2 ns)) .nil,?_⟩;obtain⟨S,e⟩:=h ns hl;rw [e];intro io' H' v _ _ r;cases r with
 |d r=>cases r;rfl
def xV(a:M):M:=λt S=>(a t S).bind λx S1=>match x with| .d (.int i)=>.ok (.d (.int (-i))) S1|_=>.bad
section
variable {X:Cx}
theorem zfS{a:Expr}{ma:M}{pos:Pos}(ha:ME X a ma):ME X (.UnaryOp .USub a pos) (xV ma):=zmg ha
theorem Zk{x:Str}{i:Int}{pos:Pos}(hg:Gl X x)(hm:∃t,X.mg x=some (.int i t))(hd:(x==("__debug__":Str))=false:=by decide):ME X (.Name x pos) (zi (.int i)):=by obtain⟨t,h⟩:=hm;exact zgp hg h (.int i t) hd
theorem zhp{x:Str}{i:Str}{pos:Pos}(hg:Gl X x)(hm:∃t,X.mg x=some (.str i t))(hd:(x==("__debug__":Str))=false:=by decide):ME X (.Name x pos) (zi (.str i)):=by obtain⟨t,h⟩:=hm;exact zgp hg h (.str i t) hd
end
theorem VG:bootBuiltins "int"=some (.type (tyS .int)):=by decide+kernel
theorem zgi:bootBuiltins "bool"=some (.type (tyS .bool)):=by decide+kernel
theorem X3:bootBuiltins "str"=some (.type (tyS .str)):=by decide+kernel
theorem xB:bootBuiltins "tuple"=some (.type (tyS .tuple)):=by decide+kernel
theorem zgA:bootBuiltins "list"=some (.type (tyS .list)):=by decide+kernel
theorem jU:bootBuiltins "len"=some (.builtin "len"):=by decide+kernel
theorem zle:bootBuiltins "max"=some (.builtin "max"):=by decide+kernel
theorem zmt:bootBuiltins "min"=some (.builtin "min"):=by decide+kernel
theorem zby:bootBuiltins "all"=some (.builtin "all"):=by decide+kernel
theorem zfn:bootBuiltins "sorted"=some (.builtin "sorted"):=by decide+kernel
end Z
namespace K01
open PySem PySem.Spec L2 Z
open PyProof.Rows hiding St
abbrev VA:List Str:=["thing"]
def QR:MSt:=(zg (zU (xw (qM .int (zf 0)) (xX (qM .bool (zf 0))))) zr)
def ZR:List W->Sto->Res W:=fnD 1 QR
theorem KY:ZR=fnD 1 QR:=rfl
abbrev ZJ:List Str:=["thing","least","most"]
def kf:MSt:=(zg (zU (xw (zh (noX ZR) (za (zf 0) zo)) (zt .LtE .LtE (zf 1) (zf 0) (zf 2)))) zr)
def qj:List W->Sto->Res W:=fnD 3 kf
theorem Zl:qj=fnD 3 kf:=rfl
abbrev KH:List Str:=["thing","sign"]
def Zd:MSt:=(zg (sIf (qI (zy (dT (qM .str (zf 0)))) (zy (dT (zt .LtE .LtE (zi (.int 1)) (zh qg (za (zf 0) zo)) (zi (.int 8)))))) (zg (zU (zi (.bl false))) zr) zr) (zg (zU (zh zaJ (za (dLc [1] (ql (zf 0)) (gN 1) vG (zt .LtE .LtE (zi (.str "a")) (zf 1) (zi (.str "z")))) zo))) zr))
def vK:List W->Sto->Res W:=fnD 2 Zd
theorem Vy:vK=fnD 2 Zd:=rfl
abbrev XT:List Str:=["thing","least","most"]
def vW:MSt:=(zg (zU (xw (qM .tuple (zf 0)) (zt .LtE .LtE (zf 1) (zh qg (za (zf 0) zo)) (zf 2)))) zr)
def zS:List W->Sto->Res W:=fnD 3 vW
theorem Xa:zS=fnD 3 vW:=rfl
abbrev Xq:List Str:=["names","name","later"]
def ZY:MSt:=(zg (zU (zh zaJ (za (dLc [1,2] (zjK (zf 0) (Ve (zf 0) (qG (zi (.int 1))) xK)) (gTp 2 (zX (gN 1) (zX (gN 2) vD))) vG (zK .Lt (zf 1) (zf 2))) zo))) zr)
def kI:List W->Sto->Res W:=fnD 3 ZY
theorem Jw:kI=fnD 3 ZY:=rfl
abbrev Xv:List Str:=["thing","rank","pence","days"]
def jd:MSt:=(zg (sIf (zy (dT (zh (noX zS) (za (zf 0) (za (zi (.int 3)) (za (zi (.int 3)) zo)))))) (zg (zU (zi (.bl false))) zr) zr) (zg (zN (zf 0) (gTp 3 (zX (gN 1) (zX (gN 2) (zX (gN 3) vD))))) (zg (zU (xw (zh (noX vK) (za (zf 1) zo)) (xw (zh (noX qj) (za (zf 2) (za (zi (.int 0)) (za (zi (.int 1000000000)) zo)))) (zh (noX qj) (za (zf 3) (za (zi (.int 1)) (za (zi (.int 1000)) zo))))))) zr)))
def ki:List W->Sto->Res W:=fnD 4 jd
theorem Q3:ki=fnD 4 jd:=rfl
abbrev Q5:List Str:=["thing","chest","part"]
def jj:MSt:=(zg (sIf (zy (dT (zh (noX zS) (za (zf 0) (za (zi (.int 2)) (za (zi (.int 2)) zo)))))) (zg (zU (zi (.bl false))) zr) zr) (zg (zN (zf 0) (gTp 2 (zX (gN 1) (zX (gN 2) vD)))) (zg (zU (xw (zh (noX vK) (za (zf 1) zo)) (zh (noX qj) (za (zf 2) (za (zi (.int 1)) (za (zi (.int 1000)) zo)))))) zr)))
def jS:List W->Sto->Res W:=fnD 3 jj
theorem QD:jS=fnD 3 jj:=rfl
abbrev Z6:List Str:=["thing","row"]
def jZ:MSt:=(zg (sIf (qI (zy (dT (zh (noX zS) (za (zf 0) (za (zi (.int 1)) (za (zi (.int 12)) zo)))))) (zy (dT (zh zaJ (za (dLc [1] (ql (zf 0)) (gN 1) vG (zh (noX ki) (za (zf 1) zo))) zo))))) (zg (zU (zi (.bl false))) zr) zr) (zg (zU (zh (noX kI) (za (dLc [1] (ql (zf 0)) (gN 1) vG (zH (zf 1) (zi (.int 0)))) zo))) zr))
def v9:List W->Sto->Res W:=fnD 2 jZ
theorem JK:v9=fnD 2 jZ:=rfl
abbrev Zo:List Str:=["thing","row"]
def jy:MSt:=(zg (sIf (qI (zy (dT (zh (noX zS) (za (zf 0) (za (zi (.int 1)) (za (zi (.int 6)) zo)))))) (zy (dT (zh zaJ (za (dLc [1] (ql (zf 0)) (gN 1) vG (zh (noX jS) (za (zf 1) zo))) zo))))) (zg (zU (zi (.bl false))) zr) zr) (zg (zU (zh (noX kI) (za (dLc [1] (ql (zf 0)) (gN 1) vG (zH (zf 1) (zi (.int 0)))) zo))) zr))
def vJ:List W->Sto->Res W:=fnD 2 jy
theorem XZ:vJ=fnD 2 jy:=rfl
abbrev X8:List Str:=["thing","ranks","chests","month"]
def ja:MSt:=(zg (sIf (zy (dT (zh (noX zS) (za (zf 0) (za (zi (.int 3)) (za (zi (.int 3)) zo)))))) (zg (zU (zi (.bl false))) zr) zr) (zg (zN (zf 0) (gTp 3 (zX (gN 1) (zX (gN 2) (zX (gN 3) vD))))) (zg (zU (xw (zh (noX v9) (za (zf 1) zo)) (xw (zh (noX vJ) (za (zf 2) zo)) (zh (noX qj) (za (zf 3) (za (zi (.int 1)) (za (zi (.int 1000)) zo))))))) zr)))
def qy:List W->Sto->Res W:=fnD 4 ja
theorem Q9:qy=fnD 4 ja:=rfl
abbrev VD:List Str:=["draws","many","found","wide"]
def kr:MSt:=(zg (sIf (dT (zK .Gt (zH (zf 0) (zi (.int 0))) (zi (.int 0)))) (zg (zN (zz .Mod (zH (zf 0) (zi (.int 0))) (zf 1)) (gN 2)) (zg (jb (zz .FloorDiv (zH (zf 0) (zi (.int 0))) (zf 1)) (zf 0) (zi (.int 0))) (zg (zU (zf 2)) zr))) zr) (zg (zN (zi (.int 0)) (gN 2)) (zg (zN (zi (.int 1)) (gN 3)) (zg (Q2 (dT (zK .Lt (zf 3) (zf 1))) (zg (jb (zz .Mod (zz .Mult (zH (zf 0) (zi (.int 1))) (zi (.int 69621))) (zi (.int 2147483647))) (zf 0) (zi (.int 1))) (zg (zN (zz .Add (zz .Mult (zf 2) (zi (.int 268435456))) (zz .FloorDiv (zz .Mod (zz .Mult (zH (zf 0) (zi (.int 1))) (zz .Add (zz .FloorDiv (zH (zf 0) (zi (.int 1))) (zi (.int 128))) (zi (.int 3)))) (zi (.int 2147483629))) (zi (.int 8)))) (gN 2)) (zg (zN (zz .Mult (zf 3) (zi (.int 268435456))) (gN 3)) zr))) 5) (zg (zU (zz .Mod (zf 2) (zf 1))) zr)))))
def zq:List W->Sto->Res W:=fnD 4 kr
theorem K2:zq=fnD 4 kr:=rfl
abbrev Z1:List Str:=["draws","many","letters","stem","first","step","k"]
def vA:MSt:=(zg (zN (zi (.str "abcdefghijklmnopqrstuvwxyz")) (gN 2)) (zg (zN (Zh (zi (.str "")) (dLc [6] (kG (zH (qh (za (zi (.int 0)) (za (zi (.int 1)) (za (zi (.int 2)) (za (zi (.int 7)) zo))))) (zh (noX zq) (za (zf 0) (za (zi (.int 4)) zo))))) (gN 6) vG (zH (zf 2) (zh (noX zq) (za (zf 0) (za (zi (.int 26)) zo)))))) (gN 3)) (zg (zN (zh (noX zq) (za (zf 0) (za (zi (.int 26)) zo))) (gN 4)) (zg (zN (zH (qh (za (zi (.int 1)) (za (zi (.int 3)) (za (zi (.int 5)) (za (zi (.int 7)) zo))))) (zh (noX zq) (za (zf 0) (za (zi (.int 4)) zo)))) (gN 5)) (zg (zU (zh K5 (za (dLc [6] (kG (zf 1)) (gN 6) vG (zz .Add (zf 3) (zH (zf 2) (zz .Mod (zz .Add (zf 4) (zz .Mult (zf 5) (zf 6))) (zi (.int 26)))))) zo))) zr)))))
def jf:List W->Sto->Res W:=fnD 7 vA
theorem JG:jf=fnD 7 vA:=rfl
abbrev Kr:List Str:=["script","k","cell"]
def jg:MSt:=(zg (zN (zz .Mult (zi (.int 15485863)) (zf 1)) (gN 2)) (zg (sIf (dT (zK .Lt (zf 1) (zh qg (za (zf 0) zo)))) (zg (zN (zz .Mod (zH (zf 0) (zf 1)) (zz .Mult (zz .Pow (zi (.int 10)) (zi (.int 60))) (zz .Pow (zi (.int 10)) (zi (.int 60))))) (gN 2)) zr) (zg (sIf (dT (zK .Gt (zh qg (za (zf 0) zo)) (zi (.int 0)))) (zg (zN (zz .Add (zz .Mod (zH (zf 0) (zz .Mod (zf 1) (zh qg (za (zf 0) zo)))) (zz .Pow (zi (.int 10)) (zi (.int 15)))) (zz .Mult (zi (.int 15485863)) (zf 1))) (gN 2)) zr) zr) zr)) (zg (zU (zT (za (zz .Mult (zf 2) (zh zjJ (za (zK .GtE (zf 2) (zz .Pow (zi (.int 10)) (zi (.int 18)))) zo))) (za (zz .Add (zi (.int 1)) (zz .Mod (zz .Add (zz .Mult (zf 2) (zi (.int 69621))) (zz .Mult (zi (.int 86028121)) (zz .Add (zf 1) (zi (.int 1))))) (zi (.int 2147483646)))) zo)))) zr)))
def kL:List W->Sto->Res W:=fnD 3 jg
theorem JA:kL=fnD 3 jg:=rfl
abbrev Zu:List Str:=["draws","great","ranks","name","chests","month","pence"]
def qx:MSt:=(zg (zN (zT zo) (gN 2)) (zg (xl (ql (zh (noX jf) (za (zf 0) (za (zz .Add (zi (.int 1)) (zh (noX zq) (za (zf 0) (za (zi (.int 4)) zo)))) zo)))) (gN 3) (zg (zN (zH (qh (za (zh (noX zq) (za (zf 0) (za (zi (.int 9)) zo))) (za (zz .Add (zi (.int 1)) (zh (noX zq) (za (zf 0) (za (zi (.int 40)) zo)))) (za (zi (.int 480)) (za (zh (noX zq) (za (zf 0) (za (zz .Add (zf 1) (zi (.int 1))) zo))) zo))))) (zh (noX zq) (za (zf 0) (za (zi (.int 4)) zo)))) (gN 6)) (zg (zO (vF (zf 2) (qz (za (zf 3) (za (zf 6) (za (zH (qh (za (zi (.int 1)) (za (zi (.int 28)) (za (zz .Add (zi (.int 1)) (zh (noX zq) (za (zf 0) (za (zi (.int 30)) zo)))) (za (zz .Add (zi (.int 1)) (zh (noX zq) (za (zf 0) (za (zi (.int 9)) zo)))) zo))))) (zh (noX zq) (za (zf 0) (za (zi (.int 4)) zo)))) zo)))))) zr))) (zg (zN (dLc [3] (ql (zh (noX jf) (za (zf 0) (za (zz .Add (zi (.int 1)) (zh (noX zq) (za (zf 0) (za (zi (.int 3)) zo)))) zo)))) (gN 3) vG (qz (za (zf 3) (za (zz .Add (zi (.int 1)) (zh (noX zq) (za (zf 0) (za (zi (.int 9)) zo)))) zo)))) (gN 4)) (zg (zN (zH (qh (za (zi (.int 1)) (za (zi (.int 7)) (za (zz .Add (zi (.int 1)) (zh (noX zq) (za (zf 0) (za (zi (.int 12)) zo)))) (za (zi (.int 28)) zo))))) (zh (noX zq) (za (zf 0) (za (zi (.int 4)) zo)))) (gN 5)) (zg (zU (qz (za (zh xI (za (zf 2) zo)) (za (zh xI (za (zf 4) zo)) (za (zf 5) zo))))) zr)))))
def qZ:List W->Sto->Res W:=fnD 7 qx
theorem QE:qZ=fnD 7 qx:=rfl
abbrev Xr:List Str:=["draws","deep","way","parts","some","k"]
def jk(g:List W->Sto->Res W):MSt:=(zg (zN (zh (noX zq) (za (zf 0) (za (zi (.int 9)) zo))) (gN 2)) (zg (sIf (qI (dT (zK .Lt (zf 2) (zi (.int 6)))) (dT (zK .Eq (zf 1) (zi (.int 0))))) (zg (zN (qh (za (zi (.int 0)) (za (zi (.int 1)) (za (xV (zi (.int 1))) (za (zi (.bl true)) (za (zi (.bl false)) (za (zi .non) (za (zi (.str "")) (za (zi (.str "a")) (za (zi (.str "ab")) (za (zi (.str "A")) (za (zi (.str "abcdefghi")) (za (zi (.str "lost")) (za (zi (.str "joins")) (za (zz .Pow (zi (.int 10)) (zi (.int 12))) (za (zz .Add (zz .Pow (zi (.int 10)) (zi (.int 12))) (zi (.int 1))) zo)))))))))))))))) (gN 4)) (zg (zU (zH (zz .Add (zf 4) (qh (za (zi (.int 1000)) (za (zi (.int 1001)) (za (zz .Add (zz .Pow (zi (.int 10)) (zi (.int 9))) (zi (.int 1))) (za (qz zo) (za (qh zo) zo))))))) (zh (noX zq) (za (zf 0) (za (zi (.int 20)) zo))))) zr)) zr) (zg (zN (dLc [5] (kG (zh (noX zq) (za (zf 0) (za (zi (.int 7)) zo)))) (gN 5) vG (zh (noX g) (za (zf 0) (za (zz .Sub (zf 1) (zi (.int 1))) zo)))) (gN 3)) (zg (zU (zH (qh (za (zf 3) (za (zh xI (za (zf 3) zo)) (za (zh xI (za (zf 3) zo)) zo)))) (zz .Sub (zf 2) (zi (.int 6))))) zr))))
def kM:Nat->List W->Sto->Res W
 |0=>λ_ _=>.bad
 |n+1=>fnD 6 (jk (kM n))
theorem Jy(n:Nat):kM (n+1)=fnD 6 (jk (kM n)):=rfl
def vm:List W->Sto->Res W:=kM 4
abbrev Qp:List Str:=["draws","thing","deep","parts","at","way","near"]
def kY(g:List W->Sto->Res W):MSt:=(zg (zN (zh zdp (za (zf 1) zo)) (gN 3)) (zg (sIf (dT (zK .Eq (zf 3) (qh zo))) (zg (zU (qz (za (zh (noX vm) (za (zf 0) (za (zi (.int 1)) zo))) zo))) zr) zr) (zg (zN (zh (noX zq) (za (zf 0) (za (zh qg (za (zf 3) zo)) zo))) (gN 4)) (zg (sIf (zL (dT (qM .tuple (zH (zf 3) (zf 4)))) (zL (dT (zK .Gt (zf 2) (zi (.int 0)))) (dT (zK .Gt (zh (noX zq) (za (zf 0) (za (zi (.int 4)) zo))) (zi (.int 0)))))) (zg (jb (zjZ (zh (noX g) (za (zf 0) (za (zH (zf 3) (zf 4)) (za (zz .Sub (zf 2) (zi (.int 1))) zo))))) (zf 3) (zf 4)) (zg (zU (zh xI (za (zf 3) zo))) zr)) zr) (zg (zN (zh (noX zq) (za (zf 0) (za (zi (.int 8)) zo))) (gN 5)) (zg (sIf (dT (zK .Eq (zf 5) (zi (.int 0)))) (zg (zO (zdJ (zf 3) (zf 4))) zr) (zg (sIf (dT (zK .Eq (zf 5) (zi (.int 1)))) (zg (zO (zaH (zf 3) (zf 4) (zH (zf 3) (zf 4)))) zr) (zg (sIf (dT (zK .Eq (zf 5) (zi (.int 2)))) (zg (zae (zmE (Ve (zf 3) (qG (zf 4)) (qG (zz .Add (zf 4) (zi (.int 2)))))) (zf 3) (qG (zf 4)) (qG (zz .Add (zf 4) (zi (.int 2))))) zr) (zg (sIf (dT (zK .Eq (zf 5) (zi (.int 3)))) (zg (jb (zh (noX vm) (za (zf 0) (za (zi (.int 2)) zo))) (zf 3) (zf 4)) zr) (zg (sIf (dT (zK .Eq (zf 5) (zi (.int 4)))) (zg (zN (qh (za (zi (.int 0)) (za (zi (.int 1)) (za (xV (zi (.int 1))) (za (zi (.int 1000)) (za (zi (.int 1001)) (za (zz .Pow (zi (.int 10)) (zi (.int 6))) (za (zz .Add (zz .Pow (zi (.int 10)) (zi (.int 6))) (zi (.int 1))) (za (zz .Pow (zi (.int 10)) (zi (.int 9))) (za (zz .Add (zz .Pow (zi (.int 10)) (zi (.int 9))) (zi (.int 1))) (za (zz .Pow (zi (.int 10)) (zi (.int 12))) (za (zz .Add (zz .Pow (zi (.int 10)) (zi (.int 12))) (zi (.int 1))) (za (zi .non) (za (zi (.bl true)) zo)))))))))))))) (gN 6)) (zg (jb (zH (zf 6) (zh (noX zq) (za (zf 0) (za (zi (.int 13)) zo)))) (zf 3) (zf 4)) zr)) (zg (sIf (zL (dT (zK .Eq (zf 5) (zi (.int 5)))) (dT (qM .tuple (zH (zf 3) (zf 4))))) (zg (jb (zh zfX (za (zH (zf 3) (zf 4)) zo)) (zf 3) (zf 4)) zr) (zg (sIf (zL (dT (zK .Eq (zf 5) (zi (.int 6)))) (dT (qM .str (zH (zf 3) (zf 4))))) (zg (jb (zz .Add (zH (zf 3) (zf 4)) (zH (qh (za (zi (.str "a")) (za (zi (.str "A")) (za (zi (.str " ")) (za (zi (.str "bbbbbbbb")) zo))))) (zh (noX zq) (za (zf 0) (za (zi (.int 4)) zo))))) (zf 3) (zf 4)) zr) (zg (zU (zf 3)) zr)) zr)) zr)) zr)) zr)) zr)) zr)) (zg (zU (zh xI (za (zf 3) zo))) zr)))))))
def xP:Nat->List W->Sto->Res W
 |0=>λ_ _=>.bad
 |n+1=>fnD 7 (kY (xP n))
theorem Qc(n:Nat):xP (n+1)=fnD 7 (kY (xP n)):=rfl
def vc:List W->Sto->Res W:=xP 3
abbrev Z7:List Str:=["thing","sign"]
def jG:MSt:=(zg (sIf (qI (zy (dT (qM .str (zf 0)))) (qI (dT (zK .Lt (zh qg (za (zf 0) zo)) (zi (.int 1)))) (dT (zK .Gt (zh qg (za (zf 0) zo)) (zi (.int 8)))))) (zg (zU (zi (.bl false))) zr) zr) (zg (zU (zK .Eq (dLc [1] (ql (zf 0)) (gN 1) (dT (zK .NotIn (zf 1) (zi (.str "abcdefghijklmnopqrstuvwxyz")))) (zf 1)) (qh zo))) zr))
def ku:List W->Sto->Res W:=fnD 2 jG
theorem Q8:ku=fnD 2 jG:=rfl
abbrev vP:List Str:=["thing","long","most","row","names"]
def zZ:MSt:=(zg (sIf (qI (zy (dT (qM .tuple (zf 0)))) (qI (dT (zK .Lt (zh qg (za (zf 0) zo)) (zi (.int 1)))) (dT (zK .Gt (zh qg (za (zf 0) zo)) (zf 2))))) (zg (zU (zi (.bl false))) zr) zr) (zg (xl (ql (zf 0)) (gN 3) (zg (sIf (qI (zy (dT (qM .tuple (zf 3)))) (qI (dT (zK .NotEq (zh qg (za (zf 3) zo)) (zf 1))) (zy (dT (zh (noX ku) (za (zH (zf 3) (zi (.int 0))) zo)))))) (zg (zU (zi (.bl false))) zr) zr) zr)) (zg (zN (dLc [3] (ql (zf 0)) (gN 3) vG (zH (zf 3) (zi (.int 0)))) (gN 4)) (zg (zU (zK .Eq (zf 4) (V5 (zf 4)))) zr))))
def qO:List W->Sto->Res W:=fnD 5 zZ
theorem ZU:qO=fnD 5 zZ:=rfl
abbrev Jv:List Str:=["thing","low","high"]
def Zm:MSt:=(zg (zU (xw (qM .int (zf 0)) (xw (xX (qM .bool (zf 0))) (xw (zK .LtE (zf 1) (zf 0)) (zK .LtE (zf 0) (zf 2)))))) zr)
def qN:List W->Sto->Res W:=fnD 3 Zm
theorem X0:qN=fnD 3 Zm:=rfl
abbrev ZO:List Str:=["thing","rank","pence","days","chest","part"]
def zI:MSt:=(zg (sIf (qI (zy (dT (qM .tuple (zf 0)))) (dT (zK .NotEq (zh qg (za (zf 0) zo)) (zi (.int 3))))) (zg (zU (zi (.bl false))) zr) zr) (zg (sIf (qI (zy (dT (zh (noX qO) (za (zH (zf 0) (zi (.int 0))) (za (zi (.int 3)) (za (zi (.int 12)) zo)))))) (zy (dT (zh (noX qO) (za (zH (zf 0) (zi (.int 1))) (za (zi (.int 2)) (za (zi (.int 6)) zo))))))) (zg (zU (zi (.bl false))) zr) zr) (zg (xl (ql (zH (zf 0) (zi (.int 0)))) (gTp 3 (zX (gN 1) (zX (gN 2) (zX (gN 3) vD)))) (zg (sIf (qI (zy (dT (zh (noX qN) (za (zf 2) (za (zi (.int 0)) (za (zz .Pow (zi (.int 10)) (zi (.int 9))) zo)))))) (zy (dT (zh (noX qN) (za (zf 3) (za (zi (.int 1)) (za (zi (.int 1000)) zo))))))) (zg (zU (zi (.bl false))) zr) zr) zr)) (zg (xl (ql (zH (zf 0) (zi (.int 1)))) (gTp 2 (zX (gN 4) (zX (gN 5) vD))) (zg (sIf (zy (dT (zh (noX qN) (za (zf 5) (za (zi (.int 1)) (za (zi (.int 1000)) zo)))))) (zg (zU (zi (.bl false))) zr) zr) zr)) (zg (zU (zh (noX qN) (za (zH (zf 0) (zi (.int 2))) (za (zi (.int 1)) (za (zi (.int 1000)) zo))))) zr)))))
def zE:List W->Sto->Res W:=fnD 6 zI
theorem Zn:zE=fnD 6 zI:=rfl
end K01
namespace Z
open PySem PySem.Spec L2 ZX
open PyProof.Rows hiding St
def nxE(m:M):M:=λt S=>match m t S with| .exc _ _=>.bad|r=>r
def nxT(m:MB):MB:=λt S=>match m t S with| .exc _ _=>.bad|r=>r
def nxS(m:MSt):MSt:=λt S=>match m t S with| .exc _ _ _=>.bad|r=>r
section
variable {X:Cx} {e:Expr} {es:List Expr} {st:Stmt}
theorem zeM{m:M}(h:ME X.nox e m):ME X e (nxE m):=by
 refine⟨λZ io S H t σ Q hr sr p=>?_⟩;have up:wE X.nox e σ H Q->wE X e σ H Q:=λq pins s I=>wpAny_mono (q pins s (I.wish _)) (λ_ _ ⟨v,H',I',r,q⟩=>⟨v,H',I'.unwish,r,q⟩) λ_ _ z=>z.elim
 refine up (h.run Z io S H t σ Q hr sr ?_);unfold nxE at p;cases q:m t S with
 |ok a b=>rw [q] at p;exact p
 |exc a b=>rw [q] at p;exact p.elim
 |bad=>rw [q] at p;exact p.elim
theorem Kj{m:MB}(h:MT X.nox e m):MT X e (nxT m):=by
 refine⟨λZ io S H t σ Q hr sr p=>?_⟩;have up:wT X.nox e σ H Q->wT X e σ H Q:=λq pins s I=>wpAny_mono (q pins s (I.wish _)) (λ_ _ ⟨H',I',q⟩=>⟨H',I'.unwish,q⟩) λ_ _ z=>z.elim
 refine up (h.run Z io S H t σ Q hr sr ?_);unfold nxT at p;cases q:m t S with
 |ok a b=>rw [q] at p;exact p
 |exc a b=>rw [q] at p;exact p.elim
 |bad=>rw [q] at p;exact p.elim
theorem XA{m:MSt}(h:MS X.nox st m):MS X st (nxS m):=by
 refine⟨λZ io S H t σ D hr sr p=>?_⟩;have up:wS X.nox st D σ H->wS X st D σ H:=λq pins s I=>wpAny_mono (q pins s (I.wish _)) (λ_ _ q=>q.unwish) λ_ _ z=>z.elim
 refine up (h.run Z io S H t σ D hr sr ?_);unfold nxS at p;cases q:m t S with
 |exc a b c=>rw [q] at p;exact p.elim
 |bad=>rw [q] at p;exact p.elim
 |nx a b=>rw [q] at p;exact p
 |rt a b=>rw [q] at p;exact p
 |bk a b=>rw [q] at p;exact p
 |ct a b=>rw [q] at p;exact p
end
structure FunV (K:PySem.W.Frag) (x qual:Str) (st:Stmt) (dV:Value) (f:Addr) (fd:FuncData):Prop where
 ex:∃(oc:Value) (od:Option Addr) (kV doc pm:Value) (an:Option Addr) (cdv ct:Value) (osl:Array (Option Value)),
  fd=PySem.W.fnOf x qual (zV st) (zP st) (zp st) dV kV doc pm an cdv ct/\K.lookup f=some ⟨oc,od,.func fd,osl⟩/\PySem.W.codeIn K cdv qual=true
 kp:PySem.W.keepIn K (.ref f)=true
abbrev cxX(P:Program)(w:World)(K:PySem.W.Frag)(mg:Str->Option Value)(base:Heap)(N:List Str)(qual:Str)(st:Stmt)(f:Addr)(cdv:Value)(A:Around)(outer:List Env)(s:Shared)(H:Hp)(E:XK):Cx:=zgI (CXr P w) P w K mg base N qual (zp st) f cdv A outer s H E
def spX(K:PySem.W.Frag)(np:Nat)(g:List W->Sto->Res W):Sp:=λvs H Q E=>vs.length=np/\∃Z io S ws,HRel K Z io S H/\WRels K Z io S H ws vs/\
 match g ws S with
 | .ok w S'=>∀io' H' v,Ext io S H io' S' H'->HRel K Z io' S' H'->WRel K Z io' S' H' w v->Q v H'
 | .exc x S'=>∀io' H' e C,Ext io S H io' S' H'->HRel K Z io' S' H'->x.fld= []->PySem.W.nsIn K mainGlobals x.cls=some (some (.ref C))->E (.ref e) (some C) H'
 | .bad=>False
section
variable {P:Program} {w:World} {K:PySem.W.Frag} {mg:Str->Option Value} {base:Heap}
theorem KO{x qual:Str}{st:Stmt}{dV:Value}{f:Addr}{fd:FuncData}{N ps:List Str}{k:Nat}{m:MSt}(F:FunV K x qual st dV f fd)(Sc:FnScope N ps (zp st))
 (hb:∀(cdv:Value) (A:Around) (outer:List Env) (s:Shared) (H:Hp) (E:XK),Room k (A.deeper (envOfC qual (zp st) s.heap.objs.size f cdv))->Cok (cxX P w K mg base N qual st f cdv A outer s H E).nox->MSs (cxX P w K mg base N qual st f cdv A outer s H E) (zP st) m):
 FnOk P w K mg base (CXr P w) (k+1) f fd ps (spX K ps.length (fnD N.length m)):=by
 obtain⟨oc,od,kV,doc,pm,an,cdv,ct,osl,rfl,lk,hcd⟩:=F.ex;refine zmp lk hcd Sc (λvs H Q E h=>h.1) λA outer s H vs Q E hr h=>?_
 obtain⟨hl,Z,io,S,ws,hrel,rs,h⟩:=h;have c:Cok (cxX P w K mg base N qual st f cdv A outer s H E).nox:=⟨rfl,hr.units,Sc.nd,Lx⟩;refine⟨_,VV,?_⟩;refine(hb cdv A outer s H E hr c).run Z io S H _ _ _ hrel (Kw rs) ?_;unfold fnD at h;cases hm:m (ws.map some++List.replicate (N.length-ws.length) none) S with
 |nx t1 S1=>
  rw [hm] at h;exact λio1 H1 σ1 x1 hr1 sr1=>h io1 H1 .non (x1.take rfl) hr1.take (.d .non)
 |rt w1 S1=>
  rw [hm] at h;intro io1 H1 v x1 hr1 rw1;cases w1 with
  |d y=>
   cases rw1 with
   |d r=>exact h io1 H1 v (x1.take rfl) hr1.take (.d r.take')
  |fz y=>exact h.elim
  |exn y=>exact h.elim
  |fk y _=>exact h.elim
  |tl n pre post=>exact zcA x1 hr1 rw1 (λw S' e=>by rw [e] at h;exact h) (λe=>by rw [e] at h;exact h)
  |ref n=>
   have h:(match (if n<S.length then Res.ok (.ref n) (S1.take S.length) else(match S1[n]? with|some (.lst xs)=>Res.ok (.ref S.length) (S1.take S.length++ [.lst xs])|some (.dk xs)=>Res.ok (.ref S.length) (S1.take S.length++ [.dk xs])|some (.dt xs)=>Res.ok (.ref S.length) (S1.take S.length++ [.dt xs])|_=>.bad)) with
    | .ok w S'=>∀io' H' v,Ext io S H io' S' H'->HRel K Z io' S' H'->WRel K Z io' S' H' w v->Q v H'
    | .exc x S'=>∀io' H' e C,Ext io S H io' S' H'->HRel K Z io' S' H'->x.fld= []->PySem.W.nsIn K mainGlobals x.cls=some (some (.ref C))->E (.ref e) (some C) H'
    | .bad=>False):=h
   cases rw1 with
   |ref hn=>
    by_cases hlt:n<S.length
    ·rw [if_pos hlt] at h;exact h io1 H1 _ (x1.take rfl) hr1.take (.ref (by rw [lK];omega))
    ·rw [if_neg hlt] at h;cases q:S1[n]? with
     |none=>rw [q] at h;exact h.elim
     |some ce=>
      rw [q] at h;cases ce with
      |dead=>exact h.elim
      |tb _ _ _=>exact h.elim
      |lst xs=>
       have hk:=hr1.movedC (k:=S.length) (by omega) (by have:=x1.len;omega) q (λz=>nomatch z);have hlen:(S1.take S.length).length=S.length:=by rw [lK];have:=x1.len;omega
       have hw:=WRel.ref (K:=K) (Z:=Z) (io:=jX io1 S.length (io1 n)) (S:=S1.take S.length++ [.lst xs]) (H:=H1) (n:=S.length) (by simp [hlen]);rw [xi] at hw;exact h _ H1 _ (x1.movedC q (λz=>nomatch z)) hk hw
      |dk xs=>
       have hk:=hr1.movedC (k:=S.length) (by omega) (by have:=x1.len;omega) q (λz=>nomatch z);have hlen:(S1.take S.length).length=S.length:=by rw [lK];have:=x1.len;omega
       have hw:=WRel.ref (K:=K) (Z:=Z) (io:=jX io1 S.length (io1 n)) (S:=S1.take S.length++ [.dk xs]) (H:=H1) (n:=S.length) (by simp [hlen]);rw [xi] at hw;exact h _ H1 _ (x1.movedC q (λz=>nomatch z)) hk hw
      |dt xs=>
       have hk:=hr1.movedC (k:=S.length) (by omega) (by have:=x1.len;omega) q (λz=>nomatch z);have hlen:(S1.take S.length).length=S.length:=by rw [lK];have:=x1.len;omega
       have hw:=WRel.ref (K:=K) (Z:=Z) (io:=jX io1 S.length (io1 n)) (S:=S1.take S.length++ [.dt xs]) (H:=H1) (n:=S.length) (by simp [hlen]);rw [xi] at hw;exact h _ H1 _ (x1.movedC q (λz=>nomatch z)) hk hw
 |bk t1 S1=>rw [hm] at h;exact h.elim
 |ct t1 S1=>rw [hm] at h;exact h.elim
 |exc x t1 S1=>
  rw [hm] at h;intro pins io1 H1 σ1 u s1 x1 hr1 sr1 fl;obtain⟨e,C,rfl,hf,hC,FL⟩:=fl.ex;exact zeD FL rfl rfl rfl λa0 s3 G=>⟨e,C,a0,H1,rfl,G,h io1 H1 e C (x1.take rfl) hr1.take hf hC⟩
 |bad=>rw [hm] at h;exact h.elim
end
structure HasFnX (P:Program) (w:World) (K:PySem.W.Frag) (mg:Str->Option Value) (base:Heap) (k:Nat) (x:Str) (ps:List Str) (dws:List W) (g:List W->Sto->Res W):Prop where
 ex:∃f fd dvs ds,mg x=some (.ref f)/\PySem.W.keepIn K (.ref f)=true/\Binds K fd ps []/\Binds K fd ps ds/\DfRel dws dvs ds/\FnOk P w K mg base (CXr P w) k f fd ps (spX K ps.length g)
section
variable {X:Cx} {k:Nat} {f:Addr} {fd:FuncData} {ps:List Str} {x:Str} {p pos:Pos} {e:Expr} {es:List Expr} {mas:MAs} {g:List W->Sto->Res W} {ds:List Value} {dvs:List V} {dws:List W}
theorem zig(F:FnOk X.prog X.w X.K X.mg X.base (CXr X.prog X.w) k f fd ps (spX X.K ps.length g))(hr:Room k X.A)(hg:Gl X x)(hm:X.mg x=some (.ref f))(hk:PySem.W.keepIn X.K (.ref f)=true)(hb:Binds X.K fd ps ds)(hd:DfRel dws dvs ds)
 (ha:MA X (e::es) mas) (hlen:∀t S ws S1,mas t S= .ok ws S1->(ws++dws).length=ps.length) (hdb:(x==("__debug__":Str))=false:=by decide) (he:starEach (e::es) X.env=(false,eval e X.env)::starEach es X.env:=by rfl) (hpl:(backTo pos (starEach es X.env)).any (·.1)=false:=by rfl):
 ME X (.Call (.Name x p) (e::es) [] pos) (JE g dws mas):=by
 refine⟨λZ io S H t σ Q hrr sr po=>PEw (zg3 F hr hg hm hk hb hd.vals zgE hdb he hpl) ?_⟩;unfold JE at po;have run:=λQ=>ha.run Z io S H t σ Q hrr sr
 cases hq:mas t S with
 |bad=>rw [hq] at po;exact po.elim
 |exc y S1=>
  rw [hq] at po run;exact run _ po
 |ok ws S1=>
  rw [hq] at po run;refine run _ λio1 H1 vs x1 hr1 rs1=>?_
  have rs2:=rs1.append (hd.wrels (K:=X.K) (Z:=Z) (io:=io1) (S:=S1) (H:=H1));have hl:(vs++dvs).length=ps.length:=by rw [<-rs2.length];exact hlen t S ws S1 hq
  have po1:qH X Z (RW X Z) io1 S1 H1 σ (g (ws++dws) S1) Q:=qH.from po x1
  cases h:g (ws++dws) S1 with
  |bad=>rw [h] at po1;exact po1.elim
  |ok a b=>
   rw [h] at po1;refine⟨E0,⟨hl,Z,io1,S1,ws++dws,hr1,rs2,by rw [h];exact po1⟩,λpins s ev s' I c=>?_⟩;obtain⟨_,_,_,_,_,_,z⟩:=c;exact z.elim
  |exc y S2=>
   rw [h] at po1;refine⟨λv c H'=>∃io' C,c=some C/\Ext io1 S1 H1 io' S2 H'/\HRel X.K Z io' S2 H'/\y.fld= []/\PySem.W.nsIn X.K mainGlobals y.cls=some (some (.ref C)),⟨hl,Z,io1,S1,ws++dws,hr1,rs2,by rw [h];exact λio' H' e' C x2 hr2 hf hC=>⟨io',C,rfl,x2,hr2,hf,hC⟩⟩,λpins s ev s' I c=>?_⟩;obtain⟨e',C,a0,H',rfl,G,io',C',ec,x2,hr2,hf,hC⟩:=c;cases ec;exact po1 pins io' H' _ s' x2 hr2 ⟨e',C,rfl,hf,hC,.inr ⟨H1,s,a0,none,I,G⟩⟩
theorem Q7{n:Nat}(F:HasFnX X.prog X.w X.K X.mg X.base k x ps dws g)(hr:Room k X.A)(hg:Gl X x)(ha:MA X (e::es) mas)(hal:AL mas n)(hn:n=ps.length:=by rfl)(hdb:(x==("__debug__":Str))=false:=by decide)
 (he:starEach (e::es) X.env=(false,eval e X.env)::starEach es X.env:=by rfl) (hpl:(backTo pos (starEach es X.env)).any (·.1)=false:=by rfl):ME X (.Call (.Name x p) (e::es) [] pos) (zh g mas):=by
 obtain⟨f,fd,dvs,ds,h1,h2,h3,_,_,h4⟩:=F.ex;have h:=zig h4 hr hg h1 h2 h3 .nil ha (λt S ws S1 q=>by rw [yn,hal.len t S ws S1 q];exact hn) hdb he hpl (p:=p);have e:JE g [] mas=zh g mas:=by
  funext t S
  unfold JE zh;cases mas t S with
  |ok a b=>show g (a++ []) b=g a b;rw [yn]
  |exc _ _=>rfl
  |bad=>rfl
 rw [e] at h;exact h
def vL(c:Str)(as:MAs):MSt:=λt S=>(as t S).then t λws S1=>if ws.length<=sizeLine then .exc {cls:=c} t S1 else .bad
theorem zh5{C:Addr}{np cpos:Pos}(hh:X.calm=true)(O:OwnX X.K X.mg x C)(hC:PySem.W.nsIn X.K mainGlobals x=some (some (.ref C)))(hg:Gl X x)(ha:MA X (e::es) mas)(hdb:(x==("__debug__":Str))=false:=by decide)
 (he:starEach (e::es) X.env=(false,eval e X.env)::starEach es X.env:=by rfl) (hpl:(backTo cpos (starEach es X.env)).any (·.1)=false:=by rfl):MS X (.Raise (some (.Call (.Name x np) (e::es) [] cpos)) none pos) (vL x mas):=by
 refine⟨λZ io S H t σ D hr sr po=>PSw (zhW hh O hg zgE hdb he hpl) ?_⟩;refine ha.run Z io S H t σ _ hr sr (ke.then po sr hr λio1 S1 H1 ws vs x1 hr1 rs1 sr1 p1=>?_);by_cases hz:ws.length<=sizeLine
 ·rw [if_pos hz] at p1;refine⟨by rw [<-rs1.length];exact hz,λpins s ev h' args I m=>?_⟩;exact p1 pins io1 H1 σ _ _ Ext.refl hr1 sr1 ⟨ev,C,rfl,rfl,hC,.inl ⟨s,h',args,I,m,rfl⟩⟩
 ·rw [if_neg hz] at p1;exact p1.elim
end
def zad(tab:List (Str×Bool))(a:M):M:=λt S=>(a t S).bind λw S1=>match w with
 | .exn c=>(match tab.lookup c with|some b=>.ok (.d (.bl b)) S1|none=>.bad)
 |_=>.bad
section
variable {X:Cx} {a:Expr} {ma:M} {x:Str} {p p2 pos:Pos} {tab:List (Str×Bool)}
theorem zew{T:Value}{vT:V}(hT:RelV vT T)(hu:∀T',RelV vT T'->T'=T)(htab:∀q∈tab,∃C,PySem.W.nsIn X.K mainGlobals q.1=some (some (.ref C))/\KX X.K C/\PySem.W.kitOne X.K (.ref C) T=some q.2){Z:ZS}{io:Nat->Addr}{S:Sto}{H:Hp}{σ:St}{c:Str}{v:V}{b:Bool}{Q:VK}
 (hr:HRel X.K Z io S H) (r:WRel X.K Z io S H (.exn c) v) (hb:tab.lookup c=some b) (q:Q (.bl b) H):wC X (.builtin "isinstance") [v,vT] H Q:=by
 intro pins s σ us I rs;obtain⟨u,w',rfl,r1,r2⟩:=vals2 rs;obtain rfl:=hu _ r2;cases r with
 |exn hC hH=>
  obtain⟨C,h1,h2,h3⟩:=htab _ (lZ hb);dsimp only at h1 h3;rw [hC] at h1;cases h1;cases (show u=Value.ref _ from r1);have ho:=(I.hok _ _ hH).1;exact yw (zgF h2 rfl rfl rfl) I.kIn ho h3 (λz=>nomatch z) λtk=>⟨.bl _,H,I.tok _,rfl,q⟩
theorem zlk{W:Addr}(hg0:Gl X "isinstance")(hm0:X.mg "isinstance"=none)(hg:Gl X x)(hm:X.mg x=some (.ref W))
 (htab:∀q∈tab,∃C,PySem.W.nsIn X.K mainGlobals q.1=some (some (.ref C))/\KX X.K C/\PySem.W.kitOne X.K (.ref C) (.ref W)=some q.2)
 (ha:ME X a ma) (hd:(x==("__debug__":Str))=false:=by decide)
 (hs:starEach [a,.Name x p2] X.env=(false,eval a X.env)::starEach [.Name x p2] X.env:=by rfl) (hs2:starEach [.Name x p2] X.env=(false,eval (.Name x p2) X.env)::starEach [] X.env:=by rfl) (hpl:(backTo pos (starEach [.Name x p2] X.env)).any (·.1)=false:=by rfl):
 ME X (.Call (.Name "isinstance" p) [a,.Name x p2] [] pos) (zad tab ma):=by
 refine⟨λZ io S H t σ Q hr sr po=>PEw (XH KZ hg0 hm0 zaj (j3 kN (j3 (zcw (v:=.ref W) hg hm rfl hd) Qj hs2) hs) (by decide) (by decide) hs hpl) ?_⟩;refine ha.run Z io S H t σ _ hr sr (qH.bind po λio1 S1 H1 w v x1 hr1 rw1 p1=>?_);cases w with
 |exn c=>
  dsimp only at p1;cases hb:tab.lookup c with
  |none=>rw [hb] at p1;exact p1.elim
  |some b=>
   rw [hb] at p1;exact zew (T:=.ref W) (vT:=.ref W) rfl (λ_ z=>z) htab (σ:=σ) hr1 rw1 hb (p1.ok hr1 (.d (.bl b)))
 |d _=>exact p1.elim
 |ref _=>exact p1.elim
 |fz _=>exact p1.elim
 |fk _ _=>exact p1.elim
 |tl _ _ _=>exact p1.elim
theorem zjz{T:String}(hg0:Gl X "isinstance")(hm0:X.mg "isinstance"=none)(hg:Gl X x)(hm:X.mg x=none)(hv:bootBuiltins x=some (.type T))
 (htab:∀q∈tab,∃C,PySem.W.nsIn X.K mainGlobals q.1=some (some (.ref C))/\KX X.K C/\PySem.W.kitOne X.K (.ref C) (.type T)=some q.2)
 (ha:ME X a ma) (hn:x≠"__name__":=by decide) (hd:(x==("__debug__":Str))=false:=by decide)
 (hs:starEach [a,.Name x p2] X.env=(false,eval a X.env)::starEach [.Name x p2] X.env:=by rfl) (hs2:starEach [.Name x p2] X.env=(false,eval (.Name x p2) X.env)::starEach [] X.env:=by rfl) (hpl:(backTo pos (starEach [.Name x p2] X.env)).any (·.1)=false:=by rfl):
 ME X (.Call (.Name "isinstance" p) [a,.Name x p2] [] pos) (zad tab ma):=by
 refine⟨λZ io S H t σ Q hr sr po=>PEw (XH KZ hg0 hm0 zaj (j3 kN (j3 (ze0 (v:=.ty T) hg hm hv rfl hn hd) Qj hs2) hs) (by decide) (by decide) hs hpl) ?_⟩;refine ha.run Z io S H t σ _ hr sr (qH.bind po λio1 S1 H1 w v x1 hr1 rw1 p1=>?_);cases w with
 |exn c=>
  dsimp only at p1;cases hb:tab.lookup c with
  |none=>rw [hb] at p1;exact p1.elim
  |some b=>
   rw [hb] at p1;exact zew (T:=.type T) (vT:=.ty T) rfl (λ_ z=>z) htab (σ:=σ) hr1 rw1 hb (p1.ok hr1 (.d (.bl b)))
 |d _=>exact p1.elim
 |ref _=>exact p1.elim
 |fz _=>exact p1.elim
 |fk _ _=>exact p1.elim
 |tl _ _ _=>exact p1.elim
end
theorem J1.ext{K:PySem.W.Frag}{A:Around}{Z:ZS}{io io':Nat->Addr}{S S':Sto}{H H':Hp}(h:J1 A H)(r:HRel K Z io S H)(x:Ext io S H io' S' H'):J1 A H':=by
 rcases h with h|⟨e,C,d,a0,tb,h1,h2⟩
 ·exact .inl h
 ·exact .inr ⟨e,C,d,a0,tb,h1,x.k1 r _ _ h2 trivial⟩
def zmN(X:Cx)(tg iter:Expr):TI:=λσ H R=>∀pins s,Inv X pins σ H s->wpAny (model X.prog X.w) X.A (eval iter X.env) (λv s1=>wpAny (model X.prog X.w) X.A (pyIter v) (zm2 X pins σ tg R) X.xe s1) X.xe s
theorem znx{X:Cx}{tg iter:Expr}:PIH X tg iter (zmN X tg iter):=λpins s _ _ _ I h=>h pins s I
theorem zou{X:Cx}{tg iter:Expr}{wi:TI}{σ:St}{H:Hp}{R:It->Hp->Prop}(h:PIH X tg iter wi)(q:wi σ H R):zmN X tg iter σ H R:=λpins s I=>h pins s σ H R I q
structure MIH (X:Cx) (tg iter:Expr) (m:MIs):Prop where
 run:∀Z io S H t σ R,HRel X.K Z io S H->SRel X.K Z io S H t σ->qH X Z (λio S H=>Walks X.K Z io S H) io S H σ (m t S) R->zmN X tg iter σ H R
section
variable {X:Cx}
theorem zd1{tg a:Expr}{m:M}{p pos:Pos}(hg:Gl X "range")(hm:X.mg "range"=none)(ha:ME X a m)(hs:starEach [a] X.env= [(false,eval a X.env)]:=by rfl):MIH X tg (.Call (.Name "range" p) [a] [] pos) (kG m):=by
 refine⟨λZ io S H t σ R hr sr po=>zou (zd8 hg hm (j3 kN Qj hs) hs) ?_⟩;refine ha.run Z io S H t σ _ hr sr (qH.bind po λio1 S1 H1 w v x1 hr1 rw1 p1=>?_);split at p1
 ·rename_i j;split at p1
  ·rename_i hj;obtain rfl:=jR rw1;exact⟨j,rfl,hj.1,hj.2,p1 io1 H1 _ Ext.refl hr1 Ky⟩
  ·exact p1.elim
 ·exact p1.elim
theorem zlr{elt tg iter:Expr}{ifs:List Expr}{scope:Scope}{own:List (Str×Nat)}{pos:Pos}{mi:MIs}{g:W->DS->Option DS}{sl:List Nat}{mt:MB}{me:M}(c:J1 X.A X.H_0)(nd:X.N.Nodup)(hi:MIH X tg iter mi)(ok:BlkOk X.N X.env.scope scope own)
 (hg:∀(s:Shared) (H:Hp) (C:Addr) (cl:List (Str×Addr)) (fp:List Addr),MG (X.blk s H scope (compEnvC scope cl C X.env) fp) tg sl g) (hsl:∀i∈sl,i∈own.map (·.2))
 (ht:∀(s:Shared) (H:Hp) (C:Addr) (cl:List (Str×Addr)) (fp:List Addr),MTs (X.blk s H scope (compEnvC scope cl C X.env) fp) ifs mt)
 (he:∀(s:Shared) (H:Hp) (C:Addr) (cl:List (Str×Addr)) (fp:List Addr),ME (X.blk s H scope (compEnvC scope cl C X.env) fp) elt me) (hs:∀x,foldedSetIterable iter X.env x=pure x:=by intro _;rfl):
 ME X (.ListComp elt [⟨tg,iter,ifs,0⟩] scope pos) (dLc (own.map (·.2)) mi g mt me):=by
 exact⟨λZ io S H t σ Q hr sr po=>PEw (zlY c nd znx ok zgL zdv ze3 hs) (zcO hi.run ok hg hsl ht he hs (fin:=λxs S2=>.ok (.d (.lst xs)) S2) zdN hr sr po)⟩
end
abbrev cxH(P:Program)(w:World)(K:PySem.W.Frag)(mg:Str->Option Value)(base:Heap)(N:List Str)(qual:Str)(st:Stmt)(f:Addr)(cdv:Value)(A:Around)(outer:List Env)(s:Shared)(H:Hp)(E:XK):Cx:=zeu P w K mg base N qual (zp st) f cdv A outer s H E
section
variable {P:Program} {w:World} {K:PySem.W.Frag} {mg:Str->Option Value} {base:Heap}
theorem zla{x qual:Str}{st:Stmt}{f:Addr}{fd:FuncData}{N ps:List Str}{k:Nat}{m:MSt}(F:Fun K x qual st f fd)(Sc:FnScope N ps (zp st))
 (hb:∀(cdv:Value) (A:Around) (outer:List Env) (s:Shared) (H:Hp) (E:XK),RoomH k (A.deeper (envOfC qual (zp st) s.heap.objs.size f cdv))->J1 (cxH P w K mg base N qual st f cdv A outer s H E).A (cxH P w K mg base N qual st f cdv A outer s H E).H_0->MSs (cxH P w K mg base N qual st f cdv A outer s H E) (zP st) m):
 FnOkH P w K mg base (k+1) f fd ps (zcW K ps.length (fnD N.length m)):=by
 obtain⟨oc,od,kV,doc,pm,an,cdv,ct,osl,rfl,lk,hcd⟩:=F.ex;refine zln lk hcd Sc (λvs H Q E h=>h.1) λA outer s H vs Q E hr hh h=>?_
 obtain⟨hl,Z,io,S,ws,hrel,rs,h⟩:=h;refine⟨_,VV,?_⟩;refine(hb cdv A outer s H E hr hh).run Z io S H _ _ _ hrel (Kw rs) ?_;unfold fnD at h;cases hm:m (ws.map some++List.replicate (N.length-ws.length) none) S with
 |nx t1 S1=>
  rw [hm] at h;exact λio1 H1 σ1 x1 hr1 sr1=>h io1 H1 .non (x1.take rfl) hr1.take (.d .non)
 |rt w1 S1=>
  rw [hm] at h;intro io1 H1 v x1 hr1 rw1;cases w1 with
  |d y=>
   cases rw1 with
   |d r=>exact h io1 H1 v (x1.take rfl) hr1.take (.d r.take')
  |fz y=>exact h.elim
  |exn y=>exact h.elim
  |fk y _=>exact h.elim
  |tl n pre post=>exact zcA x1 hr1 rw1 (λw S' e=>by rw [e] at h;exact h) (λe=>by rw [e] at h;exact h)
  |ref n=>
   have h:(match (if n<S.length then Res.ok (.ref n) (S1.take S.length) else(match S1[n]? with|some (.lst xs)=>Res.ok (.ref S.length) (S1.take S.length++ [.lst xs])|some (.dk xs)=>Res.ok (.ref S.length) (S1.take S.length++ [.dk xs])|some (.dt xs)=>Res.ok (.ref S.length) (S1.take S.length++ [.dt xs])|_=>.bad)) with
    | .ok w S'=>∀io' H' v,Ext io S H io' S' H'->HRel K Z io' S' H'->WRel K Z io' S' H' w v->Q v H'
    |_=>False):=h
   cases rw1 with
   |ref hn=>
    by_cases hlt:n<S.length
    ·rw [if_pos hlt] at h;exact h io1 H1 _ (x1.take rfl) hr1.take (.ref (by rw [lK];omega))
    ·rw [if_neg hlt] at h;cases q:S1[n]? with
     |none=>rw [q] at h;exact h.elim
     |some ce=>
      rw [q] at h;cases ce with
      |dead=>exact h.elim
      |tb _ _ _=>exact h.elim
      |lst xs=>
       have hk:=hr1.movedC (k:=S.length) (by omega) (by have:=x1.len;omega) q (λz=>nomatch z);have hlen:(S1.take S.length).length=S.length:=by rw [lK];have:=x1.len;omega
       have hw:=WRel.ref (K:=K) (Z:=Z) (io:=jX io1 S.length (io1 n)) (S:=S1.take S.length++ [.lst xs]) (H:=H1) (n:=S.length) (by simp [hlen]);rw [xi] at hw;exact h _ H1 _ (x1.movedC q (λz=>nomatch z)) hk hw
      |dk xs=>
       have hk:=hr1.movedC (k:=S.length) (by omega) (by have:=x1.len;omega) q (λz=>nomatch z);have hlen:(S1.take S.length).length=S.length:=by rw [lK];have:=x1.len;omega
       have hw:=WRel.ref (K:=K) (Z:=Z) (io:=jX io1 S.length (io1 n)) (S:=S1.take S.length++ [.dk xs]) (H:=H1) (n:=S.length) (by simp [hlen]);rw [xi] at hw;exact h _ H1 _ (x1.movedC q (λz=>nomatch z)) hk hw
      |dt xs=>
       have hk:=hr1.movedC (k:=S.length) (by omega) (by have:=x1.len;omega) q (λz=>nomatch z);have hlen:(S1.take S.length).length=S.length:=by rw [lK];have:=x1.len;omega
       have hw:=WRel.ref (K:=K) (Z:=Z) (io:=jX io1 S.length (io1 n)) (S:=S1.take S.length++ [.dt xs]) (H:=H1) (n:=S.length) (by simp [hlen]);rw [xi] at hw;exact h _ H1 _ (x1.movedC q (λz=>nomatch z)) hk hw
 |bk t1 S1=>rw [hm] at h;exact h.elim
 |ct t1 S1=>rw [hm] at h;exact h.elim
 |exc x t1 S1=>rw [hm] at h;exact h.elim
 |bad=>rw [hm] at h;exact h.elim
end
structure HasFnH (P:Program) (w:World) (K:PySem.W.Frag) (mg:Str->Option Value) (base:Heap) (k:Nat) (x:Str) (ps:List Str) (g:List W->Sto->Res W):Prop where
 ex:∃f fd,mg x=some (.ref f)/\PySem.W.keepIn K (.ref f)=true/\Binds K fd ps []/\FnOkH P w K mg base k f fd ps (zcW K ps.length g)
theorem HasFnH.fn{P:Program}{w:World}{K:PySem.W.Frag}{mg:Str->Option Value}{base:Heap}{k:Nat}{x:Str}{ps:List Str}{g:List W->Sto->Res W}(h:HasFnH P w K mg base k x ps g):HasFn P w K mg base k x ps g:=by obtain⟨f,fd,a,b,c,d⟩:=h.ex;exact⟨f,fd,a,b,c,⟨d.len,λA outer s H args us vs Q E hr he hb hv hs=>d.run A outer s H args us vs Q E (RoomH.of hr) (.inl hr.hd) he hb hv hs⟩⟩
structure MEH (X:Cx) (e:Expr) (m:M):Prop where
 run:∀Z io S H t σ Q,J1 X.A H->HRel X.K Z io S H->SRel X.K Z io S H t σ->qH X Z (RW X Z) io S H σ (m t S) Q->wE X e σ H Q
structure MSH (X:Cx) (st:Stmt) (m:MSt):Prop where
 run:∀Z io S H t σ D,J1 X.A H->HRel X.K Z io S H->SRel X.K Z io S H t σ->ke X Z io S H (m t S) D->wS X st D σ H
structure MSsH (X:Cx) (st:List Stmt) (m:MSt):Prop where
 run:∀Z io S H t σ D,J1 X.A H->HRel X.K Z io S H->SRel X.K Z io S H t σ->ke X Z io S H (m t S) D->wSs X st D σ H
section
variable {X:Cx} {k n:Nat} {ps:List Str} {x:Str} {p pos:Pos} {e:Expr} {es:List Expr} {mas:MAs} {g:List W->Sto->Res W} {st:Stmt} {rest:List Stmt} {m m2:MSt} {me:M}
theorem zie:MSsH X [] zr:=⟨λZ io S H t σ D _=>zm.run Z io S H t σ D⟩
theorem zfF(h1:MSH X st m)(h2:MSsH X rest m2):MSsH X (st::rest) (zg m m2):=by
 refine⟨λZ io S H t σ D hd hr sr p=>znj (zdH znW VV) ?_⟩;refine h1.run Z io S H t σ _ hd hr sr ?_;unfold zg at p;cases h:m t S with
 |nx t1 S1=>
  rw [h] at p;exact λio' H' σ' x2 hr2 sr2=>h2.run Z io' S1 H' t1 σ' D (J1.ext hd hr x2) hr2 sr2 (ke.from p x2)
 |bk t1 S1=>rw [h] at p;exact p
 |ct t1 S1=>rw [h] at p;exact p
 |rt t1 S1=>rw [h] at p;exact p
 |exc x t1 S1=>rw [h] at p;exact p
 |bad=>rw [h] at p;exact p
theorem zjn{i:Nat}{pos':Pos}(hN:X.N.Nodup)(hi:X.N[i]? =some x)(hx:Loc X.env.scope x)(he:MEH X e me)(hs:swapsWith e (some (.Name x pos')) pos.line X.env=pure false:=by rfl)(hf:X.fn x=true\/X.env.scope.names.lookup x=some .local:=by first|exact .inl rfl|exact .inr rfl|assumption):
 MSH X (.Assign [.Name x pos'] e pos) (zN me (gN i)):=by
 refine⟨λZ io S H t σ D hd hr sr p=>PSw (ziK hN hi hx kN hs hf) ?_⟩;refine he.run Z io S H t σ _ hd hr sr (ke.then p sr hr λio1 S1 H1 w v x1 hr1 rw1 sr1 p1=>?_);exact p1 io1 H1 _ Ext.refl hr1 (sr1.set i rw1)
theorem zkY(F:HasFnH X.prog X.w X.K X.mg X.base k x ps g)(hr:RoomH k X.A)(hg:Gl X x)(ha:MA X (e::es) mas)(hal:AL mas n)(hn:n=ps.length:=by rfl)(hdb:(x==("__debug__":Str))=false:=by decide)
 (he:starEach (e::es) X.env=(false,eval e X.env)::starEach es X.env:=by rfl) (hpl:(backTo pos (starEach es X.env)).any (·.1)=false:=by rfl):MEH X (.Call (.Name x p) (e::es) [] pos) (zh (noX g) mas):=by
 obtain⟨f,fd,h1,h2,h3,h4⟩:=F.ex;refine⟨λZ io S H t σ Q hd hrr sr po=>PEw (zgW h4 hr hg h1 h2 h3 .nil zgE hdb he hpl) ?_⟩;unfold zh at po;have run:=λQ=>ha.run Z io S H t σ Q hrr sr
 cases hq:mas t S with
 |bad=>rw [hq] at po;exact po.elim
 |exc y S1=>rw [hq] at po run;exact run _ po
 |ok ws S1=>
  rw [hq] at po run;refine run _ λio1 H1 vs x1 hr1 rs1=>⟨J1.ext hd hrr x1,?_⟩
  rw [yn];have hl:vs.length=ps.length:=by rw [<-rs1.length,hal.len t S ws S1 hq];exact hn
  have po1:qH X Z (RW X Z) io1 S1 H1 σ (noX g ws S1) Q:=qH.from po x1
  unfold noX at po1;cases h:g ws S1 with
  |ok a b=>rw [h] at po1;exact⟨hl,Z,io1,S1,ws,hr1,rs1,by rw [h];exact po1⟩
  |exc a b=>rw [h] at po1;exact po1.elim
  |bad=>rw [h] at po1;exact po1.elim
end
abbrev Cx.alt(X:Cx)(E:Value->Shared->Prop)(pn:List (Addr×Obj)):Cx:={X with xe:=E,pn:=pn}
theorem zjG{X:Cx}{pins:List (Addr×Obj)}{σ:St}{H:Hp}{s:Shared}{E:Value->Shared->Prop}(I:Inv X pins σ H s):Inv (Cx.alt X E (X.pn++pins)) [] σ H s:=
 ⟨⟨I.ok.mod,I.ok.kind,I.ok.glob,I.ok.blt,I.ok.above,I.ok.inj,I.ok.has,I.ok.cab,I.ok.hd,I.ok.frames,I.ok.stk,I.ok.exf,I.ok.bs,I.ok.bsz,I.ok.noex,I.ok.exfs,I.ok.funs,I.ok.frf⟩,I.os,I.bare,I.base,I.loc,I.cell,I.free,I.freeC,λp hp=>I.pin p (by simpa using hp),I.hok,I.len⟩
theorem ZF{X:Cx}{pins pl:List (Addr×Obj)}{σ:St}{H:Hp}{s:Shared}{E:Value->Shared->Prop}(I:Inv (Cx.alt X E (X.pn++pins)) pl σ H s):Inv X pins σ H s:=
 ⟨⟨I.ok.mod,I.ok.kind,I.ok.glob,I.ok.blt,I.ok.above,I.ok.inj,I.ok.has,I.ok.cab,I.ok.hd,I.ok.frames,I.ok.stk,I.ok.exf,I.ok.bs,I.ok.bsz,I.ok.noex,I.ok.exfs,I.ok.funs,I.ok.frf⟩,I.os,I.bare,I.base,I.loc,I.cell,I.free,I.freeC,λp hp=>I.pin p (yB _ hp),I.hok,I.len⟩
theorem ze7{X:Cx}{pins pl:List (Addr×Obj)}{σ:St}{H:Hp}{s:Shared}{e C:Addr}{E:Value->Shared->Prop}(F:zdR (Cx.alt X E (X.pn++pins)) pl σ H e C s):zdR X pins σ H e C s:=by
 rcases F with⟨s1,h',args,I,m,z⟩|⟨H1,s1,a0,fr,I,F⟩
 ·exact .inl ⟨s1,h',args,ZF I,m,z⟩
 ·exact .inr ⟨H1,s1,a0,fr,ZF I,F⟩
theorem SRel.unset{K:PySem.W.Frag}{Z:ZS}{io:Nat->Addr}{S:Sto}{H:Hp}{t:DS}{σ:St}(q:SRel K Z io S H t σ)(i:Nat):SRel K Z io S H (t.set i none) (σ.set i none):=by
 refine⟨by simp [q.len],λj u e=>?_⟩;by_cases hj:i=j
 ·subst hj;rw [List.getElem?_set] at e;simp at e
 ·rw [lV hj] at e;obtain⟨v',h1,h2⟩:=q.get j u e;exact⟨v',by rw [lV hj];exact h1,h2⟩
def zol(i:Nat):SR->SR
 | .nx t S=>.nx (t.set i none) S
 | .bk t S=>.bk (t.set i none) S
 | .ct t S=>.ct (t.set i none) S
 | .rt w S=>.rt w S
 |_=>.bad
def zgD(yes:List Str)(i:Nat)(mb ms:MSt):MSt:=λt S=>match mb t S with
 | .exc x t1 S1=>if yes.contains x.cls=true then zol i (ms (t1.set i (some (.exn x.cls))) S1) else .bad
 |r=>r
def znP(i:Nat)(D:Ends):Ends:={nx:=λσ H=>D.nx (σ.set i none) H,bk:=λσ H=>D.bk (σ.set i none) H,ct:=λσ H=>D.ct (σ.set i none) H,rt:=D.rt}
theorem zjo{X:Cx}{n:Str}{i:Nat}{hpos:Pos}{pins:List (Addr×Obj)}{s6:Shared}{D:Ends}{A:Around}(ok:X.Ok)(hN:X.N.Nodup)(hi:X.N[i]? =some n)(hk:X.env.scope.names.lookup n=some .local)(f:Flow)
 (hf:SP (Cx.hx X A λ_ _=>False) pins (znP i D) f s6):wpAny (model X.prog X.w) X.A (do bindName X.env n .none;unbindBehindTheSuite X.env n hpos) (λ_ s7=>SP X pins D f s7) X.xe s6:=by
 cases f with
 |next=>
  obtain⟨σ6,H6,J6,q6⟩:=hf;have J:=Inv.unhx (X:=X) J6 ok;exact name_goes (X:=X) J hN hi hk λs7 I7=>⟨_,_,I7,q6⟩
 |brk=>
  obtain⟨σ6,H6,J6,q6⟩:=hf;have J:=Inv.unhx (X:=X) J6 ok;exact name_goes (X:=X) J hN hi hk λs7 I7=>⟨_,_,I7,q6⟩
 |cont=>
  obtain⟨σ6,H6,J6,q6⟩:=hf;have J:=Inv.unhx (X:=X) J6 ok;exact name_goes (X:=X) J hN hi hk λs7 I7=>⟨_,_,I7,q6⟩
 |ret v=>
  obtain⟨v',σ6,H6,J6,r6,q6⟩:=hf;have J:=Inv.unhx (X:=X) J6 ok;exact name_goes (X:=X) J hN hi hk λs7 I7=>⟨v',_,_,I7,r6,q6⟩
theorem zl1{X:Cx}{cx n:Str}{W:Addr}{yes:List Str}{i:Nat}{body suite:List Stmt}{b₀:Stmt}{np hpos pos:Pos}{mb ms:MSt}(hb:∀E pn,MSs (Cx.alt X E pn) body mb)(hs:∀e,MSsH (Cx.hx X (X.A.mark (some (.ref e))) λ_ _=>False) (b₀::suite) ms)
 (hg:Gl X cx) (hm:X.mg cx=some (.ref W)) (hyes:∀c∈yes,∃C,PySem.W.nsIn X.K mainGlobals c=some (some (.ref C))/\PySem.W.exmOne X.K (.ref C) (.ref W)=some true) (hN:X.N.Nodup) (hi:X.N[i]? =some n) (hk:X.env.scope.names.lookup n=some .local)
 (hst:X.stack=X.env::X.outer) (hfr:X.env.frame=some X.env.locals) (hd:(cx==("__debug__":Str))=false:=by decide):
 MS X (.Try body [.ExceptHandler (some (.Name cx np)) (some n) (b₀::suite) hpos] [] [] pos) (zgD yes i mb ms):=by
 refine⟨λZ io S H t σ D hr sr p pins s I=>?_⟩;refine wpAny_Try_except ?_;generalize hE:(λ(e:Value) (s₁:Shared)=>wpAny (model X.prog X.w) X.A (noteFrame e X.env) (λ_ s₂=>wpAny (model X.prog X.w) X.A (setFlight e none) (λ_ s₃=>wpAny (model X.prog X.w) X.A (handleBy e X.env [.ExceptHandler (some (.Name cx np)) (some n) (b₀::suite) hpos]) (SP X pins D) X.xe s₃) X.xe s₂) X.xe s₁)=E1;have run:=(hb E1 (X.pn++pins)).run Z io S H t σ D hr sr;refine wpAny_mono (run ?_ [] s (zjG I)) (λf s1 hf=>?_) λe s1 z=>z
 ·unfold zgD at p;cases hq:mb t S with
  |nx a b=>rw [hq] at p;exact p
  |bk a b=>rw [hq] at p;exact p
  |ct a b=>rw [hq] at p;exact p
  |rt a b=>rw [hq] at p;exact p
  |bad=>rw [hq] at p;exact p.elim
  |exc x t1 S1=>
   rw [hq] at p;dsimp only at p;by_cases hy:yes.contains x.cls=true
   ·rw [if_pos hy] at p;intro pl io1 H1 σ1 u s1 x1 hr1 sr1 fl;obtain⟨e,C,rfl,hf,hC,FL⟩:=fl.ex;have FL:=ze7 FL;obtain⟨C',hC',hx⟩:=hyes x.cls (by simpa using hy);rw [show PySem.W.nsIn X.K mainGlobals x.cls=some (some (.ref C)) from hC] at hC';cases hC';show E1 (.ref e) s1;rw [<-hE];refine zc5 FL hst hfr λH2 s2 a0 s3 I3 F3=>zaG I3 F3 λs4 F4=>zeo I3 F4 hg hm hx hN hi hk (λs5 T n0 I5=>?_) hd
    have hH:(upd H1 e (XF (exO (.ref C) none a0 (.ref T)))) e=some (XF (exO (.ref C) none a0 (.ref T))):=xT;have x2:Ext io1 S1 H1 io1 S1 (upd H1 e (XF (exO (.ref C) none a0 (.ref T)))):=Ext.new n0;have hr2:=hr1.new (o:=XF (exO (.ref C) none a0 (.ref T))) n0;have sr2:=(sr1.ext hr1 x2).set i (.exn (K:=X.K) (c:=x.cls) hC hH);have I6:Inv (Cx.hx X (X.A.mark (some (.ref e))) λ_ _=>False) pins (σ1.set i (some (.ref e))) (upd H1 e (XF (exO (.ref C) none a0 (.ref T)))) s5:=Inv.hx I5 rfl;have hd6:J1 (X.A.mark (some (.ref e))) (upd H1 e (XF (exO (.ref C) none a0 (.ref T)))):=.inr ⟨e,.ref C,none,a0,.ref T,rfl,hH⟩;have q:=(hs e).run Z io1 S1 (upd H1 e (XF (exO (.ref C) none a0 (.ref T)))) (t1.set i (some (.exn x.cls))) (σ1.set i (some (.ref e))) (znP i D) hd6 hr2 sr2 ?_ pins s5 I6
    ·exact wpAny_mono q (λf s6 hf=>zjo (X:=X) I5.ok hN hi hk f hf) λ_ _ z=>z
    ·have x3:=x1.trans x2;cases hms:ms (t1.set i (some (.exn x.cls))) S1 with
     |nx a b=>rw [hms] at p;exact λio4 H4 σ4 x4 hr4 sr4=>p io4 H4 _ (x3.trans x4) hr4 (sr4.unset i)
     |bk a b=>rw [hms] at p;exact λio4 H4 σ4 x4 hr4 sr4=>p io4 H4 _ (x3.trans x4) hr4 (sr4.unset i)
     |ct a b=>rw [hms] at p;exact λio4 H4 σ4 x4 hr4 sr4=>p io4 H4 _ (x3.trans x4) hr4 (sr4.unset i)
     |rt a b=>rw [hms] at p;exact λio4 H4 v4 x4 hr4 r4=>p io4 H4 v4 (x3.trans x4) hr4 r4
     |exc a b c=>rw [hms] at p;exact p.elim
     |bad=>rw [hms] at p;exact p.elim
   ·rw [if_neg hy] at p;exact p.elim
 ·cases f with
  |next=>
   obtain⟨σ1,H1,I1,q1⟩:=hf;exact zf7 pins s1 σ1 H1 D (ZF I1) q1
  |brk=>obtain⟨σ1,H1,I1,q1⟩:=hf;exact⟨σ1,H1,ZF I1,q1⟩
  |cont=>obtain⟨σ1,H1,I1,q1⟩:=hf;exact⟨σ1,H1,ZF I1,q1⟩
  |ret v=>obtain⟨v',σ1,H1,I1,r1,q1⟩:=hf;exact⟨v',σ1,H1,ZF I1,r1,q1⟩
theorem zjf{X:Cx}(c:Cok X)(E:Value->Shared->Prop)(pn:List (Addr×Obj)):Cok (Cx.alt X E pn).nox:=⟨c.calm,c.un,c.nd,Lx⟩
theorem zdQ{k:Nat}{A:Around}{e:Option Value}(h:Room k A):RoomH k (A.mark e):=⟨h.dp,h.un⟩
section
variable {X:Cx} {x:Str} {e:Expr} {es:List Expr} {mas:MAs} {a:Expr} {ma:M} {tab:List (Str×Bool)} {p p2 pos:Pos}
abbrev zfJ(K:PySem.W.Frag)(mg:Str->Option Value)(x:Str):Prop:=∃C,OwnX K mg x C/\PySem.W.nsIn K mainGlobals x=some (some (.ref C))
abbrev XD(K:PySem.W.Frag)(mg:Str->Option Value)(x:Str)(tab:List (Str×Bool)):Prop:=∃W,mg x=some (.ref W)/\∀q∈tab,∃C,PySem.W.nsIn K mainGlobals q.1=some (some (.ref C))/\KX K C/\PySem.W.kitOne K (.ref C) (.ref W)=some q.2
abbrev zj5(K:PySem.W.Frag)(mg:Str->Option Value)(x:Str)(T:String)(tab:List (Str×Bool)):Prop:=mg x=none/\∀q∈tab,∃C,PySem.W.nsIn K mainGlobals q.1=some (some (.ref C))/\KX K C/\PySem.W.kitOne K (.ref C) (.type T)=some q.2
abbrev znl(K:PySem.W.Frag)(mg:Str->Option Value)(x:Str)(yes:List Str):Prop:=∃W,mg x=some (.ref W)/\∀c∈yes,∃C,PySem.W.nsIn K mainGlobals c=some (some (.ref C))/\PySem.W.exmOne K (.ref C) (.ref W)=some true
theorem ZE{np cpos:Pos}(h:zfJ X.K X.mg x)(hh:X.calm=true)(hg:Gl X x)(ha:MA X (e::es) mas)(hdb:(x==("__debug__":Str))=false:=by decide)
 (he:starEach (e::es) X.env=(false,eval e X.env)::starEach es X.env:=by rfl) (hpl:(backTo cpos (starEach es X.env)).any (·.1)=false:=by rfl):MS X (.Raise (some (.Call (.Name x np) (e::es) [] cpos)) none pos) (vL x mas):=
 let⟨_,O,hC⟩:=h;zh5 hh O hC hg ha hdb he hpl
theorem kZ(h:XD X.K X.mg x tab)(hg0:Gl X "isinstance")(hm0:X.mg "isinstance"=none)(hg:Gl X x)(ha:ME X a ma)(hd:(x==("__debug__":Str))=false:=by decide)
 (hs:starEach [a,.Name x p2] X.env=(false,eval a X.env)::starEach [.Name x p2] X.env:=by rfl) (hs2:starEach [.Name x p2] X.env=(false,eval (.Name x p2) X.env)::starEach [] X.env:=by rfl) (hpl:(backTo pos (starEach [.Name x p2] X.env)).any (·.1)=false:=by rfl):
 ME X (.Call (.Name "isinstance" p) [a,.Name x p2] [] pos) (zad tab ma):=let⟨_,hm,ht⟩:=h;zlk hg0 hm0 hg hm ht ha hd hs hs2 hpl
theorem zhA{T:String}(h:zj5 X.K X.mg x T tab)(hv:bootBuiltins x=some (.type T))(hg0:Gl X "isinstance")(hm0:X.mg "isinstance"=none)(hg:Gl X x)(ha:ME X a ma)(hn:x≠"__name__":=by decide)(hd:(x==("__debug__":Str))=false:=by decide)
 (hs:starEach [a,.Name x p2] X.env=(false,eval a X.env)::starEach [.Name x p2] X.env:=by rfl) (hs2:starEach [.Name x p2] X.env=(false,eval (.Name x p2) X.env)::starEach [] X.env:=by rfl) (hpl:(backTo pos (starEach [.Name x p2] X.env)).any (·.1)=false:=by rfl):
 ME X (.Call (.Name "isinstance" p) [a,.Name x p2] [] pos) (zad tab ma):=zjz hg0 hm0 hg h.1 hv h.2 ha hn hd hs hs2 hpl
theorem zkq{cx n:Str}{yes:List Str}{i:Nat}{body suite:List Stmt}{b₀:Stmt}{np hpos pos:Pos}{mb ms:MSt}(h:znl X.K X.mg cx yes)(hN:X.N.Nodup)(hst:X.stack=X.env::X.outer)(hfr:X.env.frame=some X.env.locals)(hg:Gl X cx)(hi:X.N[i]? =some n)(hk:X.env.scope.names.lookup n=some .local)
 (hb:∀E pn,MSs (Cx.alt X E pn) body mb) (hs:∀e,MSsH (Cx.hx X (X.A.mark (some (.ref e))) λ_ _=>False) (b₀::suite) ms) (hd:(cx==("__debug__":Str))=false:=by decide):
 MS X (.Try body [.ExceptHandler (some (.Name cx np)) (some n) (b₀::suite) hpos] [] [] pos) (zgD yes i mb ms):=let⟨_,hm,hy⟩:=h;zl1 hb hs hg hm hy hN hi hk hst hfr hd
theorem zan:bootBuiltins "ValueError"=some (.type "ValueError"):=by decide+kernel
end
end Z
namespace K02
open PySem PySem.Spec L2 Z ZX K01
open PyProof.Rows hiding St
abbrev Qn:List Str:=["thing"]
def vg:MSt:=(zg (sIf (nxT (zy (dT (zh (noX qy) (za (zf 0) zo))))) (zg (vL "NoArticles" (za (zi (.str "these are no articles")) zo)) zr) zr) zr)
def jo:List W->Sto->Res W:=fnD 1 vg
theorem Qi:jo=fnD 1 vg:=rfl
end K02
namespace ZX
open PySem PySem.Spec PySem.W L2
open PyProof.Rows hiding St
abbrev _root_.L2.Cx.blkE(X:Cx)(s:Shared)(H:Hp)(scope:Scope)(cenv:Env)(fp:List Addr)(E:Value->Shared->Prop):Cx:={X.blk s H scope cenv fp with xe:=E}
theorem Q4{h h' base base':Heap}:∀{l:List Env},h.FunFrames base l->(∀b,base.get? b=none->base'.get? b=none)->(∀b∈frs l,∀o,h.get? b=some o->h'.get? b=some o)->h'.FunFrames base' l
 | [],_,_,_=>trivial
 |env::l,⟨hk,⟨L,o,hf,hb,ho,hd⟩,hr⟩,k,q=>by have e:frs (env::l)=L::frs l:=YC hf;exact⟨hk,⟨L,o,hf,k _ hb,q _ (by rw [e];exact lC) _ ho,hd⟩,Q4 hr k λb hb=>q b (by rw [e];exact lA _ hb)⟩
section
variable {X:Cx} {pins:List (Addr×Obj)} {σ:List (Option V)} {H1 H2:Hp} {s1 s2:Shared} {e C:Addr} {a0:Value} {Q:Unit->Shared->Prop}
theorem zhC{Cc:Addr}{fl:Value}{h':Heap}{E E2:Value->Shared->Prop}(I:Inv X pins σ H1 s1)(n1:H1 C=none)(fpo:KA X pins H1 C)(nf:C∉frs X.stack){oc:Obj}(hC:s1.heap.get? C=some oc)
 (F:Flt X.prog X.w X.stack H1 H2 s1 s2 e (.ref Cc) none a0 fl) (sb:Heap.SameBut C s2.heap h') (k:∀s3,zdR X pins σ H2 e Cc s3->E2 (.ref e) s3) {A:Around} {what:String} {cenv:Env}:
 wpAny (model X.prog X.w) A (PySem.passOn what (.ref e) cenv:Sem Value) (λ_ _=>False) E2 {s2 with heap:=h'}:=by
 obtain⟨ho,hb,un,hok,B,G,kU,kT,kA⟩:=F;have no:∀b:Addr,b∉([]:List Addr):=λb=>by simp
 have bC:B.get? C=some oc:=kU C oc hC n1 nf;have n2:H2 C=none:=un.free C oc hC n1 (no C);obtain⟨gst,gnw,gfr,T,oT,ts,he,hnT,hTe,hT,hdT,h3⟩:=G;have neC:e≠C:=λz=>by rw [z,bC] at gnw;cases gnw
 have nTC:T≠C:=λz=>by rw [z,bC] at hnT;cases hnT
 have toB:∀b o,b≠C->B.get? b=some o->(hideAll B [C]).get? b=some o:=λb o n q=>hideAll_get _ q (by simpa using n)
 have unB:∀b,B.get? b=none->(hideAll B [C]).get? b=none:=λb q=>by
  cases z:(hideAll B [C]).get? b with
  |none=>rfl
  |some u=>rw [of_hideAll _ z] at q;cases q
 have fromB:∀b o,(hideAll B [C]).get? b=some o->b≠C/\B.get? b=some o:=λb o q=>⟨λz=>(by subst z;rw [hideAll_none _ lC] at q;cases q),of_hideAll _ q⟩
 have G2:Flg (hideAll B [C]) X.stack e (.ref Cc) none a0 fl h':=by refine⟨λb o q=>(sb.2 b (fromB b o q).1).trans (gst b o (fromB b o q).2),unB _ gnw,Q4 gfr unB λb hb o q=>(sb.2 b λz=>nf (z▸hb)).trans q,T,oT,ts,(sb.2 e neC).trans he,unB _ hnT,hTe,(sb.2 T nTC).trans hT,hdT,h3⟩
 unfold PySem.passOn;refine wpAny_bind (wpAny_field (s:={s2 with heap:=h'}) ((sb.2 e neC).trans he) rfl (x:=.ref T) rfl ?_);rw [if_neg (show ¬((Value.ref T==Value.none)=true) by simp)];refine wpAny_bind (zdm (s:={s2 with heap:=h'}) (fr:=cenv.frame) G2 λh4 G4 up=>wpAny_throw (k _ (.inr ⟨H1,{s1 with heap:=hideAll s1.heap [C]},a0,cenv.frame,?_,?_⟩)))
 ·exact I.turnedL (t':=s1.toks) (ch:=[C]) (λb o n q=>hideAll_get _ q n) λb hb=>by rw [yT] at hb;subst hb;exact fpo
 ·have fr1:∀b o,(hideAll s1.heap [C]).get? b=some o->b≠C/\s1.heap.get? b=some o:=λb o q=>⟨λz=>(by subst z;rw [hideAll_none _ lC] at q;cases q),of_hideAll _ q⟩
  refine zet (s:={s1 with heap:=hideAll s1.heap [C]}) (hm:=s2.heap) (s3:={s2 with heap:=h4}) ho hb G4 (λb o q n m=>toB b o (fr1 b o q).1 (kU b o (fr1 b o q).2 n m)) (λb o n q=>toB b o (λz=>n (z▸n2)) (kT b o n q)) (λb o q m=>?_) hok (λb o q mf=>?_) (λb o q n=>un.free b o (fr1 b o q).2 n (no b)) un.tups un.frzs un.tbls
  ·obtain⟨o',h1⟩:=kA b o (fr1 b o q).2 m;exact⟨o',toB b o' (fr1 b o q).1 h1⟩
  ·obtain⟨sl,q2⟩:=un.slot b o (fr1 b o q).2 (I.stkFree b mf) mf (no b);obtain⟨sl2,q3⟩:=up b _ ((sb.2 b (fr1 b o q).1).trans q2) (Inv.stkNf I b mf o (fr1 b o q).2);exact⟨sl2,q3⟩
end
section
variable {X:Cx}
theorem Kz{e:Value}{a b:Env}(h:a.frame=b.frame):noteFrame e a=noteFrame e b:=by unfold noteFrame PySem.frameOf;rw [h]
theorem zhc{pins pb:List (Addr×Obj)}{σ σb:List (Option V)}{H3 H':Hp}{s3 s':Shared}{fp:List Addr}{scope:Scope}{ce:Env}{ev Cc:Addr}{E:Value->Shared->Prop}{Qf:Value->Shared->Prop}{acc:Value}{use:Option (Value->Sem Unit)}
 (I3:Inv X pins σ H3 s3) (f3:∀b∈fp,KA X pins H3 b) (cL:ce.locals=s3.heap.objs.size) (cfr:ce.frame=X.env.frame) (hst:X.stack=X.env::X.outer) (hfr:X.env.frame=some X.env.locals)
 (F:zdR (X.blkE s3 H3 scope ce fp E) pb σb H' ev Cc s') (k:∀s'',zdR X pins σ H' ev Cc s''->X.xe (.ref ev) s''):
 notedBy (model X.prog X.w) X.A ce (λe s'=>compPost (model X.prog X.w) X.A X.xe use Qf acc s3.heap.objs.size (.error e) s') (.ref ev) s':=by
 have key:∀{H1:Hp} {s1:Shared},Inv (X.blkE s3 H3 scope ce fp E) pb σb H1 s1->Inv X pins σ H1 s1/\H1 s3.heap.objs.size=none/\∃m,s1.heap.Ns s3.heap.objs.size m:=λ{H1 s1} I6=>by
  refine⟨I3.call' (ch:=fp) I6.os I6.base I6.hok I6.bare λb hb=>⟨(f3 b hb).2.2.2.1,(f3 b hb).2.1,(f3 b hb).2.2.2.2.1,(f3 b hb).2.2.2.2.2⟩,?_,?_⟩
  ·have z:H1 ce.locals=none:=I6.free;rw [cL] at z;exact z
  ·obtain⟨m,hn,_⟩:=I6.loc;have hn:s1.heap.Ns ce.locals m:=hn;rw [cL] at hn;exact⟨m,hn⟩
 have nf:s3.heap.objs.size∉frs X.stack:=λz=>by
  rcases lu.mp (I3.stkSub _ z) with z|z
  ·exact Ln I3.lt z
  ·exact I3.nofs (lD _) z
 have fin:∀{H1:Hp} {s1 s4:Shared} {a0:Value},Inv X pins σ H1 s1->H1 s3.heap.objs.size=none->(∃m,s1.heap.Ns s3.heap.objs.size m)->Flt X.prog X.w X.stack H1 H' s1 s4 ev (.ref Cc) none a0 (rawInt X.env.locals)->compPost (model X.prog X.w) X.A X.xe use Qf acc s3.heap.objs.size (.error (.ref ev)) s4:=λ{H1 s1 s4 a0} IX n ns F4=>by
  obtain⟨m,oc,es,ep,hC,r⟩:=ns;have h4:s4.heap.get? s3.heap.objs.size=some oc:=by obtain⟨_,_,_,_,B,G,kU,_,_⟩:=F4;exact G.st _ _ (kU _ _ hC n nf)
  show ∃m,s4.heap.Ns s3.heap.objs.size m/\∀h',Heap.SameBut s3.heap.objs.size s4.heap h'->∀cenv:Env,cenv.locals=s3.heap.objs.size->wpAny (model X.prog X.w) X.A (PySem.passOn "comprehension.variables-let-go" (.ref ev) cenv:Sem Value) (λ_ _=>False) X.xe {s4 with heap:=h'};exact⟨m,⟨oc,es,ep,h4,r⟩,λh' sb cenv _=>zhC (E:=E) IX n (I3.fpOk (lD _) n) nf hC F4 sb k⟩
 unfold notedBy;rw [Kz cfr];rcases F with⟨s1,h',args,I,m,rfl⟩|⟨H1,s1,a0,fr,I,F⟩
 ·obtain⟨IX,n,ns⟩:=key I;exact zbp IX hst hfr m λs4 a0 F4=>fin IX n ns F4
 ·obtain⟨IX,n,ns⟩:=key I;exact zdg IX hst hfr F λs4 F4=>fin IX n ns F4
end
end ZX
namespace ZX
open PySem PySem.Spec PySem.W L2
open PyProof.Rows hiding St frameOf passOn
abbrev TEX:=St->Hp->VK->(Addr->Addr->Hp->Prop)->Prop
section
variable {X:Cx}
theorem zh1{scope:Scope}{ce:Env}{fp:List Addr}{s0 s:Shared}{H0 H:Hp}{pins:List (Addr×Obj)}{σ:List (Option V)}{E:Value->Shared->Prop}(I:Inv (X.blk s0 H0 scope ce fp) pins σ H s):Inv (X.blkE s0 H0 scope ce fp E) pins σ H s:=
 ⟨⟨I.ok.mod,I.ok.kind,I.ok.glob,I.ok.blt,I.ok.above,I.ok.inj,I.ok.has,I.ok.cab,I.ok.hd,I.ok.frames,I.ok.stk,I.ok.exf,I.ok.bs,I.ok.bsz,I.ok.noex,I.ok.exfs,I.ok.funs,I.ok.frf⟩,I.os,I.bare,I.base,I.loc,I.cell,I.free,I.freeC,I.pin,I.hok,I.len⟩
theorem zem{scope:Scope}{ce:Env}{fp:List Addr}{s0 s:Shared}{H0 H:Hp}{pins:List (Addr×Obj)}{σ:List (Option V)}{E:Value->Shared->Prop}(I:Inv (X.blkE s0 H0 scope ce fp E) pins σ H s):Inv (X.blk s0 H0 scope ce fp) pins σ H s:=
 ⟨⟨I.ok.mod,I.ok.kind,I.ok.glob,I.ok.blt,I.ok.above,I.ok.inj,I.ok.has,I.ok.cab,I.ok.hd,I.ok.frames,I.ok.stk,I.ok.exf,I.ok.bs,I.ok.bsz,I.ok.noex,I.ok.exfs,I.ok.funs,I.ok.frf⟩,I.os,I.bare,I.base,I.loc,I.cell,I.free,I.freeC,I.pin,I.hok,I.len⟩
def PEX(X:Cx)(s0:Shared)(H0:Hp)(scope:Scope)(ce:Env)(fp:List Addr)(elt:Expr)(tex:TEX):Prop:=
 ∀(E:Value->Shared->Prop) (K:Addr->Addr->Hp->Prop) pins s1 σ1 H1 Q,(∀pb σ' H' e Cc s',zdR (X.blkE s0 H0 scope ce fp E) pb σ' H' e Cc s'->K e Cc H'->E (.ref e) s')->Inv (X.blkE s0 H0 scope ce fp E) pins σ1 H1 s1->tex σ1 H1 Q K->
  wpAny (model X.prog X.w) X.A (eval elt ce) (EP (X.blkE s0 H0 scope ce fp E) pins σ1 Q) E s1
def zm5(wi:TI)(g:TG)(tt:TT)(tex:TEX)(vs:List Nat):TEX:=λσ H Q K=>wi σ H λJ H1=>∀D,H1 D=none->∃W:Nat->Nat->Hp->Prop,(∃m,W 0 m (upd H1 D (.lst [])))/\∀i m H,W i m H->
 (J.stop i H/\Q (.ref D) H)\/(J.go i H/\∃Nx:Hp->Prop,(∀H',Nx H'->∃m',m'<m/\W (i+1) m' H')/\∀x H',J.yld i H x H'->g x (wipe σ vs) H' λσ2 H2=>wipe σ2 vs=wipe σ vs/\tt σ2 H2 λb H3=>
   if b=true then tex σ2 H3 (λy H4=>∃acc,H4 D=some (.lst acc)/\acc.length<sizeLine/\Nx (upd H4 D (.lst (acc++ [y])))) K else Nx H3)
theorem zgS{pins:List (Addr×Obj)}{s:Shared}{σ:St}{H:Hp}{Q:VK}{elt tg iter:Expr}{ifs:List Expr}{scope:Scope}{own:List (Str×Nat)}{pos pos':Pos}{wi:TI}{g:TG}{tt:TT}{tex:TEX}{K:Addr->Addr->Hp->Prop}{use:Option (Value->Sem Unit)}{Qf:Value->Shared->Prop}
 (hc:X.calm=true) (hN:X.N.Nodup) (I:Inv X pins σ H s) (hi:PI X tg iter wi) (ok:BlkOk X.N X.env.scope scope own)
 (hg:∀(s:Shared) (H:Hp) (C:Addr) (cl:List (Str×Addr)) (fp:List Addr),PG (X.blk s H scope (compEnvC scope cl C X.env) fp) tg g) (ht:∀(s:Shared) (H:Hp) (C:Addr) (cl:List (Str×Addr)) (fp:List Addr),PTs (X.blk s H scope (compEnvC scope cl C X.env) fp) ifs tt)
 (he:∀(s:Shared) (H:Hp) (C:Addr) (cl:List (Str×Addr)) (fp:List Addr),PEX X s H scope (compEnvC scope cl C X.env) fp elt tex) (hst:X.stack=X.env::X.outer) (hfr:X.env.frame=some X.env.locals)
 (kx:∀e Cc H' s'',zdR X pins σ H' e Cc s''->K e Cc H'->X.xe (.ref e) s'') (hs:∀x,foldedSetIterable iter X.env x=pure x)
 (h:zm5 wi g tt tex (own.map (·.2)) σ H Q K)
 (hRR:∀D C s' m H',Inv X pins σ H' s'->Q (.ref D) H'->s'.heap.Ns C m->KA X pins H' C->compPost (model X.prog X.w) X.A X.xe use Qf (.ref D) C (.ok .next) s'):
 wpAny (model X.prog X.w) X.A (comprehension (.ListComp elt [⟨tg,iter,ifs,0⟩] scope pos) scope X.env pos' (newList []) false (eval iter X.env) use) Qf X.xe s:=by
 have hfree:∀y∈scope.names,y.2= .free->∃c,X.env.cells.lookup y.1=some c:=λy hy e=>by
  rcases ok.free y hy e with k|k
  ·exact I.ok.has _ (.inl k)
  ·exact I.ok.has _ (.inr k)
 refine wpAny_comprehension_free (use:=use) rfl hs (Jj hfree) ok.kind (λy hy e=>by rw [ok.uniq y hy,e])
  (thn (hi pins s σ H _ I h) λxv s1 hx=>thn hx λitv s2 h2=>?_)
 obtain⟨it,fp,tn,J,H2,e,I2,T,st2,f2,q⟩:=h2;subst e;refine wpAny_newObj_type (Xo ?_) (by show 0<=sizeLine;decide);generalize hD:s2.heap.objs.size=D;have hDn:H2 D=none:=I2.hok.fresh (yU hD);obtain⟨W,⟨m0,w0⟩,turn⟩:=q D hDn;generalize hs3:({s2 with heap:=s2.heap.push {cls:=.type "list",data:=.seq ([]:List Value).toArray}}:Shared)=s3;have I3:Inv X pins σ (upd H2 D (.lst [])) s3:=by rw [<-hs3];refine I2.laid (t':=s2.toks) (λb o e=>lj _ e) (yU hD) ⟨yx _,[],0,.nil,?_⟩;rw [<-hD];exact lz _ rfl
 have h3:s3.heap=s2.heap.push {cls:=.type "list",data:=.seq ([]:List Value).toArray}:=by rw [<-hs3]
 have sz:∀b∈fp,b<s2.heap.objs.size:=λb hb=>by obtain⟨o,e,_⟩:=T.obj _ _ st2 b hb;exact lq e
 have f3:∀b∈fp,KA X pins (upd H2 D (.lst [])) b/\b<s3.heap.objs.size:=λb hb=>by have hlt:=sz b hb;refine⟨⟨?_,(f2 b hb).2⟩,by rw [h3,lT];exact yM hlt⟩;rw [zJ (by rw [<-hD];exact lY hlt)];exact(f2 b hb).1
 have st3:tn 0 s3.heap:=T.keep _ _ _ st2 λb _ o e=>by rw [h3];exact lj _ e
 have I4:=Xl I3 ok hN f3;have pg:=hg s3 (upd H2 D (.lst [])) s3.heap.objs.size (cellsFrom (s3.heap.objs.size+1) scope.names (qE X.env.cells scope.names [])) fp;have pt:=ht s3 (upd H2 D (.lst [])) s3.heap.objs.size (cellsFrom (s3.heap.objs.size+1) scope.names (qE X.env.cells scope.names [])) fp;have pe:=he s3 (upd H2 D (.lst [])) s3.heap.objs.size (cellsFrom (s3.heap.objs.size+1) scope.names (qE X.env.cells scope.names [])) fp;show codeAny _ _ (.compStart (.ListComp elt [⟨tg,iter,ifs,0⟩] scope pos) 0 (.ref it) (.ref D) (compEnvC scope (cellsFrom (s3.heap.objs.size+1) scope.names (qE X.env.cells scope.names [])) s3.heap.objs.size X.env)) (compPost (model X.prog X.w) X.A X.xe use Qf (.ref D) s3.heap.objs.size) {s3 with heap:=pushCells (s3.heap.push {cls:=.type "dict",data:=.dict #[]}) scope.names};have nfp:∀b∈fp,(upd H2 D (.lst [])) b=none:=λb hb=>(f3 b hb).1.1
 generalize hce:compEnvC scope (cellsFrom (s3.heap.objs.size+1) scope.names (qE X.env.cells scope.names [])) s3.heap.objs.size X.env=ce at I4 pg pt pe⊢;have cL:ce.locals=s3.heap.objs.size:=by subst hce;rfl
 have cfr:ce.frame=X.env.frame:=by subst hce;rfl
 generalize hH3:upd H2 D (.lst [])=H3 at I3 I4 pg pt pe w0 nfp f3;generalize hs4:({s3 with heap:=pushCells (s3.heap.push {cls:=.type "dict",data:=.dict #[]}) scope.names}:Shared)=s4 at I4⊢;have st4:tn 0 s4.heap:=T.keep _ _ _ st3 λb _ o e=>by rw [<-hs4];exact pushCells_keeps _ _ _ _ (lj _ e)
 have stat:∀{σ':St} {H':Hp} {s':Shared},Inv (X.blk s3 H3 scope ce fp) [] σ' H' s'->(∀b∈fp,H' b=none)->∀b∈fp,KA (X.blk s3 H3 scope ce fp) [] H' b:=λ{σ' H' s'} I' hn b hb=>
  ⟨hn b hb,(I'.ok.exf b hb).1,I'.ok.exfs b hb,.inl hb,λx c e=>(I'.ok.exf b hb).2 x c e,λp hp=>absurd (show p∈([]:List (Addr×Obj))++ [] from hp) (by simp)⟩
 have loop:codeAny (model X.prog X.w) X.A (.compLoop (.ListComp elt [⟨tg,iter,ifs,0⟩] scope pos) 0 (.ref it) (.ref D) ce) (compPost (model X.prog X.w) X.A X.xe use Qf (.ref D) s3.heap.objs.size) s4:=by
  refine QJ (λn s'=>∃i H',Inv (X.blk s3 H3 scope ce fp) [] (wipe σ (own.map (·.2))) H' s'/\tn i s'.heap/\(∀b∈fp,H' b=none)/\W i n H') ?_ m0 ⟨0,H3,I4,st4,nfp,w0⟩;rintro n s5 ⟨i,H5,I5,st5,n5,w5⟩;rcases turn i n H5 w5 with⟨stop,qq⟩|⟨go,Nx,hNx,step⟩
  ·have td:=T.done (X.blk s3 H3 scope ce fp) rfl rfl rfl hc i [] s5 _ H5 (λ_ _=>False) I5 (stat I5 n5) st5 stop;refine za1 td λr s6 ⟨hr,I6⟩=>?_
   subst hr;have I7:Inv X pins σ H5 s6:=I3.call' (ch:=fp) I6.os I6.base I6.hok I6.bare λb hb=>⟨(f3 b hb).1.2.2.2.1,(f3 b hb).1.2.1,(f3 b hb).1.2.2.2.2.1,(f3 b hb).1.2.2.2.2.2⟩
   have nC:H5 s3.heap.objs.size=none:=by have z:H5 ce.locals=none:=I6.free;rw [cL] at z;exact z
   obtain⟨m,hn,_⟩:=I6.loc;have hn:s6.heap.Ns ce.locals m:=hn;rw [cL] at hn;exact hRR D s3.heap.objs.size s6 m H5 I7 qq hn (I3.fpOk (lD _) nC)
  ·have ti:=T.item (X.blk s3 H3 scope ce fp) rfl rfl rfl hc i [] s5 _ H5 (λ_ _=>False) I5 (stat I5 n5) st5 go;refine za1 ti λr s6 ⟨u,hr,h6⟩=>?_
   subst hr;refine za1 h6 λ_ s7 ⟨x,H7,I7,r7,y7,st7,n7⟩=>?_
   have I7':=I7.pinned (stat I7 n7) (T.obj _ _ st7);refine za1 (pg _ s7 _ H7 x u _ I7' r7 (step x H7 y7)) λ_ s8 ⟨σ8,H8,I8,hw8,q8⟩=>?_
   refine za1 (pt _ s8 σ8 H8 _ I8 q8) λb s9 ⟨H9,I9,q9⟩=>?_
   have fin:∀{s':Shared} {H':Hp},Inv (X.blk s3 H3 scope ce fp) ([]++K9 fp s7.heap) σ8 H' s'->Nx H'->∃m,m<n/\∃i H',Inv (X.blk s3 H3 scope ce fp) [] (wipe σ (own.map (·.2))) H' s'/\tn i s'.heap/\(∀b∈fp,H' b=none)/\W i m H':=λ{s' H'} I' nx=>by
    obtain⟨m',hm,w'⟩:=hNx H' nx;have pin':∀b∈fp,∀o,s7.heap.get? b=some o->s'.heap.get? b=some o/\H' b=none:=λb hb o e=>
     let z:=I'.pin (b,o) (lX _ (lX _ (ZV hb e)))
     ⟨z.1,z.2.1⟩
    have hl:(wipe σ (own.map (·.2))).length=σ8.length:=by rw [<-hw8,jz]
    refine⟨m',hm,i+1,H',(I'.unpinned (pins:=[])).weak hl (λj v e=>?_),T.keep _ _ _ st7 λb hb o e=>(pin' b hb o e).1,λb hb=>?_,w'⟩
    ·rw [<-hw8] at e;exact(QM e).1
    ·obtain⟨o,e,_⟩:=T.obj _ _ st7 b hb;exact(pin' b hb o e).2
   cases b with
   |false=>
    simp only [yz,if_false] at q9⊢;exact fin I9 q9
   |true=>
    simp only [if_true] at q9⊢;have c3:ce.locals=s3.heap.objs.size:=cL;refine wpAny_mono (pe (notedBy (model X.prog X.w) X.A ce λe s'=>compPost (model X.prog X.w) X.A X.xe use Qf (.ref D) s3.heap.objs.size (.error e) s') K _ s9 σ8 H9 _ (λpb σ' H' e Cc s' F kk=>zhc I3 (λb hb=>(f3 b hb).1) c3 cfr hst hfr F λs'' F'=>kx e Cc H' s'' F' kk) (zh1 I9) q9) (λz s10 ⟨yv,H10,I10,r10,acc,hD10,hz10,nx⟩=>?_) λ_ _ z=>z
    exact zfP (X:=X.blk s3 H3 scope ce fp) (zem I10) hD10 hz10 r10 λs11 I11=>fin I11 nx
 exact codeAny_compStart_list loop (T.self X.A 0 _ _ _ st4 loop)
theorem zll{elt tg iter:Expr}{ifs:List Expr}{scope:Scope}{own:List (Str×Nat)}{pos:Pos}{wi:TI}{g:TG}{tt:TT}{tex:TEX}(hc:X.calm=true)(hN:X.N.Nodup)(hi:PI X tg iter wi)(ok:BlkOk X.N X.env.scope scope own)
 (hg:∀(s:Shared) (H:Hp) (C:Addr) (cl:List (Str×Addr)) (fp:List Addr),PG (X.blk s H scope (compEnvC scope cl C X.env) fp) tg g) (ht:∀(s:Shared) (H:Hp) (C:Addr) (cl:List (Str×Addr)) (fp:List Addr),PTs (X.blk s H scope (compEnvC scope cl C X.env) fp) ifs tt)
 (he:∀(s:Shared) (H:Hp) (C:Addr) (cl:List (Str×Addr)) (fp:List Addr),PEX X s H scope (compEnvC scope cl C X.env) fp elt tex) (hst:X.stack=X.env::X.outer) (hfr:X.env.frame=some X.env.locals) (hs:∀x,foldedSetIterable iter X.env x=pure x:=by intro _;rfl):
 ∀pins s σ H Q K,Inv X pins σ H s->zm5 wi g tt tex (own.map (·.2)) σ H Q K->(∀e Cc H' s'',zdR X pins σ H' e Cc s''->K e Cc H'->X.xe (.ref e) s'')->wpAny (model X.prog X.w) X.A (eval (.ListComp elt [⟨tg,iter,ifs,0⟩] scope pos) X.env) (EP X pins σ Q) X.xe s:=by
 intro pins s σ H Q K I h kx;rw [eval_ListComp];refine zgS hc hN I hi ok hg ht he hst hfr kx hs h λD C s' m H' I' q hn f=>⟨m,hn,λh'' sb=>?_⟩
 obtain⟨f0,f1,f2,f3,f4,f5⟩:=f;exact⟨.ref D,H',I'.turned (t':=s'.toks) (λb o hb e=>(sb.2 b hb).trans e) f0 f1 f3 f4 f5,rfl,q⟩
end
end ZX
namespace Z
open PySem PySem.Spec L2 ZX
open PyProof.Rows hiding St
def lcX(g:W->DS->Option DS)(mt:MB)(me:M):List D->DS->Sto->List D->Res (List D)
 | [],_,S,acc=>.ok acc S
 |d::ds,t,S,acc=>match g (.d d) t with
  |none=>.bad
  |some t1=>match mt t1 S with
   | .ok true S1=>(match me t1 S1 with
     | .ok (.d x) S2=>if acc.length<sizeLine then lcX g mt me ds t S2 (acc++ [x]) else .bad
     | .exc x S2=>.exc x S2
     |_=>.bad)
   | .ok false S1=>lcX g mt me ds t S1 acc
   |_=>.bad
def ziE(own:List Nat)(mi:MIs)(g:W->DS->Option DS)(mt:MB)(me:M):M:=λt S=>(mi t S).bind λds S1=>(lcX g mt me ds (kJ t own) S1 []).bind λxs S2=>.ok (.d (.lst xs)) S2
def znL(X:Cx)(scope:Scope)(elt:Expr):TEX:=λσ H Q K=>∀s0 H0 C cl fp (E:Value->Shared->Prop) pins s1,(∀pb σ' H' e Cc s',zdR (X.blkE s0 H0 scope (compEnvC scope cl C X.env) fp E) pb σ' H' e Cc s'->K e Cc H'->E (.ref e) s')->Inv (X.blkE s0 H0 scope (compEnvC scope cl C X.env) fp E) pins σ H s1->
 wpAny (model X.prog X.w) X.A (eval elt (compEnvC scope cl C X.env)) (EP (X.blkE s0 H0 scope (compEnvC scope cl C X.env) fp E) pins σ Q) E s1
theorem zkB{X:Cx}{scope:Scope}{elt:Expr}(s:Shared)(H:Hp)(C:Addr)(cl:List (Str×Addr))(fp:List Addr):PEX X s H scope (compEnvC scope cl C X.env) fp elt (znL X scope elt):=λE K pins s1 σ1 H1 Q hk I h=>h s H C cl fp E pins s1 hk I
def Kx(X:Cx)(Z:ZS)(σ:St):Addr->Addr->Hp->Prop:=λe C H'=>∃x S' io' io1 S1 H1,Ext io1 S1 H1 io' S' H'/\HRel X.K Z io' S' H'/\x.fld= []/\PySem.W.nsIn X.K mainGlobals x.cls=some (some (.ref C))/\Acc X Z io1 S1 H1 σ x S'
theorem zmZ{X:Cx}{Z:ZS}{σ:St}{pins:List (Addr×Obj)}:∀e Cc H' s'',zdR X pins σ H' e Cc s''->Kx X Z σ e Cc H'->X.xe (.ref e) s'':=λe Cc H' s'' F ⟨x,S',io',io1,S1,H1,xt,hr,hf,hn,ac⟩=>ac pins io' H' _ s'' xt hr ⟨e,Cc,rfl,hf,hn,F⟩
section
variable {X:Cx}
theorem zgR{elt tg iter:Expr}{ifs:List Expr}{scope:Scope}{own:List (Str×Nat)}{mi:MIs}{g:W->DS->Option DS}{sl:List Nat}{mt:MB}{me:M}{fin:List D->Sto->Res W}{wi:TI}(hi:∀Z io S H t σ R,HRel X.K Z io S H->SRel X.K Z io S H t σ->qH X Z (λio S H=>Walks X.K Z io S H) io S H σ (mi t S) R->wi σ H R)(ok:BlkOk X.N X.env.scope scope own)
 (hg:∀(s:Shared) (H:Hp) (C:Addr) (cl:List (Str×Addr)) (fp:List Addr),MG (X.blk s H scope (compEnvC scope cl C X.env) fp) tg sl g) (hsl:∀i∈sl,i∈own.map (·.2))
 (ht:∀(s:Shared) (H:Hp) (C:Addr) (cl:List (Str×Addr)) (fp:List Addr),MTs (X.blk s H scope (compEnvC scope cl C X.env) fp) ifs mt)
 (he:∀(s:Shared) (H:Hp) (C:Addr) (cl:List (Str×Addr)) (fp:List Addr) (E:Value->Shared->Prop),ME (X.blkE s H scope (compEnvC scope cl C X.env) fp E) elt me) (hs:∀x,foldedSetIterable iter X.env x=pure x)
 (hfin:∀Z io1 S1 H1 io S H σ Q p vs xs,H1 p=none->Ext io1 S1 H1 io S H->HRel X.K (ZP Z p) io S H->¬Z p->H p=some (.lst vs)->DRels X.K H (NA (ZP Z p) io S) xs vs->qH X Z (RW X Z) io1 S1 H1 σ (fin xs S) Q->Q (.ref p) H)
 {Z:ZS} {io:Nat->Addr} {S:Sto} {H:Hp} {t:DS} {σ:St} {Q:VK} (hr:HRel X.K Z io S H) (sr:SRel X.K Z io S H t σ)
 (po:qH X Z (RW X Z) io S H σ ((mi t S).bind λds S1=>(lcX g mt me ds (kJ t (own.map (·.2))) S1 []).bind fin) Q):
 ZX.zm5 wi (gB X scope tg) (ttB X scope ifs) (znL X scope elt) (own.map (·.2)) σ H Q (Kx X Z σ):=by
 refine hi Z io S H t σ _ hr sr (qH.bind po λio1 S1 H1 ds J x1 hr1 wk p1=>?_);intro D hD;obtain⟨ys,ylen,yrel,ywalk⟩:=wk.ex;have sr1:=sr.ext hr x1
 let Pv:Nat->Hp->Prop:=λi H'=>∃io' S' acc vs,Ext io1 S1 H1 io' S' H'/\HRel X.K (ZP Z D) io' S' H'/\H' D=some (.lst vs)/\DRels X.K H' (NA (ZP Z D) io' S') acc vs/\
  SRel X.K (ZP Z D) io' S' H' (kJ t (own.map (·.2))) (wipe σ (own.map (·.2)))/\qH X Z (RW X Z) io1 S1 H1 σ ((lcX g mt me (ds.drop i) (kJ t (own.map (·.2))) S' acc).bind fin) Q/\
  ∀(j:Nat) (d:_root_.Z.D),ds[j]? =some d->∃y,ys[j]? =some y/\YRel X.K H' (NA (ZP Z D) io' S') d y
 have kz:∀a xs,H1 a=some (.lst xs)->NA Z io1 S1 a->(upd H1 D (.lst [])) a=some (.lst xs)/\NA (ZP Z D) io1 S1 a:=λa xs h n=>⟨by rw [zJ (zu h hD)];exact h,n.1,λz=>z.elim n.2 (zu h hD)⟩
 have kn:∀a o,H1 a=some o->Fx o->(upd H1 D (.lst [])) a=some o:=λa o h _=>by rw [zJ (zu h hD)];exact h
 have start:Pv 0 (upd H1 D (.lst [])):=by
  refine⟨io1,S1,[],[],Ext.new hD,hr1.inZ hD,xT,.nil,?_,by simpa using p1,λj d e=>?_⟩
  ·have:=(sr1.inZ hD).wipe (own.map (·.2));refine⟨this.len,λi w e=>?_⟩;obtain⟨v,h1,h2⟩:=this.get i w e;refine⟨v,h1,?_⟩;cases h2 with
   |d q=>exact .d (q.mono kn λa xs h n=>⟨by rw [zJ (zu h hD)];exact h,n⟩)
   |ref h=>exact .ref h
   |fz h q=>exact .fz (h.keep kn) (q.mono kn λa xs h n=>⟨by rw [zJ (zu h hD)];exact h,n⟩)
   |exn h q=>exact .exn h (kn _ _ q trivial)
   |fk hn h q=>exact .fk hn (kn _ _ h trivial) (q.mono kn λa xs h n=>⟨by rw [zJ (zu h hD)];exact h,n⟩)
   |tl hn h q1 q2=>exact .tl hn (SqT.keepT kn h) (q1.mono kn λa xs h n=>⟨by rw [zJ (zu h hD)];exact h,n⟩) (q2.mono kn λa xs h n=>⟨by rw [zJ (zu h hD)];exact h,n⟩)
  ·obtain⟨y,e1,r⟩:=yrel j d e;exact⟨y,e1,r.mono kn kz⟩
 refine⟨λi m H'=>m=ds.length-i/\i<=ds.length/\Pv i H',⟨ds.length,(YX _).symm,yx _,start⟩,?_⟩;rintro i m H' ⟨rfl,hil,io',S',acc,vs,x2,hr2,hD2,qa,s2,p2,yr2⟩;have keep:∀a o,H1 a=some o->N0 io1 S1 a->H' a=some o:=λa o h n=>(x2.keep a o h n).1
 obtain⟨wgo,wstop⟩:=ywalk H' keep;by_cases hlt:i<ds.length
 ·obtain⟨d,hd⟩:∃d,ds[i]? =some d:=⟨ds[i],by simp [hlt]⟩;have edrop:ds.drop i=d::ds.drop (i+1):=by rw [yR hlt];congr 1;have:=(lI.mp hd).2;exact this
  obtain⟨y,ey,ry⟩:=yr2 i d hd;obtain⟨go,yl⟩:=wgo i y ey;refine .inr ⟨go,Pv (i+1),λH3 p3=>⟨ds.length-(i+1),by omega,rfl,hlt,p3⟩,λx H3 hy s0 H0 C cl fp=>?_⟩;obtain⟨x3,hr3,wr3,kp3⟩:=zfu (Z:=Z) (io:=io1) (S:=S1) (H:=H1) hr2 ry (yl x H3 hy);rw [edrop] at p2;unfold lcX at p2;cases hgd:g (.d d) (kJ t (own.map (·.2))) with
  |none=>rw [hgd] at p2;exact p2.elim
  |some t1=>
   rw [hgd] at p2;dsimp only at p2;have s3:=s2.ext hr2 x3;refine(hg s0 H0 C cl fp).run (ZP Z D) io' S' H3 _ _ (.d d) x t1 _ hr3 s3 wr3 hgd λσ1 s4 k4 l4=>?_
   refine⟨zbv (λj hj=>k4 j λz=>hj (hsl j z)) l4,λs5 H5 C5 cl5 fp5 pins5 s6 I6=>?_⟩;have hD3:H3 D=some (.lst vs):=kp3 _ _ hD2;have qa3:=qa.ext hr2 x3;have yr3:∀(j:Nat) (d:_root_.Z.D),ds[j]? =some d->∃y,ys[j]? =some y/\YRel X.K H3 (NA (ZP Z D) io' S') d y:=λj d e=>let⟨y,e1,r⟩:=yr2 j d e;⟨y,e1,r.mono (x3.k1 hr2) x3.k2⟩
   have s3w:=s3;refine(ht s5 H5 C5 cl5 fp5).run (ZP Z D) io' S' H3 t1 σ1 _ hr3 s4 ?_ pins5 s6 I6;cases hmt:mt t1 S' with
   |bad=>rw [hmt] at p2;exact p2.elim
   |exc xx SS=>rw [hmt] at p2;exact p2.elim
   |ok b S4=>
    rw [hmt] at p2;intro io4 H4 bv x4 hr4 eb;subst eb;have s5':=s4.ext hr3 x4;have hD4:H4 D=some (.lst vs):=(x4.keep D _ hD3 (hr3.zc D (.inr rfl))).1;have qa4:=qa3.ext hr3 x4;have yr4:∀(j:Nat) (d:_root_.Z.D),ds[j]? =some d->∃y,ys[j]? =some y/\YRel X.K H4 (NA (ZP Z D) io4 S4) d y:=λj d e=>let⟨y,e1,r⟩:=yr3 j d e;⟨y,e1,r.mono (x4.k1 hr3) x4.k2⟩
    have w4:=s3w.ext hr3 x4;cases b with
    |false=>
     rw [if_neg lE];exact⟨io4,S4,acc,vs,(x2.trans x3).trans x4,hr4,hD4,qa4,w4,p2,yr4⟩
    |true=>
     rw [if_pos rfl];intro s7 H7 C7 cl7 fp7 E7 pins7 s8 hk I8;refine(he s7 H7 C7 cl7 fp7 E7).run (ZP Z D) io4 S4 H4 t1 σ1 _ hr4 s5' ?_ pins7 s8 I8;dsimp only at p2;cases hme:me t1 S4 with
     |bad=>rw [hme] at p2;exact p2.elim
     |exc xx SS=>
      rw [hme] at p2;intro pb ioe He u se xe hre F;obtain⟨e,C,rfl,hf,hn,FL⟩:=F;exact hk pb σ1 He e C se FL ⟨xx,SS,ioe,io1,S1,H1,((x2.trans x3).trans x4).trans xe,hre.weakZ,hf,hn,p2⟩
     |ok w S5=>
      rw [hme] at p2;cases w with
      |ref n=>exact p2.elim
      |fz n=>exact p2.elim
      |exn n=>exact p2.elim
      |fk n _=>exact p2.elim
      |tl _ _ _=>exact p2.elim
      |d xd=>
       dsimp only at p2;intro io5 H5 v5 x5 hr5 rw5;have hD5:H5 D=some (.lst vs):=(x5.keep D _ hD4 (hr4.zc D (.inr rfl))).1;by_cases hz:acc.length<sizeLine
       ·rw [if_pos hz] at p2;have qa5:=qa4.ext hr4 x5;have lv:acc.length=vs.length:=qa5.length;have hzd:ZP Z D D:=.inr rfl;cases rw5 with
        |d r5=>
         refine⟨vs,hD5,by rw [<-lv];exact hz,io5,S5,acc++ [xd],vs++ [v5],?_,hr5.outP hD5 hzd,xT,?_,?_,p2,λj d e=>?_⟩
         ·have xx:=((x2.trans x3).trans x4).trans x5;refine⟨xx.len,xx.adr,λa o h n=>?_⟩;have:=xx.keep a o h n;refine⟨?_,this.2⟩;rw [zJ (zu h hD)];exact this.1
         ·exact(qa5.append (.cons r5 .nil)).outP hD5 hzd
         ·exact(w4.ext hr4 x5).outP hD5 hzd
         ·obtain⟨y,e1,r⟩:=yr4 j d e;refine⟨y,e1,?_⟩;have r':=r.mono (x5.k1 hr4) (x5.k2 (Z:=ZP Z D));cases r' with
          |one r9=>exact .one (r9.outP hD5 hzd)
          |two r9 s9=>exact .two (r9.outP hD5 hzd) (s9.outP hD5 hzd)
       ·rw [if_neg hz] at p2;exact p2.elim
 ·have e:i=ds.length:=by omega
  subst e;refine .inl ⟨by rw [<-ylen];exact wstop,?_⟩;rw [yS] at p2;exact hfin Z io1 S1 H1 io' S' H' σ Q D vs acc hD x2 hr2 (hr1.freshZ hD) hD2 qa p2
theorem ziB{elt tg iter:Expr}{ifs:List Expr}{scope:Scope}{own:List (Str×Nat)}{pos:Pos}{mi:MIs}{g:W->DS->Option DS}{sl:List Nat}{mt:MB}{me:M}(hc:X.calm=true)(hN:X.N.Nodup)(hst:X.stack=X.env::X.outer)(hfr:X.env.frame=some X.env.locals)(hi:MI X tg iter mi)(ok:BlkOk X.N X.env.scope scope own)
 (hg:∀(s:Shared) (H:Hp) (C:Addr) (cl:List (Str×Addr)) (fp:List Addr),MG (X.blk s H scope (compEnvC scope cl C X.env) fp) tg sl g) (hsl:∀i∈sl,i∈own.map (·.2))
 (ht:∀(s:Shared) (H:Hp) (C:Addr) (cl:List (Str×Addr)) (fp:List Addr),MTs (X.blk s H scope (compEnvC scope cl C X.env) fp) ifs mt)
 (he:∀(s:Shared) (H:Hp) (C:Addr) (cl:List (Str×Addr)) (fp:List Addr) (E:Value->Shared->Prop),ME (X.blkE s H scope (compEnvC scope cl C X.env) fp E) elt me) (hs:∀x,foldedSetIterable iter X.env x=pure x:=by intro _;rfl):
 ME X (.ListComp elt [⟨tg,iter,ifs,0⟩] scope pos) (ziE (own.map (·.2)) mi g mt me):=
 ⟨λZ io S H t σ Q hr sr po pins s I=>zll hc hN zmC ok zgL zdv zkB hst hfr hs pins s σ H Q (Kx X Z σ) I (zgR hi.run ok hg hsl ht he hs (fin:=λxs S2=>.ok (.d (.lst xs)) S2) zdN hr sr po) zmZ⟩
end
end Z
namespace ZZ
open PySem PySem.Spec PyProof.Rows
def SS(h:Heap)(it l:Addr)(items:Array Value)(k:Nat):Prop:=(h.IsListIter it l k/\h.IsList l items)\/(IsTupIter h it l k/\IsTup h l items)
section
variable {prog:Program} {w:World} {A:Around} {E:Value->Shared->Prop} {s:Shared} {it l:Addr} {items:Array Value} {k:Nat}
theorem SS.at{h h':Heap}(q:SS h it l items k)(k1:∀o,h.get? it=some o->h'.get? it=some o)(k2:∀o,h.get? l=some o->h'.get? l=some o):SS h' it l items k:=by
 rcases q with⟨⟨o,a1,a2⟩,⟨p,c1,c2⟩⟩|⟨⟨o,a1,a2⟩,⟨p,c1,c2⟩⟩
 ·exact .inl ⟨⟨o,k1 o a1,a2⟩,⟨p,k2 p c1,c2⟩⟩
 ·exact .inr ⟨⟨o,k1 o a1,a2⟩,⟨p,k2 p c1,c2⟩⟩
theorem SS.obj{h:Heap}(q:SS h it l items k):∃o,h.get? it=some o/\∀v,o.data≠ .cell v:=by rcases q with⟨⟨o,a1,a2,d⟩,_⟩|⟨⟨o,a1,a2,d⟩,_⟩ <;> exact⟨o,a1,λv z=>by rw [d] at z;cases z⟩
end
section
variable {prog:Program} {w:World} {A:Around} {E:Value->Shared->Prop} {s:Shared} {z TI TO i1 i2 l1 l2:Addr} {k1 k2:Nat} {xs ys:Array Value} {a b:Value}
end
section
variable {prog:Program} {w:World} {A:Around} {E:Value->Shared->Prop} {s:Shared}
end
end ZZ
namespace L2
open PySem PySem.Spec PyProof.Rows ZZ
end L2
namespace Z
open PySem PySem.Spec L2
open PyProof.Rows hiding St
section
variable {X:Cx} {K:PySem.W.Frag} {Z:ZS} {io:Nat->Addr} {S:Sto} {H:Hp}
end
section
variable {X:Cx}
end
section
variable {X:Cx} {pos:Pos}
end
section
variable {X:Cx} {o i:Expr} {mo mi:M} {pos:Pos}
end
section
variable {prog:Program} {w:World} {A:Around} {E:Value->Shared->Prop} {s:Shared} {a:Addr} {R:List Str->Value->Prop} {D:List (Str×List Str)} {k:Str} {tk:Tok}
end
section
variable {X:Cx} {e:Expr} {me:M} {x:Str} {p pos:Pos} {D:List (Str×List Str)}
end
section
variable {X:Cx} {pos:Pos}
end
section
variable {X:Cx}
end
end Z
namespace ZN
open PySem PySem.Spec PyProof.Rows ZS1
def Pl(t:SetTable):Prop:=t.plain=false\/(t.plain=true/\ZB.zc9 t.place.toList/\t.dummies= #[])
theorem Pl.standIn(t:SetTable)(n:Nat):Pl (t.standIn n):=.inl rfl
theorem Pl.orIn{t:SetTable}(h:Pl t)(n:Nat):Pl (t.orStandIn n):=by
 unfold SetTable.orStandIn;split
 ·exact h
 ·exact .standIn _ _
theorem zgY{t:SetTable}{j:Nat}(hr:ZB.zc9 t.place.toList)(h:t.slot j= .empty):j∉t.place.toList:=λhin=>by
 obtain⟨h1,h2,h3⟩:=ZB.zay (xs:=t.place) (j:=j) hr;obtain⟨k,hk,e⟩:=List.getElem_of_mem hin;have pw:=LG.mp hr;have eb:SetTable.below t.place j=k:=by
  rcases Nat.lt_trichotomy (SetTable.below t.place j) k with q|q|q
  ·have hb:SetTable.below t.place j<t.place.toList.length:=by omega
   have:=h3 (t.place.toList[SetTable.below t.place j]) (LI.mpr ⟨0,by omega,by simp⟩);have:=pw _ k hb hk q;omega
  ·exact q
  ·have:=h2 (t.place.toList[k]) (LH.mpr ⟨k,by omega,rfl⟩);omega
 unfold SetTable.slot at h;dsimp only at h;have e2:t.place[SetTable.below t.place j]? =some j:=by rw [eb,<-yA,yi hk,e]
 rw [e2] at h;simp at h
theorem has_none(j:Nat):SetTable.has #[] j=false:=by simp [SetTable.has]
theorem VB{t:SetTable}(hr:ZB.zc9 t.place.toList)(hd:t.dummies= #[]){f:Nat->Int}{h:Int}:∀(fuel:Nat) (p:SetTable.Probe) (j:Nat) (d:Option Nat),p.dummy=none->SetTable.probe.go t f h fuel p=some (.empty j d)->d=none/\j∉t.place.toList
 |0,p,j,d,_,e=>by cases e
 |fuel+1,p,j,d,hp,e=>by
  have adv:(t.advance p).dummy=none:=by unfold SetTable.advance;split <;> exact hp
  unfold SetTable.probe.go at e;cases q:t.slot p.j with
  |empty=>
   rw [q] at e;cases e;exact⟨hp,zgY hr q⟩
  |dummy=>
   unfold SetTable.slot at q;dsimp only at q;rw [hd,has_none] at q;split at q
   ·cases q
   ·cases q
  |live i=>
   rw [q] at e;dsimp only at e;split at e
   ·cases e
   ·exact VB hr hd fuel _ j d adv e
theorem zfA{t:SetTable}(k:Pl t)(es:Array (Int×Value))(h:Int)(x:Value):Pl (layNew t es h x).2.1:=by
 unfold layNew;split
 ·rename_i slot wasDummy q;refine Pl.orIn ?_ _;rcases k with k|⟨k,hr,hd⟩
  ·exact .inl k
  ·refine .inr ⟨k,?_,?_⟩
   ·unfold SetTable.freeSlot at q;split at q
    ·rename_i j d hp;obtain⟨rfl,hj⟩:=VB hr hd _ _ _ _ rfl hp;cases q;obtain⟨h1,h2,h3⟩:=ZB.zay (xs:=t.place) (j:=j) hr;show ZB.zc9 (SetTable.insertAt t.place (SetTable.below t.place j) j).toList;rw [ZB.VZ _ _ _ h1];exact ZB.zcn hr h2 h3 hj
    ·cases q
   ·show(if SetTable.has t.dummies slot=true then SetTable.eraseAt t.dummies (SetTable.below t.dummies slot) else t.dummies)= #[];rw [hd,has_none];rfl
 ·exact .standIn _ _
theorem zd0{α:Type}(n:Nat)(f:Nat->Option α):ZB.zc9 (((List.range n).filterMap λj=>(f j).map (j, ·)).map (·.1)):=by
 have e:((List.range n).filterMap λj=>(f j).map (j, ·)).map (·.1)=(List.range n).filter λj=>(f j).isSome:=by
  induction (List.range n) with
  |nil=>rfl
  |cons a r ih=>
   cases q:f a with
   |none=>simp [q,ih]
   |some y=>simp [q,ih]
 rw [e];exact List.Pairwise.filter _ YZ
theorem zhq{t:SetTable}(k:Pl t)(es:Array (Int×Value))(n:Nat):Pl (relayAll t es n).2.1:=by
 unfold relayAll;split
 ·rename_i t' o q;dsimp only;split
  ·unfold SetTable.relaid SetTable.laid at q;cases q2:SetTable.layClean (SetTable.sizeAbove n-1) (es.map (·.1)) with
   |none=>rw [q2] at q;cases q
   |some ow=>
    rw [q2] at q;cases q;rcases k with k|⟨k,_,_⟩
    ·exact .inl k
    ·refine .inr ⟨k,?_,rfl⟩;show ZB.zc9 (List.toArray _).toList;exact zd0 _ _
  ·exact .standIn _ _
 ·exact .standIn _ _
section
variable {prog:Program} {w:World}
abbrev iK(prog:Program)(w:World):PySem.KeyKind prog w Int:=PySem.intKind prog w
abbrev EI(prog:Program)(w:World)(e:Int×Value)(k:Int):Prop:=(iK prog w).is k e.2=true/\e.1=(iK prog w).hash k
structure SetN (prog:Program) (w:World) (h:Heap) (a:Addr) (ks:List Int):Prop where
 ex:∃o es ep t ls,h.get? a=some o/\o.ExactSet/\o.data= .set es ep t/\Paired (EI prog w) es.toList ls/\ls.Perm ks/\t.fits es.size=true/\t.led= !byT w/\Pl t
 nd:ks.Nodup
 few:ks.length<scanBound
theorem zfy{k:Int}{v:Value}(h:(iK prog w).is k v=true):∃t,v= .int k t:=by
 cases v <;> simp [PySem.intKind,Value.isInt] at h
 subst h;exact⟨_,rfl⟩
theorem J7{l:List (Int×Value)}{ls:List Int}(p:Paired (EI prog w) l ls):ElemsOf (iK prog w) l:=λe he=>by obtain⟨k,_,h1,h2⟩:=ZQ p e he;refine⟨⟨k,h1,h2⟩,?_⟩;obtain⟨t,q⟩:=zfy h1;rw [q];rfl
variable {A:Around} {E:Value->Shared->Prop} {s:Shared}
theorem QQ{g:Bool->Sem Unit}(hg:∀(b:Bool) (s1:Shared) (Q':Unit->Shared->Prop),Q' () s1->wpAny (model prog w) A (g b) Q' E s1){a:Addr}{o:Obj}{es:Array (Int×Value)}{ep:Nat}{t:SetTable}
 (ho:s.heap.get? a=some o) (hex:o.ExactSet) (hd:o.data= .set es ep t) {es1:Array (Int×Value)} {t2:SetTable} {ls1 ks1:List Int}
 (p1:Paired (EI prog w) es1.toList ls1) (pm:ls1.Perm ks1) (nd:ks1.Nodup) (few:ks1.length<scanBound)
 (hf:t2.fits es1.size=true) (hl:t2.led= !byT w) (hpl:Pl t2) {wd:Bool} {R:Option Bool->Shared->Prop}
 (h:∀h',Heap.SameBut a s.heap h'->SetN prog w h' a ks1->R (some true) {s with heap:=h'}):
 wpAny (model prog w) A (do
  storeSet a es1 t2
  if (!wd&&t2.tooFull)=true then do
   g (relayAll t2 es1 (SetTable.grown es1.size)).2.2
   storeSet a (relayAll t2 es1 (SetTable.grown es1.size)).1 (relayAll t2 es1 (SetTable.grown es1.size)).2.1
   pure (some true)
  else pure (some true)) R E s:=by
 have zlA:es1.size=ls1.length:=by rw [<-lR];exact y3 p1
 have small:es1.size<scanBound:=by rw [zlA,pm.length_eq];exact few
 have mk:∀{hp:Heap} {ob:Obj} {esx:Array (Int×Value)} {epx:Nat} {tx:SetTable},hp.get? a=some ob->ob.ExactSet->ob.data= .set esx epx tx->∀{es':Array (Int×Value)} {t':SetTable} {ls':List Int},
  Paired (EI prog w) es'.toList ls'->ls'.Perm ks1->t'.fits es'.size=true->t'.led= !byT w->Pl t'->
  (hp.update a (Obj.putSet es' t')).get? a=some {ob with data:=.set es' (epx+1) t'}/\SetN prog w (hp.update a (Obj.putSet es' t')) a ks1:=λ{hp ob esx epx tx} h1 h2 h3 {es' t' ls'} q1 q2 q3 q4 q5=>by
  have z:(hp.update a (Obj.putSet es' t')).get? a=some {ob with data:=.set es' (epx+1) t'}:=by have y:=yg (Obj.putSet es' t') h1 (by rw [putSet_of es' t' h3];rfl);rw [putSet_of es' t' h3] at y;exact y
  exact⟨z,⟨_,es',epx+1,t',ls',z,h2,rfl,q1,q2,q3,q4,q5⟩,nd,few⟩
 refine wpAny_bind (wpAny_storeSet_of ho hd ?_ (fits_of_scanBound small));obtain⟨ho1,S1⟩:=mk ho hex hd p1 pm hf hl hpl;have sb1:=yf s.heap a (Obj.putSet es1 t2);by_cases hc:(!wd&&t2.tooFull)=true
 ·rw [if_pos hc];have rp:=relayAll_perm t2 es1 (SetTable.grown es1.size);have rf:=relayAll_fits t2 es1 (SetTable.grown es1.size);obtain⟨rl,_⟩:=za3 t2 es1 (SetTable.grown es1.size);obtain⟨ls2,p2,pp⟩:=Z4 rp.symm p1;have sz2:(relayAll t2 es1 (SetTable.grown es1.size)).1.size=es1.size:=by rw [<-lR,rp.length_eq,lR]
  refine wpAny_bind (hg _ _ _ ?_);refine wpAny_bind (wpAny_storeSet_of ho1 rfl ?_ (fits_of_scanBound (by rw [sz2];exact small)));obtain⟨_,S2⟩:=mk ho1 hex rfl p2 (pp.symm.trans pm) rf (rl.trans hl) (zhq hpl _ _);exact wpAny_pure (h _ (sb1.trans (yf _ a _)) S2)
 ·rw [if_neg hc];exact wpAny_pure (h _ sb1 S1)
theorem add_int{a:Addr}{ks:List Int}{k:Int}{tk:Tok}{Q:Bool->Shared->Prop}(hS:SetN prog w s.heap a ks)(room:ks.length+1<scanBound)
 (h:∀h' b,Heap.SameBut a s.heap h'->SetN prog w h' a (if k∈ks then ks else ks++ [k])->Q b {s with heap:=h'}):
 wpAny (model prog w) A (setAddHashed a (.int k tk) ((iK prog w).hash k)) Q E s:=by
 obtain⟨⟨o,es,ep,t,ls,ho,hex,hd,pr,pm,hf,hl,hpl⟩,nd,few⟩:=id hS;have hel:=J7 pr;have hk:(iK prog w).is k (.int k tk)=true:=intKind_is prog w k tk;have len:es.size=ls.length:=by rw [<-lR];exact y3 pr
 have small:es.size<scanBound:=by rw [len,pm.length_eq];exact few
 unfold setAddHashed setAddHashedIn;refine wpAny_holding (wpAny_bind (wpAny_setState_of ho hd hf ?_));dsimp only;rw [byScan_of (knd:=iK prog w) rfl small hel];simp only [↓reduceIte];unfold setAddByScan;refine wpAny_bind (wpAny_bind (wpAny_rule (wpAny_bind (wpAny_setScan_of hk ho hd hf hel ?_))));cases hr:List.findIdx? (λe=>(iK prog w).is k e.2) es.toList with
 |some j=>
  dsimp only;obtain⟨hj,hpj,_⟩:=LU.mp hr;have inl:k∈ks:=by obtain⟨k',hk',h1,_⟩:=ZQ pr _ (L9 hj);rw [(iK prog w).inj _ k k' hpj h1];exact pm.mem_iff.mp hk'
  have e:s={s with heap:=s.heap}:=by cases s;rfl
  have z:=h s.heap false (YO a s.heap) (by rw [if_pos inl];exact hS);refine wpAny_pure (wpAny_pure ?_);rw [e];exact z
 |none=>
  dsimp only;have out:k∉ks:=λhin=>by obtain⟨e,he,h1,_⟩:=Xt pr k (pm.mem_iff.mpr hin);have z:=Yt.mp hr e he;rw [h1] at z;cases z
  have lp:=layNew_perm t es ((iK prog w).hash k) (.int k tk);have lf:=layNew_fits t es ((iK prog w).hash k) (.int k tk);have ll:=VR t es ((iK prog w).hash k) (.int k tk);have lpl:=zfA hpl es ((iK prog w).hash k) (.int k tk);generalize hL:layNew t es ((iK prog w).hash k) (.int k tk)=L at lp lf ll lpl⊢;obtain⟨es1,t1,wd,gave⟩:=L;dsimp only at lp lf ll lpl⊢;rw [Yx] at lp;obtain⟨ls1,p1,pp⟩:=Z4 lp.symm (Jf pr (.cons ⟨hk,rfl⟩ .nil):Paired (EI prog w) (es.toList++ [((iK prog w).hash k,Value.int k tk)]) (ls++ [k]));have pm1:ls1.Perm (ks++ [k]):=pp.symm.trans (pm.append_right _);have nd1:(ks++ [k]).Nodup:=by rw [L6];exact⟨nd,Lb.mpr ⟨by simp,Yr⟩,λx hx y hy=>by rw [yT.mp hy];exact λz=>out (z▸hx)⟩
  have few1:(ks++ [k]).length<scanBound:=by rw [lH];exact room
  have hend:∀h',Heap.SameBut a s.heap h'->SetN prog w h' a (ks++ [k])->Q true {s with heap:=h'}:=λh' sb S'=>h h' true sb (by rw [if_neg out];exact S')
  have hgw:∀(b:Bool) (s1:Shared) (Q':Unit->Shared->Prop),Q' () s1->wpAny (model prog w) A (match b with|true=>rule "set.scan.the-table-gave-way"|false=>pure ()) Q' E s1:=
   λb s1 Q' hq=>by cases b;exact wpAny_pure hq;exact wpAny_rule hq
  refine wpAny_bind (hgw _ _ _ ?_);by_cases ht:t1.plain=true
  ·rw [if_pos ht];refine wpAny_bind ?_;rw [hashByValue_scannable 8 (show(Value.int k tk).scannable=true from rfl)];refine wpAny_pure ?_;exact QQ hgw ho hex hd p1 pm1 nd1 few1 (t2:=t1) lf (ll.trans hl) lpl λh' sb S'=>wpAny_pure (hend h' sb S')
  ·rw [if_neg ht];refine wpAny_bind (wpAny_pure ?_);exact QQ hgw ho hex hd p1 pm1 nd1 few1 lf (ll.trans hl) lpl λh' sb S'=>wpAny_pure (hend h' sb S')
end
end ZN
namespace ZN
open PySem PySem.Spec PyProof.Rows
open ZS1 hiding stepT xJ zba zbd zdl QQ J7
section
variable {prog:Program} {w:World} {A:Around} {E:Value->Shared->Prop} {s:Shared} {R:Result->Shared->Prop}
end
end ZN
namespace ZN
open PySem PySem.Spec PyProof.Rows
section
variable {prog:Program} {w:World} {A:Around} {E:Value->Shared->Prop} {s:Shared}
end
end ZN
namespace Z
open PySem PySem.Spec L2
open PyProof.Rows hiding St
section
variable {X:Cx}
end
end Z
namespace ZL
open PySem PySem.Spec PySem.W L2
open PyProof.Rows hiding St
section
variable {prog:Program} {w:World} {A:Around} {E:Value->Shared->Prop} {s:Shared}
end
section
variable {X:Cx} {pins:List (Addr×Obj)} {σ:St} {H H':Hp} {s:Shared} {h':Heap}
theorem Inv.grow{t':Nat}{e:Addr}{ps more:Array Value}(I:Inv X pins σ H s)(he:H e=some (.tbl ps))(he':H' e=some (.tbl (ps++more)))(k:∀b u,b≠e->s.heap.get? b=some u->h'.get? b=some u)(te:∃u,h'.get? e=some u)(old:∀b o,b≠e->H b=some o->H' b=some o)
 (new:∀b u,s.heap.get? b=some u->H b=none->H' b=none) (nw:∀b o,H' b=some o->(b=e\/H b=none)->kE X.prog X.w H' h' b o):Inv X pins σ H' {s with heap:=h',toks:=t'}:=by
 have ne:∀b o,H b=some o->(∀ψ,o≠ .tbl ψ)->b≠e:=λb o q n z=>by rw [z,he] at q;cases q;exact n _ rfl
 have n0:∀b,H b=none->b≠e:=λb q z=>by rw [z,he] at q;cases q
 refine I.un ⟨λb u q n _ _=>k b u (n0 b n) q,λb u q n _ _=>⟨u.slots,k b u (n0 b n) q⟩,λb u q n _=>new b u q n,λb u q _=>?_,λb xs q=>old b _ (ne b _ q λ_ z=>nomatch z) q,λb u xs q=>old b _ (ne b _ q λ_ z=>nomatch z) q,
  λb qs q=>?_⟩ λb o q=>?_
 ·by_cases hb:b=e
  ·subst hb;exact te
  ·exact⟨u,k b u hb q⟩
 ·by_cases hb:b=e
  ·subst hb;rw [he] at q;cases q;exact⟨more,he'⟩
  ·exact⟨#[],by rw [old b _ hb q];simp⟩
 ·by_cases hbe:b=e
  ·exact nw b o q (.inl hbe)
  ·cases hb:H b with
   |none=>exact nw b o q (.inr hb)
   |some u=>
    have z:=old b u hbe hb;rw [q] at z;cases z;refine(I.hok b _ hb).stay (λc v hc q=>k c v ?_ q) (λc q=>old c _ (ne c _ q λ_ z=>nomatch z) q) λc xs q=>old c _ (ne c _ q λ_ z=>nomatch z) q
    rcases hc with rfl|hc
    ·exact hbe
    ·exact ne c _ hc λ_ z=>nomatch z
def zot(base:Heap)(mg:Str->Option Value):Prop:=∃bm o,mg "__builtins__"=some (.ref bm)/\bm≠builtinsNs/\base.get? bm=some o/\o.cls= .type "module"/\o.dict=some builtinsNs/\o.data= .plain
variable {cc P:Addr} {params:Arguments} {body:Expr} {scope:Scope} {lpos:Pos} {qual:Str} {E:Value->Shared->Prop} {Q:Value->Shared->Prop}
end
end ZL
namespace ZL
variable {α β:Type}
end ZL
namespace SK
open PySem PySem.W PySem.Calls PyProof.Rows
section
variable {prog:Program} {w:World} {A:Around} {E:Value->Shared->Prop} {s:Shared} {h₀:Heap} {L l:Addr} {m:Str->Option Value} {news:List (Addr×Obj)} {vs:List Value} {Q:Value->Shared->Prop} {kz:List Int}
end
open ZL
end SK
namespace ZL
open PySem PySem.Spec PySem.W L2
open PyProof.Rows hiding St
section
variable {X:Cx} {pins:List (Addr×Obj)} {σ:St} {H H':Hp} {s:Shared} {h':Heap}
variable {cc P:Addr} {params:Arguments} {body:Expr} {scope:Scope} {lpos:Pos} {qual:Str} {E:Value->Shared->Prop} {Q:Value->Shared->Prop}
end
end ZL
namespace ZC
open PySem PySem.Spec L2
open PyProof.Rows hiding St
abbrev zmO(w:World):Obj:={cls:=.type "set",dict:=none,data:=.set #[] 0 (.fresh 0 0 (!ZS1.byT w))}
structure SK (prog:Program) (w:World) where
 α:Type
 val:α->V
 ho:Addr->List α->HO
 step:List α->α->List α
 fresh:∀(H:Hp) (h:Heap) (a:Addr),h.get? a=some (zmO w)->kE prog w H h a (ho a [])
 ext:∀a ks,∃φ,ho a ks= .ext φ
 add:∀(A:Around) (E:Value->Shared->Prop) (s:Shared) (H:Hp) (a:Addr) (ks:List α) (k:α) (v:Value) (Q:Value->Shared->Prop),kE prog w H s.heap a (ho a ks)->RelV (val k) v->ks.length+1<scanBound->
  (∀h' tk,Heap.SameBut a s.heap h'->(∀H',kE prog w H' h' a (ho a (step ks k)))->Q .none {s with heap:=h',toks:=tk})->wpAny (model prog w) A (call (.builtin "set.add") [.ref a,v]) Q E s
section
variable {X:Cx}
end
end ZC
namespace Z
open PySem PySem.Spec L2
open PyProof.Rows hiding St
section
variable {K:PySem.W.Frag} {Z:ZS} {io:Nat->Addr} {S:Sto} {H:Hp}
end
section
variable {X:Cx}
end
end Z
namespace Z
open PySem PySem.Spec PySem.W L2 ZL
open PyProof.Rows hiding St
section
variable {K:PySem.W.Frag} {H:Hp} {na:Addr->Prop}
end
section
variable {X:Cx}
structure LamCx (X:Cx):Prop where
 code:∃f,FC X.K f X.env.code/\PySem.W.nsIn X.K mainGlobals ziz=some (some (.ref f))
 blt:zot X.base X.mg
theorem LamCx.tbl{P:Addr}(L:LamCx X)(h:TbK X.K P):∃cc,X.env.code= .ref cc/\PySem.W.codeHdIn X.K cc P=true:=by obtain⟨f,⟨oc,od,fd,sl,k1,k2⟩,k3⟩:=L.code;obtain⟨f',cc,oc',od',fd',sl',n1,n2,n3,n4⟩:=h;rw [k3] at n1;cases n1;rw [k1] at n2;cases n2;exact⟨cc,k2.symm.trans n3,n4⟩
end
end Z
namespace ZL
open PySem PySem.Spec PySem.W L2 Z
open PyProof.Rows hiding St
end ZL
namespace ZT
open PySem PySem.Spec PyProof.Rows PySem.Calls
section
variable {prog:Program} {w:World} {A:Around} {E:Value->Shared->Prop} {s:Shared}
end
end ZT
namespace Z
open PySem PySem.Spec L2 ZT
open PyProof.Rows hiding St
section
variable {X:Cx}
end
end Z
namespace Z
open PySem PySem.Spec L2
open PyProof.Rows hiding St
section
variable {P:Program} {w:World} {K:PySem.W.Frag} {mg:Str->Option Value} {base:Heap}
end
end Z
namespace Z
open PySem PySem.Spec L2
theorem zn4{K:PySem.W.Frag}{P f cc:Addr}{oc:Value}{od:Option Addr}{fd:FuncData}{sl:Array (Option Value)}(h1:PySem.W.nsIn K mainGlobals "turns_of"=some (some (.ref f)))(h2:K.lookup f=some ⟨oc,od,.func fd,sl⟩)(h3:fd.code= .ref cc)(h4:PySem.W.codeHdIn K cc P=true):TbK K P:=
 ⟨f,cc,oc,od,fd,sl,h1,h2,h3,h4⟩
end Z
namespace Z
open PySem PySem.Spec L2
open PyProof.Rows hiding St
def zid:HO->Prop
 | .frz _ (.lst _)=>False
 | .frz _ (.dK _)=>False
 | .frz _ (.dT _)=>False
 |_=>True
section
variable {K:PySem.W.Frag} {H H':Hp} {na na':Addr->Prop}
theorem SqT.keep2{a:Addr}{vs:List V}(k:∀a o,H a=some o->Fx o->zid o->H' a=some o)(h:SqT K H a vs):SqT K H' a vs:=by
 rcases h with(h|⟨o,h⟩)|h
 ·exact .inl (.inl (k a _ h trivial trivial))
 ·exact .inl (.inr ⟨o,k a _ h trivial trivial⟩)
 ·exact .inr h
mutual
theorem DRel.mono2(k:∀a o,H a=some o->Fx o->zid o->H' a=some o)(kl:∀a xs,H a=some (.lst xs)->na a->H' a=some (.lst xs)/\na' a):∀{d:D} {v:V},DRel K H na d v->DRel K H' na' d v
 |_,_,.non=>.non
 |_,_,.bl b=>.bl b
 |_,_,.int i=>.int i
 |_,_,.str x=>.str x
 |_,_,.tup h t=>.tup (SqT.keep2 k h) (DRels.mono2 k kl t)
 |_,_,.lst h n t=>.lst (kl _ _ h n).1 (kl _ _ h n).2 (DRels.mono2 k kl t)
theorem DRels.mono2(k:∀a o,H a=some o->Fx o->zid o->H' a=some o)(kl:∀a xs,H a=some (.lst xs)->na a->H' a=some (.lst xs)/\na' a):∀{ds:List D} {vs:List V},DRels K H na ds vs->DRels K H' na' ds vs
 |_,_,.nil=>.nil
 |_,_,.cons r t=>.cons (DRel.mono2 k kl r) (DRels.mono2 k kl t)
end
theorem zeZ.to2{a:Addr}{c:Cell}(x:zeZ K H na a c)(ha:c≠ .dead->∀o,H a=some o->H' a=some o)(k:∀a o,H a=some o->Fx o->zid o->H' a=some o)
 (kl:∀a xs,H a=some (.lst xs)->na a->H' a=some (.lst xs)/\na' a):zeZ K H' na' a c:=by
 cases c with
 |lst xs=>obtain⟨vs,h,q⟩:=x;exact⟨vs,ha (λz=>nomatch z) _ h,q.mono2 k kl⟩
 |dk xs=>obtain⟨vs,h,q⟩:=x;exact⟨vs,ha (λz=>nomatch z) _ h,q.mono2 k kl⟩
 |dt xs=>obtain⟨vs,h,q⟩:=x;exact⟨vs,ha (λz=>nomatch z) _ h,q.mono2 k kl⟩
 |tb b l c=>
  cases b with
  |false=>exact⟨x.1,ha (λz=>nomatch z) _ x.2⟩
  |true=>obtain⟨x0,c',oc,vs,tq,h,h2,h3,h4⟩:=x;exact⟨x0,c',oc,vs,tq,ha (λz=>nomatch z) _ h,k _ _ h2 trivial trivial,h3,h4⟩
 |dead=>exact trivial
end
section
variable {X:Cx}
end
section
variable {X:Cx} {pos:Pos}
end
section
variable {prog:Program} {w:World} {A:Around} {E:Value->Shared->Prop} {s:Shared} {l I S:Addr} {R:Result->Shared->Prop}
end
section
variable {X:Cx}
end
section
variable {K:PySem.W.Frag} {H:Hp} {na:Addr->Prop}
end
section
variable {X:Cx}
end
section
variable {X:Cx} {pos:Pos}
end
end Z
namespace Z
open PySem PySem.Spec L2 ZX
open PyProof.Rows hiding St
section
variable {X:Cx}
theorem VH{K:PySem.W.Frag}{H:Hp}{na:Addr->Prop}:∀ss:List Str,DRels K H na (ss.map D.str) (ss.map V.str)
 | []=>.nil
 |s::ss=>.cons (.str s) (VH ss)
def qY(o a:M):M:=λt S=>(o t S).bind λx S1=>match x with
 | .d (.str s)=>(a t S1).bind λy S2=>(match y with
   | .d (.str p)=>if (p.length==0)=false/\s.length+2<=sizeLine then .ok (.d (.lst ((Txt.split s p).map D.str))) S2 else .bad
   |_=>.bad)
 |_=>.bad
theorem vi{o e:Expr}{mo me:M}{apos cpos:Pos}(ho:ME X o mo)(he:ME X e me)(hs:starEach [e] X.env= [(false,eval e X.env)]:=by rfl)(hbase:attributeBase o "split" X.env (eval o X.env)=eval o X.env:=by rfl)(hline:(apos.endLine==cpos.line)=true:=by rfl):
 ME X (.Call (.Attribute o "split" apos) [e] [] cpos) (qY mo me):=by
 refine⟨λZ io S H t σ Q hr sr po=>PEw (zhx kN kN hs hbase hline) ?_⟩;refine ho.run Z io S H t σ _ hr sr (qH.bind po λio1 S1 H1 w v x1 hr1 rw1 p1=>?_);split at p1
 ·rename_i a;obtain rfl:=x9 rw1;refine⟨⟨a,rfl⟩,?_⟩;refine he.run Z io1 S1 H1 t σ _ hr1 (sr.ext hr x1) (qH.bind p1 λio2 S2 H2 w2 v2 x2 hr2 rw2 p2=>?_);split at p2
  ·rename_i b;obtain rfl:=x9 rw2;split at p2
   ·rename_i hz;exact⟨a,b,rfl,rfl,hz.1,hz.2,λp hp=>kg p2 hr2 hp (Z9 hr2 (VH _) hp)⟩
   ·exact p2.elim
  ·exact p2.elim
 ·exact p1.elim
def zbI(o a:M):M:=λt S=>(o t S).bind λx S1=>match x with
 | .d (.str s)=>(a t S1).bind λy S2=>(match y with
   | .d (.str p)=>if (p.length==0)=false/\s.length<=sizeLine then .ok (.d (.tup [.str (Txt.partition s p).1,.str (Txt.partition s p).2.1,.str (Txt.partition s p).2.2])) S2 else .bad
   |_=>.bad)
 |_=>.bad
theorem Qu{o e:Expr}{mo me:M}{apos cpos:Pos}(ho:ME X o mo)(he:ME X e me)(hs:starEach [e] X.env= [(false,eval e X.env)]:=by rfl)(hbase:attributeBase o "partition" X.env (eval o X.env)=eval o X.env:=by rfl)(hline:(apos.endLine==cpos.line)=true:=by rfl):
 ME X (.Call (.Attribute o "partition" apos) [e] [] cpos) (zbI mo me):=by
 refine⟨λZ io S H t σ Q hr sr po=>PEw (zbG kN kN hs hbase hline) ?_⟩;refine ho.run Z io S H t σ _ hr sr (qH.bind po λio1 S1 H1 w v x1 hr1 rw1 p1=>?_);split at p1
 ·rename_i a;obtain rfl:=x9 rw1;refine⟨⟨a,rfl⟩,?_⟩;refine he.run Z io1 S1 H1 t σ _ hr1 (sr.ext hr x1) (qH.bind p1 λio2 S2 H2 w2 v2 x2 hr2 rw2 p2=>?_);split at p2
  ·rename_i b;obtain rfl:=x9 rw2;split at p2
   ·rename_i hz;exact⟨a,b,rfl,rfl,hz.1,hz.2,λp hp=>kg p2 hr2 hp (KB hr2 (.cons (.str _) (.cons (.str _) (.cons (.str _) .nil))) hp)⟩
   ·exact p2.elim
  ·exact p2.elim
 ·exact p1.elim
def kF(a:M)(lo hi:MO):M:=λt S=>(a t S).bind λw S1=>(lo t S1).bind λl S2=>(hi t S2).bind λu S3=>match w with| .d (.str x)=>if x.length<=sizeLine then .ok (.d (.str (ziy x l u))) S3 else .bad|_=>.bad
theorem Qa{e:Expr}{lo hi:Option Expr}{me:M}{ml mh:MO}{p2 pos:Pos}(he:ME X e me)(hl:MPo X lo ml)(hh:MPo X hi mh):ME X (.Subscript e (.Slice lo hi none p2) pos) (kF me ml mh):=by
 refine⟨λZ io S H t σ Q hr sr po=>PEw (zc7 zkH kN zkE zkE) ?_⟩;refine he.run Z io S H t σ _ hr sr (qH.bind po λio1 S1 H1 w v x1 hr1 rw1 p1=>?_);refine hl.run Z io1 S1 H1 t σ _ hr1 (sr.ext hr x1) (qH.bind p1 λio2 S2 H2 w2 v2 x2 hr2 rw2 p2=>?_);refine hh.run Z io2 S2 H2 t σ _ hr2 ((sr.ext hr x1).ext hr1 x2) (qH.bind p2 λio3 S3 H3 w3 v3 x3 hr3 rw3 p3=>?_);cases rw2;cases rw3;have rx:=(rw1.ext hr1 x2).ext hr2 x3;clear rw1;split at p3
 ·rename_i x;obtain rfl:=x9 rx;split at p3
  ·rename_i hz;exact⟨x,rfl,hz,p3.ok hr3 (.d (.str _))⟩
  ·exact p3.elim
 ·exact p3.elim
theorem zbu:Zj X (.type "str") (λxs H Q=>∃x,xs= [.str x]/\Q (.str x) H):=by intro pins s σ H xs us Q I r h;obtain⟨x,rfl,q⟩:=h;obtain⟨u,rfl,t,rfl⟩:=vals1 r;exact PySem.P.str_of_str ⟨.str _,H,I,⟨_,rfl⟩,q⟩
def zeq:List W->Sto->Res W
 | [.d (.int i)],S=>if i.natAbs.log2<1920 then .ok (.d (.str (toString i))) S else .bad
 | [.d (.str x)],S=>.ok (.d (.str x)) S
 |_,_=>.bad
theorem zde:CD X (.type "str") zeq:=by
 refine⟨λZ io S H σ ws vs Q hr rs p=>?_⟩;unfold zeq at p;split at p
 ·rename_i i;obtain⟨v,rfl,r⟩:=Qt rs;obtain rfl:=jR r;split at p
  ·rename_i hz;exact CAw za9 ⟨i,rfl,hz,p.ok hr (.d (.str _))⟩
  ·exact p.elim
 ·rename_i x;obtain⟨v,rfl,r⟩:=Qt rs;obtain rfl:=x9 r;exact CAw zbu ⟨x,rfl,p.ok hr (.d (.str _))⟩
 ·exact p.elim
def zcL:List W->Sto->Res W
 | [.d (.str x)],S=>(match PySem.intText? x with|some n=>if x.length<=640 then .ok (.d (.int n)) S else .bad|none=>.bad)
 |_,_=>.bad
theorem zfi:CD X (.type "int") zcL:=by
 refine⟨λZ io S H σ ws vs Q hr rs p=>?_⟩;unfold zcL at p;split at p
 ·rename_i x;obtain⟨v,rfl,r⟩:=Qt rs;obtain rfl:=x9 r;split at p
  ·rename_i n e;split at p
   ·rename_i hz;exact CAw zbq ⟨x,n,rfl,e,hz,p.ok hr (.d (.int _))⟩
   ·exact p.elim
  ·exact p.elim
 ·exact p.elim
def zmD:W->Option Str
 | .d (.str x)=>some x
 | .d (.int i)=>if i.natAbs.log2<1920 then some (toString i) else none
 |_=>none
def zaK(a:M):M:=λt S=>(a t S).bind λw S1=>match zmD w with|some x=>if x.length<=sizeLine then .ok (.d (.str x)) S1 else .bad|none=>.bad
theorem Ju{e:Expr}{me:M}{pos:Pos}(he:ME X e me):ME X (.FormattedValue e (-1) none pos) (zaK me):=by
 refine⟨λZ io S H t σ Q hr sr po pins s I=>PyProof.Rows.FormattedValue_plain ?_⟩;refine wpAny_mono (he.run Z io S H t σ (λv H1=>(∃x,v= .str x/\x.length<=sizeLine/\Q (.str x) H1)\/∃i,v= .int i/\i.natAbs.log2<1920/\Q (.str (toString i)) H1) hr sr (qH.bind po λio1 S1 H1 w v x1 hr1 rw1 p1=>?_) pins s I) (λv s1 ⟨w,H1,I1,r,q⟩=>?_) λ_ _ z=>z
 ·split at p1
  ·rename_i x e;split at p1
   ·rename_i hz;unfold zmD at e;split at e
    ·rename_i y;cases e;obtain rfl:=x9 rw1;exact .inl ⟨x,rfl,hz,p1.ok hr1 (.d (.str _))⟩
    ·rename_i i;split at e
     ·rename_i hi;cases e;obtain rfl:=jR rw1;exact .inr ⟨i,rfl,hi,p1.ok hr1 (.d (.str _))⟩
     ·cases e
    ·cases e
   ·exact p1.elim
  ·exact p1.elim
 ·rcases q with⟨x,rfl,hz,q⟩|⟨i,rfl,hi,q⟩
  ·obtain⟨t,rfl⟩:=r;exact PyProof.Rows.formatField_str (λt' tk=>⟨.str x,H1,I1.tok tk,⟨t',rfl⟩,q⟩) hz
  ·obtain⟨t,rfl⟩:=r;exact PyProof.Rows.formatField_int_small hi ⟨.str _,H1,I1.tok _,⟨_,rfl⟩,q⟩
structure MJ (X:Cx) (es:List Expr) (m:Str->M):Prop where
 run:∀out Z io S H t σ Q,HRel X.K Z io S H->SRel X.K Z io S H t σ->qH X Z (RW X Z) io S H σ (m out t S) Q->∀pins s,Inv X pins σ H s->wpAny (model X.prog X.w) X.A (joinParts out (evalEach es X.env)) (EP X pins σ Q) X.xe s
def zia:Str->M:=λout t S=>if out.length<=sizeLine then .ok (.d (.str out)) S else .bad
def vX(a:M)(r:Str->M):Str->M:=λout t S=>(a t S).bind λw S1=>match w with| .d (.str y)=>if (out++y).length<=sizeLine then r (out++y) t S1 else .bad|_=>.bad
theorem zfz:MJ X [] zia:=⟨λout Z io S H t σ Q hr sr po pins s I=>by
 unfold zia at po;split at po
 ·rename_i hz;exact PyProof.Rows.joinParts_nil ⟨.str out,H,I.tok _,⟨_,rfl⟩,po.ok hr (.d (.str _))⟩ hz
 ·exact po.elim⟩
theorem vv{e:Expr}{es:List Expr}{me:M}{mr:Str->M}(he:ME X e me)(hr':MJ X es mr)(hs:evalEach (e::es) X.env=eval e X.env::evalEach es X.env:=by rfl):MJ X (e::es) (vX me mr):=by
 refine⟨λout Z io S H t σ Q hr sr po pins s I=>?_⟩;rw [hs];refine PyProof.Rows.joinParts_cons (wpAny_mono (he.run Z io S H t σ (λv H1=>∃y,v= .str y/\(out++y).length<=sizeLine/\∀pins s1,Inv X pins σ H1 s1->wpAny (model X.prog X.w) X.A (joinParts (out++y) (evalEach es X.env)) (EP X pins σ Q) X.xe s1) hr sr (qH.bind po λio1 S1 H1 w v x1 hr1 rw1 p1=>?_) pins s I) (λv s1 ⟨w,H1,I1,r,q⟩=>?_) λ_ _ z=>z)
 ·split at p1
  ·rename_i y;obtain rfl:=x9 rw1;split at p1
   ·rename_i hz;exact⟨y,rfl,hz,λpins s1 I1=>hr'.run (out++y) Z io1 S1 H1 t σ Q hr1 (sr.ext hr x1) p1 pins s1 I1⟩
   ·exact p1.elim
  ·exact p1.elim
 ·obtain⟨y,rfl,hz,q⟩:=q;obtain⟨t,rfl⟩:=r;exact⟨hz,q pins s1 I1⟩
def Z2(r:Str->M):M:=r Str.empty
theorem KL{e1 e2:Expr}{es:List Expr}{pos:Pos}{mr:Str->M}(h:MJ X (e1::e2::es) mr):ME X (.JoinedStr (e1::e2::es) pos) (Z2 mr):=
 ⟨λZ io S H t σ Q hr sr po pins s I=>h.run Str.empty Z io S H t σ Q hr sr po pins s I⟩
end
end Z
namespace K82
open PySem PySem.Spec L2 Z ZX ZT
open K01
open K02
open PyProof.Rows hiding St
abbrev vd:List Str:=["articles","ranks","chests","rank","pence","days","chest","part"]
def xS:MSt:=(zg (zO (zh jo (za (zf 0) zo))) (zg (nxS (zN (Zh (zi (.str ",")) (dLc [3,4,5] (ql (zH (zf 0) (zi (.int 0)))) (gTp 3 (zX (gN 3) (zX (gN 4) (zX (gN 5) vD)))) vG (Z2 (vX (zaK (zf 3)) (vX (zi (.str "=")) (vX (zaK (zf 4)) (vX (zi (.str "/")) (vX (zaK (zf 5)) zia)))))))) (gN 1))) (zg (nxS (zN (Zh (zi (.str ",")) (dLc [6,7] (ql (zH (zf 0) (zi (.int 1)))) (gTp 2 (zX (gN 6) (zX (gN 7) vD))) vG (Z2 (vX (zaK (zf 6)) (vX (zi (.str "*")) (vX (zaK (zf 7)) zia)))))) (gN 2))) (zg (nxS (zU (Z2 (vX (zaK (zf 1)) (vX (zi (.str " ")) (vX (zaK (zf 2)) (vX (zi (.str " ")) (vX (zaK (zH (zf 0) (zi (.int 2)))) zia)))))))) zr))))
def xf:List W->Sto->Res W:=fnD 8 xS
theorem vO:xf=fnD 8 xS:=rfl
abbrev Z3:List Str:=["text","sign"]
def qK:MSt:=(zg (sIf (nxT (qI (zy (dT (zt .LtE .LtE (zi (.int 1)) (zh qg (za (zf 0) zo)) (zi (.int 13))))) (zy (dT (zh zaJ (za (dLc [1] (ql (zf 0)) (gN 1) vG (zK .In (zf 1) (zi (.str "0123456789")))) zo)))))) (zg (vL "NoText" (za (zi (.str "a number is written by 1 to 13 figures")) zo)) zr) zr) (zg (sIf (nxT (zL (dT (zK .Eq (zH (zf 0) (zi (.int 0))) (zi (.str "0")))) (dT (zK .Gt (zh qg (za (zf 0) zo)) (zi (.int 1)))))) (zg (vL "NoText" (za (zi (.str "the first of several figures is no 0")) zo)) zr) zr) (zg (nxS (zU (zh zcL (za (zf 0) zo)))) zr)))
def zw:List W->Sto->Res W:=fnD 2 qK
theorem Xb:zw=fnD 2 qK:=rfl
abbrev VM:List Str:=["thing"]
def kP:MSt:=(zg (sIf (nxT (zy (dT (qM .str (zf 0))))) (zg (vL "NoText" (za (zi (.str "this is no text")) zo)) zr) zr) (zg (nxS (zU (qY (zf 0) (zi (.str " "))))) zr))
def kt:List W->Sto->Res W:=fnD 1 kP
theorem KW:kt=fnD 1 kP:=rfl
abbrev Kq:List Str:=["text","rank","sign","rate","pence","stroke","days"]
def j9:MSt:=(zg (nxS (zN (zbI (zf 0) (zi (.str "="))) (gTp 3 (zX (gN 1) (zX (gN 2) (zX (gN 3) vD)))))) (zg (nxS (zN (zbI (zf 3) (zi (.str "/"))) (gTp 3 (zX (gN 4) (zX (gN 5) (zX (gN 6) vD)))))) (zg (zU (qz (za (zf 1) (za (zh zw (za (zf 4) zo)) (za (zh zw (za (zf 6) zo)) zo))))) zr)))
def vB:List W->Sto->Res W:=fnD 7 j9
theorem JH:vB=fnD 7 j9:=rfl
abbrev JC:List Str:=["text","chest","star","part"]
def j8:MSt:=(zg (nxS (zN (zbI (zf 0) (zi (.str "*"))) (gTp 3 (zX (gN 1) (zX (gN 2) (zX (gN 3) vD)))))) (zg (zU (qz (za (zf 1) (za (zh zw (za (zf 3) zo)) zo)))) zr))
def kQ:List W->Sto->Res W:=fnD 4 j8
theorem XW:kQ=fnD 4 j8:=rfl
abbrev vf:List Str:=["text","words","ranks","chests","articles","part"]
def qf:MSt:=(zg (zN (zh kt (za (zf 0) zo)) (gN 1)) (zg (sIf (nxT (dT (zK .NotEq (zh qg (za (zf 1) zo)) (zi (.int 3))))) (zg (vL "NoText" (za (zi (.str "articles are ranks, chests and a month")) zo)) zr) zr) (zg (zN (zh xI (za (ziE [5] (ql (nxE (qY (zH (zf 1) (zi (.int 0))) (zi (.str ","))))) (gN 5) vG (zh vB (za (zf 5) zo))) zo)) (gN 2)) (zg (zN (zh xI (za (ziE [5] (ql (nxE (qY (zH (zf 1) (zi (.int 1))) (zi (.str ","))))) (gN 5) vG (zh kQ (za (zf 5) zo))) zo)) (gN 3)) (zg (zN (qz (za (zf 2) (za (zf 3) (za (zh zw (za (nxE (zH (zf 1) (zi (.int 2)))) zo)) zo)))) (gN 4)) (zg (sIf (nxT (zy (dT (zh (noX qy) (za (zf 4) zo))))) (zg (vL "NoText" (za (zi (.str "these are no articles")) zo)) zr) zr) (zg (nxS (zU (zf 4))) zr)))))))
def jr:List W->Sto->Res W:=fnD 6 qf
theorem Qh:jr=fnD 6 qf:=rfl
abbrev Z5:List Str:=["e","some","words","k"]
def jI:MSt:=(zg (zN (qh (za (zad [("NoArticles",false),("NoText",false)] (zf 0)) (za (zad [("NoArticles",true),("NoText",false)] (zf 0)) (za (zad [("NoArticles",false),("NoText",false)] (zf 0)) (za (zad [("NoArticles",false),("NoText",false)] (zf 0)) zo))))) (gN 1)) (zg (zN (zz .Add (zf 1) (qh (za (zad [("NoArticles",false),("NoText",false)] (zf 0)) (za (zad [("NoArticles",false),("NoText",false)] (zf 0)) (za (zad [("NoArticles",false),("NoText",false)] (zf 0)) (za (zad [("NoArticles",false),("NoText",false)] (zf 0)) zo)))))) (gN 1)) (zg (zN (zz .Add (zf 1) (qh (za (zad [("NoArticles",false),("NoText",true)] (zf 0)) (za (zad [("NoArticles",false),("NoText",false)] (zf 0)) (za (zad [("NoArticles",false),("NoText",false)] (zf 0)) (za (zad [("NoArticles",false),("NoText",false)] (zf 0)) zo)))))) (gN 1)) (zg (zN (zz .Add (zf 1) (qh (za (zad [("NoArticles",false),("NoText",false)] (zf 0)) (za (zad [("NoArticles",false),("NoText",false)] (zf 0)) (za (zad [("NoArticles",true),("NoText",true)] (zf 0)) zo))))) (gN 1)) (zg (zN (qh (za (zi (.str "Faulty")) (za (zi (.str "NoArticles")) (za (zi (.str "NoMan")) (za (zi (.str "NoPage")) (za (zi (.str "NoPages")) (za (zi (.str "NoRank")) (za (zi (.str "NoRow")) (za (zi (.str "NoSum")) (za (zi (.str "NoText")) (za (zi (.str "NotThere")) zo))))))))))) (gN 2)) (zg (zN (zz .Add (zf 2) (qh (za (zi (.str "NothingLeft")) (za (zi (.str "TooMany")) (za (zi (.str "TooMuch")) (za (zi (.str "Twice")) (za (zi (.str "+")) zo))))))) (gN 2)) (zg (zU (Zh (zi (.str "")) (dLc [3] (kG (zi (.int 15))) (gN 3) (dT (zH (zf 1) (zf 3))) (zH (zf 2) (zf 3))))) zr)))))))
def xA:List W->Sto->Res W:=fnD 4 jI
theorem Zs:xA=fnD 4 jI:=rfl
abbrev jH:List Str:=["articles","ranks","row"]
def xR:MSt:=(zg (zN (Zh (zi (.str ",")) (dLc [2] (ql (zH (zf 0) (zi (.int 0)))) (gN 2) vG (zz .Add (zz .Add (zz .Add (zz .Add (zH (zf 2) (zi (.int 0))) (zi (.str "="))) (zh zeq (za (zH (zf 2) (zi (.int 1))) zo))) (zi (.str "/"))) (zh zeq (za (zH (zf 2) (zi (.int 2))) zo))))) (gN 1)) (zg (zU (zz .Add (zz .Add (zz .Add (zz .Add (zf 1) (zi (.str " "))) (Zh (zi (.str ",")) (dLc [2] (ql (zH (zf 0) (zi (.int 1)))) (gN 2) vG (zz .Add (zz .Add (zH (zf 2) (zi (.int 0))) (zi (.str "*"))) (zh zeq (za (zH (zf 2) (zi (.int 1))) zo)))))) (zi (.str " "))) (zh zeq (za (zH (zf 0) (zi (.int 2))) zo)))) zr))
def zD:List W->Sto->Res W:=fnD 3 xR
theorem vR:zD=fnD 3 xR:=rfl
abbrev JF:List Str:=["draws","text","signs","sign","at","way","words","other"]
def kS:MSt:=(zg (zN (zi (.str " !\"#$&'()*+,-./0123456789:;<=>?@ABCDEFGHIJKLMNOPQRSTUVWXYZ[\\]^_`abcdefghijklmnopqrstuvwxyz{|}~\n")) (gN 2)) (zg (zN (zH (qh (za (zH (zf 2) (zh (noX zq) (za (zf 0) (za (zh qg (za (zf 2) zo)) zo)))) (za (zH (zi (.str " 01,=/*-a")) (zh (noX zq) (za (zf 0) (za (zi (.int 9)) zo)))) zo))) (zh (noX zq) (za (zf 0) (za (zi (.int 2)) zo)))) (gN 3)) (zg (zN (zh (noX zq) (za (zf 0) (za (zz .Add (zh qg (za (zf 1) zo)) (zi (.int 1))) zo))) (gN 4)) (zg (zN (zh (noX zq) (za (zf 0) (za (zi (.int 7)) zo))) (gN 5)) (zg (sIf (dT (zK .Eq (zf 5) (zi (.int 0)))) (zg (zU (zz .Add (zz .Add (kF (zf 1) xK (qG (zf 4))) (zf 3)) (kF (zf 1) (qG (zf 4)) xK))) zr) zr) (zg (sIf (dT (zK .Eq (zf 5) (zi (.int 1)))) (zg (zU (zz .Add (zz .Add (kF (zf 1) xK (qG (zf 4))) (zf 3)) (kF (zf 1) (qG (zz .Add (zf 4) (zi (.int 1)))) xK))) zr) zr) (zg (sIf (dT (zK .Eq (zf 5) (zi (.int 2)))) (zg (zU (zz .Add (kF (zf 1) xK (qG (zf 4))) (kF (zf 1) (qG (zz .Add (zf 4) (zi (.int 1)))) xK))) zr) zr) (zg (sIf (dT (zK .Eq (zf 5) (zi (.int 3)))) (zg (zU (zz .Add (kF (zf 1) xK (qG (zz .Add (zf 4) (zi (.int 1))))) (kF (zf 1) (qG (zf 4)) xK))) zr) zr) (zg (zN (qY (zf 1) (zi (.str " "))) (gN 6)) (zg (zN (zh (noX zq) (za (zf 0) (za (zh qg (za (zf 6) zo)) zo))) (gN 4)) (zg (zN (zH (zf 6) (zh (noX zq) (za (zf 0) (za (zh qg (za (zf 6) zo)) zo)))) (gN 7)) (zg (zU (Zh (zi (.str " ")) (zz .Add (zz .Add (Ve (zf 6) xK (qG (zf 4))) (zH (qh (za (qh zo) (za (zz .Mult (qh (za (zH (zf 6) (zf 4)) zo)) (zi (.int 2))) (za (qh (za (zf 7) zo)) zo)))) (zz .Sub (zf 5) (zi (.int 4))))) (Ve (zf 6) (qG (zz .Add (zf 4) (zi (.int 1)))) xK)))) zr))))))))))))
def jx:List W->Sto->Res W:=fnD 8 kS
theorem XB:jx=fnD 8 kS:=rfl
abbrev v8:List Str:=["word","sign"]
def xN:MSt:=(zg (sIf (qI (dT (zK .Lt (zh qg (za (zf 0) zo)) (zi (.int 1)))) (qI (dT (zK .Gt (zh qg (za (zf 0) zo)) (zi (.int 13)))) (dT (zK .NotEq (dLc [1] (ql (zf 0)) (gN 1) (dT (zK .NotIn (zf 1) (zi (.str "0123456789")))) (zf 1)) (qh zo))))) (zg (zU (zi .non)) zr) zr) (zg (zU (dIf (zL (dT (zK .Eq (zH (zf 0) (zi (.int 0))) (zi (.str "0")))) (dT (zK .NotEq (zf 0) (zi (.str "0"))))) (zi .non) (zh zcL (za (zf 0) zo)))) zr))
def zM:List W->Sto->Res W:=fnD 2 xN
theorem Qg:zM=fnD 2 xN:=rfl
abbrev jM:List Str:=["text","words","ranks","one","chests","found","name","numbers","word"]
def qu:MSt:=(zg (zN (dIf (dT (qM .str (zf 0))) (qY (zf 0) (zi (.str " "))) (qh zo)) (gN 1)) (zg (sIf (dT (zK .NotEq (zh qg (za (zf 1) zo)) (zi (.int 3)))) (zg (zU (zi .non)) zr) zr) (zg (zN (zT zo) (gN 2)) (zg (xl (ql (qY (zH (zf 1) (zi (.int 0))) (zi (.str ",")))) (gN 3) (zg (zN (zH (qY (zf 3) (zi (.str "="))) (zi (.int 0))) (gN 6)) (zg (zN (dLc [8] (ql (qY (kF (zf 3) (qG (zz .Add (zh qg (za (zf 6) zo)) (zi (.int 1)))) xK) (zi (.str "/")))) (gN 8) vG (zh (noX zM) (za (zf 8) zo))) (gN 7)) (zg (zO (vF (zf 2) (zz .Add (qz (za (zf 6) zo)) (zh xI (za (zf 7) zo))))) zr)))) (zg (zN (dLc [3] (ql (qY (zH (zf 1) (zi (.int 1))) (zi (.str ",")))) (gN 3) vG (qz (za (zH (qY (zf 3) (zi (.str "*"))) (zi (.int 0))) (za (zh (noX zM) (za (Zh (zi (.str "*")) (Ve (qY (zf 3) (zi (.str "*"))) (qG (zi (.int 1))) xK)) zo)) zo)))) (gN 4)) (zg (zN (qz (za (zh xI (za (zf 2) zo)) (za (zh xI (za (zf 4) zo)) (za (zh (noX zM) (za (zH (zf 1) (zi (.int 2))) zo)) zo)))) (gN 5)) (zg (sIf (qI (zy (dT (zh (noX zE) (za (zf 5) zo)))) (dT (zK .NotEq (zh (noX zD) (za (zf 5) zo)) (zf 0)))) (zg (zU (zi .non)) zr) zr) (zg (zU (zf 5)) zr))))))))
def qF:List W->Sto->Res W:=fnD 9 qu
theorem vS:qF=fnD 9 qu:=rfl
abbrev VP:List Str:=["way","thing","found","kind","e"]
def vt:MSt:=(zg (zN (zi .non) (gN 2)) (zg (zN (zi (.str "")) (gN 3)) (zg (zgD ["NoArticles","NoText"] 4 (zg (zN (dIf (nxT (dT (zK .Eq (zf 0) (zi (.int 0))))) (zh jr (za (zf 1) zo)) (zh xf (za (zf 1) zo))) (gN 2)) zr) (zg (zN (zh (noX xA) (za (zf 4) zo)) (gN 3)) zr)) (zg (zU (qz (za (zf 2) (za (zf 3) zo)))) zr))))
def zW:List W->Sto->Res W:=fnD 5 vt
theorem KJ:zW=fnD 5 vt:=rfl
abbrev QS:List Str:=["draws","ranks","name"]
def QP:MSt:=(zg (zN (dLc [2] (ql (zh (noX jf) (za (zf 0) (za (zi (.int 12)) zo)))) (gN 2) vG (qz (za (zf 2) (za (zz .Pow (zi (.int 10)) (zi (.int 9))) (za (zi (.int 1000)) zo))))) (gN 1)) (zg (zU (qz (za (zh xI (za (zf 1) zo)) (za (zh xI (za (dLc [2] (ql (zh (noX jf) (za (zf 0) (za (zi (.int 6)) zo)))) (gN 2) vG (qz (za (zf 2) (za (zi (.int 1000)) zo)))) zo)) (za (zi (.int 1000)) zo))))) zr))
def vq:List W->Sto->Res W:=fnD 3 QP
theorem Ks:vq=fnD 3 QP:=rfl
abbrev zmi:List Str:=["script","k","draws","articles","odd","thing","text","turn","due"]
def zfD:MSt:=(zg (xl (kG (zh zee (za (zi (.int 1)) (za (zh zdW (za (zi (.int 20)) (za (zh qg (za (zf 0) zo)) zo))) zo)))) (gN 1) (zg (zN (zh (noX kL) (za (zf 0) (za (zf 1) zo))) (gN 2)) (zg (xl (ql (qh (za (zh (noX qZ) (za (zf 2) (za (zz .Pow (zi (.int 10)) (zi (.int 9))) zo))) (za (zh (noX vq) (za (zf 2) zo)) zo)))) (gN 3) (zg (zN (zh (noX zD) (za (zf 3) zo)) (gN 6)) (zg (sIf (qI (dT (zK .NotEq (zh (noX zW) (za (zi (.int 1)) (za (zf 3) zo))) (qz (za (zf 6) (za (zi (.str "")) zo))))) (dT (zK .NotEq (zh (noX zW) (za (zi (.int 0)) (za (zf 6) zo))) (qz (za (zf 3) (za (zi (.str "")) zo)))))) (zg (zU (zi (.bl false))) zr) zr) (zg (xl (kG (zi (.int 4))) (gN 7) (zg (zN (zh (noX jx) (za (zf 2) (za (zf 6) zo))) (gN 6)) (zg (zN (zh (noX qF) (za (zf 6) zo)) (gN 8)) (zg (sIf (dT (zK .NotEq (zh (noX zW) (za (zi (.int 0)) (za (zf 6) zo))) (qz (za (zf 8) (za (zH (qh (za (zi (.str "")) (za (zi (.str "NoText+")) zo))) (zh zjJ (za (zK .Is (zf 8) (zi .non)) zo))) zo))))) (zg (zU (zi (.bl false))) zr) zr) zr)))) (zg (zN (zjZ (zh (noX vc) (za (zf 2) (za (zf 3) (za (zi (.int 2)) zo))))) (gN 4)) (zg (sIf (zL (zy (dT (zh (noX zE) (za (zf 4) zo)))) (dT (zK .NotEq (zh (noX zW) (za (zi (.int 1)) (za (zf 4) zo))) (qz (za (zi .non) (za (zi (.str "NoArticles+")) zo)))))) (zg (zU (zi (.bl false))) zr) zr) zr)))))) (zg (zN (qh (za (zi .non) (za (zi (.int 7)) (za (zi (.bl true)) (za (zi (.str "")) (za (zi (.str "  ")) (za (qh (za (zi (.str "a=1/1 b*1 1")) zo)) (za (zi (.str "a=1/1 b*1")) (za (zi (.str "a=1/0 b*1 1")) (za (zi (.str "a=1/1 b*1 1 ")) zo)))))))))) (gN 4)) (zg (xl (ql (zz .Add (zf 4) (qh (za (zi (.str "a=1/1 b*0 1")) zo)))) (gN 5) (zg (sIf (dT (zK .NotEq (zh (noX zW) (za (zi (.int 0)) (za (zf 5) zo))) (qz (za (zi .non) (za (zi (.str "NoText+")) zo))))) (zg (zU (zi (.bl false))) zr) zr) zr)) zr))))) (zg (zU (zi (.bl true))) zr))
def zcv:List W->Sto->Res W:=fnD 9 zfD
theorem ziS:zcv=fnD 9 zfD:=rfl
end K82
namespace Z
open PySem PySem.Spec L2
open PyProof.Rows hiding St
def least(m:Int):List Int->Int
 | []=>m
 |x::r=>least (if x<m then x else m) r
section
variable {prog:Program} {w:World} {A:Around} {E:Value->Shared->Prop} {l I S:Addr} {R:Result->Shared->Prop}
end
section
variable {X:Cx}
end
end Z
namespace ZD
open PySem PySem.Spec L2
open PyProof.Rows hiding St
section
variable {X:Cx}
end
end ZD
namespace Z
open PySem PySem.Spec L2
open PyProof.Rows hiding St
section
variable {X:Cx}
end
end Z
namespace ZS1
open PySem PySem.Spec PySem.Calls L2
open PyProof.Rows hiding St
section
variable {prog:Program} {w:World} {A:Around} {E:Value->Shared->Prop} {s:Shared}
end
end ZS1
namespace Z
open PySem PySem.Spec L2
open PyProof.Rows hiding St
section
variable {X:Cx}
end
section
variable {X:Cx} {K:PySem.W.Frag} {Z:ZS} {io:Nat->Addr} {S:Sto} {H:Hp}
end
section
variable {X:Cx}
end
structure En where
 P:Program
 w:World
 K:PySem.W.Frag
 mg:Str->Option Value
 base:Heap
def DD(E:En)(x:Str)(st:Stmt)(ps:List Str):Prop:=∃f fd,E.mg x=some (.ref f)/\Fun E.K x x st f fd/\Binds E.K fd ps []
abbrev HF(E:En)(k:Nat)(x:Str)(ps:List Str)(G:List W->Sto->Res W):Prop:=HasFn E.P E.w E.K E.mg E.base k x ps G
theorem hf{E:En}(N:List Str){x:Str}{st:Stmt}{ps:List Str}{k:Nat}{m:MSt}{G:List W->Sto->Res W}(ge:G=fnD N.length m)(D:DD E x st ps)
 (hb:∀(f:Addr) (cdv:Value) (A:Around) (outer:List Env) (s:Shared) (H:Hp) (J:XK),Room k (A.deeper (envOfC x (zp st) s.heap.objs.size f cdv))->Cok (cxF E.P E.w E.K E.mg E.base N x st f cdv A outer s H J)->MSs (cxF E.P E.w E.K E.mg E.base N x st f cdv A outer s H J) (zP st) m)
 (Sc:FnScope N ps (zp st):=by exact⟨rfl,rfl,rfl,by decide+kernel,rfl,by decide+kernel,by decide+kernel⟩):HF E (k+1) x ps G:=by
 subst ge;obtain⟨f,fd,hm,F,B⟩:=D;exact jm hm F B Sc λcdv A outer s H J=>hb f cdv A outer s H J
def DK(K:PySem.W.Frag)(x:Str)(st:Stmt):Prop:=∃(f:Addr) (od an:Option Addr) (sl:Array (Option Value)) (oc kV dc pm cd ct:Value),PySem.W.nsIn K mainGlobals x=some (some (.ref f))/\K.lookup f=some ⟨oc,od,.func (PySem.W.fnOf x x (zV st) (zP st) (zp st) .none kV dc pm an cd ct),sl⟩/\PySem.W.codeIn K cd x=true/\PySem.W.keepIn K (.ref f)=true
theorem dk{K:PySem.W.Frag}{x:Str}{st:Stmt}{f:Addr}{od an:Option Addr}{sl:Array (Option Value)}{oc kV dc pm cd ct:Value}(a:PySem.W.nsIn K mainGlobals x=some (some (.ref f)))(l:K.lookup f=some ⟨oc,od,.func (PySem.W.fnOf x x (zV st) (zP st) (zp st) .none kV dc pm an cd ct),sl⟩)(c:PySem.W.codeIn K cd x=true)(k:PySem.W.keepIn K (.ref f)=true):DK K x st:=⟨_,_,_,_,_,_,_,_,_,_,a,l,c,k⟩
abbrev BA(x:Str)(st:Stmt)(us:List Value)(ps:List Str):Prop:=∀(kV dc pm:Value) (an:Option Addr) (cd ct:Value),bindArgs (PySem.W.fnOf x x (zV st) (zP st) (zp st) .none kV dc pm an cd ct) ⟨us,[]⟩=pure (ps.zip us)
section
variable {E:En} {h:Heap} {x:Str} {st:Stmt} {a b c d e f g:Str}
theorem ddA{ps:List Str}(X:E.K.In h)(G:h.Ns mainGlobals E.mg)(D:DK E.K x st)(hb:∀us:List Value,us.length=ps.length->BA x st us ps):DD E x st ps:=by obtain⟨f,od,an,sl,oc,kV,dc,pm,cd,ct,a,l,c,k⟩:=D;have F:=qX (st:=st) l c k;exact⟨f,_,lx X G a,F,F.binds λkV dc pm an cd ct us hl=>hb us hl kV dc pm an cd ct⟩
theorem dd2(X:E.K.In h)(G:h.Ns mainGlobals E.mg)(D:DK E.K x st)(hb:∀u v,BA x st [u,v] [a,b]:=by exact λ_ _ _ _ _ _ _ _=>rfl):DD E x st [a,b]:=ddA X G D λus hl=>match us,hl with| [_,_],_=>hb _ _
end
section
variable {X:Cx} {pos:Pos}
theorem mgn{i:Nat}{x:Str}(c:Cok X)(hi:X.N[i]? =some x:=by rfl)(hx:Loc X.env.scope x:=by first|exact Or.inl rfl|exact Or.inr rfl)(hf:X.fn x=true\/X.env.scope.names.lookup x=some .local:=by first|exact .inl rfl|exact .inr rfl|assumption):MG X (.Name x pos) [i] (gN i):=zeQ (Cok.nd c) hi hx hf
theorem msn(i:Nat){x:Str}{pos':Pos}{e:Expr}{me:M}(c:Cok X)(he:ME X e me)(hi:X.N[i]? =some x:=by rfl)(hx:Loc X.env.scope x:=by first|exact Or.inl rfl|exact Or.inr rfl)(hs:swapsWith e (some (.Name x pos')) pos.line X.env=pure false:=by rfl)(hf:X.fn x=true\/X.env.scope.names.lookup x=some .local:=by first|exact .inl rfl|exact .inr rfl|assumption):
 MS X (.Assign [.Name x pos'] e pos) (zN me (gN i)):=Qd (Cok.nd c) hi hx he hs hf
theorem mfn{j k n:Nat}{ps:List Str}{x:Str}{p:Pos}{e:Expr}{es:List Expr}{mas:MAs}{g:List W->Sto->Res W}(F:HasFn X.prog X.w X.K X.mg X.base j x ps g)(hr:Room k X.A)(ha:MA X (e::es) mas)(hal:AL mas n)(hj:j<=k:=by omega)(hg:Gl X x:=by rfl)(hn:n=ps.length:=by rfl)(hdb:(x==("__debug__":Str))=false:=by decide)
 (he:starEach (e::es) X.env=(false,eval e X.env)::starEach es X.env:=by rfl) (hpl:(backTo pos (starEach es X.env)).any (·.1)=false:=by rfl):ME X (.Call (.Name x p) (e::es) [] pos) (zh (noX g) mas):=zm0 F (hr.mono hj) hg ha hal hn hdb he hpl
theorem bk(own:List (Str×Nat))(N:List Str)(st:Stmt){scope:Scope}(h:zny N (zp st) scope own=true:=by decide+kernel):BlkOk N (zp st) scope own:=zgK h
end
end Z
namespace K82
open PySem PySem.Spec L2 Z ZX ZT
open K01
open K02
open PyProof.Rows hiding St
def top(i:Nat):Stmt:=PySem.Challenge.pw_crewpay_k82_articles_as_texts.main.body.getD i (.Pass ⟨0,0,0,0⟩)
structure Gb (K:PySem.W.Frag) (mg:Str->Option Value):Prop where
 z_all:mg "all"=none
 z_bool:mg "bool"=none
 z_int:mg "int"=none
 z_isinstance:mg "isinstance"=none
 z_len:mg "len"=none
 z_list:mg "list"=none
 z_max:mg "max"=none
 z_min:mg "min"=none
 z_range:mg "range"=none
 z_set:mg "set"=none
 z_sorted:mg "sorted"=none
 z_str:mg "str"=none
 z_tuple:mg "tuple"=none
 z_zip:mg "zip"=none
 c_FIGURES:∃t,mg "FIGURES"=some (.str "0123456789" t)
 c_MOST_CHESTS:∃t,mg "MOST_CHESTS"=some (.int 6 t)
 c_MOST_DAYS:∃t,mg "MOST_DAYS"=some (.int 1000 t)
 c_MOST_FIGURES:∃t,mg "MOST_FIGURES"=some (.int 13 t)
 c_MOST_LETTERS:∃t,mg "MOST_LETTERS"=some (.int 8 t)
 c_MOST_MONTH:∃t,mg "MOST_MONTH"=some (.int 1000 t)
 c_MOST_PART:∃t,mg "MOST_PART"=some (.int 1000 t)
 c_MOST_PENCE:∃t,mg "MOST_PENCE"=some (.int 1000000000 t)
 c_MOST_RANKS:∃t,mg "MOST_RANKS"=some (.int 12 t)
 r_NoArticles:zfJ K mg "NoArticles"
 r_NoText:zfJ K mg "NoText"
 i_Faulty:XD K mg "Faulty" [("NoArticles",false),("NoText",false)]
 i_NoArticles:XD K mg "NoArticles" [("NoArticles",true),("NoText",false)]
 i_NoMan:XD K mg "NoMan" [("NoArticles",false),("NoText",false)]
 i_NoPage:XD K mg "NoPage" [("NoArticles",false),("NoText",false)]
 i_NoPages:XD K mg "NoPages" [("NoArticles",false),("NoText",false)]
 i_NoRank:XD K mg "NoRank" [("NoArticles",false),("NoText",false)]
 i_NoRow:XD K mg "NoRow" [("NoArticles",false),("NoText",false)]
 i_NoSum:XD K mg "NoSum" [("NoArticles",false),("NoText",false)]
 i_NoText:XD K mg "NoText" [("NoArticles",false),("NoText",true)]
 i_NotThere:XD K mg "NotThere" [("NoArticles",false),("NoText",false)]
 i_NothingLeft:XD K mg "NothingLeft" [("NoArticles",false),("NoText",false)]
 i_TooMany:XD K mg "TooMany" [("NoArticles",false),("NoText",false)]
 i_TooMuch:XD K mg "TooMuch" [("NoArticles",false),("NoText",false)]
 i_Twice:XD K mg "Twice" [("NoArticles",false),("NoText",false)]
 i_ValueError:zj5 K mg "ValueError" "ValueError" [("NoArticles",true),("NoText",true)]
 t_WageError:znl K mg "WageError" ["NoArticles","NoText"]
abbrev vw:Stmt:=top 24
theorem zch:FnScope VA ["thing"] (zp vw):=⟨rfl,rfl,rfl,by decide+kernel,rfl,by decide+kernel,by decide+kernel⟩
theorem zcQ{P:Program}{w:World}{K:PySem.W.Frag}{mg:Str->Option Value}{base:Heap}{f:Addr}{fd:FuncData}(T:Gb K mg)(hm:mg "is_whole"=some (.ref f))(F:Fun K "is_whole" "is_whole" vw f fd)(B:Binds K fd ["thing"] []):HasFn P w K mg base 1 "is_whole" ["thing"] ZR:=by rw [KY];have r:= @jm P w K mg base "is_whole" vw f fd VA ["thing"] 0 QR hm F B zch;refine r ?_;intro cdv A outer s H E hr c;exact ze (zR (QC (Ze (T:=.int) rfl rfl T.z_isinstance rfl T.z_int VG (mv 0)) (Ki (ziQ (Ze (T:=.bool) rfl rfl T.z_isinstance rfl T.z_bool zgi (mv 0)))))) zm
abbrev qU:Stmt:=top 25
theorem X4:FnScope ZJ ["thing","least","most"] (zp qU):=⟨rfl,rfl,rfl,by decide+kernel,rfl,by decide+kernel,by decide+kernel⟩
theorem Xw{P:Program}{w:World}{K:PySem.W.Frag}{mg:Str->Option Value}{base:Heap}{f:Addr}{fd:FuncData}(T:Gb K mg)(hm:mg "is_whole_within"=some (.ref f))(F:Fun K "is_whole_within" "is_whole_within" qU f fd)(B:Binds K fd ["thing","least","most"] [])(F_is_whole:HasFn P w K mg base 1 "is_whole" ["thing"] ZR):HasFn P w K mg base 2 "is_whole_within" ["thing","least","most"] qj:=by rw [Zl];have r:= @jm P w K mg base "is_whole_within" qU f fd ZJ ["thing","least","most"] 1 kf hm F B X4;refine r ?_;intro cdv A outer s H E hr c;exact ze (zR (QC (mfn F_is_whole hr (zb (mv 0) zl) (zk zx)) (Ki (zam c (mv 1) (mv 0) (mv 2))))) zm
abbrev vH:Stmt:=top 26
theorem zej:FnScope KH ["thing"] (zp vH):=⟨rfl,rfl,rfl,by decide+kernel,rfl,by decide+kernel,by decide+kernel⟩
theorem zen{P:Program}{w:World}{K:PySem.W.Frag}{mg:Str->Option Value}{base:Heap}{f:Addr}{fd:FuncData}(T:Gb K mg)(hm:mg "is_name"=some (.ref f))(F:Fun K "is_name" "is_name" vH f fd)(B:Binds K fd ["thing"] []):HasFn P w K mg base 1 "is_name" ["thing"] vK:=by rw [Vy];have r:= @jm P w K mg base "is_name" vH f fd KH ["thing"] 0 Zd hm F B zej;refine r ?_;intro cdv A outer s H E hr c;refine ze (jh (MW.mt (Qk (jw (xZ (Ze (T:=.str) rfl rfl T.z_isinstance rfl T.z_str X3 (mv 0)))) (Zp (jw (zcU c zj (z9 jY rfl T.z_len jU (zb (mv 0) zl)) (Zk rfl T.c_MOST_LETTERS)))))) (ze (zR Zi) zm) zm) ?_;refine ze ?_ zm;refine zR ?_;refine z9 (zbe c) rfl T.z_all zby ?_;refine zb ?_ zl;refine QZ (own:=[("sign",1)]) (sl:=[1]) c (js (mv 0)) (bk [("sign",1)] KH vH) (λ_ _ _ _ _=>(mgn (c.blk _ _ _ _ _))) (by decide) (λ_ _ _ _ _=>?_) (λ_ _ _ _ _=>?_);exact xW;exact zam (c.blk _ _ _ _ _) zC (mv 1) zC
abbrev jE:Stmt:=top 27
theorem Vm:FnScope XT ["thing","least","most"] (zp jE):=⟨rfl,rfl,rfl,by decide+kernel,rfl,by decide+kernel,by decide+kernel⟩
theorem Vg{P:Program}{w:World}{K:PySem.W.Frag}{mg:Str->Option Value}{base:Heap}{f:Addr}{fd:FuncData}(T:Gb K mg)(hm:mg "is_tuple_of"=some (.ref f))(F:Fun K "is_tuple_of" "is_tuple_of" jE f fd)(B:Binds K fd ["thing","least","most"] []):HasFn P w K mg base 1 "is_tuple_of" ["thing","least","most"] zS:=by rw [Xa];have r:= @jm P w K mg base "is_tuple_of" jE f fd XT ["thing","least","most"] 0 vW hm F B Vm;refine r ?_;intro cdv A outer s H E hr c;exact ze (zR (QC (Ze (T:=.tuple) rfl rfl T.z_isinstance rfl T.z_tuple xB (mv 0)) (Ki (zam c (mv 1) (z9 jY rfl T.z_len jU (zb (mv 0) zl)) (mv 2))))) zm
abbrev j6:Stmt:=top 28
theorem zbU:FnScope Xq ["names"] (zp j6):=⟨rfl,rfl,rfl,by decide+kernel,rfl,by decide+kernel,by decide+kernel⟩
theorem zaX{P:Program}{w:World}{K:PySem.W.Frag}{mg:Str->Option Value}{base:Heap}{f:Addr}{fd:FuncData}(T:Gb K mg)(hm:mg "is_rising"=some (.ref f))(F:Fun K "is_rising" "is_rising" j6 f fd)(B:Binds K fd ["names"] []):HasFn P w K mg base 1 "is_rising" ["names"] kI:=by rw [Jw];have r:= @jm P w K mg base "is_rising" j6 f fd Xq ["names"] 0 ZY hm F B zbU;refine r ?_;intro cdv A outer s H E hr c;refine ze ?_ zm;refine zR ?_;refine z9 (zbe c) rfl T.z_all zby ?_;refine zb ?_ zl;refine QZ (own:=[("name",1),("later",2)]) (sl:=([1]++([2]++ []))) c (zmr rfl T.z_zip (mv 0) (zbD (mv 0) (jc zj) kC)) (bk [("name",1),("later",2)] Xq j6) (λ_ _ _ _ _=>?_) (by decide) (λ_ _ _ _ _=>?_) (λ_ _ _ _ _=>?_);exact Qr (c.blk _ _ _ _ _) (qk (mgn (c.blk _ _ _ _ _)) (qk (mgn (c.blk _ _ _ _ _)) Zg));exact xW;exact JI (c.blk _ _ _ _ _) (mv 1) (mv 2)
abbrev jJ:Stmt:=top 29
theorem Vq:FnScope Xv ["thing"] (zp jJ):=⟨rfl,rfl,rfl,by decide+kernel,rfl,by decide+kernel,by decide+kernel⟩
theorem Vp{P:Program}{w:World}{K:PySem.W.Frag}{mg:Str->Option Value}{base:Heap}{f:Addr}{fd:FuncData}(T:Gb K mg)(hm:mg "is_rank_row"=some (.ref f))(F:Fun K "is_rank_row" "is_rank_row" jJ f fd)(B:Binds K fd ["thing"] [])(F_is_tuple_of:HasFn P w K mg base 1 "is_tuple_of" ["thing","least","most"] zS)(F_is_name:HasFn P w K mg base 1 "is_name" ["thing"] vK)(F_is_whole_within:HasFn P w K mg base 2 "is_whole_within" ["thing","least","most"] qj):HasFn P w K mg base 3 "is_rank_row" ["thing"] ki:=by rw [Q3];have r:= @jm P w K mg base "is_rank_row" jJ f fd Xv ["thing"] 2 jd hm F B Vq;refine r ?_;intro cdv A outer s H E hr c;exact ze (jh (jw (xZ (mfn F_is_tuple_of hr (zb (mv 0) (zb zj (zb zj zl))) (zk (zk (zk zx)))))) (ze (zR Zi) zm) zm) (ze (VC (sl:=([1]++([2]++([3]++ [])))) (mv 0) (Qr c (qk (mgn c) (qk (mgn c) (qk (mgn c) Zg))))) (ze (zR (QC (mfn F_is_name hr (zb (mv 1) zl) (zk zx)) (QC (mfn F_is_whole_within hr (zb (mv 2) (zb zj (zb (Zk rfl T.c_MOST_PENCE) zl))) (zk (zk (zk zx)))) (Ki (mfn F_is_whole_within hr (zb (mv 3) (zb zj (zb (Zk rfl T.c_MOST_DAYS) zl))) (zk (zk (zk zx)))))))) zm))
abbrev ji:Stmt:=top 30
theorem KS:FnScope Q5 ["thing"] (zp ji):=⟨rfl,rfl,rfl,by decide+kernel,rfl,by decide+kernel,by decide+kernel⟩
theorem Kl{P:Program}{w:World}{K:PySem.W.Frag}{mg:Str->Option Value}{base:Heap}{f:Addr}{fd:FuncData}(T:Gb K mg)(hm:mg "is_chest_row"=some (.ref f))(F:Fun K "is_chest_row" "is_chest_row" ji f fd)(B:Binds K fd ["thing"] [])(F_is_tuple_of:HasFn P w K mg base 1 "is_tuple_of" ["thing","least","most"] zS)(F_is_name:HasFn P w K mg base 1 "is_name" ["thing"] vK)(F_is_whole_within:HasFn P w K mg base 2 "is_whole_within" ["thing","least","most"] qj):HasFn P w K mg base 3 "is_chest_row" ["thing"] jS:=by rw [QD];have r:= @jm P w K mg base "is_chest_row" ji f fd Q5 ["thing"] 2 jj hm F B KS;refine r ?_;intro cdv A outer s H E hr c;exact ze (jh (jw (xZ (mfn F_is_tuple_of hr (zb (mv 0) (zb zj (zb zj zl))) (zk (zk (zk zx)))))) (ze (zR Zi) zm) zm) (ze (VC (sl:=([1]++([2]++ []))) (mv 0) (Qr c (qk (mgn c) (qk (mgn c) Zg)))) (ze (zR (QC (mfn F_is_name hr (zb (mv 1) zl) (zk zx)) (Ki (mfn F_is_whole_within hr (zb (mv 2) (zb zj (zb (Zk rfl T.c_MOST_PART) zl))) (zk (zk (zk zx))))))) zm))
abbrev jL:Stmt:=top 31
theorem zbh:FnScope Z6 ["thing"] (zp jL):=⟨rfl,rfl,rfl,by decide+kernel,rfl,by decide+kernel,by decide+kernel⟩
theorem zbM{P:Program}{w:World}{K:PySem.W.Frag}{mg:Str->Option Value}{base:Heap}{f:Addr}{fd:FuncData}(T:Gb K mg)(hm:mg "are_ranks"=some (.ref f))(F:Fun K "are_ranks" "are_ranks" jL f fd)(B:Binds K fd ["thing"] [])(F_is_tuple_of:HasFn P w K mg base 1 "is_tuple_of" ["thing","least","most"] zS)(F_is_rank_row:HasFn P w K mg base 3 "is_rank_row" ["thing"] ki)(F_is_rising:HasFn P w K mg base 1 "is_rising" ["names"] kI):HasFn P w K mg base 4 "are_ranks" ["thing"] v9:=by rw [JK];have r:= @jm P w K mg base "are_ranks" jL f fd Z6 ["thing"] 3 jZ hm F B zbh;refine r ?_;intro cdv A outer s H E hr c;refine ze ?_ (ze (zR (mfn F_is_rising hr (zb (QZ (own:=[("row",1)]) (sl:=[1]) c (js (mv 0)) (bk [("row",1)] Z6 jL) (λ_ _ _ _ _=>(mgn (c.blk _ _ _ _ _))) (by decide) (λ_ _ _ _ _=>xW) (λ_ _ _ _ _=>(zQ (mv 1) zj))) zl) (zk zx))) zm);refine jh ?_ (ze (zR Zi) zm) zm;refine MW.mt ?_;refine Qk (jw (xZ (mfn F_is_tuple_of hr (zb (mv 0) (zb zj (zb (Zk rfl T.c_MOST_RANKS) zl))) (zk (zk (zk zx)))))) ?_;refine Zp ?_;refine jw ?_;refine xZ ?_;refine z9 (zbe c) rfl T.z_all zby ?_;refine zb ?_ zl;refine QZ (own:=[("row",1)]) (sl:=[1]) c (js (mv 0)) (bk [("row",1)] Z6 jL) (λ_ _ _ _ _=>(mgn (c.blk _ _ _ _ _))) (by decide) (λ_ _ _ _ _=>?_) (λ_ _ _ _ _=>(mfn F_is_rank_row hr (zb (mv 1) zl) (zk zx)));exact xW
abbrev x8:Stmt:=top 32
theorem zaE:FnScope Zo ["thing"] (zp x8):=⟨rfl,rfl,rfl,by decide+kernel,rfl,by decide+kernel,by decide+kernel⟩
theorem V1{P:Program}{w:World}{K:PySem.W.Frag}{mg:Str->Option Value}{base:Heap}{f:Addr}{fd:FuncData}(T:Gb K mg)(hm:mg "are_chests"=some (.ref f))(F:Fun K "are_chests" "are_chests" x8 f fd)(B:Binds K fd ["thing"] [])(F_is_tuple_of:HasFn P w K mg base 1 "is_tuple_of" ["thing","least","most"] zS)(F_is_chest_row:HasFn P w K mg base 3 "is_chest_row" ["thing"] jS)(F_is_rising:HasFn P w K mg base 1 "is_rising" ["names"] kI):HasFn P w K mg base 4 "are_chests" ["thing"] vJ:=by rw [XZ];have r:= @jm P w K mg base "are_chests" x8 f fd Zo ["thing"] 3 jy hm F B zaE;refine r ?_;intro cdv A outer s H E hr c;refine ze ?_ (ze (zR (mfn F_is_rising hr (zb (QZ (own:=[("row",1)]) (sl:=[1]) c (js (mv 0)) (bk [("row",1)] Zo x8) (λ_ _ _ _ _=>(mgn (c.blk _ _ _ _ _))) (by decide) (λ_ _ _ _ _=>xW) (λ_ _ _ _ _=>(zQ (mv 1) zj))) zl) (zk zx))) zm);refine jh ?_ (ze (zR Zi) zm) zm;refine MW.mt ?_;refine Qk (jw (xZ (mfn F_is_tuple_of hr (zb (mv 0) (zb zj (zb (Zk rfl T.c_MOST_CHESTS) zl))) (zk (zk (zk zx)))))) ?_;refine Zp ?_;refine jw ?_;refine xZ ?_;refine z9 (zbe c) rfl T.z_all zby ?_;refine zb ?_ zl;refine QZ (own:=[("row",1)]) (sl:=[1]) c (js (mv 0)) (bk [("row",1)] Zo x8) (λ_ _ _ _ _=>(mgn (c.blk _ _ _ _ _))) (by decide) (λ_ _ _ _ _=>?_) (λ_ _ _ _ _=>(mfn F_is_chest_row hr (zb (mv 1) zl) (zk zx)));exact xW
abbrev jK:Stmt:=top 33
theorem Vu:FnScope X8 ["thing"] (zp jK):=⟨rfl,rfl,rfl,by decide+kernel,rfl,by decide+kernel,by decide+kernel⟩
theorem Vn{P:Program}{w:World}{K:PySem.W.Frag}{mg:Str->Option Value}{base:Heap}{f:Addr}{fd:FuncData}(T:Gb K mg)(hm:mg "is_articles"=some (.ref f))(F:Fun K "is_articles" "is_articles" jK f fd)(B:Binds K fd ["thing"] [])(F_is_tuple_of:HasFn P w K mg base 1 "is_tuple_of" ["thing","least","most"] zS)(F_are_ranks:HasFn P w K mg base 4 "are_ranks" ["thing"] v9)(F_are_chests:HasFn P w K mg base 4 "are_chests" ["thing"] vJ)(F_is_whole_within:HasFn P w K mg base 2 "is_whole_within" ["thing","least","most"] qj):HasFn P w K mg base 5 "is_articles" ["thing"] qy:=by rw [Q9];have r:= @jm P w K mg base "is_articles" jK f fd X8 ["thing"] 4 ja hm F B Vu;refine r ?_;intro cdv A outer s H E hr c;exact ze (jh (jw (xZ (mfn F_is_tuple_of hr (zb (mv 0) (zb zj (zb zj zl))) (zk (zk (zk zx)))))) (ze (zR Zi) zm) zm) (ze (VC (sl:=([1]++([2]++([3]++ [])))) (mv 0) (Qr c (qk (mgn c) (qk (mgn c) (qk (mgn c) Zg))))) (ze (zR (QC (mfn F_are_ranks hr (zb (mv 1) zl) (zk zx)) (QC (mfn F_are_chests hr (zb (mv 2) zl) (zk zx)) (Ki (mfn F_is_whole_within hr (zb (mv 3) (zb zj (zb (Zk rfl T.c_MOST_MONTH) zl))) (zk (zk (zk zx)))))))) zm))
abbrev xg:Stmt:=top 34
theorem JM:FnScope Qn ["thing"] (zp xg):=⟨rfl,rfl,rfl,by decide+kernel,rfl,by decide+kernel,by decide+kernel⟩
theorem JR{P:Program}{w:World}{K:PySem.W.Frag}{mg:Str->Option Value}{base:Heap}{f:Addr}{fd:FuncData}{dV:Value}{dvs:List V}{ds:List Value}(T:Gb K mg)(hm:mg "need_articles"=some (.ref f))(F:FunV K "need_articles" "need_articles" xg dV f fd)(B:Binds K fd ["thing"] [])(B2:Binds K fd ["thing"] ds)(Df:DfRel [] dvs ds)(F_is_articles:HasFn P w K mg base 5 "is_articles" ["thing"] qy):HasFnX P w K mg base 6 "need_articles" ["thing"] [] jo:=by rw [Qi];have r:= @KO P w K mg base "need_articles" "need_articles" xg dV f fd Qn ["thing"] 5 vg F JM;refine⟨f,fd,dvs,ds,hm,F.kp,B,B2,Df,r ?_⟩;intro cdv A outer s H E hr c;exact ze (jh (Kj (jw (xZ (mfn F_is_articles hr (zb (mv 0) zl) (zk zx))))) (ze (ZE T.r_NoArticles rfl rfl (zb zC zl)) zm) zm) zm
abbrev qC:Stmt:=top 38
theorem JN:FnScope vd ["articles"] (zp qC):=⟨rfl,rfl,rfl,by decide+kernel,rfl,by decide+kernel,by decide+kernel⟩
theorem JX{P:Program}{w:World}{K:PySem.W.Frag}{mg:Str->Option Value}{base:Heap}{f:Addr}{fd:FuncData}{dV:Value}{dvs:List V}{ds:List Value}(T:Gb K mg)(hm:mg "articles_text"=some (.ref f))(F:FunV K "articles_text" "articles_text" qC dV f fd)(B:Binds K fd ["articles"] [])(B2:Binds K fd ["articles"] ds)(Df:DfRel [] dvs ds)(F_need_articles:HasFnX P w K mg base 6 "need_articles" ["thing"] [] jo):HasFnX P w K mg base 7 "articles_text" ["articles"] [] xf:=by rw [vO];have r:= @KO P w K mg base "articles_text" "articles_text" qC dV f fd vd ["articles"] 6 xS F JN;refine⟨f,fd,dvs,ds,hm,F.kp,B,B2,Df,r ?_⟩;intro cdv A outer s H E hr c;exact ze (K3 (Q7 F_need_articles (hr.mono (by omega)) rfl (zb (mv 0) zl) (zk zx))) (ze (XA (msn 1 c (Qm zC (QZ (own:=[("rank",3),("pence",4),("days",5)]) (sl:=([3]++([4]++([5]++ [])))) c (js (zQ (mv 0) zj)) (bk [("rank",3),("pence",4),("days",5)] vd qC) (λ_ _ _ _ _=>(Qr (c.blk _ _ _ _ _) (qk (mgn (c.blk _ _ _ _ _)) (qk (mgn (c.blk _ _ _ _ _)) (qk (mgn (c.blk _ _ _ _ _)) Zg))))) (by decide) (λ_ _ _ _ _=>xW) (λ_ _ _ _ _=>(KL (vv (Ju (mv 3)) (vv zC (vv (Ju (mv 4)) (vv zC (vv (Ju (mv 5)) zfz))))))))))) (ze (XA (msn 2 c (Qm zC (QZ (own:=[("chest",6),("part",7)]) (sl:=([6]++([7]++ []))) c (js (zQ (mv 0) zj)) (bk [("chest",6),("part",7)] vd qC) (λ_ _ _ _ _=>(Qr (c.blk _ _ _ _ _) (qk (mgn (c.blk _ _ _ _ _)) (qk (mgn (c.blk _ _ _ _ _)) Zg)))) (by decide) (λ_ _ _ _ _=>xW) (λ_ _ _ _ _=>(KL (vv (Ju (mv 6)) (vv zC (vv (Ju (mv 7)) zfz))))))))) (ze (XA (zR (KL (vv (Ju (mv 1)) (vv zC (vv (Ju (mv 2)) (vv zC (vv (Ju (zQ (mv 0) zj)) zfz)))))))) zm)))
abbrev xC:Stmt:=top 39
theorem Vr:FnScope Z3 ["text"] (zp xC):=⟨rfl,rfl,rfl,by decide+kernel,rfl,by decide+kernel,by decide+kernel⟩
theorem Vs{P:Program}{w:World}{K:PySem.W.Frag}{mg:Str->Option Value}{base:Heap}{f:Addr}{fd:FuncData}{dV:Value}{dvs:List V}{ds:List Value}(T:Gb K mg)(hm:mg "read_number"=some (.ref f))(F:FunV K "read_number" "read_number" xC dV f fd)(B:Binds K fd ["text"] [])(B2:Binds K fd ["text"] ds)(Df:DfRel [] dvs ds):HasFnX P w K mg base 1 "read_number" ["text"] [] zw:=by rw [Xb];have r:= @KO P w K mg base "read_number" "read_number" xC dV f fd Z3 ["text"] 0 qK F Vr;refine⟨f,fd,dvs,ds,hm,F.kp,B,B2,Df,r ?_⟩;intro cdv A outer s H E hr c;refine ze ?_ (ze (jh (Kj (MW.mt (K1 (qA c (zQ (mv 0) zj) zC) (Je (qA c (z9 jY rfl T.z_len jU (zb (mv 0) zl)) zj))))) (ze (ZE T.r_NoText rfl rfl (zb zC zl)) zm) zm) (ze (XA (zR (qv zfi rfl T.z_int VG (zb (mv 0) zl)))) zm));refine jh ?_ (ze (ZE T.r_NoText rfl rfl (zb zC zl)) zm) zm;refine Kj ?_;refine MW.mt ?_;refine Qk (jw (zcU c zj (z9 jY rfl T.z_len jU (zb (mv 0) zl)) (Zk rfl T.c_MOST_FIGURES))) ?_;refine Zp ?_;refine jw ?_;refine xZ ?_;refine z9 (zbe c) rfl T.z_all zby ?_;refine zb ?_ zl;refine QZ (own:=[("sign",1)]) (sl:=[1]) c (js (mv 0)) (bk [("sign",1)] Z3 xC) (λ_ _ _ _ _=>(mgn (c.blk _ _ _ _ _))) (by decide) (λ_ _ _ _ _=>?_) (λ_ _ _ _ _=>?_);exact xW;exact JI (c.blk _ _ _ _ _) (mv 1) (zhp rfl T.c_FIGURES)
abbrev kW:Stmt:=top 40
theorem zcG:FnScope VM ["thing"] (zp kW):=⟨rfl,rfl,rfl,by decide+kernel,rfl,by decide+kernel,by decide+kernel⟩
theorem zce{P:Program}{w:World}{K:PySem.W.Frag}{mg:Str->Option Value}{base:Heap}{f:Addr}{fd:FuncData}{dV:Value}{dvs:List V}{ds:List Value}(T:Gb K mg)(hm:mg "words_of"=some (.ref f))(F:FunV K "words_of" "words_of" kW dV f fd)(B:Binds K fd ["thing"] [])(B2:Binds K fd ["thing"] ds)(Df:DfRel [] dvs ds):HasFnX P w K mg base 1 "words_of" ["thing"] [] kt:=by rw [KW];have r:= @KO P w K mg base "words_of" "words_of" kW dV f fd VM ["thing"] 0 kP F zcG;refine⟨f,fd,dvs,ds,hm,F.kp,B,B2,Df,r ?_⟩;intro cdv A outer s H E hr c;exact ze (jh (Kj (jw (xZ (Ze (T:=.str) rfl rfl T.z_isinstance rfl T.z_str X3 (mv 0))))) (ze (ZE T.r_NoText rfl rfl (zb zC zl)) zm) zm) (ze (XA (zR (vi (mv 0) zC))) zm)
abbrev ka:Stmt:=top 41
theorem za5:FnScope Kq ["text"] (zp ka):=⟨rfl,rfl,rfl,by decide+kernel,rfl,by decide+kernel,by decide+kernel⟩
theorem zaM{P:Program}{w:World}{K:PySem.W.Frag}{mg:Str->Option Value}{base:Heap}{f:Addr}{fd:FuncData}{dV:Value}{dvs:List V}{ds:List Value}(T:Gb K mg)(hm:mg "read_rank"=some (.ref f))(F:FunV K "read_rank" "read_rank" ka dV f fd)(B:Binds K fd ["text"] [])(B2:Binds K fd ["text"] ds)(Df:DfRel [] dvs ds)(F_read_number:HasFnX P w K mg base 1 "read_number" ["text"] [] zw):HasFnX P w K mg base 2 "read_rank" ["text"] [] vB:=by rw [JH];have r:= @KO P w K mg base "read_rank" "read_rank" ka dV f fd Kq ["text"] 1 j9 F za5;refine⟨f,fd,dvs,ds,hm,F.kp,B,B2,Df,r ?_⟩;intro cdv A outer s H E hr c;exact ze (XA (VC (sl:=([1]++([2]++([3]++ [])))) (Qu (mv 0) zC) (Qr c (qk (mgn c) (qk (mgn c) (qk (mgn c) Zg)))))) (ze (XA (VC (sl:=([4]++([5]++([6]++ [])))) (Qu (mv 3) zC) (Qr c (qk (mgn c) (qk (mgn c) (qk (mgn c) Zg)))))) (ze (zR (kO (zb (mv 1) (zb (Q7 F_read_number (hr.mono (by omega)) rfl (zb (mv 4) zl) (zk zx)) (zb (Q7 F_read_number (hr.mono (by omega)) rfl (zb (mv 6) zl) (zk zx)) zl))))) zm))
abbrev jt:Stmt:=top 42
theorem zah:FnScope JC ["text"] (zp jt):=⟨rfl,rfl,rfl,by decide+kernel,rfl,by decide+kernel,by decide+kernel⟩
theorem V3{P:Program}{w:World}{K:PySem.W.Frag}{mg:Str->Option Value}{base:Heap}{f:Addr}{fd:FuncData}{dV:Value}{dvs:List V}{ds:List Value}(T:Gb K mg)(hm:mg "read_chest"=some (.ref f))(F:FunV K "read_chest" "read_chest" jt dV f fd)(B:Binds K fd ["text"] [])(B2:Binds K fd ["text"] ds)(Df:DfRel [] dvs ds)(F_read_number:HasFnX P w K mg base 1 "read_number" ["text"] [] zw):HasFnX P w K mg base 2 "read_chest" ["text"] [] kQ:=by rw [XW];have r:= @KO P w K mg base "read_chest" "read_chest" jt dV f fd JC ["text"] 1 j8 F zah;refine⟨f,fd,dvs,ds,hm,F.kp,B,B2,Df,r ?_⟩;intro cdv A outer s H E hr c;exact ze (XA (VC (sl:=([1]++([2]++([3]++ [])))) (Qu (mv 0) zC) (Qr c (qk (mgn c) (qk (mgn c) (qk (mgn c) Zg)))))) (ze (zR (kO (zb (mv 1) (zb (Q7 F_read_number (hr.mono (by omega)) rfl (zb (mv 3) zl) (zk zx)) zl)))) zm)
abbrev qB:Stmt:=top 43
theorem xn:FnScope vf ["text"] (zp qB):=⟨rfl,rfl,rfl,by decide+kernel,rfl,by decide+kernel,by decide+kernel⟩
theorem JT{P:Program}{w:World}{K:PySem.W.Frag}{mg:Str->Option Value}{base:Heap}{f:Addr}{fd:FuncData}{dV:Value}{dvs:List V}{ds:List Value}(T:Gb K mg)(hm:mg "read_articles"=some (.ref f))(F:FunV K "read_articles" "read_articles" qB dV f fd)(B:Binds K fd ["text"] [])(B2:Binds K fd ["text"] ds)(Df:DfRel [] dvs ds)(F_words_of:HasFnX P w K mg base 1 "words_of" ["thing"] [] kt)(F_read_rank:HasFnX P w K mg base 2 "read_rank" ["text"] [] vB)(F_read_chest:HasFnX P w K mg base 2 "read_chest" ["text"] [] kQ)(F_read_number:HasFnX P w K mg base 1 "read_number" ["text"] [] zw)(F_is_articles:HasFn P w K mg base 5 "is_articles" ["thing"] qy):HasFnX P w K mg base 6 "read_articles" ["text"] [] jr:=by rw [Qh];have r:= @KO P w K mg base "read_articles" "read_articles" qB dV f fd vf ["text"] 5 qf F xn;refine⟨f,fd,dvs,ds,hm,F.kp,B,B2,Df,r ?_⟩;intro cdv A outer s H E hr c;refine ze (Qd (i:=1) xn.nd rfl (Or.inl rfl) (Q7 F_words_of (hr.mono (by omega)) rfl (zb (mv 0) zl) (zk zx))) ?_;refine ze (jh (Kj (qA c (z9 jY rfl T.z_len jU (zb (mv 1) zl)) zj)) (ze (ZE T.r_NoText rfl rfl (zb zC zl)) zm) zm) ?_;refine ze ?_ ?_;refine Qd (i:=2) xn.nd rfl (Or.inl rfl) ?_;refine qv kq rfl T.z_tuple xB ?_;refine zb ?_ zl;refine ziB (own:=[("part",5)]) (sl:=[5]) rfl xn.nd rfl rfl (js (zeM (vi (zQ (mv 1) zj) zC))) (bk [("part",5)] vf qB) (λ_ _ _ _ _=>(mgn (c.blk _ _ _ _ _))) (by decide) (λ_ _ _ _ _=>?_) (λ_ _ _ _ _ _=>?_);exact xW;exact Q7 F_read_rank (hr.mono (by omega)) rfl (zb (mv 5) zl) (zk zx);refine ze ?_ (ze (Qd (i:=4) xn.nd rfl (Or.inl rfl) (kO (zb (mv 2) (zb (mv 3) (zb (Q7 F_read_number (hr.mono (by omega)) rfl (zb (zeM (zQ (mv 1) zj)) zl) (zk zx)) zl))))) (ze (jh (Kj (jw (xZ (mfn F_is_articles hr (zb (mv 4) zl) (zk zx))))) (ze (ZE T.r_NoText rfl rfl (zb zC zl)) zm) zm) (ze (XA (zR (mv 4))) zm)));refine Qd (i:=3) xn.nd rfl (Or.inl rfl) ?_;refine qv kq rfl T.z_tuple xB ?_;refine zb ?_ zl;refine ziB (own:=[("part",5)]) (sl:=[5]) rfl xn.nd rfl rfl (js (zeM (vi (zQ (mv 1) zj) zC))) (bk [("part",5)] vf qB) (λ_ _ _ _ _=>(mgn (c.blk _ _ _ _ _))) (by decide) (λ_ _ _ _ _=>?_) (λ_ _ _ _ _ _=>?_);exact xW;exact Q7 F_read_chest (hr.mono (by omega)) rfl (zb (mv 5) zl) (zk zx)
abbrev x6:Stmt:=top 45
theorem xa:FnScope Z5 ["e"] (zp x6):=⟨rfl,rfl,rfl,by decide+kernel,rfl,by decide+kernel,by decide+kernel⟩
theorem Vh{P:Program}{w:World}{K:PySem.W.Frag}{mg:Str->Option Value}{base:Heap}{f:Addr}{fd:FuncData}(T:Gb K mg)(hm:mg "_law_kind_of"=some (.ref f))(F:Fun K "_law_kind_of" "_law_kind_of" x6 f fd)(B:Binds K fd ["e"] []):HasFnH P w K mg base 1 "_law_kind_of" ["e"] xA:=by rw [Zs];have r:= @zla P w K mg base "_law_kind_of" "_law_kind_of" x6 f fd Z5 ["e"] 0 jI F xa;refine⟨f,fd,hm,F.kp,B,r ?_⟩;intro cdv A outer s H E hr hh;refine ze (Qd (i:=1) xa.nd rfl (Or.inr rfl) (xO (zb (kZ T.i_Faulty rfl T.z_isinstance rfl (mv 0)) (zb (kZ T.i_NoArticles rfl T.z_isinstance rfl (mv 0)) (zb (kZ T.i_NoMan rfl T.z_isinstance rfl (mv 0)) (zb (kZ T.i_NoPage rfl T.z_isinstance rfl (mv 0)) zl)))))) ?_;refine ze (Qd (i:=1) xa.nd rfl (Or.inr rfl) (zv (mv 1) (xO (zb (kZ T.i_NoPages rfl T.z_isinstance rfl (mv 0)) (zb (kZ T.i_NoRank rfl T.z_isinstance rfl (mv 0)) (zb (kZ T.i_NoRow rfl T.z_isinstance rfl (mv 0)) (zb (kZ T.i_NoSum rfl T.z_isinstance rfl (mv 0)) zl))))))) ?_;refine ze (Qd (i:=1) xa.nd rfl (Or.inr rfl) (zv (mv 1) (xO (zb (kZ T.i_NoText rfl T.z_isinstance rfl (mv 0)) (zb (kZ T.i_NotThere rfl T.z_isinstance rfl (mv 0)) (zb (kZ T.i_NothingLeft rfl T.z_isinstance rfl (mv 0)) (zb (kZ T.i_TooMany rfl T.z_isinstance rfl (mv 0)) zl))))))) ?_;refine ze (Qd (i:=1) xa.nd rfl (Or.inr rfl) (zv (mv 1) (xO (zb (kZ T.i_TooMuch rfl T.z_isinstance rfl (mv 0)) (zb (kZ T.i_Twice rfl T.z_isinstance rfl (mv 0)) (zb (zhA T.i_ValueError zan rfl T.z_isinstance rfl (mv 0)) zl)))))) ?_;refine ze (Qd (i:=2) xa.nd rfl (Or.inr rfl) (xO (zb zC (zb zC (zb zC (zb zC (zb zC (zb zC (zb zC (zb zC (zb zC (zb zC zl)))))))))))) ?_;refine ze (Qd (i:=2) xa.nd rfl (Or.inr rfl) (zv (mv 2) (xO (zb zC (zb zC (zb zC (zb zC (zb zC zl)))))))) ?_;refine ze ?_ zm;refine zR ?_;refine Qm zC ?_;refine zlr (own:=[("k",3)]) (sl:=[3]) hh xa.nd (zd1 rfl T.z_range zj) (bk [("k",3)] Z5 x6) (λ_ _ _ _ _=>?_) (by decide) (λ_ _ _ _ _=>?_) (λ_ _ _ _ _=>?_);exact zeQ xa.nd rfl (Or.inl rfl);exact zcu (xZ (zQ (mv 1) (mv 3)));exact zQ (mv 2) (mv 3)
abbrev vC:Stmt:=top 46
theorem zb8:FnScope VD ["draws","many"] (zp vC):=⟨rfl,rfl,rfl,by decide+kernel,rfl,by decide+kernel,by decide+kernel⟩
theorem zb1{P:Program}{w:World}{K:PySem.W.Frag}{mg:Str->Option Value}{base:Heap}{f:Addr}{fd:FuncData}(T:Gb K mg)(hm:mg "_law_draw"=some (.ref f))(F:Fun K "_law_draw" "_law_draw" vC f fd)(B:Binds K fd ["draws","many"] []):HasFn P w K mg base 1 "_law_draw" ["draws","many"] zq:=by rw [K2];have r:= @jm P w K mg base "_law_draw" vC f fd VD ["draws","many"] 0 kr hm F B zb8;refine r ?_;intro cdv A outer s H E hr c;exact ze (jh (qA c (zQ (mv 0) zj) zj) (ze (msn 2 c (zv (zQ (mv 0) zj) (mv 1))) (ze (vn (zv (zQ (mv 0) zj) (mv 1)) (mv 0) zj) (ze (zR (mv 2)) zm))) zm) (ze (msn 2 c zj) (ze (msn 3 c zj) (ze (zh8 (fu:=5) c (qA c (mv 3) (mv 1)) (ze (vn (zv (zv (zQ (mv 0) zj) zj) zj) (mv 0) zj) (ze (msn 2 c (zv (zv (mv 2) zj) (zv (zv (zv (zQ (mv 0) zj) (zv (zv (zQ (mv 0) zj) zj) zj)) zj) zj))) (ze (msn 3 c (zv (mv 3) zj)) zm)))) (ze (zR (zv (mv 2) (mv 1))) zm))))
abbrev jA:Stmt:=top 47
theorem zaY:FnScope Z1 ["draws","many"] (zp jA):=⟨rfl,rfl,rfl,by decide+kernel,rfl,by decide+kernel,by decide+kernel⟩
theorem zbj{P:Program}{w:World}{K:PySem.W.Frag}{mg:Str->Option Value}{base:Heap}{f:Addr}{fd:FuncData}(T:Gb K mg)(hm:mg "_law_names"=some (.ref f))(F:Fun K "_law_names" "_law_names" jA f fd)(B:Binds K fd ["draws","many"] [])(F_law_draw:HasFn P w K mg base 1 "_law_draw" ["draws","many"] zq):HasFn P w K mg base 2 "_law_names" ["draws","many"] jf:=by rw [JG];have r:= @jm P w K mg base "_law_names" jA f fd Z1 ["draws","many"] 1 vA hm F B zaY;refine r ?_;intro cdv A outer s H E hr c;refine ze (msn 2 c zC) ?_;refine ze (msn 3 c (Qm zC (QZ (own:=[("k",6)]) (sl:=[6]) c (Qx rfl T.z_range (zQ (xO (zb zj (zb zj (zb zj (zb zj zl))))) (mfn F_law_draw hr (zb (mv 0) (zb zj zl)) (zk (zk zx))))) (bk [("k",6)] Z1 jA) (λ_ _ _ _ _=>(mgn (c.blk _ _ _ _ _))) (by decide) (λ_ _ _ _ _=>xW) (λ_ _ _ _ _=>(zQ (mv 2) (mfn F_law_draw hr (zb (mv 0) (zb zj zl)) (zk (zk zx)))))))) ?_;refine ze (msn 4 c (mfn F_law_draw hr (zb (mv 0) (zb zj zl)) (zk (zk zx)))) ?_;refine ze (msn 5 c (zQ (xO (zb zj (zb zj (zb zj (zb zj zl))))) (mfn F_law_draw hr (zb (mv 0) (zb zj zl)) (zk (zk zx))))) ?_;refine ze ?_ zm;refine zR ?_;refine z9 zeC rfl T.z_sorted zfn ?_;refine zb ?_ zl;refine QZ (own:=[("k",6)]) (sl:=[6]) c (Qx rfl T.z_range (mv 1)) (bk [("k",6)] Z1 jA) (λ_ _ _ _ _=>(mgn (c.blk _ _ _ _ _))) (by decide) (λ_ _ _ _ _=>?_) (λ_ _ _ _ _=>?_);exact xW;exact zv (mv 3) (zQ (mv 2) (zv (zv (mv 4) (zv (mv 5) (mv 6))) zj))
abbrev kK:Stmt:=top 48
theorem zbL:FnScope Kr ["script","k"] (zp kK):=⟨rfl,rfl,rfl,by decide+kernel,rfl,by decide+kernel,by decide+kernel⟩
theorem zbY{P:Program}{w:World}{K:PySem.W.Frag}{mg:Str->Option Value}{base:Heap}{f:Addr}{fd:FuncData}(T:Gb K mg)(hm:mg "_law_draws"=some (.ref f))(F:Fun K "_law_draws" "_law_draws" kK f fd)(B:Binds K fd ["script","k"] []):HasFn P w K mg base 1 "_law_draws" ["script","k"] kL:=by rw [JA];have r:= @jm P w K mg base "_law_draws" kK f fd Kr ["script","k"] 0 jg hm F B zbL;refine r ?_;intro cdv A outer s H E hr c;refine ze (msn 2 c (zv zj (mv 1))) ?_;exact ze (jh (qA c (mv 1) (z9 jY rfl T.z_len jU (zb (mv 0) zl))) (ze (msn 2 c (zv (zQ (mv 0) (mv 1)) (zv (zv zj zj) (zv zj zj)))) zm) (ze (jh (qA c (z9 jY rfl T.z_len jU (zb (mv 0) zl)) zj) (ze (msn 2 c (zv (zv (zQ (mv 0) (zv (mv 1) (z9 jY rfl T.z_len jU (zb (mv 0) zl)))) (zv zj zj)) (zv zj (mv 1)))) zm) zm) zm)) (ze (zR (zcC (zb (zv (mv 2) (qv ziO rfl T.z_int VG (zb (JI c (mv 2) (zv zj zj)) zl))) (zb (zv zj (zv (zv (zv (mv 2) zj) (zv zj (zv (mv 1) zj))) zj)) zl)))) zm)
abbrev xE:Stmt:=top 49
theorem Kn:FnScope Zu ["draws","great"] (zp xE):=⟨rfl,rfl,rfl,by decide+kernel,rfl,by decide+kernel,by decide+kernel⟩
theorem Km{P:Program}{w:World}{K:PySem.W.Frag}{mg:Str->Option Value}{base:Heap}{f:Addr}{fd:FuncData}(T:Gb K mg)(hm:mg "_law_articles"=some (.ref f))(F:Fun K "_law_articles" "_law_articles" xE f fd)(B:Binds K fd ["draws","great"] [])(F_law_draw:HasFn P w K mg base 1 "_law_draw" ["draws","many"] zq)(F_law_names:HasFn P w K mg base 2 "_law_names" ["draws","many"] jf):HasFn P w K mg base 3 "_law_articles" ["draws","great"] qZ:=by rw [QE];have r:= @jm P w K mg base "_law_articles" xE f fd Zu ["draws","great"] 2 qx hm F B Kn;refine r ?_;intro cdv A outer s H E hr c;refine ze (msn 2 c (zcC zl)) ?_;refine ze (XV (sl:=[3]) c (js (mfn F_law_names hr (zb (mv 0) (zb (zv zj (mfn F_law_draw hr (zb (mv 0) (zb zj zl)) (zk (zk zx)))) zl)) (zk (zk zx)))) (mgn c) (ze (msn 6 c (zQ (xO (zb (mfn F_law_draw hr (zb (mv 0) (zb zj zl)) (zk (zk zx))) (zb (zv zj (mfn F_law_draw hr (zb (mv 0) (zb zj zl)) (zk (zk zx)))) (zb zj (zb (mfn F_law_draw hr (zb (mv 0) (zb (zv (mv 1) zj) zl)) (zk (zk zx))) zl))))) (mfn F_law_draw hr (zb (mv 0) (zb zj zl)) (zk (zk zx))))) (ze (K3 (zaS (mv 2) (kO (zb (mv 3) (zb (mv 6) (zb (zQ (xO (zb zj (zb zj (zb (zv zj (mfn F_law_draw hr (zb (mv 0) (zb zj zl)) (zk (zk zx)))) (zb (zv zj (mfn F_law_draw hr (zb (mv 0) (zb zj zl)) (zk (zk zx)))) zl))))) (mfn F_law_draw hr (zb (mv 0) (zb zj zl)) (zk (zk zx)))) zl)))))) zm))) ?_;refine ze ?_ (ze (msn 5 c (zQ (xO (zb zj (zb zj (zb (zv zj (mfn F_law_draw hr (zb (mv 0) (zb zj zl)) (zk (zk zx)))) (zb zj zl))))) (mfn F_law_draw hr (zb (mv 0) (zb zj zl)) (zk (zk zx))))) (ze (zR (kO (zb (qv kq rfl T.z_tuple xB (zb (mv 2) zl)) (zb (qv kq rfl T.z_tuple xB (zb (mv 4) zl)) (zb (mv 5) zl))))) zm));refine QT (i:=4) (own:=[("name",3)]) (sl:=[3]) c rfl rfl (Jk rfl rfl rfl (by decide+kernel)) (js (mfn F_law_names hr (zb (mv 0) (zb (zv zj (mfn F_law_draw hr (zb (mv 0) (zb zj zl)) (zk (zk zx)))) zl)) (zk (zk zx)))) (bk [("name",3)] Zu xE) (λ_ _ _ _ _=>(mgn (c.blk _ _ _ _ _))) (by decide) (λ_ _ _ _ _=>?_) (λ_ _ _ _ _=>?_);exact xW;exact kO (zb (mv 3) (zb (zv zj (mfn F_law_draw hr (zb (mv 0) (zb zj zl)) (zk (zk zx)))) zl))
abbrev qe:Stmt:=top 50
theorem QX:FnScope jH ["articles"] (zp qe):=⟨rfl,rfl,rfl,by decide+kernel,rfl,by decide+kernel,by decide+kernel⟩
theorem Q0{P:Program}{w:World}{K:PySem.W.Frag}{mg:Str->Option Value}{base:Heap}{f:Addr}{fd:FuncData}(T:Gb K mg)(hm:mg "_law_articles_text"=some (.ref f))(F:Fun K "_law_articles_text" "_law_articles_text" qe f fd)(B:Binds K fd ["articles"] []):HasFn P w K mg base 1 "_law_articles_text" ["articles"] zD:=by rw [vR];have r:= @jm P w K mg base "_law_articles_text" qe f fd jH ["articles"] 0 xR hm F B QX;refine r ?_;intro cdv A outer s H E hr c;refine ze (msn 1 c (Qm zC (QZ (own:=[("row",2)]) (sl:=[2]) c (js (zQ (mv 0) zj)) (bk [("row",2)] jH qe) (λ_ _ _ _ _=>(mgn (c.blk _ _ _ _ _))) (by decide) (λ_ _ _ _ _=>xW) (λ_ _ _ _ _=>(zv (zv (zv (zv (zQ (mv 2) zj) zC) (qv zde rfl T.z_str X3 (zb (zQ (mv 2) zj) zl))) zC) (qv zde rfl T.z_str X3 (zb (zQ (mv 2) zj) zl))))))) ?_;refine ze ?_ zm;refine zR ?_;refine zv ?_ (qv zde rfl T.z_str X3 (zb (zQ (mv 0) zj) zl));refine zv ?_ zC;refine zv (zv (mv 1) zC) ?_;refine Qm zC ?_;refine QZ (own:=[("row",2)]) (sl:=[2]) c (js (zQ (mv 0) zj)) (bk [("row",2)] jH qe) (λ_ _ _ _ _=>(mgn (c.blk _ _ _ _ _))) (by decide) (λ_ _ _ _ _=>?_) (λ_ _ _ _ _=>?_);exact xW;exact zv (zv (zQ (mv 2) zj) zC) (qv zde rfl T.z_str X3 (zb (zQ (mv 2) zj) zl))
abbrev kd:Stmt:=top 51
theorem V4:FnScope JF ["draws","text"] (zp kd):=⟨rfl,rfl,rfl,by decide+kernel,rfl,by decide+kernel,by decide+kernel⟩
theorem zaF{P:Program}{w:World}{K:PySem.W.Frag}{mg:Str->Option Value}{base:Heap}{f:Addr}{fd:FuncData}(T:Gb K mg)(hm:mg "_law_spoilt"=some (.ref f))(F:Fun K "_law_spoilt" "_law_spoilt" kd f fd)(B:Binds K fd ["draws","text"] [])(F_law_draw:HasFn P w K mg base 1 "_law_draw" ["draws","many"] zq):HasFn P w K mg base 2 "_law_spoilt" ["draws","text"] jx:=by rw [XB];have r:= @jm P w K mg base "_law_spoilt" kd f fd JF ["draws","text"] 1 kS hm F B V4;refine r ?_;intro cdv A outer s H E hr c;refine ze (msn 2 c zC) ?_;refine ze (msn 3 c (zQ (xO (zb (zQ (mv 2) (mfn F_law_draw hr (zb (mv 0) (zb (z9 jY rfl T.z_len jU (zb (mv 2) zl)) zl)) (zk (zk zx)))) (zb (zQ zC (mfn F_law_draw hr (zb (mv 0) (zb zj zl)) (zk (zk zx)))) zl))) (mfn F_law_draw hr (zb (mv 0) (zb zj zl)) (zk (zk zx))))) ?_;refine ze (msn 4 c (mfn F_law_draw hr (zb (mv 0) (zb (zv (z9 jY rfl T.z_len jU (zb (mv 1) zl)) zj) zl)) (zk (zk zx)))) ?_;refine ze (msn 5 c (mfn F_law_draw hr (zb (mv 0) (zb zj zl)) (zk (zk zx)))) ?_;refine ze (jh (qA c (mv 5) zj) (ze (zR (zv (zv (Qa (mv 1) kC (jc (mv 4))) (mv 3)) (Qa (mv 1) (jc (mv 4)) kC))) zm) zm) ?_;refine ze (jh (qA c (mv 5) zj) (ze (zR (zv (zv (Qa (mv 1) kC (jc (mv 4))) (mv 3)) (Qa (mv 1) (jc (zv (mv 4) zj)) kC))) zm) zm) ?_;refine ze (jh (qA c (mv 5) zj) (ze (zR (zv (Qa (mv 1) kC (jc (mv 4))) (Qa (mv 1) (jc (zv (mv 4) zj)) kC))) zm) zm) ?_;refine ze (jh (qA c (mv 5) zj) (ze (zR (zv (Qa (mv 1) kC (jc (zv (mv 4) zj))) (Qa (mv 1) (jc (mv 4)) kC))) zm) zm) ?_;refine ze (msn 6 c (vi (mv 1) zC)) ?_;refine ze (msn 4 c (mfn F_law_draw hr (zb (mv 0) (zb (z9 jY rfl T.z_len jU (zb (mv 6) zl)) zl)) (zk (zk zx)))) ?_;refine ze (msn 7 c (zQ (mv 6) (mfn F_law_draw hr (zb (mv 0) (zb (z9 jY rfl T.z_len jU (zb (mv 6) zl)) zl)) (zk (zk zx))))) ?_;exact ze (zR (Qm zC (zv (zv (zbD (mv 6) kC (jc (mv 4))) (zQ (xO (zb (xO zl) (zb (zv (xO (zb (zQ (mv 6) (mv 4)) zl)) zj) (zb (xO (zb (mv 7) zl)) zl)))) (zv (mv 5) zj))) (zbD (mv 6) (jc (zv (mv 4) zj)) kC)))) zm
abbrev xh:Stmt:=top 52
theorem JP:FnScope v8 ["word"] (zp xh):=⟨rfl,rfl,rfl,by decide+kernel,rfl,by decide+kernel,by decide+kernel⟩
theorem JW{P:Program}{w:World}{K:PySem.W.Frag}{mg:Str->Option Value}{base:Heap}{f:Addr}{fd:FuncData}(T:Gb K mg)(hm:mg "_law_number_in"=some (.ref f))(F:Fun K "_law_number_in" "_law_number_in" xh f fd)(B:Binds K fd ["word"] []):HasFn P w K mg base 1 "_law_number_in" ["word"] zM:=by rw [Qg];have r:= @jm P w K mg base "_law_number_in" xh f fd v8 ["word"] 0 xN hm F B JP;refine r ?_;intro cdv A outer s H E hr c;refine ze ?_ (ze (zR (zjc (MW.mt (K1 (qA c (zQ (mv 0) zj) zC) (Je (qA c (mv 0) zC)))) Qy (qv zfi rfl T.z_int VG (zb (mv 0) zl)))) zm);refine jh ?_ (ze (zR Qy) zm) zm;refine MW.mt ?_;refine Qk (qA c (z9 jY rfl T.z_len jU (zb (mv 0) zl)) zj) ?_;refine Qk (qA c (z9 jY rfl T.z_len jU (zb (mv 0) zl)) zj) ?_;refine Zp ?_;refine qA c ?_ (xO zl);refine QZ (own:=[("sign",1)]) (sl:=[1]) c (js (mv 0)) (bk [("sign",1)] v8 xh) (λ_ _ _ _ _=>(mgn (c.blk _ _ _ _ _))) (by decide) (λ_ _ _ _ _=>?_) (λ_ _ _ _ _=>?_);exact zcu (qA (c.blk _ _ _ _ _) (mv 1) zC);exact mv 1
abbrev je:Stmt:=top 53
theorem Vl:FnScope Z7 ["thing"] (zp je):=⟨rfl,rfl,rfl,by decide+kernel,rfl,by decide+kernel,by decide+kernel⟩
theorem Vo{P:Program}{w:World}{K:PySem.W.Frag}{mg:Str->Option Value}{base:Heap}{f:Addr}{fd:FuncData}(T:Gb K mg)(hm:mg "_law_is_name"=some (.ref f))(F:Fun K "_law_is_name" "_law_is_name" je f fd)(B:Binds K fd ["thing"] []):HasFn P w K mg base 1 "_law_is_name" ["thing"] ku:=by rw [Q8];have r:= @jm P w K mg base "_law_is_name" je f fd Z7 ["thing"] 0 jG hm F B Vl;refine r ?_;intro cdv A outer s H E hr c;refine ze (jh (MW.mt (Qk (jw (xZ (Ze (T:=.str) rfl rfl T.z_isinstance rfl T.z_str X3 (mv 0)))) (Qk (qA c (z9 jY rfl T.z_len jU (zb (mv 0) zl)) zj) (Zp (qA c (z9 jY rfl T.z_len jU (zb (mv 0) zl)) zj))))) (ze (zR Zi) zm) zm) ?_;refine ze ?_ zm;refine zR ?_;refine JI c ?_ (xO zl);refine QZ (own:=[("sign",1)]) (sl:=[1]) c (js (mv 0)) (bk [("sign",1)] Z7 je) (λ_ _ _ _ _=>(mgn (c.blk _ _ _ _ _))) (by decide) (λ_ _ _ _ _=>?_) (λ_ _ _ _ _=>?_);exact zcu (qA (c.blk _ _ _ _ _) (mv 1) zC);exact mv 1
abbrev qP:Stmt:=top 54
theorem Jq:FnScope vP ["thing","long","most"] (zp qP):=⟨rfl,rfl,rfl,by decide+kernel,rfl,by decide+kernel,by decide+kernel⟩
theorem Jp{P:Program}{w:World}{K:PySem.W.Frag}{mg:Str->Option Value}{base:Heap}{f:Addr}{fd:FuncData}(T:Gb K mg)(hm:mg "_law_named_rows"=some (.ref f))(F:Fun K "_law_named_rows" "_law_named_rows" qP f fd)(B:Binds K fd ["thing","long","most"] [])(F_law_is_name:HasFn P w K mg base 1 "_law_is_name" ["thing"] ku):HasFn P w K mg base 2 "_law_named_rows" ["thing","long","most"] qO:=by rw [ZU];have r:= @jm P w K mg base "_law_named_rows" qP f fd vP ["thing","long","most"] 1 zZ hm F B Jq;refine r ?_;intro cdv A outer s H E hr c;refine ze (jh (MW.mt (Qk (jw (xZ (Ze (T:=.tuple) rfl rfl T.z_isinstance rfl T.z_tuple xB (mv 0)))) (Qk (qA c (z9 jY rfl T.z_len jU (zb (mv 0) zl)) zj) (Zp (qA c (z9 jY rfl T.z_len jU (zb (mv 0) zl)) (mv 2)))))) (ze (zR Zi) zm) zm) ?_;refine ze (XV (sl:=[3]) c (js (mv 0)) (mgn c) (ze (jh (MW.mt (Qk (jw (xZ (Ze (T:=.tuple) rfl rfl T.z_isinstance rfl T.z_tuple xB (mv 3)))) (Qk (qA c (z9 jY rfl T.z_len jU (zb (mv 3) zl)) (mv 1)) (Zp (jw (xZ (mfn F_law_is_name hr (zb (zQ (mv 3) zj) zl) (zk zx)))))))) (ze (zR Zi) zm) zm) zm)) ?_;refine ze ?_ (ze (zR (JI c (mv 4) (zd5 c rfl T.z_sorted rfl T.z_set (mv 4)))) zm);refine QT (i:=4) (own:=[("row",3)]) (sl:=[3]) c rfl rfl (Jk rfl rfl rfl (by decide+kernel)) (js (mv 0)) (bk [("row",3)] vP qP) (λ_ _ _ _ _=>(mgn (c.blk _ _ _ _ _))) (by decide) (λ_ _ _ _ _=>?_) (λ_ _ _ _ _=>?_);exact xW;exact zQ (mv 3) zj
abbrev j7:Stmt:=top 55
theorem VX:FnScope Jv ["thing","low","high"] (zp j7):=⟨rfl,rfl,rfl,by decide+kernel,rfl,by decide+kernel,by decide+kernel⟩
theorem V2{P:Program}{w:World}{K:PySem.W.Frag}{mg:Str->Option Value}{base:Heap}{f:Addr}{fd:FuncData}(T:Gb K mg)(hm:mg "_law_within"=some (.ref f))(F:Fun K "_law_within" "_law_within" j7 f fd)(B:Binds K fd ["thing","low","high"] []):HasFn P w K mg base 1 "_law_within" ["thing","low","high"] qN:=by rw [X0];have r:= @jm P w K mg base "_law_within" j7 f fd Jv ["thing","low","high"] 0 Zm hm F B VX;refine r ?_;intro cdv A outer s H E hr c;exact ze (zR (QC (Ze (T:=.int) rfl rfl T.z_isinstance rfl T.z_int VG (mv 0)) (QC (ziQ (Ze (T:=.bool) rfl rfl T.z_isinstance rfl T.z_bool zgi (mv 0))) (QC (JI c (mv 1) (mv 0)) (Ki (JI c (mv 0) (mv 2))))))) zm
abbrev qW:Stmt:=top 56
theorem X7:FnScope ZO ["thing"] (zp qW):=⟨rfl,rfl,rfl,by decide+kernel,rfl,by decide+kernel,by decide+kernel⟩
theorem X9{P:Program}{w:World}{K:PySem.W.Frag}{mg:Str->Option Value}{base:Heap}{f:Addr}{fd:FuncData}(T:Gb K mg)(hm:mg "_law_is_articles"=some (.ref f))(F:Fun K "_law_is_articles" "_law_is_articles" qW f fd)(B:Binds K fd ["thing"] [])(F_law_named_rows:HasFn P w K mg base 2 "_law_named_rows" ["thing","long","most"] qO)(F_law_within:HasFn P w K mg base 1 "_law_within" ["thing","low","high"] qN):HasFn P w K mg base 3 "_law_is_articles" ["thing"] zE:=by rw [Zn];have r:= @jm P w K mg base "_law_is_articles" qW f fd ZO ["thing"] 2 zI hm F B X7;refine r ?_;intro cdv A outer s H E hr c;refine ze (jh (MW.mt (Qk (jw (xZ (Ze (T:=.tuple) rfl rfl T.z_isinstance rfl T.z_tuple xB (mv 0)))) (Zp (qA c (z9 jY rfl T.z_len jU (zb (mv 0) zl)) zj)))) (ze (zR Zi) zm) zm) ?_;refine ze (jh (MW.mt (Qk (jw (xZ (mfn F_law_named_rows hr (zb (zQ (mv 0) zj) (zb zj (zb zj zl))) (zk (zk (zk zx)))))) (Zp (jw (xZ (mfn F_law_named_rows hr (zb (zQ (mv 0) zj) (zb zj (zb zj zl))) (zk (zk (zk zx))))))))) (ze (zR Zi) zm) zm) ?_;exact ze (XV (sl:=([1]++([2]++([3]++ [])))) c (js (zQ (mv 0) zj)) (Qr c (qk (mgn c) (qk (mgn c) (qk (mgn c) Zg)))) (ze (jh (MW.mt (Qk (jw (xZ (mfn F_law_within hr (zb (mv 2) (zb zj (zb (zv zj zj) zl))) (zk (zk (zk zx)))))) (Zp (jw (xZ (mfn F_law_within hr (zb (mv 3) (zb zj (zb zj zl))) (zk (zk (zk zx))))))))) (ze (zR Zi) zm) zm) zm)) (ze (XV (sl:=([4]++([5]++ []))) c (js (zQ (mv 0) zj)) (Qr c (qk (mgn c) (qk (mgn c) Zg))) (ze (jh (jw (xZ (mfn F_law_within hr (zb (mv 5) (zb zj (zb zj zl))) (zk (zk (zk zx)))))) (ze (zR Zi) zm) zm) zm)) (ze (zR (mfn F_law_within hr (zb (zQ (mv 0) zj) (zb zj (zb zj zl))) (zk (zk (zk zx))))) zm))
abbrev qd:Stmt:=top 57
theorem QW:FnScope jM ["text"] (zp qd):=⟨rfl,rfl,rfl,by decide+kernel,rfl,by decide+kernel,by decide+kernel⟩
theorem QV{P:Program}{w:World}{K:PySem.W.Frag}{mg:Str->Option Value}{base:Heap}{f:Addr}{fd:FuncData}(T:Gb K mg)(hm:mg "_law_read_articles"=some (.ref f))(F:Fun K "_law_read_articles" "_law_read_articles" qd f fd)(B:Binds K fd ["text"] [])(F_law_number_in:HasFn P w K mg base 1 "_law_number_in" ["word"] zM)(F_law_is_articles:HasFn P w K mg base 3 "_law_is_articles" ["thing"] zE)(F_law_articles_text:HasFn P w K mg base 1 "_law_articles_text" ["articles"] zD):HasFn P w K mg base 4 "_law_read_articles" ["text"] qF:=by rw [vS];have r:= @jm P w K mg base "_law_read_articles" qd f fd jM ["text"] 3 qu hm F B QW;refine r ?_;intro cdv A outer s H E hr c;refine ze (msn 1 c (zjc (xZ (Ze (T:=.str) rfl rfl T.z_isinstance rfl T.z_str X3 (mv 0))) (vi (mv 0) zC) (xO zl))) ?_;refine ze (jh (qA c (z9 jY rfl T.z_len jU (zb (mv 1) zl)) zj) (ze (zR Qy) zm) zm) ?_;refine ze (msn 2 c (zcC zl)) ?_;refine ze ?_ ?_;refine XV (sl:=[3]) c (js (vi (zQ (mv 1) zj) zC)) (mgn c) ?_;refine ze (msn 6 c (zQ (vi (mv 3) zC) zj)) ?_;refine ze ?_ (ze (K3 (zaS (mv 2) (zv (kO (zb (mv 6) zl)) (qv kq rfl T.z_tuple xB (zb (mv 7) zl))))) zm);refine QT (i:=7) (own:=[("word",8)]) (sl:=[8]) c rfl rfl (Jk rfl rfl rfl (by decide+kernel)) (js (vi (Qa (mv 3) (jc (zv (z9 jY rfl T.z_len jU (zb (mv 6) zl)) zj)) kC) zC)) (bk [("word",8)] jM qd) (λ_ _ _ _ _=>(mgn (c.blk _ _ _ _ _))) (by decide) (λ_ _ _ _ _=>?_) (λ_ _ _ _ _=>(mfn F_law_number_in hr (zb (mv 8) zl) (zk zx)));exact xW;refine ze ?_ (ze (msn 5 c (kO (zb (qv kq rfl T.z_tuple xB (zb (mv 2) zl)) (zb (qv kq rfl T.z_tuple xB (zb (mv 4) zl)) (zb (mfn F_law_number_in hr (zb (zQ (mv 1) zj) zl) (zk zx)) zl))))) (ze (jh (MW.mt (Qk (jw (xZ (mfn F_law_is_articles hr (zb (mv 5) zl) (zk zx)))) (Zp (qA c (mfn F_law_articles_text hr (zb (mv 5) zl) (zk zx)) (mv 0))))) (ze (zR Qy) zm) zm) (ze (zR (mv 5)) zm)));refine QT (i:=4) (own:=[("one",3)]) (sl:=[3]) c rfl rfl (Jk rfl rfl rfl (by decide+kernel)) (js (vi (zQ (mv 1) zj) zC)) (bk [("one",3)] jM qd) (λ_ _ _ _ _=>(mgn (c.blk _ _ _ _ _))) (by decide) (λ_ _ _ _ _=>?_) (λ_ _ _ _ _=>?_);exact xW;exact kO (zb (zQ (vi (mv 3) zC) zj) (zb (mfn F_law_number_in hr (zb (Qm zC (zbD (vi (mv 3) zC) (jc zj) kC)) zl) (zk zx)) zl))
abbrev jC:Stmt:=top 58
theorem zbA:FnScope Xr ["draws","deep"] (zp jC):=⟨rfl,rfl,rfl,by decide+kernel,rfl,by decide+kernel,by decide+kernel⟩
theorem XO{P:Program}{w:World}{K:PySem.W.Frag}{mg:Str->Option Value}{base:Heap}{f:Addr}{fd:FuncData}(T:Gb K mg)(hm:mg "_law_thing"=some (.ref f))(F:Fun K "_law_thing" "_law_thing" jC f fd)(B:Binds K fd ["draws","deep"] [])(F_law_draw:HasFn P w K mg base 1 "_law_draw" ["draws","many"] zq):∀n,HasFn P w K mg base (1+n) "_law_thing" ["draws","deep"] (kM n)
 |0=>zfg hm F B _
 |n+1=>by have ih:=XO T hm F B F_law_draw n;rw [Jy];have r:= @jm P w K mg base "_law_thing" jC f fd Xr ["draws","deep"] (1+n) (jk (kM n)) hm F B zbA;refine r ?_;intro cdv A outer s H E hr c;refine ze (msn 2 c (mfn F_law_draw hr (zb (mv 0) (zb zj zl)) (zk (zk zx)))) ?_;refine ze (jh (MW.mt (Qk (qA c (mv 2) zj) (Zp (qA c (mv 1) zj)))) (ze (msn 4 c (xO (zb zj (zb zj (zb (zfS zj) (zb Zi (zb Zi (zb Qy (zb zC (zb zC (zb zC (zb zC (zb zC (zb zC (zb zC (zb (zv zj zj) (zb (zv (zv zj zj) zj) zl))))))))))))))))) (ze (zR (zQ (zv (mv 4) (xO (zb zj (zb zj (zb (zv (zv zj zj) zj) (zb (kO zl) (zb (xO zl) zl))))))) (mfn F_law_draw hr (zb (mv 0) (zb zj zl)) (zk (zk zx))))) zm)) zm) ?_;refine ze ?_ (ze (zR (zQ (xO (zb (mv 3) (zb (qv kq rfl T.z_tuple xB (zb (mv 3) zl)) (zb (qv kq rfl T.z_tuple xB (zb (mv 3) zl)) zl)))) (zv (mv 2) zj))) zm);refine QT (i:=3) (own:=[("k",5)]) (sl:=[5]) c rfl rfl (Jk rfl rfl rfl (by decide+kernel)) (Qx rfl T.z_range (mfn F_law_draw hr (zb (mv 0) (zb zj zl)) (zk (zk zx)))) (bk [("k",5)] Xr jC) (λ_ _ _ _ _=>(mgn (c.blk _ _ _ _ _))) (by decide) (λ_ _ _ _ _=>?_) (λ_ _ _ _ _=>(mfn ih hr (zb (mv 0) (zb (zv (mv 1) zj) zl)) (zk (zk zx))));exact xW
theorem zbl{P:Program}{w:World}{K:PySem.W.Frag}{mg:Str->Option Value}{base:Heap}{f:Addr}{fd:FuncData}(T:Gb K mg)(hm:mg "_law_thing"=some (.ref f))(F:Fun K "_law_thing" "_law_thing" jC f fd)(B:Binds K fd ["draws","deep"] [])(F_law_draw:HasFn P w K mg base 1 "_law_draw" ["draws","many"] zq):HasFn P w K mg base 5 "_law_thing" ["draws","deep"] vm:=XO T hm F B F_law_draw 4
abbrev xk:Stmt:=top 59
theorem JV:FnScope Qp ["draws","thing","deep"] (zp xk):=⟨rfl,rfl,rfl,by decide+kernel,rfl,by decide+kernel,by decide+kernel⟩
theorem ZH{P:Program}{w:World}{K:PySem.W.Frag}{mg:Str->Option Value}{base:Heap}{f:Addr}{fd:FuncData}(T:Gb K mg)(hm:mg "_law_otherwise"=some (.ref f))(F:Fun K "_law_otherwise" "_law_otherwise" xk f fd)(B:Binds K fd ["draws","thing","deep"] [])(F_law_thing:HasFn P w K mg base 5 "_law_thing" ["draws","deep"] vm)(F_law_draw:HasFn P w K mg base 1 "_law_draw" ["draws","many"] zq):∀n,HasFn P w K mg base (5+n) "_law_otherwise" ["draws","thing","deep"] (xP n)
 |0=>zfg hm F B _
 |n+1=>by have ih:=ZH T hm F B F_law_thing F_law_draw n;rw [Qc];have r:= @jm P w K mg base "_law_otherwise" xk f fd Qp ["draws","thing","deep"] (5+n) (kY (xP n)) hm F B JV;refine r ?_;intro cdv A outer s H E hr c;refine ze (msn 3 c (qv zhd rfl T.z_list zgA (zb (mv 1) zl))) ?_;refine ze (jh (qA c (mv 3) (xO zl)) (ze (zR (kO (zb (mfn F_law_thing hr (zb (mv 0) (zb zj zl)) (zk (zk zx))) zl))) zm) zm) ?_;refine ze (msn 4 c (mfn F_law_draw hr (zb (mv 0) (zb (z9 jY rfl T.z_len jU (zb (mv 3) zl)) zl)) (zk (zk zx)))) ?_;refine ze (jh (MW.mt (K1 (xZ (Ze (T:=.tuple) rfl rfl T.z_isinstance rfl T.z_tuple xB (zQ (mv 3) (mv 4)))) (K1 (qA c (mv 2) zj) (Je (qA c (mfn F_law_draw hr (zb (mv 0) (zb zj zl)) (zk (zk zx))) zj))))) (ze (vn (zis (mfn ih hr (zb (mv 0) (zb (zQ (mv 3) (mv 4)) (zb (zv (mv 2) zj) zl))) (zk (zk (zk zx))))) (mv 3) (mv 4)) (ze (zR (qv kq rfl T.z_tuple xB (zb (mv 3) zl))) zm)) zm) ?_;refine ze (msn 5 c (mfn F_law_draw hr (zb (mv 0) (zb zj zl)) (zk (zk zx)))) ?_;refine ze ?_ (ze (zR (qv kq rfl T.z_tuple xB (zb (mv 3) zl))) zm);refine jh (qA c (mv 5) zj) (ze (K3 (zhK (mv 3) (mv 4))) zm) ?_;refine ze ?_ zm;refine jh (qA c (mv 5) zj) (ze (K3 (zeS (mv 3) (mv 4) (zQ (mv 3) (mv 4)))) zm) ?_;refine ze ?_ zm;refine jh (qA c (mv 5) zj) (ze (zfC (zkU (zbD (mv 3) (jc (mv 4)) (jc (zv (mv 4) zj)))) (mv 3) (jc (mv 4)) (jc (zv (mv 4) zj))) zm) ?_;refine ze ?_ zm;refine jh (qA c (mv 5) zj) (ze (vn (mfn F_law_thing hr (zb (mv 0) (zb zj zl)) (zk (zk zx))) (mv 3) (mv 4)) zm) ?_;refine ze ?_ zm;refine jh (qA c (mv 5) zj) (ze (msn 6 c (xO (zb zj (zb zj (zb (zfS zj) (zb zj (zb zj (zb (zv zj zj) (zb (zv (zv zj zj) zj) (zb (zv zj zj) (zb (zv (zv zj zj) zj) (zb (zv zj zj) (zb (zv (zv zj zj) zj) (zb Qy (zb Zi zl))))))))))))))) (ze (vn (zQ (mv 6) (mfn F_law_draw hr (zb (mv 0) (zb zj zl)) (zk (zk zx)))) (mv 3) (mv 4)) zm)) ?_;refine ze ?_ zm;exact jh (MW.mt (K1 (qA c (mv 5) zj) (Je (xZ (Ze (T:=.tuple) rfl rfl T.z_isinstance rfl T.z_tuple xB (zQ (mv 3) (mv 4))))))) (ze (vn (qv zjO rfl T.z_list zgA (zb (zQ (mv 3) (mv 4)) zl)) (mv 3) (mv 4)) zm) (ze (jh (MW.mt (K1 (qA c (mv 5) zj) (Je (xZ (Ze (T:=.str) rfl rfl T.z_isinstance rfl T.z_str X3 (zQ (mv 3) (mv 4))))))) (ze (vn (zv (zQ (mv 3) (mv 4)) (zQ (xO (zb zC (zb zC (zb zC (zb zC zl))))) (mfn F_law_draw hr (zb (mv 0) (zb zj zl)) (zk (zk zx))))) (mv 3) (mv 4)) zm) (ze (zR (mv 3)) zm)) zm)
theorem JS{P:Program}{w:World}{K:PySem.W.Frag}{mg:Str->Option Value}{base:Heap}{f:Addr}{fd:FuncData}(T:Gb K mg)(hm:mg "_law_otherwise"=some (.ref f))(F:Fun K "_law_otherwise" "_law_otherwise" xk f fd)(B:Binds K fd ["draws","thing","deep"] [])(F_law_thing:HasFn P w K mg base 5 "_law_thing" ["draws","deep"] vm)(F_law_draw:HasFn P w K mg base 1 "_law_draw" ["draws","many"] zq):HasFn P w K mg base 8 "_law_otherwise" ["draws","thing","deep"] vc:=ZH T hm F B F_law_thing F_law_draw 3
abbrev vz:Stmt:=top 60
theorem Xg:FnScope VP ["way","thing"] (zp vz):=⟨rfl,rfl,rfl,by decide+kernel,rfl,by decide+kernel,by decide+kernel⟩
theorem zcd{P:Program}{w:World}{K:PySem.W.Frag}{mg:Str->Option Value}{base:Heap}{f:Addr}{fd:FuncData}(T:Gb K mg)(hm:mg "_law_read"=some (.ref f))(F:Fun K "_law_read" "_law_read" vz f fd)(B:Binds K fd ["way","thing"] [])(F_read_articles:HasFnX P w K mg base 6 "read_articles" ["text"] [] jr)(F_articles_text:HasFnX P w K mg base 7 "articles_text" ["articles"] [] xf)(F_law_kind_of:HasFnH P w K mg base 1 "_law_kind_of" ["e"] xA):HasFn P w K mg base 8 "_law_read" ["way","thing"] zW:=by rw [KJ];have r:= @jm P w K mg base "_law_read" vz f fd VP ["way","thing"] 7 vt hm F B Xg;refine r ?_;intro cdv A outer s H E hr c;refine ze (msn 2 c Qy) ?_;refine ze (msn 3 c zC) ?_;refine ze ?_ (ze (zR (kO (zb (mv 2) (zb (mv 3) zl)))) zm);refine zkq (i:=4) T.t_WageError (Cok.nd c) rfl rfl rfl rfl rfl (λE pn=>?_) (λe=>?_);exact ze (Qd (i:=2) Xg.nd rfl (Or.inl rfl) (zjc (Kj (qA (zjf c E pn) (mv 0) zj)) (Q7 F_read_articles (hr.mono (by omega)) rfl (zb (mv 1) zl) (zk zx)) (Q7 F_articles_text (hr.mono (by omega)) rfl (zb (mv 1) zl) (zk zx)))) zm;exact zfF (zjn (i:=3) Xg.nd rfl (Or.inl rfl) (zkY F_law_kind_of (zdQ (hr.mono (by omega))) rfl (zb (mv 4) zl) (zk zx))) zie
abbrev kB:Stmt:=top 61
theorem zcz:FnScope QS ["draws"] (zp kB):=⟨rfl,rfl,rfl,by decide+kernel,rfl,by decide+kernel,by decide+kernel⟩
theorem zcf{P:Program}{w:World}{K:PySem.W.Frag}{mg:Str->Option Value}{base:Heap}{f:Addr}{fd:FuncData}(T:Gb K mg)(hm:mg "_law_wide"=some (.ref f))(F:Fun K "_law_wide" "_law_wide" kB f fd)(B:Binds K fd ["draws"] [])(F_law_names:HasFn P w K mg base 2 "_law_names" ["draws","many"] jf):HasFn P w K mg base 3 "_law_wide" ["draws"] vq:=by rw [Ks];have r:= @jm P w K mg base "_law_wide" kB f fd QS ["draws"] 2 QP hm F B zcz;refine r ?_;intro cdv A outer s H E hr c;refine ze ?_ ?_;refine QT (i:=1) (own:=[("name",2)]) (sl:=[2]) c rfl rfl (Jk rfl rfl rfl (by decide+kernel)) (js (mfn F_law_names hr (zb (mv 0) (zb zj zl)) (zk (zk zx)))) (bk [("name",2)] QS kB) (λ_ _ _ _ _=>(mgn (c.blk _ _ _ _ _))) (by decide) (λ_ _ _ _ _=>?_) (λ_ _ _ _ _=>?_);exact xW;exact kO (zb (mv 2) (zb (zv zj zj) (zb zj zl)));refine ze ?_ zm;refine zR ?_;refine kO ?_;refine zb (qv kq rfl T.z_tuple xB (zb (mv 1) zl)) ?_;refine zb ?_ (zb zj zl);refine qv kq rfl T.z_tuple xB ?_;refine zb ?_ zl;refine QZ (own:=[("name",2)]) (sl:=[2]) c (js (mfn F_law_names hr (zb (mv 0) (zb zj zl)) (zk (zk zx)))) (bk [("name",2)] QS kB) (λ_ _ _ _ _=>(mgn (c.blk _ _ _ _ _))) (by decide) (λ_ _ _ _ _=>?_) (λ_ _ _ _ _=>?_);exact xW;exact kO (zb (mv 2) (zb zj zl))
abbrev Vw:Stmt:=top 62
theorem zlz:FnScope zmi ["script"] (zp Vw):=⟨rfl,rfl,rfl,by decide+kernel,rfl,by decide+kernel,by decide+kernel⟩
theorem zlT{P:Program}{w:World}{K:PySem.W.Frag}{mg:Str->Option Value}{base:Heap}{f:Addr}{fd:FuncData}(T:Gb K mg)(hm:mg "law"=some (.ref f))(F:Fun K "law" "law" Vw f fd)(B:Binds K fd ["script"] [])(F_law_draws:HasFn P w K mg base 1 "_law_draws" ["script","k"] kL)(F_law_wide:HasFn P w K mg base 3 "_law_wide" ["draws"] vq)(F_law_articles:HasFn P w K mg base 3 "_law_articles" ["draws","great"] qZ)(F_law_articles_text:HasFn P w K mg base 1 "_law_articles_text" ["articles"] zD)(F_law_read:HasFn P w K mg base 8 "_law_read" ["way","thing"] zW)(F_law_spoilt:HasFn P w K mg base 2 "_law_spoilt" ["draws","text"] jx)(F_law_read_articles:HasFn P w K mg base 4 "_law_read_articles" ["text"] qF)(F_law_otherwise:HasFn P w K mg base 8 "_law_otherwise" ["draws","thing","deep"] vc)(F_law_is_articles:HasFn P w K mg base 3 "_law_is_articles" ["thing"] zE):FnOk P w K mg base CX0 9 f fd ["script"] (zcW K ["script"].length zcv):=by rw [ziS];have r:= @zlW P w K mg base "law" "law" Vw f fd zmi ["script"] 8 zfD F zlz;refine r ?_;intro cdv A outer s H E hr c;refine ze ?_ (ze (zR Zi) zm);refine XV (sl:=[1]) c (Qx rfl T.z_range (z9 (zjC c) rfl T.z_max zle (zb zj (zb (z9 (zjg c) rfl T.z_min zmt (zb zj (zb (z9 jY rfl T.z_len jU (zb (mv 0) zl)) zl))) zl)))) (mgn c) ?_;refine ze (msn 2 c (mfn F_law_draws hr (zb (mv 0) (zb (mv 1) zl)) (zk (zk zx)))) ?_;refine ze ?_ (ze (msn 4 c (xO (zb Qy (zb zj (zb Zi (zb zC (zb zC (zb (xO (zb zC zl)) (zb zC (zb zC (zb zC zl))))))))))) (ze (XV (sl:=[5]) c (js (zv (mv 4) (xO (zb zC zl)))) (mgn c) (ze (jh (qA c (mfn F_law_read hr (zb zj (zb (mv 5) zl)) (zk (zk zx))) (kO (zb Qy (zb zC zl)))) (ze (zR Zi) zm) zm) zm)) zm));refine XV (sl:=[3]) c (js (xO (zb (mfn F_law_articles hr (zb (mv 2) (zb (zv zj zj) zl)) (zk (zk zx))) (zb (mfn F_law_wide hr (zb (mv 2) zl) (zk zx)) zl)))) (mgn c) ?_;refine ze (msn 6 c (mfn F_law_articles_text hr (zb (mv 3) zl) (zk zx))) ?_;refine ze (jh (MW.mt (Qk (qA c (mfn F_law_read hr (zb zj (zb (mv 3) zl)) (zk (zk zx))) (kO (zb (mv 6) (zb zC zl)))) (Zp (qA c (mfn F_law_read hr (zb zj (zb (mv 6) zl)) (zk (zk zx))) (kO (zb (mv 3) (zb zC zl))))))) (ze (zR Zi) zm) zm) ?_;exact ze (XV (sl:=[7]) c (Qx rfl T.z_range zj) (mgn c) (ze (msn 6 c (mfn F_law_spoilt hr (zb (mv 2) (zb (mv 6) zl)) (zk (zk zx)))) (ze (msn 8 c (mfn F_law_read_articles hr (zb (mv 6) zl) (zk zx))) (ze (jh (qA c (mfn F_law_read hr (zb zj (zb (mv 6) zl)) (zk (zk zx))) (kO (zb (mv 8) (zb (zQ (xO (zb zC (zb zC zl))) (qv ziO rfl T.z_int VG (zb (JI c (mv 8) Qy) zl))) zl)))) (ze (zR Zi) zm) zm) zm)))) (ze (msn 4 c (zis (mfn F_law_otherwise hr (zb (mv 2) (zb (mv 3) (zb zj zl))) (zk (zk (zk zx)))))) (ze (jh (MW.mt (K1 (jw (xZ (mfn F_law_is_articles hr (zb (mv 4) zl) (zk zx)))) (Je (qA c (mfn F_law_read hr (zb zj (zb (mv 4) zl)) (zk (zk zx))) (kO (zb Qy (zb zC zl))))))) (ze (zR Zi) zm) zm) zm))
set_option maxHeartbeats 4000000 in
theorem all_mk{l:PySem.W.OpenLaw}{w:World}{K:PySem.W.Frag}{h:Heap}{mg:Str->Option Value}{fa:Addr}(X:K.In h)(G:h.Ns mainGlobals mg)(hfa:mg "law"=some (.ref fa))
 {f0:Addr} {od0 an0:Option Addr} {sl0:Array (Option Value)} {oc0 kV0 dc0 pm0 cd0 ct0:Value}
 {f1:Addr} {od1 an1:Option Addr} {sl1:Array (Option Value)} {oc1 kV1 dc1 pm1 cd1 ct1:Value}
 {f2:Addr} {od2 an2:Option Addr} {sl2:Array (Option Value)} {oc2 kV2 dc2 pm2 cd2 ct2:Value}
 {f3:Addr} {od3 an3:Option Addr} {sl3:Array (Option Value)} {oc3 kV3 dc3 pm3 cd3 ct3:Value}
 {f4:Addr} {od4 an4:Option Addr} {sl4:Array (Option Value)} {oc4 kV4 dc4 pm4 cd4 ct4:Value}
 {f5:Addr} {od5 an5:Option Addr} {sl5:Array (Option Value)} {oc5 kV5 dc5 pm5 cd5 ct5:Value}
 {f6:Addr} {od6 an6:Option Addr} {sl6:Array (Option Value)} {oc6 kV6 dc6 pm6 cd6 ct6:Value}
 {f7:Addr} {od7 an7:Option Addr} {sl7:Array (Option Value)} {oc7 kV7 dc7 pm7 cd7 ct7:Value}
 {f8:Addr} {od8 an8:Option Addr} {sl8:Array (Option Value)} {oc8 kV8 dc8 pm8 cd8 ct8:Value}
 {f9:Addr} {od9 an9:Option Addr} {sl9:Array (Option Value)} {oc9 kV9 dc9 pm9 cd9 ct9:Value}
 {f10:Addr} {od10 an10:Option Addr} {sl10:Array (Option Value)} {oc10 kV10 dc10 pm10 cd10 ct10:Value}
 {f11:Addr} {od11 an11:Option Addr} {sl11:Array (Option Value)} {oc11 kV11 dc11 pm11 cd11 ct11:Value}
 {f12:Addr} {od12 an12:Option Addr} {sl12:Array (Option Value)} {oc12 kV12 dc12 pm12 cd12 ct12:Value}
 {f13:Addr} {od13 an13:Option Addr} {sl13:Array (Option Value)} {oc13 kV13 dc13 pm13 cd13 ct13:Value}
 {f14:Addr} {od14 an14:Option Addr} {sl14:Array (Option Value)} {oc14 kV14 dc14 pm14 cd14 ct14:Value}
 {f15:Addr} {od15 an15:Option Addr} {sl15:Array (Option Value)} {oc15 kV15 dc15 pm15 cd15 ct15:Value}
 {f16:Addr} {od16 an16:Option Addr} {sl16:Array (Option Value)} {oc16 kV16 dc16 pm16 cd16 ct16:Value}
 {f17:Addr} {od17 an17:Option Addr} {sl17:Array (Option Value)} {oc17 kV17 dc17 pm17 cd17 ct17:Value}
 {f18:Addr} {od18 an18:Option Addr} {sl18:Array (Option Value)} {oc18 kV18 dc18 pm18 cd18 ct18:Value}
 {f19:Addr} {od19 an19:Option Addr} {sl19:Array (Option Value)} {oc19 kV19 dc19 pm19 cd19 ct19:Value}
 {f20:Addr} {od20 an20:Option Addr} {sl20:Array (Option Value)} {oc20 kV20 dc20 pm20 cd20 ct20:Value}
 {f21:Addr} {od21 an21:Option Addr} {sl21:Array (Option Value)} {oc21 kV21 dc21 pm21 cd21 ct21:Value}
 {f22:Addr} {od22 an22:Option Addr} {sl22:Array (Option Value)} {oc22 kV22 dc22 pm22 cd22 ct22:Value}
 {f23:Addr} {od23 an23:Option Addr} {sl23:Array (Option Value)} {oc23 kV23 dc23 pm23 cd23 ct23:Value}
 {f24:Addr} {od24 an24:Option Addr} {sl24:Array (Option Value)} {oc24 kV24 dc24 pm24 cd24 ct24:Value}
 {f25:Addr} {od25 an25:Option Addr} {sl25:Array (Option Value)} {oc25 kV25 dc25 pm25 cd25 ct25:Value}
 {f26:Addr} {od26 an26:Option Addr} {sl26:Array (Option Value)} {oc26 kV26 dc26 pm26 cd26 ct26:Value}
 {f27:Addr} {od27 an27:Option Addr} {sl27:Array (Option Value)} {oc27 kV27 dc27 pm27 cd27 ct27:Value}
 {f28:Addr} {od28 an28:Option Addr} {sl28:Array (Option Value)} {oc28 kV28 dc28 pm28 cd28 ct28:Value}
 {f29:Addr} {od29 an29:Option Addr} {sl29:Array (Option Value)} {oc29 kV29 dc29 pm29 cd29 ct29:Value}
 {f30:Addr} {od30 an30:Option Addr} {sl30:Array (Option Value)} {oc30 kV30 dc30 pm30 cd30 ct30:Value}
 {f31:Addr} {od31 an31:Option Addr} {sl31:Array (Option Value)} {oc31 kV31 dc31 pm31 cd31 ct31:Value}
 {f32:Addr} {od32 an32:Option Addr} {sl32:Array (Option Value)} {oc32 kV32 dc32 pm32 cd32 ct32:Value}
 {f33:Addr} {od33 an33:Option Addr} {sl33:Array (Option Value)} {oc33 kV33 dc33 pm33 cd33 ct33:Value}
 {f34:Addr} {od34 an34:Option Addr} {sl34:Array (Option Value)} {oc34 kV34 dc34 pm34 cd34 ct34:Value}
 {t_FIGURES:Tok}
 {t_MOST_CHESTS:Tok}
 {t_MOST_DAYS:Tok}
 {t_MOST_FIGURES:Tok}
 {t_MOST_LETTERS:Tok}
 {t_MOST_MONTH:Tok}
 {t_MOST_PART:Tok}
 {t_MOST_PENCE:Tok}
 {t_MOST_RANKS:Tok}
 {C_Faulty:Addr}
 {C_NoArticles:Addr}
 {C_NoMan:Addr}
 {C_NoPage:Addr}
 {C_NoPages:Addr}
 {C_NoRank:Addr}
 {C_NoRow:Addr}
 {C_NoSum:Addr}
 {C_NoText:Addr}
 {C_NotThere:Addr}
 {C_NothingLeft:Addr}
 {C_TooMany:Addr}
 {C_TooMuch:Addr}
 {C_Twice:Addr}
 {C_WageError:Addr}
 (a0:PySem.W.nsIn K mainGlobals "is_whole"=some (some (.ref f0))) (l0:K.lookup f0=some ⟨oc0,od0,.func (PySem.W.fnOf "is_whole" "is_whole" (zV vw) (zP vw) (zp vw) .none kV0 dc0 pm0 an0 cd0 ct0),sl0⟩) (c0:PySem.W.codeIn K cd0 "is_whole"=true) (k0:PySem.W.keepIn K (.ref f0)=true)
 (a1:PySem.W.nsIn K mainGlobals "is_whole_within"=some (some (.ref f1))) (l1:K.lookup f1=some ⟨oc1,od1,.func (PySem.W.fnOf "is_whole_within" "is_whole_within" (zV qU) (zP qU) (zp qU) .none kV1 dc1 pm1 an1 cd1 ct1),sl1⟩) (c1:PySem.W.codeIn K cd1 "is_whole_within"=true) (k1:PySem.W.keepIn K (.ref f1)=true)
 (a2:PySem.W.nsIn K mainGlobals "is_name"=some (some (.ref f2))) (l2:K.lookup f2=some ⟨oc2,od2,.func (PySem.W.fnOf "is_name" "is_name" (zV vH) (zP vH) (zp vH) .none kV2 dc2 pm2 an2 cd2 ct2),sl2⟩) (c2:PySem.W.codeIn K cd2 "is_name"=true) (k2:PySem.W.keepIn K (.ref f2)=true)
 (a3:PySem.W.nsIn K mainGlobals "is_tuple_of"=some (some (.ref f3))) (l3:K.lookup f3=some ⟨oc3,od3,.func (PySem.W.fnOf "is_tuple_of" "is_tuple_of" (zV jE) (zP jE) (zp jE) .none kV3 dc3 pm3 an3 cd3 ct3),sl3⟩) (c3:PySem.W.codeIn K cd3 "is_tuple_of"=true) (k3:PySem.W.keepIn K (.ref f3)=true)
 (a4:PySem.W.nsIn K mainGlobals "is_rising"=some (some (.ref f4))) (l4:K.lookup f4=some ⟨oc4,od4,.func (PySem.W.fnOf "is_rising" "is_rising" (zV j6) (zP j6) (zp j6) .none kV4 dc4 pm4 an4 cd4 ct4),sl4⟩) (c4:PySem.W.codeIn K cd4 "is_rising"=true) (k4:PySem.W.keepIn K (.ref f4)=true)
 (a5:PySem.W.nsIn K mainGlobals "is_rank_row"=some (some (.ref f5))) (l5:K.lookup f5=some ⟨oc5,od5,.func (PySem.W.fnOf "is_rank_row" "is_rank_row" (zV jJ) (zP jJ) (zp jJ) .none kV5 dc5 pm5 an5 cd5 ct5),sl5⟩) (c5:PySem.W.codeIn K cd5 "is_rank_row"=true) (k5:PySem.W.keepIn K (.ref f5)=true)
 (a6:PySem.W.nsIn K mainGlobals "is_chest_row"=some (some (.ref f6))) (l6:K.lookup f6=some ⟨oc6,od6,.func (PySem.W.fnOf "is_chest_row" "is_chest_row" (zV ji) (zP ji) (zp ji) .none kV6 dc6 pm6 an6 cd6 ct6),sl6⟩) (c6:PySem.W.codeIn K cd6 "is_chest_row"=true) (k6:PySem.W.keepIn K (.ref f6)=true)
 (a7:PySem.W.nsIn K mainGlobals "are_ranks"=some (some (.ref f7))) (l7:K.lookup f7=some ⟨oc7,od7,.func (PySem.W.fnOf "are_ranks" "are_ranks" (zV jL) (zP jL) (zp jL) .none kV7 dc7 pm7 an7 cd7 ct7),sl7⟩) (c7:PySem.W.codeIn K cd7 "are_ranks"=true) (k7:PySem.W.keepIn K (.ref f7)=true)
 (a8:PySem.W.nsIn K mainGlobals "are_chests"=some (some (.ref f8))) (l8:K.lookup f8=some ⟨oc8,od8,.func (PySem.W.fnOf "are_chests" "are_chests" (zV x8) (zP x8) (zp x8) .none kV8 dc8 pm8 an8 cd8 ct8),sl8⟩) (c8:PySem.W.codeIn K cd8 "are_chests"=true) (k8:PySem.W.keepIn K (.ref f8)=true)
 (a9:PySem.W.nsIn K mainGlobals "is_articles"=some (some (.ref f9))) (l9:K.lookup f9=some ⟨oc9,od9,.func (PySem.W.fnOf "is_articles" "is_articles" (zV jK) (zP jK) (zp jK) .none kV9 dc9 pm9 an9 cd9 ct9),sl9⟩) (c9:PySem.W.codeIn K cd9 "is_articles"=true) (k9:PySem.W.keepIn K (.ref f9)=true)
 (a10:PySem.W.nsIn K mainGlobals "need_articles"=some (some (.ref f10))) (l10:K.lookup f10=some ⟨oc10,od10,.func (PySem.W.fnOf "need_articles" "need_articles" (zV xg) (zP xg) (zp xg) .none kV10 dc10 pm10 an10 cd10 ct10),sl10⟩) (c10:PySem.W.codeIn K cd10 "need_articles"=true) (k10:PySem.W.keepIn K (.ref f10)=true)
 (a11:PySem.W.nsIn K mainGlobals "articles_text"=some (some (.ref f11))) (l11:K.lookup f11=some ⟨oc11,od11,.func (PySem.W.fnOf "articles_text" "articles_text" (zV qC) (zP qC) (zp qC) .none kV11 dc11 pm11 an11 cd11 ct11),sl11⟩) (c11:PySem.W.codeIn K cd11 "articles_text"=true) (k11:PySem.W.keepIn K (.ref f11)=true)
 (a12:PySem.W.nsIn K mainGlobals "read_number"=some (some (.ref f12))) (l12:K.lookup f12=some ⟨oc12,od12,.func (PySem.W.fnOf "read_number" "read_number" (zV xC) (zP xC) (zp xC) .none kV12 dc12 pm12 an12 cd12 ct12),sl12⟩) (c12:PySem.W.codeIn K cd12 "read_number"=true) (k12:PySem.W.keepIn K (.ref f12)=true)
 (a13:PySem.W.nsIn K mainGlobals "words_of"=some (some (.ref f13))) (l13:K.lookup f13=some ⟨oc13,od13,.func (PySem.W.fnOf "words_of" "words_of" (zV kW) (zP kW) (zp kW) .none kV13 dc13 pm13 an13 cd13 ct13),sl13⟩) (c13:PySem.W.codeIn K cd13 "words_of"=true) (k13:PySem.W.keepIn K (.ref f13)=true)
 (a14:PySem.W.nsIn K mainGlobals "read_rank"=some (some (.ref f14))) (l14:K.lookup f14=some ⟨oc14,od14,.func (PySem.W.fnOf "read_rank" "read_rank" (zV ka) (zP ka) (zp ka) .none kV14 dc14 pm14 an14 cd14 ct14),sl14⟩) (c14:PySem.W.codeIn K cd14 "read_rank"=true) (k14:PySem.W.keepIn K (.ref f14)=true)
 (a15:PySem.W.nsIn K mainGlobals "read_chest"=some (some (.ref f15))) (l15:K.lookup f15=some ⟨oc15,od15,.func (PySem.W.fnOf "read_chest" "read_chest" (zV jt) (zP jt) (zp jt) .none kV15 dc15 pm15 an15 cd15 ct15),sl15⟩) (c15:PySem.W.codeIn K cd15 "read_chest"=true) (k15:PySem.W.keepIn K (.ref f15)=true)
 (a16:PySem.W.nsIn K mainGlobals "read_articles"=some (some (.ref f16))) (l16:K.lookup f16=some ⟨oc16,od16,.func (PySem.W.fnOf "read_articles" "read_articles" (zV qB) (zP qB) (zp qB) .none kV16 dc16 pm16 an16 cd16 ct16),sl16⟩) (c16:PySem.W.codeIn K cd16 "read_articles"=true) (k16:PySem.W.keepIn K (.ref f16)=true)
 (a17:PySem.W.nsIn K mainGlobals "_law_kind_of"=some (some (.ref f17))) (l17:K.lookup f17=some ⟨oc17,od17,.func (PySem.W.fnOf "_law_kind_of" "_law_kind_of" (zV x6) (zP x6) (zp x6) .none kV17 dc17 pm17 an17 cd17 ct17),sl17⟩) (c17:PySem.W.codeIn K cd17 "_law_kind_of"=true) (k17:PySem.W.keepIn K (.ref f17)=true)
 (a18:PySem.W.nsIn K mainGlobals "_law_draw"=some (some (.ref f18))) (l18:K.lookup f18=some ⟨oc18,od18,.func (PySem.W.fnOf "_law_draw" "_law_draw" (zV vC) (zP vC) (zp vC) .none kV18 dc18 pm18 an18 cd18 ct18),sl18⟩) (c18:PySem.W.codeIn K cd18 "_law_draw"=true) (k18:PySem.W.keepIn K (.ref f18)=true)
 (a19:PySem.W.nsIn K mainGlobals "_law_names"=some (some (.ref f19))) (l19:K.lookup f19=some ⟨oc19,od19,.func (PySem.W.fnOf "_law_names" "_law_names" (zV jA) (zP jA) (zp jA) .none kV19 dc19 pm19 an19 cd19 ct19),sl19⟩) (c19:PySem.W.codeIn K cd19 "_law_names"=true) (k19:PySem.W.keepIn K (.ref f19)=true)
 (a20:PySem.W.nsIn K mainGlobals "_law_draws"=some (some (.ref f20))) (l20:K.lookup f20=some ⟨oc20,od20,.func (PySem.W.fnOf "_law_draws" "_law_draws" (zV kK) (zP kK) (zp kK) .none kV20 dc20 pm20 an20 cd20 ct20),sl20⟩) (c20:PySem.W.codeIn K cd20 "_law_draws"=true) (k20:PySem.W.keepIn K (.ref f20)=true)
 (a21:PySem.W.nsIn K mainGlobals "_law_articles"=some (some (.ref f21))) (l21:K.lookup f21=some ⟨oc21,od21,.func (PySem.W.fnOf "_law_articles" "_law_articles" (zV xE) (zP xE) (zp xE) .none kV21 dc21 pm21 an21 cd21 ct21),sl21⟩) (c21:PySem.W.codeIn K cd21 "_law_articles"=true) (k21:PySem.W.keepIn K (.ref f21)=true)
 (a22:PySem.W.nsIn K mainGlobals "_law_articles_text"=some (some (.ref f22))) (l22:K.lookup f22=some ⟨oc22,od22,.func (PySem.W.fnOf "_law_articles_text" "_law_articles_text" (zV qe) (zP qe) (zp qe) .none kV22 dc22 pm22 an22 cd22 ct22),sl22⟩) (c22:PySem.W.codeIn K cd22 "_law_articles_text"=true) (k22:PySem.W.keepIn K (.ref f22)=true)
 (a23:PySem.W.nsIn K mainGlobals "_law_spoilt"=some (some (.ref f23))) (l23:K.lookup f23=some ⟨oc23,od23,.func (PySem.W.fnOf "_law_spoilt" "_law_spoilt" (zV kd) (zP kd) (zp kd) .none kV23 dc23 pm23 an23 cd23 ct23),sl23⟩) (c23:PySem.W.codeIn K cd23 "_law_spoilt"=true) (k23:PySem.W.keepIn K (.ref f23)=true)
 (a24:PySem.W.nsIn K mainGlobals "_law_number_in"=some (some (.ref f24))) (l24:K.lookup f24=some ⟨oc24,od24,.func (PySem.W.fnOf "_law_number_in" "_law_number_in" (zV xh) (zP xh) (zp xh) .none kV24 dc24 pm24 an24 cd24 ct24),sl24⟩) (c24:PySem.W.codeIn K cd24 "_law_number_in"=true) (k24:PySem.W.keepIn K (.ref f24)=true)
 (a25:PySem.W.nsIn K mainGlobals "_law_is_name"=some (some (.ref f25))) (l25:K.lookup f25=some ⟨oc25,od25,.func (PySem.W.fnOf "_law_is_name" "_law_is_name" (zV je) (zP je) (zp je) .none kV25 dc25 pm25 an25 cd25 ct25),sl25⟩) (c25:PySem.W.codeIn K cd25 "_law_is_name"=true) (k25:PySem.W.keepIn K (.ref f25)=true)
 (a26:PySem.W.nsIn K mainGlobals "_law_named_rows"=some (some (.ref f26))) (l26:K.lookup f26=some ⟨oc26,od26,.func (PySem.W.fnOf "_law_named_rows" "_law_named_rows" (zV qP) (zP qP) (zp qP) .none kV26 dc26 pm26 an26 cd26 ct26),sl26⟩) (c26:PySem.W.codeIn K cd26 "_law_named_rows"=true) (k26:PySem.W.keepIn K (.ref f26)=true)
 (a27:PySem.W.nsIn K mainGlobals "_law_within"=some (some (.ref f27))) (l27:K.lookup f27=some ⟨oc27,od27,.func (PySem.W.fnOf "_law_within" "_law_within" (zV j7) (zP j7) (zp j7) .none kV27 dc27 pm27 an27 cd27 ct27),sl27⟩) (c27:PySem.W.codeIn K cd27 "_law_within"=true) (k27:PySem.W.keepIn K (.ref f27)=true)
 (a28:PySem.W.nsIn K mainGlobals "_law_is_articles"=some (some (.ref f28))) (l28:K.lookup f28=some ⟨oc28,od28,.func (PySem.W.fnOf "_law_is_articles" "_law_is_articles" (zV qW) (zP qW) (zp qW) .none kV28 dc28 pm28 an28 cd28 ct28),sl28⟩) (c28:PySem.W.codeIn K cd28 "_law_is_articles"=true) (k28:PySem.W.keepIn K (.ref f28)=true)
 (a29:PySem.W.nsIn K mainGlobals "_law_read_articles"=some (some (.ref f29))) (l29:K.lookup f29=some ⟨oc29,od29,.func (PySem.W.fnOf "_law_read_articles" "_law_read_articles" (zV qd) (zP qd) (zp qd) .none kV29 dc29 pm29 an29 cd29 ct29),sl29⟩) (c29:PySem.W.codeIn K cd29 "_law_read_articles"=true) (k29:PySem.W.keepIn K (.ref f29)=true)
 (a30:PySem.W.nsIn K mainGlobals "_law_thing"=some (some (.ref f30))) (l30:K.lookup f30=some ⟨oc30,od30,.func (PySem.W.fnOf "_law_thing" "_law_thing" (zV jC) (zP jC) (zp jC) .none kV30 dc30 pm30 an30 cd30 ct30),sl30⟩) (c30:PySem.W.codeIn K cd30 "_law_thing"=true) (k30:PySem.W.keepIn K (.ref f30)=true)
 (a31:PySem.W.nsIn K mainGlobals "_law_otherwise"=some (some (.ref f31))) (l31:K.lookup f31=some ⟨oc31,od31,.func (PySem.W.fnOf "_law_otherwise" "_law_otherwise" (zV xk) (zP xk) (zp xk) .none kV31 dc31 pm31 an31 cd31 ct31),sl31⟩) (c31:PySem.W.codeIn K cd31 "_law_otherwise"=true) (k31:PySem.W.keepIn K (.ref f31)=true)
 (a32:PySem.W.nsIn K mainGlobals "_law_read"=some (some (.ref f32))) (l32:K.lookup f32=some ⟨oc32,od32,.func (PySem.W.fnOf "_law_read" "_law_read" (zV vz) (zP vz) (zp vz) .none kV32 dc32 pm32 an32 cd32 ct32),sl32⟩) (c32:PySem.W.codeIn K cd32 "_law_read"=true) (k32:PySem.W.keepIn K (.ref f32)=true)
 (a33:PySem.W.nsIn K mainGlobals "_law_wide"=some (some (.ref f33))) (l33:K.lookup f33=some ⟨oc33,od33,.func (PySem.W.fnOf "_law_wide" "_law_wide" (zV kB) (zP kB) (zp kB) .none kV33 dc33 pm33 an33 cd33 ct33),sl33⟩) (c33:PySem.W.codeIn K cd33 "_law_wide"=true) (k33:PySem.W.keepIn K (.ref f33)=true)
 (a34:PySem.W.nsIn K mainGlobals "law"=some (some (.ref f34))) (l34:K.lookup f34=some ⟨oc34,od34,.func (PySem.W.fnOf "law" "law" (zV Vw) (zP Vw) (zp Vw) .none kV34 dc34 pm34 an34 cd34 ct34),sl34⟩) (c34:PySem.W.codeIn K cd34 "law"=true) (k34:PySem.W.keepIn K (.ref f34)=true)
 (z_all:PySem.W.nsIn K mainGlobals "all"=some none)
 (z_bool:PySem.W.nsIn K mainGlobals "bool"=some none)
 (z_int:PySem.W.nsIn K mainGlobals "int"=some none)
 (z_isinstance:PySem.W.nsIn K mainGlobals "isinstance"=some none)
 (z_len:PySem.W.nsIn K mainGlobals "len"=some none)
 (z_list:PySem.W.nsIn K mainGlobals "list"=some none)
 (z_max:PySem.W.nsIn K mainGlobals "max"=some none)
 (z_min:PySem.W.nsIn K mainGlobals "min"=some none)
 (z_range:PySem.W.nsIn K mainGlobals "range"=some none)
 (z_set:PySem.W.nsIn K mainGlobals "set"=some none)
 (z_sorted:PySem.W.nsIn K mainGlobals "sorted"=some none)
 (z_str:PySem.W.nsIn K mainGlobals "str"=some none)
 (z_tuple:PySem.W.nsIn K mainGlobals "tuple"=some none)
 (z_zip:PySem.W.nsIn K mainGlobals "zip"=some none)
 (y_FIGURES:PySem.W.nsIn K mainGlobals "FIGURES"=some (some (.str "0123456789" t_FIGURES)))
 (y_MOST_CHESTS:PySem.W.nsIn K mainGlobals "MOST_CHESTS"=some (some (.int 6 t_MOST_CHESTS)))
 (y_MOST_DAYS:PySem.W.nsIn K mainGlobals "MOST_DAYS"=some (some (.int 1000 t_MOST_DAYS)))
 (y_MOST_FIGURES:PySem.W.nsIn K mainGlobals "MOST_FIGURES"=some (some (.int 13 t_MOST_FIGURES)))
 (y_MOST_LETTERS:PySem.W.nsIn K mainGlobals "MOST_LETTERS"=some (some (.int 8 t_MOST_LETTERS)))
 (y_MOST_MONTH:PySem.W.nsIn K mainGlobals "MOST_MONTH"=some (some (.int 1000 t_MOST_MONTH)))
 (y_MOST_PART:PySem.W.nsIn K mainGlobals "MOST_PART"=some (some (.int 1000 t_MOST_PART)))
 (y_MOST_PENCE:PySem.W.nsIn K mainGlobals "MOST_PENCE"=some (some (.int 1000000000 t_MOST_PENCE)))
 (y_MOST_RANKS:PySem.W.nsIn K mainGlobals "MOST_RANKS"=some (some (.int 12 t_MOST_RANKS)))
 (x_hn:PySem.W.specialIn K (.builtin "object.__class__") "__get__"=some (some (.builtin "getset_descriptor.__get__")))
 (x_ht:PySem.W.takesIn K (.builtin "object.__class__")=some true)
 (n_Faulty:PySem.W.nsIn K mainGlobals "Faulty"=some (some (.ref C_Faulty)))
 (n_NoArticles:PySem.W.nsIn K mainGlobals "NoArticles"=some (some (.ref C_NoArticles)))
 (n_NoMan:PySem.W.nsIn K mainGlobals "NoMan"=some (some (.ref C_NoMan)))
 (n_NoPage:PySem.W.nsIn K mainGlobals "NoPage"=some (some (.ref C_NoPage)))
 (n_NoPages:PySem.W.nsIn K mainGlobals "NoPages"=some (some (.ref C_NoPages)))
 (n_NoRank:PySem.W.nsIn K mainGlobals "NoRank"=some (some (.ref C_NoRank)))
 (n_NoRow:PySem.W.nsIn K mainGlobals "NoRow"=some (some (.ref C_NoRow)))
 (n_NoSum:PySem.W.nsIn K mainGlobals "NoSum"=some (some (.ref C_NoSum)))
 (n_NoText:PySem.W.nsIn K mainGlobals "NoText"=some (some (.ref C_NoText)))
 (n_NotThere:PySem.W.nsIn K mainGlobals "NotThere"=some (some (.ref C_NotThere)))
 (n_NothingLeft:PySem.W.nsIn K mainGlobals "NothingLeft"=some (some (.ref C_NothingLeft)))
 (n_TooMany:PySem.W.nsIn K mainGlobals "TooMany"=some (some (.ref C_TooMany)))
 (n_TooMuch:PySem.W.nsIn K mainGlobals "TooMuch"=some (some (.ref C_TooMuch)))
 (n_Twice:PySem.W.nsIn K mainGlobals "Twice"=some (some (.ref C_Twice)))
 (n_WageError:PySem.W.nsIn K mainGlobals "WageError"=some (some (.ref C_WageError)))
 (xg_NoArticles:PySem.W.findIn K (.ref C_NoArticles) "__getattribute__"=some (some (.builtin "BaseException.__getattribute__")))
 (xh_NoArticles:PySem.W.findIn K (.ref C_NoArticles) "__getattr__"=some none)
 (xb_NoArticles:PySem.W.mroIn K C_NoArticles (.type "BaseException")=some true)
 (xo_NoArticles:PySem.W.mroIn K C_NoArticles (.type "object")=some true)
 (xd_NoArticles:PySem.W.hasDictIn K C_NoArticles=true)
 (xc_NoArticles:PySem.W.findIn K (.ref C_NoArticles) "__class__"=some (some (.builtin "object.__class__")))
 (xg_NoText:PySem.W.findIn K (.ref C_NoText) "__getattribute__"=some (some (.builtin "BaseException.__getattribute__")))
 (xh_NoText:PySem.W.findIn K (.ref C_NoText) "__getattr__"=some none)
 (xb_NoText:PySem.W.mroIn K C_NoText (.type "BaseException")=some true)
 (xo_NoText:PySem.W.mroIn K C_NoText (.type "object")=some true)
 (xd_NoText:PySem.W.hasDictIn K C_NoText=true)
 (xc_NoText:PySem.W.findIn K (.ref C_NoText) "__class__"=some (some (.builtin "object.__class__")))
 (e_NoArticles:PySem.W.excIn K C_NoArticles ZX.zmB "ValueError.__new__"=true)
 (e_NoText:PySem.W.excIn K C_NoText ZX.zmB "ValueError.__new__"=true)
 (i_NoArticles_Faulty:PySem.W.kitOne K (.ref C_NoArticles) (.ref C_Faulty)=some false)
 (i_NoText_Faulty:PySem.W.kitOne K (.ref C_NoText) (.ref C_Faulty)=some false)
 (i_NoArticles_NoArticles:PySem.W.kitOne K (.ref C_NoArticles) (.ref C_NoArticles)=some true)
 (i_NoText_NoArticles:PySem.W.kitOne K (.ref C_NoText) (.ref C_NoArticles)=some false)
 (i_NoArticles_NoMan:PySem.W.kitOne K (.ref C_NoArticles) (.ref C_NoMan)=some false)
 (i_NoText_NoMan:PySem.W.kitOne K (.ref C_NoText) (.ref C_NoMan)=some false)
 (i_NoArticles_NoPage:PySem.W.kitOne K (.ref C_NoArticles) (.ref C_NoPage)=some false)
 (i_NoText_NoPage:PySem.W.kitOne K (.ref C_NoText) (.ref C_NoPage)=some false)
 (i_NoArticles_NoPages:PySem.W.kitOne K (.ref C_NoArticles) (.ref C_NoPages)=some false)
 (i_NoText_NoPages:PySem.W.kitOne K (.ref C_NoText) (.ref C_NoPages)=some false)
 (i_NoArticles_NoRank:PySem.W.kitOne K (.ref C_NoArticles) (.ref C_NoRank)=some false)
 (i_NoText_NoRank:PySem.W.kitOne K (.ref C_NoText) (.ref C_NoRank)=some false)
 (i_NoArticles_NoRow:PySem.W.kitOne K (.ref C_NoArticles) (.ref C_NoRow)=some false)
 (i_NoText_NoRow:PySem.W.kitOne K (.ref C_NoText) (.ref C_NoRow)=some false)
 (i_NoArticles_NoSum:PySem.W.kitOne K (.ref C_NoArticles) (.ref C_NoSum)=some false)
 (i_NoText_NoSum:PySem.W.kitOne K (.ref C_NoText) (.ref C_NoSum)=some false)
 (i_NoArticles_NoText:PySem.W.kitOne K (.ref C_NoArticles) (.ref C_NoText)=some false)
 (i_NoText_NoText:PySem.W.kitOne K (.ref C_NoText) (.ref C_NoText)=some true)
 (i_NoArticles_NotThere:PySem.W.kitOne K (.ref C_NoArticles) (.ref C_NotThere)=some false)
 (i_NoText_NotThere:PySem.W.kitOne K (.ref C_NoText) (.ref C_NotThere)=some false)
 (i_NoArticles_NothingLeft:PySem.W.kitOne K (.ref C_NoArticles) (.ref C_NothingLeft)=some false)
 (i_NoText_NothingLeft:PySem.W.kitOne K (.ref C_NoText) (.ref C_NothingLeft)=some false)
 (i_NoArticles_TooMany:PySem.W.kitOne K (.ref C_NoArticles) (.ref C_TooMany)=some false)
 (i_NoText_TooMany:PySem.W.kitOne K (.ref C_NoText) (.ref C_TooMany)=some false)
 (i_NoArticles_TooMuch:PySem.W.kitOne K (.ref C_NoArticles) (.ref C_TooMuch)=some false)
 (i_NoText_TooMuch:PySem.W.kitOne K (.ref C_NoText) (.ref C_TooMuch)=some false)
 (i_NoArticles_Twice:PySem.W.kitOne K (.ref C_NoArticles) (.ref C_Twice)=some false)
 (i_NoText_Twice:PySem.W.kitOne K (.ref C_NoText) (.ref C_Twice)=some false)
 (n_ValueError:PySem.W.nsIn K mainGlobals "ValueError"=some none)
 (i_NoArticles_ValueError:PySem.W.kitOne K (.ref C_NoArticles) (.type "ValueError")=some true)
 (i_NoText_ValueError:PySem.W.kitOne K (.ref C_NoText) (.type "ValueError")=some true)
 (t_NoArticles_WageError:PySem.W.exmOne K (.ref C_NoArticles) (.ref C_WageError)=some true)
 (t_NoText_WageError:PySem.W.exmOne K (.ref C_NoText) (.ref C_WageError)=some true):
 ∃fd:FuncData,(∀(s:Shared) (v:Value),BindsTo s fd ⟨[v],[]⟩ [("script",v)])/\∀base:Heap,K.In base->base.Ns mainGlobals mg->FnOk l.prog w K mg base CX0 9 fa fd ["script"] (zcW K 1 zcv):=by
 have e:=hfa.symm.trans (lx X G a34);cases e;have F0:=qX (st:=vw) l0 c0 k0;have b0:=F0.binds (ps:=["thing"]) λ_ _ _ _ _ _ us hl=>match us,hl with| [_],_=>rfl
 have F1:=qX (st:=qU) l1 c1 k1;have b1:=F1.binds (ps:=["thing","least","most"]) λ_ _ _ _ _ _ us hl=>match us,hl with| [_,_,_],_=>rfl
 have F2:=qX (st:=vH) l2 c2 k2;have b2:=F2.binds (ps:=["thing"]) λ_ _ _ _ _ _ us hl=>match us,hl with| [_],_=>rfl
 have F3:=qX (st:=jE) l3 c3 k3;have b3:=F3.binds (ps:=["thing","least","most"]) λ_ _ _ _ _ _ us hl=>match us,hl with| [_,_,_],_=>rfl
 have F4:=qX (st:=j6) l4 c4 k4;have b4:=F4.binds (ps:=["names"]) λ_ _ _ _ _ _ us hl=>match us,hl with| [_],_=>rfl
 have F5:=qX (st:=jJ) l5 c5 k5;have b5:=F5.binds (ps:=["thing"]) λ_ _ _ _ _ _ us hl=>match us,hl with| [_],_=>rfl
 have F6:=qX (st:=ji) l6 c6 k6;have b6:=F6.binds (ps:=["thing"]) λ_ _ _ _ _ _ us hl=>match us,hl with| [_],_=>rfl
 have F7:=qX (st:=jL) l7 c7 k7;have b7:=F7.binds (ps:=["thing"]) λ_ _ _ _ _ _ us hl=>match us,hl with| [_],_=>rfl
 have F8:=qX (st:=x8) l8 c8 k8;have b8:=F8.binds (ps:=["thing"]) λ_ _ _ _ _ _ us hl=>match us,hl with| [_],_=>rfl
 have F9:=qX (st:=jK) l9 c9 k9;have b9:=F9.binds (ps:=["thing"]) λ_ _ _ _ _ _ us hl=>match us,hl with| [_],_=>rfl
 have F10:FunV K "need_articles" "need_articles" xg .none f10 _:=⟨⟨oc10,od10,kV10,dc10,pm10,an10,cd10,ct10,sl10,rfl,l10,c10⟩,k10⟩;have b10:=(qX (st:=xg) l10 c10 k10).binds (ps:=["thing"]) λ_ _ _ _ _ _ us hl=>match us,hl with| [_],_=>rfl
 have F11:FunV K "articles_text" "articles_text" qC .none f11 _:=⟨⟨oc11,od11,kV11,dc11,pm11,an11,cd11,ct11,sl11,rfl,l11,c11⟩,k11⟩;have b11:=(qX (st:=qC) l11 c11 k11).binds (ps:=["articles"]) λ_ _ _ _ _ _ us hl=>match us,hl with| [_],_=>rfl
 have F12:FunV K "read_number" "read_number" xC .none f12 _:=⟨⟨oc12,od12,kV12,dc12,pm12,an12,cd12,ct12,sl12,rfl,l12,c12⟩,k12⟩;have b12:=(qX (st:=xC) l12 c12 k12).binds (ps:=["text"]) λ_ _ _ _ _ _ us hl=>match us,hl with| [_],_=>rfl
 have F13:FunV K "words_of" "words_of" kW .none f13 _:=⟨⟨oc13,od13,kV13,dc13,pm13,an13,cd13,ct13,sl13,rfl,l13,c13⟩,k13⟩;have b13:=(qX (st:=kW) l13 c13 k13).binds (ps:=["thing"]) λ_ _ _ _ _ _ us hl=>match us,hl with| [_],_=>rfl
 have F14:FunV K "read_rank" "read_rank" ka .none f14 _:=⟨⟨oc14,od14,kV14,dc14,pm14,an14,cd14,ct14,sl14,rfl,l14,c14⟩,k14⟩;have b14:=(qX (st:=ka) l14 c14 k14).binds (ps:=["text"]) λ_ _ _ _ _ _ us hl=>match us,hl with| [_],_=>rfl
 have F15:FunV K "read_chest" "read_chest" jt .none f15 _:=⟨⟨oc15,od15,kV15,dc15,pm15,an15,cd15,ct15,sl15,rfl,l15,c15⟩,k15⟩;have b15:=(qX (st:=jt) l15 c15 k15).binds (ps:=["text"]) λ_ _ _ _ _ _ us hl=>match us,hl with| [_],_=>rfl
 have F16:FunV K "read_articles" "read_articles" qB .none f16 _:=⟨⟨oc16,od16,kV16,dc16,pm16,an16,cd16,ct16,sl16,rfl,l16,c16⟩,k16⟩;have b16:=(qX (st:=qB) l16 c16 k16).binds (ps:=["text"]) λ_ _ _ _ _ _ us hl=>match us,hl with| [_],_=>rfl
 have F17:=qX (st:=x6) l17 c17 k17;have b17:=F17.binds (ps:=["e"]) λ_ _ _ _ _ _ us hl=>match us,hl with| [_],_=>rfl
 have F18:=qX (st:=vC) l18 c18 k18;have b18:=F18.binds (ps:=["draws","many"]) λ_ _ _ _ _ _ us hl=>match us,hl with| [_,_],_=>rfl
 have F19:=qX (st:=jA) l19 c19 k19;have b19:=F19.binds (ps:=["draws","many"]) λ_ _ _ _ _ _ us hl=>match us,hl with| [_,_],_=>rfl
 have F20:=qX (st:=kK) l20 c20 k20;have b20:=F20.binds (ps:=["script","k"]) λ_ _ _ _ _ _ us hl=>match us,hl with| [_,_],_=>rfl
 have F21:=qX (st:=xE) l21 c21 k21;have b21:=F21.binds (ps:=["draws","great"]) λ_ _ _ _ _ _ us hl=>match us,hl with| [_,_],_=>rfl
 have F22:=qX (st:=qe) l22 c22 k22;have b22:=F22.binds (ps:=["articles"]) λ_ _ _ _ _ _ us hl=>match us,hl with| [_],_=>rfl
 have F23:=qX (st:=kd) l23 c23 k23;have b23:=F23.binds (ps:=["draws","text"]) λ_ _ _ _ _ _ us hl=>match us,hl with| [_,_],_=>rfl
 have F24:=qX (st:=xh) l24 c24 k24;have b24:=F24.binds (ps:=["word"]) λ_ _ _ _ _ _ us hl=>match us,hl with| [_],_=>rfl
 have F25:=qX (st:=je) l25 c25 k25;have b25:=F25.binds (ps:=["thing"]) λ_ _ _ _ _ _ us hl=>match us,hl with| [_],_=>rfl
 have F26:=qX (st:=qP) l26 c26 k26;have b26:=F26.binds (ps:=["thing","long","most"]) λ_ _ _ _ _ _ us hl=>match us,hl with| [_,_,_],_=>rfl
 have F27:=qX (st:=j7) l27 c27 k27;have b27:=F27.binds (ps:=["thing","low","high"]) λ_ _ _ _ _ _ us hl=>match us,hl with| [_,_,_],_=>rfl
 have F28:=qX (st:=qW) l28 c28 k28;have b28:=F28.binds (ps:=["thing"]) λ_ _ _ _ _ _ us hl=>match us,hl with| [_],_=>rfl
 have F29:=qX (st:=qd) l29 c29 k29;have b29:=F29.binds (ps:=["text"]) λ_ _ _ _ _ _ us hl=>match us,hl with| [_],_=>rfl
 have F30:=qX (st:=jC) l30 c30 k30;have b30:=F30.binds (ps:=["draws","deep"]) λ_ _ _ _ _ _ us hl=>match us,hl with| [_,_],_=>rfl
 have F31:=qX (st:=xk) l31 c31 k31;have b31:=F31.binds (ps:=["draws","thing","deep"]) λ_ _ _ _ _ _ us hl=>match us,hl with| [_,_,_],_=>rfl
 have F32:=qX (st:=vz) l32 c32 k32;have b32:=F32.binds (ps:=["way","thing"]) λ_ _ _ _ _ _ us hl=>match us,hl with| [_,_],_=>rfl
 have F33:=qX (st:=kB) l33 c33 k33;have b33:=F33.binds (ps:=["draws"]) λ_ _ _ _ _ _ us hl=>match us,hl with| [_],_=>rfl
 have F34:=qX (st:=Vw) l34 c34 k34;have b34:=F34.binds (ps:=["script"]) λ_ _ _ _ _ _ us hl=>match us,hl with| [_],_=>rfl
 have X_NoArticles:ZX.KX K C_NoArticles:=⟨xg_NoArticles,xh_NoArticles,xb_NoArticles,xo_NoArticles,(let⟨cd,e,_⟩:=PySem.W.any_some xd_NoArticles;by rw [e];rfl),xc_NoArticles,x_hn,x_ht⟩;have X_NoText:ZX.KX K C_NoText:=⟨xg_NoText,xh_NoText,xb_NoText,xo_NoText,(let⟨cd,e,_⟩:=PySem.W.any_some xd_NoText;by rw [e];rfl),xc_NoText,x_hn,x_ht⟩
 have I_Faulty:XD K mg "Faulty" [("NoArticles",false),("NoText",false)]:=⟨C_Faulty,lx X G n_Faulty,λq hq=>by
  simp only [lu,lP,or_false] at hq;rcases hq with rfl|rfl
  ·exact⟨C_NoArticles,n_NoArticles,X_NoArticles,i_NoArticles_Faulty⟩
  ·exact⟨C_NoText,n_NoText,X_NoText,i_NoText_Faulty⟩⟩
 have I_NoArticles:XD K mg "NoArticles" [("NoArticles",true),("NoText",false)]:=⟨C_NoArticles,lx X G n_NoArticles,λq hq=>by
  simp only [lu,lP,or_false] at hq;rcases hq with rfl|rfl
  ·exact⟨C_NoArticles,n_NoArticles,X_NoArticles,i_NoArticles_NoArticles⟩
  ·exact⟨C_NoText,n_NoText,X_NoText,i_NoText_NoArticles⟩⟩
 have I_NoMan:XD K mg "NoMan" [("NoArticles",false),("NoText",false)]:=⟨C_NoMan,lx X G n_NoMan,λq hq=>by
  simp only [lu,lP,or_false] at hq;rcases hq with rfl|rfl
  ·exact⟨C_NoArticles,n_NoArticles,X_NoArticles,i_NoArticles_NoMan⟩
  ·exact⟨C_NoText,n_NoText,X_NoText,i_NoText_NoMan⟩⟩
 have I_NoPage:XD K mg "NoPage" [("NoArticles",false),("NoText",false)]:=⟨C_NoPage,lx X G n_NoPage,λq hq=>by
  simp only [lu,lP,or_false] at hq;rcases hq with rfl|rfl
  ·exact⟨C_NoArticles,n_NoArticles,X_NoArticles,i_NoArticles_NoPage⟩
  ·exact⟨C_NoText,n_NoText,X_NoText,i_NoText_NoPage⟩⟩
 have I_NoPages:XD K mg "NoPages" [("NoArticles",false),("NoText",false)]:=⟨C_NoPages,lx X G n_NoPages,λq hq=>by
  simp only [lu,lP,or_false] at hq;rcases hq with rfl|rfl
  ·exact⟨C_NoArticles,n_NoArticles,X_NoArticles,i_NoArticles_NoPages⟩
  ·exact⟨C_NoText,n_NoText,X_NoText,i_NoText_NoPages⟩⟩
 have I_NoRank:XD K mg "NoRank" [("NoArticles",false),("NoText",false)]:=⟨C_NoRank,lx X G n_NoRank,λq hq=>by
  simp only [lu,lP,or_false] at hq;rcases hq with rfl|rfl
  ·exact⟨C_NoArticles,n_NoArticles,X_NoArticles,i_NoArticles_NoRank⟩
  ·exact⟨C_NoText,n_NoText,X_NoText,i_NoText_NoRank⟩⟩
 have I_NoRow:XD K mg "NoRow" [("NoArticles",false),("NoText",false)]:=⟨C_NoRow,lx X G n_NoRow,λq hq=>by
  simp only [lu,lP,or_false] at hq;rcases hq with rfl|rfl
  ·exact⟨C_NoArticles,n_NoArticles,X_NoArticles,i_NoArticles_NoRow⟩
  ·exact⟨C_NoText,n_NoText,X_NoText,i_NoText_NoRow⟩⟩
 have I_NoSum:XD K mg "NoSum" [("NoArticles",false),("NoText",false)]:=⟨C_NoSum,lx X G n_NoSum,λq hq=>by
  simp only [lu,lP,or_false] at hq;rcases hq with rfl|rfl
  ·exact⟨C_NoArticles,n_NoArticles,X_NoArticles,i_NoArticles_NoSum⟩
  ·exact⟨C_NoText,n_NoText,X_NoText,i_NoText_NoSum⟩⟩
 have I_NoText:XD K mg "NoText" [("NoArticles",false),("NoText",true)]:=⟨C_NoText,lx X G n_NoText,λq hq=>by
  simp only [lu,lP,or_false] at hq;rcases hq with rfl|rfl
  ·exact⟨C_NoArticles,n_NoArticles,X_NoArticles,i_NoArticles_NoText⟩
  ·exact⟨C_NoText,n_NoText,X_NoText,i_NoText_NoText⟩⟩
 have I_NotThere:XD K mg "NotThere" [("NoArticles",false),("NoText",false)]:=⟨C_NotThere,lx X G n_NotThere,λq hq=>by
  simp only [lu,lP,or_false] at hq;rcases hq with rfl|rfl
  ·exact⟨C_NoArticles,n_NoArticles,X_NoArticles,i_NoArticles_NotThere⟩
  ·exact⟨C_NoText,n_NoText,X_NoText,i_NoText_NotThere⟩⟩
 have I_NothingLeft:XD K mg "NothingLeft" [("NoArticles",false),("NoText",false)]:=⟨C_NothingLeft,lx X G n_NothingLeft,λq hq=>by
  simp only [lu,lP,or_false] at hq;rcases hq with rfl|rfl
  ·exact⟨C_NoArticles,n_NoArticles,X_NoArticles,i_NoArticles_NothingLeft⟩
  ·exact⟨C_NoText,n_NoText,X_NoText,i_NoText_NothingLeft⟩⟩
 have I_TooMany:XD K mg "TooMany" [("NoArticles",false),("NoText",false)]:=⟨C_TooMany,lx X G n_TooMany,λq hq=>by
  simp only [lu,lP,or_false] at hq;rcases hq with rfl|rfl
  ·exact⟨C_NoArticles,n_NoArticles,X_NoArticles,i_NoArticles_TooMany⟩
  ·exact⟨C_NoText,n_NoText,X_NoText,i_NoText_TooMany⟩⟩
 have I_TooMuch:XD K mg "TooMuch" [("NoArticles",false),("NoText",false)]:=⟨C_TooMuch,lx X G n_TooMuch,λq hq=>by
  simp only [lu,lP,or_false] at hq;rcases hq with rfl|rfl
  ·exact⟨C_NoArticles,n_NoArticles,X_NoArticles,i_NoArticles_TooMuch⟩
  ·exact⟨C_NoText,n_NoText,X_NoText,i_NoText_TooMuch⟩⟩
 have I_Twice:XD K mg "Twice" [("NoArticles",false),("NoText",false)]:=⟨C_Twice,lx X G n_Twice,λq hq=>by
  simp only [lu,lP,or_false] at hq;rcases hq with rfl|rfl
  ·exact⟨C_NoArticles,n_NoArticles,X_NoArticles,i_NoArticles_Twice⟩
  ·exact⟨C_NoText,n_NoText,X_NoText,i_NoText_Twice⟩⟩
 have I_ValueError:zj5 K mg "ValueError" "ValueError" [("NoArticles",true),("NoText",true)]:=⟨yj X G n_ValueError,λq hq=>by
  simp only [lu,lP,or_false] at hq;rcases hq with rfl|rfl
  ·exact⟨C_NoArticles,n_NoArticles,X_NoArticles,i_NoArticles_ValueError⟩
  ·exact⟨C_NoText,n_NoText,X_NoText,i_NoText_ValueError⟩⟩
 have Y_WageError:znl K mg "WageError" ["NoArticles","NoText"]:=⟨C_WageError,lx X G n_WageError,λq hq=>by
  simp only [lu,lP,or_false] at hq;rcases hq with rfl|rfl
  ·exact⟨C_NoArticles,n_NoArticles,t_NoArticles_WageError⟩
  ·exact⟨C_NoText,n_NoText,t_NoText_WageError⟩⟩
 have T:Gb K mg:=⟨yj X G z_all,yj X G z_bool,yj X G z_int,yj X G z_isinstance,yj X G z_len,yj X G z_list,yj X G z_max,yj X G z_min,yj X G z_range,yj X G z_set,yj X G z_sorted,yj X G z_str,yj X G z_tuple,yj X G z_zip,⟨_,lx X G y_FIGURES⟩,⟨_,lx X G y_MOST_CHESTS⟩,⟨_,lx X G y_MOST_DAYS⟩,⟨_,lx X G y_MOST_FIGURES⟩,⟨_,lx X G y_MOST_LETTERS⟩,⟨_,lx X G y_MOST_MONTH⟩,⟨_,lx X G y_MOST_PART⟩,⟨_,lx X G y_MOST_PENCE⟩,⟨_,lx X G y_MOST_RANKS⟩,⟨C_NoArticles,⟨lx X G n_NoArticles,e_NoArticles⟩,n_NoArticles⟩,⟨C_NoText,⟨lx X G n_NoText,e_NoText⟩,n_NoText⟩,I_Faulty,I_NoArticles,I_NoMan,I_NoPage,I_NoPages,I_NoRank,I_NoRow,I_NoSum,I_NoText,I_NotThere,I_NothingLeft,I_TooMany,I_TooMuch,I_Twice,I_ValueError,Y_WageError⟩;refine⟨PySem.W.fnOf "law" "law" (zV Vw) (zP Vw) (zp Vw) .none kV34 dc34 pm34 an34 cd34 ct34,λs v=>.of_eq rfl,λbase _ _=>?_⟩;have H_is_whole:=zcQ (P:=l.prog) (w:=w) (base:=base) T (lx X G a0) F0 b0;have H_is_whole_within:=Xw (P:=l.prog) (w:=w) (base:=base) T (lx X G a1) F1 b1 H_is_whole;have H_is_name:=zen (P:=l.prog) (w:=w) (base:=base) T (lx X G a2) F2 b2;have H_is_tuple_of:=Vg (P:=l.prog) (w:=w) (base:=base) T (lx X G a3) F3 b3;have H_is_rising:=zaX (P:=l.prog) (w:=w) (base:=base) T (lx X G a4) F4 b4;have H_is_rank_row:=Vp (P:=l.prog) (w:=w) (base:=base) T (lx X G a5) F5 b5 H_is_tuple_of H_is_name H_is_whole_within;have H_is_chest_row:=Kl (P:=l.prog) (w:=w) (base:=base) T (lx X G a6) F6 b6 H_is_tuple_of H_is_name H_is_whole_within;have H_are_ranks:=zbM (P:=l.prog) (w:=w) (base:=base) T (lx X G a7) F7 b7 H_is_tuple_of H_is_rank_row H_is_rising;have H_are_chests:=V1 (P:=l.prog) (w:=w) (base:=base) T (lx X G a8) F8 b8 H_is_tuple_of H_is_chest_row H_is_rising;have H_is_articles:=Vn (P:=l.prog) (w:=w) (base:=base) T (lx X G a9) F9 b9 H_is_tuple_of H_are_ranks H_are_chests H_is_whole_within;have H_need_articles:=JR (P:=l.prog) (w:=w) (base:=base) T (lx X G a10) F10 b10 b10 .nil H_is_articles;have H_articles_text:=JX (P:=l.prog) (w:=w) (base:=base) T (lx X G a11) F11 b11 b11 .nil H_need_articles;have H_read_number:=Vs (P:=l.prog) (w:=w) (base:=base) T (lx X G a12) F12 b12 b12 .nil;have H_words_of:=zce (P:=l.prog) (w:=w) (base:=base) T (lx X G a13) F13 b13 b13 .nil;have H_read_rank:=zaM (P:=l.prog) (w:=w) (base:=base) T (lx X G a14) F14 b14 b14 .nil H_read_number;have H_read_chest:=V3 (P:=l.prog) (w:=w) (base:=base) T (lx X G a15) F15 b15 b15 .nil H_read_number;have H_read_articles:=JT (P:=l.prog) (w:=w) (base:=base) T (lx X G a16) F16 b16 b16 .nil H_words_of H_read_rank H_read_chest H_read_number H_is_articles;have H_law_kind_of:=Vh (P:=l.prog) (w:=w) (base:=base) T (lx X G a17) F17 b17;have H_law_draw:=zb1 (P:=l.prog) (w:=w) (base:=base) T (lx X G a18) F18 b18;have H_law_names:=zbj (P:=l.prog) (w:=w) (base:=base) T (lx X G a19) F19 b19 H_law_draw;have H_law_draws:=zbY (P:=l.prog) (w:=w) (base:=base) T (lx X G a20) F20 b20;have H_law_articles:=Km (P:=l.prog) (w:=w) (base:=base) T (lx X G a21) F21 b21 H_law_draw H_law_names;have H_law_articles_text:=Q0 (P:=l.prog) (w:=w) (base:=base) T (lx X G a22) F22 b22;have H_law_spoilt:=zaF (P:=l.prog) (w:=w) (base:=base) T (lx X G a23) F23 b23 H_law_draw;have H_law_number_in:=JW (P:=l.prog) (w:=w) (base:=base) T (lx X G a24) F24 b24;have H_law_is_name:=Vo (P:=l.prog) (w:=w) (base:=base) T (lx X G a25) F25 b25;have H_law_named_rows:=Jp (P:=l.prog) (w:=w) (base:=base) T (lx X G a26) F26 b26 H_law_is_name;have H_law_within:=V2 (P:=l.prog) (w:=w) (base:=base) T (lx X G a27) F27 b27;have H_law_is_articles:=X9 (P:=l.prog) (w:=w) (base:=base) T (lx X G a28) F28 b28 H_law_named_rows H_law_within;have H_law_read_articles:=QV (P:=l.prog) (w:=w) (base:=base) T (lx X G a29) F29 b29 H_law_number_in H_law_is_articles H_law_articles_text;have H_law_thing:=zbl (P:=l.prog) (w:=w) (base:=base) T (lx X G a30) F30 b30 H_law_draw;have H_law_otherwise:=JS (P:=l.prog) (w:=w) (base:=base) T (lx X G a31) F31 b31 H_law_thing H_law_draw;have H_law_read:=zcd (P:=l.prog) (w:=w) (base:=base) T (lx X G a32) F32 b32 H_read_articles H_articles_text H_law_kind_of;have H_law_wide:=zcf (P:=l.prog) (w:=w) (base:=base) T (lx X G a33) F33 b33 H_law_names;have H_law:=zlT (P:=l.prog) (w:=w) (base:=base) T (lx X G a34) F34 b34 H_law_draws H_law_wide H_law_articles H_law_articles_text H_law_read H_law_spoilt H_law_read_articles H_law_otherwise H_law_is_articles;exact H_law
theorem walk{l:PySem.W.OpenLaw}{q:Program}{loose:List Str}{XP:(Str->Option Value)->Heap->Prop}{YP:World->Heap->Prop}{d:DefRec}{K:Params->PySem.W.Frag}(maths:∀ns:List Int,ns.length<=63->∃S,zcv [.fz (ns.map D.int)] []= .ok (.d (.bl true)) S)(hn:l.most=some 63)(hdf:d.params.defaults= [])
 (hY:∀(w:World) (h:Heap),YP w h->(K w.params).In h)
 (F:∀(w:World) (mg:Str->Option Value) (fa:Addr) (h:Heap),(K w.params).In h->h.Ns mainGlobals mg->mg d.name=some (.ref fa)->
   ∃fd:FuncData,(∀(s:Shared) (u:Value),BindsTo s fd ⟨[u],[]⟩ [("script",u)])/\∀base:Heap,(K w.params).In base->base.Ns mainGlobals mg->FnOk l.prog w (K w.params) mg base CX0 9 fa fd ["script"] (zcW (K w.params) 1 zcv)):
 PySem.W.WalkO q loose XP YP l.row.toRowW d [] (λf vs=>PySem.call f vs):=
 L2.zkC (n:=63) (k:=9) (x:="script") (CX:=λ_=>CX0) (sp:=λw=>zcW (K w.params) 1 zcv) hn (by decide) hdf ⟨rfl,by decide,by decide⟩ hY F (λ_ _ a ns hl hO hS=>zlx maths hl hO hS) λ_ _ _ _ _ z=>z
end K82
namespace K82
open PySem L2 Z TL
abbrev sep(c:Nat):Str:=⟨#[c]⟩
theorem zc6(c:Nat):∀l:List Nat,∃ps:List (List Nat),ps≠ []/\(∀p∈ps,c∉p)/\za0 [c] ps=l
 | []=>⟨[[]],by simp,by simp,rfl⟩
 |d::l=>by
  obtain⟨ps,h1,h2,h3⟩:=zc6 c l
  match ps,h1 with
  |p::r,_=>
   by_cases h:d=c
   ·subst h;refine⟨[]::p::r,by simp,λq hq=>?_,?_⟩
    ·rcases lu.mp hq with rfl|hq
     ·simp
     ·exact h2 q hq
    ·show []++([d]++za0 [d] (p::r))=_;rw [h3];rfl
   ·refine⟨(d::p)::r,by simp,λq hq=>?_,?_⟩
    ·rcases lu.mp hq with rfl|hq
     ·intro z;rcases lu.mp z with z|z
      ·exact h z.symm
      ·exact h2 p lC z
     ·exact h2 q (lA _ hq)
    ·cases r with
     |nil=>
      show d::p=d::l;rw [<-h3];rfl
     |cons q r=>
      show(d::p)++([c]++za0 [c] (q::r))=d::l;rw [<-h3];rfl
theorem ziY{c:Nat}(h:c<256):(sep c).cps.all (· <256)=true:=by simp [h]
theorem xY{c:Nat}(hc:c<256)(x:Str):∃(p:Str) (r:List Str),Txt.split x (sep c)=p::r/\c∉tl p/\(∀q∈r,c∉tl q)/\x=Txt.join (sep c) (p::r):=by
 obtain⟨ps,h1,h2,h3⟩:=zc6 c (tl x)
 match ps,h1 with
 |p::r,_=>
  have hx:x=Txt.join (sep c) ((⟨p.toArray⟩:Str)::r.map λq=>(⟨q.toArray⟩:Str)):=by
   refine Xe ?_;rw [join_eq,zcE,lU,yP];have e:(r.map (tl∘λq=>(⟨q.toArray⟩:Str)))=r:=by rw [show(tl∘λq:List Nat=>(⟨q.toArray⟩:Str))=id from rfl,List.map_id]
   rw [e];exact h3.symm
  have f1:c∉tl (⟨p.toArray⟩:Str):=h2 p lC;have f2:∀q∈r.map λq=>(⟨q.toArray⟩:Str),c∉tl q:=λq hq=>by obtain⟨z,hz,rfl⟩:=lL.mp hq;exact h2 z (lA _ hz)
  refine⟨⟨p.toArray⟩,r.map λq=>⟨q.toArray⟩,?_,f1,f2,hx⟩;rw [hx]
  exact VE (s:=c) (S:=[]) rfl (ziY hc) (by simp) λq hq=>by
   rcases lu.mp hq with rfl|hq
   ·exact f1
   ·exact f2 q hq
theorem zaa{c:Nat}(hc:c<256){p:Str}{r:List Str}(hp:c∉tl p)(hr:∀q∈r,c∉tl q):Txt.split (Txt.join (sep c) (p::r)) (sep c)=p::r:=
 VE (s:=c) (S:=[]) rfl (ziY hc) (by simp) λq hq=>by
  rcases lu.mp hq with rfl|hq
  ·exact hp
  ·exact hr q hq
theorem xb{c:Nat}{p q:Str}{r:List Str}:Txt.join (sep c) (p::q::r)=p++sep c++Txt.join (sep c) (q::r):=by rw [join_eq,join_eq];rfl
theorem join_one{c:Nat}{p:Str}:Txt.join (sep c) [p]=p:=by rw [join_eq];rfl
theorem join_nil{c:Nat}:Txt.join (sep c) []=Str.empty:=by rw [join_eq];rfl
theorem vo{c:Nat}{p:Str}{r:List Str}(hp:c∉tl p):Txt.partition (Txt.join (sep c) (p::r)) (sep c)=(p,(if r= [] then Str.empty else sep c),Txt.join (sep c) r):=by
 cases r with
 |nil=>
  rw [join_one,join_nil,if_pos rfl];exact Vi (s:=c) (S:=[]) rfl hp
 |cons q r=>
  rw [xb,if_neg (by simp)];exact V6 (s:=c) (S:=[]) rfl hp
theorem zhU{c:Nat}{p:Str}{r:List Str}:ziy (Txt.join (sep c) (p::r)) (some ((p.length:Int)+1)) none=Txt.join (sep c) r:=by
 refine Xe ?_;have e0:HT.sIx (Txt.join (sep c) (p::r)).length (Txt.join (sep c) (p::r)).length none=(Txt.join (sep c) (p::r)).length:=rfl;have e1:∀n:Nat,HT.sIx n 0 (some ((p.length:Int)+1))=min n (p.length+1):=λn=>by unfold HT.sIx;dsimp only;split <;> omega
 show((tl (Txt.join (sep c) (p::r))).drop _).take _=_;rw [e0,e1];cases r with
 |nil=>
  rw [join_one,join_nil];have:min p.length (p.length+1)=p.length:=by omega
  rw [this,xj,yS,List.take_nil];rfl
 |cons q r=>
  rw [xb,zY,zY];have l:(p++sep c++Txt.join (sep c) (q::r)).length=p.length+1+(Txt.join (sep c) (q::r)).length:=by rw [xj,zY,zY,lH,lH,<-xj,<-xj];rfl
  rw [l];have m:min (p.length+1+(Txt.join (sep c) (q::r)).length) (p.length+1)=p.length+1:=by omega
  rw [m];have d:(tl p++tl (sep c)++tl (Txt.join (sep c) (q::r))).drop (p.length+1)=tl (Txt.join (sep c) (q::r)):=by
   have h:p.length+1=(tl p++tl (sep c)).length:=by rw [lH,<-xj];rfl
   rw [h,L4]
  rw [d];refine yk ?_;rw [<-xj];omega
def vQ(c:Nat):Bool:=decide (48<=c)&&decide (c<=57)
def xq(x:Str):Option Nat:=if 1<=x.length/\x.length<=13/\(tl x).all vQ=true/\¬((tl x).head? =some 48/\1<x.length) then some (NumText.digitsVal (tl x)) else none
theorem V0{l:List Nat}:l.all vQ=true↔NumText.AllDigits l:=by
 rw [yb];unfold vQ NumText.AllDigits;constructor
 ·intro h c hc;have:=h c hc;rw [lG,decide_eq_true_eq,decide_eq_true_eq] at this;exact this
 ·intro h c hc;rw [lG,decide_eq_true_eq,decide_eq_true_eq];exact h c hc
theorem zdw(l:List Nat)(d:Nat):NumText.digitsVal (l++ [d])=NumText.digitsVal l*10+(d-48):=by unfold NumText.digitsVal;rw [List.foldl_append];rfl
theorem zfL{P:List Nat->Prop}(h0:P [])(h1:∀l d,P l->P (l++ [d])):∀l,P l:=λl=>by
 rw [<-List.reverse_reverse l];induction l.reverse with
 |nil=>exact h0
 |cons d l ih=>rw [Ly];exact h1 _ d ih
theorem zkD:∀(l:List Nat) (c:Nat),NumText.AllDigits (c::l)->c≠48->1<=NumText.digitsVal (c::l):=by
 refine zfL ?_ λl d ih=>?_
 ·intro c h n;have:=h c lC;show 1<=0*10+(c-48);omega
 ·intro c h n;have:=ih c (λz hz=>h z (by rw [<-YT];exact yB _ hz)) n;rw [<-YT,zdw];omega
theorem zh6:∀l:List Nat,l≠ []->NumText.AllDigits l->¬(l.head? =some 48/\1<l.length)->zaL (NumText.digitsVal l)=l:=by
 refine zfL (λh=>absurd rfl h) λl d ih=>?_
 ·intro _ ha hh;have hd:=ha d (lX _ lC);rw [zdw];cases l with
  |nil=>
   show zaL (0*10+(d-48))= [d];rw [Nat.zero_mul,LC,Ko (by omega)];congr 1;omega
  |cons c l=>
   have h48:c≠48:=λz=>hh ⟨by rw [z];rfl,by simp⟩
   have hal:NumText.AllDigits (c::l):=λz hz=>ha z (yB _ hz)
   have vp:=zkD l c hal h48;have ih:=ih (by simp) hal λz=>h48 (Option.some.inj z.1)
   rw [QG (by omega)];have e1:(NumText.digitsVal (c::l)*10+(d-48))/10=NumText.digitsVal (c::l):=by omega
   have e2:48+(NumText.digitsVal (c::l)*10+(d-48))%10=d:=by omega
   rw [e1,e2,ih]
theorem XG{x:Str}{n:Nat}(h:xq x=some n):Str.ofString (toString ((n:Nat):Int))=x:=by
 unfold xq at h;split at h
 ·rename_i c;cases h;refine Xe ?_;rw [zdr];refine zh6 _ (λz=>?_) (V0.mp c.2.2.1) λz=>c.2.2.2 ⟨z.1,by rw [xj];exact z.2⟩
  have:=c.1;rw [xj,z] at this;exact absurd this (by decide)
 ·cases h
theorem zcY{x:Str}{n:Nat}(h:xq x=some n):PySem.intText? x=some (n:Int)/\x.length<=640:=by
 unfold xq at h;split at h
 ·rename_i c;cases h;refine⟨intText_digits (V0.mp c.2.2.1) (λz=>?_) (by omega),by omega⟩;have h1:=c.1;rw [xj] at h1;unfold tl at h1;rw [z] at h1;exact absurd h1 (by decide)
 ·cases h
theorem zhO{n:Nat}:¬((zaL n).head? =some 48/\1<(zaL n).length):=by
 induction n using Nat.strongRecOn with
 |_ n ih=>
  by_cases h:n<10
  ·rw [Ko h];rintro⟨_,z⟩;simp at z
  ·rw [QG (by omega)];rintro⟨z,_⟩;have ne:=zci (n/10);cases q:zaL (n/10) with
   |nil=>exact ne q
   |cons c r=>
    rw [q] at z;have hc:c=48:=Option.some.inj z;by_cases h2:n/10<10
    ·rw [Ko h2] at q;injection q with q1 _
     omega
    ·have:=ih (n/10) (by omega);rw [q,hc] at this;refine this ⟨rfl,?_⟩;have e:=congrArg List.length q;rw [QG (by omega),lH] at e;have p:0<(zaL (n/10/10)).length:=LJ.mpr (zci _);rw [hc] at e;simp only [lO,yh] at e⊢;omega
theorem J4{n:Nat}(h:n<10^13):xq (Str.ofString (toString ((n:Nat):Int)))=some n:=by unfold xq;have l:=zda (n:=n) (k:=13) (by decide) h;have p:0<(zaL n).length:=LJ.mpr (zci n);rw [xj,zdr,if_pos ⟨p,l,V0.mpr (Vc n),zhO⟩,zib]
theorem zbK{x:Str}{c:Nat}(hc:c<48\/57<c)(h:c∈tl x):xq x=none:=by unfold xq;rw [if_neg];rintro⟨_,_,a,_⟩;have:=V0.mp a c h;omega
theorem Jm:xq Str.empty=none:=by unfold xq;rw [if_neg];rintro⟨a,_⟩;exact absurd a (by decide)
end K82
namespace K03
open PySem PySem.Spec L2 Z ZX ZT K01 K02
open PyProof.Rows hiding St
end K03
namespace Z
open PySem L2
def wp{α:Type}(r:Res α)(Q:α->Sto->Prop):Prop:=match r with| .ok a S=>Q a S|_=>False
def wps(r:SR)(N:DS->Sto->Prop)(R:W->Sto->Prop):Prop:=match r with| .nx t S=>N t S| .rt w S=>R w S|_=>False
section
variable {α β:Type} {r:Res α} {S:Sto} {t:DS}
@[simp] theorem xu{a:α}{Q:α->Sto->Prop}:wp (.ok a S) Q=Q a S:=rfl
@[simp] theorem znN{Q:α->Sto->Prop}:wp (.bad:Res α) Q=False:=rfl
@[simp] theorem wp_bind{f:α->Sto->Res β}{Q:β->Sto->Prop}:wp (r.bind f) Q=wp r λa S=>wp (f a S) Q:=by cases r <;> rfl
theorem wp_mono{Q Q':α->Sto->Prop}(h:wp r Q)(k:∀a S,Q a S->Q' a S):wp r Q':=by
 cases r with
 |ok a S=>exact k a S h
 |exc _ _=>exact h
 |bad=>exact h
@[simp] theorem zlB{N:DS->Sto->Prop}{R:W->Sto->Prop}:wps (.nx t S) N R=N t S:=rfl
@[simp] theorem zlP{w:W}{N:DS->Sto->Prop}{R:W->Sto->Prop}:wps (.rt w S) N R=R w S:=rfl
@[simp] theorem zno{N:DS->Sto->Prop}{R:W->Sto->Prop}:wps .bad N R=False:=rfl
@[simp] theorem vY{f:α->Sto->SR}{N:DS->Sto->Prop}{R:W->Sto->Prop}:wps (r.then t f) N R=wp r λa S=>wps (f a S) N R:=by cases r <;> rfl
@[simp] theorem zb2{q:SR}{f:MSt}{N:DS->Sto->Prop}{R:W->Sto->Prop}:wps (q.seq f) N R=wps q (λt S=>wps (f t S) N R) R:=by cases q <;> rfl
theorem zak{q:SR}{N N':DS->Sto->Prop}{R R':W->Sto->Prop}(h:wps q N R)(k:∀t S,N t S->N' t S)(k2:∀w S,R w S->R' w S):wps q N' R':=by
 cases q with
 |nx t S=>exact k t S h
 |rt w S=>exact k2 w S h
 |_=>exact h
@[simp] theorem zm8{c:Prop} [Decidable c]{a b:SR}{N:DS->Sto->Prop}{R:W->Sto->Prop}:wps (if c then a else b) N R=if c then wps a N R else wps b N R:=by split <;> rfl
@[simp] theorem zio{c:Prop} [Decidable c]{a b:Res α}{Q:α->Sto->Prop}:wp (if c then a else b) Q=if c then wp a Q else wp b Q:=by split <;> rfl
end
theorem Qb{n:Nat}{m:MSt}{ws:List W}{S:Sto}{Q:W->Sto->Prop}{t:DS}(ht:ws.map some++List.replicate (n-ws.length) none=t)(h:wps (m t S) (λ_ S'=>Q (.d .non) (S'.take S.length)) λw S'=>∃x,w= .d x/\Q (.d x) (S'.take S.length)):wp (fnD n m ws S) Q:=by
 subst ht;unfold fnD;cases q:m (ws.map some++List.replicate (n-ws.length) none) S with
 |nx t1 S1=>rw [q] at h;exact h
 |rt w S1=>
  rw [q] at h;obtain⟨x,rfl,h⟩:=h;exact h
 |bk _ _=>rw [q] at h;exact h.elim
 |ct _ _=>rw [q] at h;exact h.elim
 |exc _ _ _=>rw [q] at h;exact h.elim
 |bad=>rw [q] at h;exact h.elim
theorem K8{g:List W->Sto->Res W}{ws:List W}{S:Sto}{Q:W->Sto->Prop}(h:wp (g ws S) Q):wp (noX g ws S) Q:=by
 unfold noX;cases q:g ws S with
 |ok a b=>rw [q] at h;exact h
 |exc _ _=>rw [q] at h;exact h.elim
 |bad=>rw [q] at h;exact h.elim
theorem Ql{g:Res W}{S:Sto}{w:W}(h:wp g λa b=>a=w/\b=S):g= .ok w S:=by
 cases g with
 |ok a b=>obtain⟨rfl,rfl⟩:=h;rfl
 |exc _ _=>exact h.elim
 |bad=>exact h.elim
theorem xF{k:Nat}(h:k<=1000):(k<=sizeLine)=True:=eq_true (lQ h (by decide))
section
variable {i j:Int} {x y:Str} {S:Sto}
@[simp] theorem zgx:opD .Add (.d (.int i)) (.d (.int j)) S= .ok (.d (.int (i+j))) S:=rfl
@[simp] theorem znq:opD .Sub (.d (.int i)) (.d (.int j)) S= .ok (.d (.int (i-j))) S:=rfl
@[simp] theorem zox:opD .Mult (.d (.int i)) (.d (.int j)) S=if Zy i j=true then .ok (.d (.int (i*j))) S else .bad:=rfl
@[simp] theorem zoE:opD .FloorDiv (.d (.int i)) (.d (.int j)) S=if Vt j=true then .ok (.d (.int (i/j))) S else .bad:=rfl
@[simp] theorem zoS:opD .Mod (.d (.int i)) (.d (.int j)) S=if 0<j then .ok (.d (.int (i%j))) S else .bad:=rfl
@[simp] theorem zoo:opD .Pow (.d (.int i)) (.d (.int j)) S=if 0<=j/\j<=1000000/\i.natAbs<2^64 then .ok (.d (.int (i^j.toNat))) S else .bad:=rfl
@[simp] theorem zeP:opD .Add (.d (.str x)) (.d (.str y)) S=if x.length+y.length<=sizeLine then .ok (.d (.str (x++y))) S else .bad:=rfl
@[simp] theorem zo1:Vj .Lt (.d (.int i)) (.d (.int j)) S= .ok (.d (.bl (decide (i<j)))) S:=rfl
@[simp] theorem zo6:Vj .LtE (.d (.int i)) (.d (.int j)) S= .ok (.d (.bl (decide (i<=j)))) S:=rfl
@[simp] theorem zmU:Vj .Gt (.d (.int i)) (.d (.int j)) S= .ok (.d (.bl (decide (j<i)))) S:=rfl
@[simp] theorem zo4:Vj .GtE (.d (.int i)) (.d (.int j)) S= .ok (.d (.bl (decide (j<=i)))) S:=rfl
@[simp] theorem zop:Vj .Lt (.d (.str x)) (.d (.str y)) S= .ok (.d (.bl (decide (x.cps.toList<y.cps.toList)))) S:=rfl
@[simp] theorem zoy:Vj .LtE (.d (.str x)) (.d (.str y)) S= .ok (.d (.bl (!decide (y.cps.toList<x.cps.toList)))) S:=rfl
@[simp] theorem zlR{b:Bool}:asB (.d (.bl b)) S= .ok b S:=rfl
end
theorem zaz{i j:Int}(h:i.natAbs<2^64):Zy i j=true:=by unfold Zy;simp [h]
theorem Xm{i j:Int}(h:j.natAbs<2^64):Zy i j=true:=by unfold Zy;simp [h]
theorem Xp{j:Int}(h0:0<j)(h:j<2^200):Vt j=true:=by
 unfold Vt;have:j.natAbs.log2<9000:=by
  have h1:j.natAbs<2^200:=by omega
  have h2:=(Nat.log2_lt (by omega)).mpr h1;omega
 simp [h0,this]
theorem VU{g:W->DS->Option DS}{mt:MB}{me:M}{t:DS}{S:Sto}(p:D->Bool)(f:D->D):∀(ds:List D) (acc:List D),(∀d∈ds,∃t1,g (.d d) t=some t1/\mt t1 S= .ok (p d) S/\(p d=true->me t1 S= .ok (.d (f d)) S))->acc.length+ds.length<=sizeLine->lcD g mt me ds t S acc= .ok (acc++(ds.filter p).map f) S
 | [],acc,_,_=>by simp [lcD]
 |d::ds,acc,h,hz=>by
  obtain⟨t1,e1,e2,e3⟩:=h d (by simp);have hz':acc.length+ds.length+1<=sizeLine:=by simp at hz;omega
  unfold lcD;rw [e1];dsimp only;rw [e2];cases hp:p d with
  |true=>
   dsimp only;rw [e3 hp];dsimp only;rw [if_pos (by omega),VU p f ds (acc++ [f d]) (λx hx=>h x (by simp [hx])) (by simp;omega)];simp [hp]
  |false=>
   dsimp only;rw [VU p f ds acc (λx hx=>h x (by simp [hx])) (by omega)];simp [hp]
theorem JB{g:W->DS->Option DS}{me:M}{t:DS}{S:Sto}(f:D->D)(ds:List D)(h:∀d∈ds,∃t1,g (.d d) t=some t1/\me t1 S= .ok (.d (f d)) S)(hz:ds.length<=sizeLine):lcD g vG me ds t S []= .ok (ds.map f) S:=by
 rw [VU (mt:=vG) (λ_=>true) f ds [] (λd hd=>let⟨t1,e1,e2⟩:=h d hd;⟨t1,e1,rfl,λ_=>e2⟩) (by simpa using hz)];have:ds.filter (λ_=>true)=ds:=yC.mpr λ_ _=>rfl
 rw [this];rfl
inductive F2 {α β:Type} (P:α->β->Prop):List α->List β->Prop
 |nil:F2 P [] []
 |cons {a:α} {b:β} {as:List α} {bs:List β}:P a b->F2 P as bs->F2 P (a::as) (b::bs)
theorem F2.length{α β:Type}{P:α->β->Prop}:∀{as:List α} {bs:List β},F2 P as bs->bs.length=as.length
 |_,_,.nil=>rfl
 |_,_,.cons _ t=>by simp [t.length]
theorem F2.all{α β:Type}{P:α->β->Prop}{R:β->Prop}(h:∀a b,P a b->R b):∀{as:List α} {bs:List β},F2 P as bs->∀b∈bs,R b
 |_,_,.nil,b,hb=>by cases hb
 |_,_,.cons p t,b,hb=>by
  rcases lu.mp hb with rfl|hb
  ·exact h _ _ p
  ·exact t.all h b hb
theorem VN{g:W->DS->Option DS}{me:M}{t:DS}(I:Sto->Prop)(P:D->D->Prop):∀(ds:List D) (S:Sto) (acc:List D),(∀d∈ds,∀S,I S->∃t1,g (.d d) t=some t1/\wp (me t1 S) λw S'=>∃x,w= .d x/\P d x/\I S')->acc.length+ds.length<=sizeLine->I S->
 wp (lcD g vG me ds t S acc) λxs S'=>∃ys,xs=acc++ys/\F2 P ds ys/\I S'
 | [],S,acc,_,_,hI=>⟨[],by simp,.nil,hI⟩
 |d::ds,S,acc,h,hz,hI=>by
  obtain⟨t1,e1,e2⟩:=h d (by simp) S hI;have hz':acc.length+ds.length+1<=sizeLine:=by simp at hz;omega
  unfold lcD;rw [e1];dsimp only [vG];cases q:me t1 S with
  |bad=>rw [q] at e2;exact e2.elim
  |exc _ _=>rw [q] at e2;exact e2.elim
  |ok w S'=>
   rw [q] at e2;obtain⟨x,rfl,px,hI'⟩:=e2;dsimp only;rw [if_pos (by omega)];refine wp_mono (VN I P ds S' (acc++ [x]) (λy hy=>h y (by simp [hy])) (by simp;omega) hI') λxs S'' ⟨ys,e,q,hS⟩=>?_
   exact⟨x::ys,by rw [e];simp,.cons px q,hS⟩
end Z
namespace K01
open PySem L2 Z
def isWhole:D->Bool
 | .int _=>true
 |_=>false
def within(x:D)(a b:Int):Bool:=match x with
 | .int i=>decide (a<=i)&&decide (i<=b)
 |_=>false
def okC(c:Nat):Bool:=decide (97<=c)&&decide (c<=122)
def isName:D->Bool
 | .str s=>decide (1<=s.length)&&decide (s.length<=8)&&s.cps.toList.all okC
 |_=>false
theorem zdO(x:D)(S:Sto):ZR [.d x] S= .ok (.d (.bl (isWhole x))) S:=by rw [KY];refine Ql (Qb (t:=[some (.d x)]) rfl ?_);cases x <;> simp [QR,zg,zr,zU,sIf,zN,zO,xl,zf,zi,zz,zK,zt,dT,xw,dOr,xX,zL,qI,zy,qz,qh,zT,zH,zh,za,zo,qM,xp,xV,gN,xm,qg,xM,zF,ixD,ql,zA,lh,xF,isWhole]
theorem Zq(x:D)(a b:Int)(S:Sto):qj [.d x,.d (.int a),.d (.int b)] S= .ok (.d (.bl (within x a b))) S:=by
 rw [Zl];refine Ql (Qb (t:=[some (.d x),some (.d (.int a)),some (.d (.int b))]) rfl ?_);cases x <;> simp [kf,zg,zr,zU,sIf,zN,zO,xl,zf,zi,zz,zK,zt,dT,xw,dOr,xX,zL,qI,zy,qz,qh,zT,zH,zh,za,zo,qM,xp,xV,gN,xm,qg,xM,zF,ixD,ql,zA,lh,xF,noX,zdO,isWhole,within]
 rename_i i;by_cases h:a<=i <;> simp [h]
theorem zG(x:D)(a b:Int)(S:Sto):zS [.d x,.d (.int a),.d (.int b)] S= .ok (.d (.bl (match x with| .tup xs=>decide (a<=(xs.length:Int))&&decide ((xs.length:Int)<=b)|_=>false))) S:=by
 rw [Xa];refine Ql (Qb (t:=[some (.d x),some (.d (.int a)),some (.d (.int b))]) rfl ?_);cases x <;> simp [vW,zg,zr,zU,sIf,zN,zO,xl,zf,zi,zz,zK,zt,dT,xw,dOr,xX,zL,qI,zy,qz,qh,zT,zH,zh,za,zo,qM,xp,xV,gN,xm,qg,xM,zF,ixD,ql,zA,lh,xF]
 rename_i xs;by_cases h:a<=(xs.length:Int) <;> simp [h]
inductive Gd (L:Nat):Nat->D->Prop
 |non {n:Nat}:Gd L n .non
 |bl {n:Nat} (b:Bool):Gd L n (.bl b)
 |int {n:Nat} (i:Int):Gd L n (.int i)
 |str {n:Nat} {x:Str}:x.length<=L->PyData.strOk x=true->Gd L n (.str x)
 |tup {n:Nat} {xs:List D}:xs.length<=L->(∀x∈xs,Gd L n x)->Gd L (n+1) (.tup xs)
 |lst {n:Nat} {xs:List D}:xs.length<=L->(∀x∈xs,Gd L n x)->Gd L (n+1) (.lst xs)
theorem Gd.mono{L L' n n':Nat}{x:D}(h:Gd L n x)(hl:L<=L')(hn:n<=n'):Gd L' n' x:=by
 induction h generalizing n' with
 |non=>exact .non
 |bl b=>exact .bl b
 |int i=>exact .int i
 |str h1 h2=>exact .str (by omega) h2
 |tup h1 h2 ih=>
  cases n' with
  |zero=>omega
  |succ k=>exact .tup (by omega) λx hx=>ih x hx (by omega)
 |lst h1 h2 ih=>
  cases n' with
  |zero=>omega
  |succ k=>exact .lst (by omega) λx hx=>ih x hx (by omega)
theorem zat:∀xs:List D,Ji xs=xs.map toP
 | []=>rfl
 |x::r=>by rw [Ji,zat r];rfl
theorem zcs:∀{xs:List PyData},(∀x∈xs,PyData.canLay0 x=true)->PyData.canLayAll0 xs=true
 | [],_=>rfl
 |x::r,h=>by rw [PyData.canLayAll0,h x (by simp),zcs λy hy=>h y (by simp [hy])];rfl
theorem zcc{n:Nat}:∀{xs:List PyData},(∀x∈xs,PyData.depth x<=n)->PyData.depthAll xs<=n
 | [],_=>yx _
 |x::r,h=>by
  rw [PyData.depthAll];have h1:=h x (by simp);have h2:=zcc λy hy=>h y (lA _ hy)
  omega
theorem Gd.lay{L n:Nat}{x:D}(h:Gd L n x):PyData.canLay0 (toP x)=true/\PyData.depth (toP x)<=n:=by
 induction h with
 |non=>exact⟨rfl,yx _⟩
 |bl b=>exact⟨rfl,yx _⟩
 |int i=>exact⟨rfl,yx _⟩
 |str h1 h2=>exact⟨h2,yx _⟩
 |tup h1 h2 ih=>
  unfold toP;rw [zat];refine⟨zcs λy hy=>?_,YJ (zcc λy hy=>?_)⟩;all_goals obtain⟨z,hz,rfl⟩:=lL.mp hy
  ·exact(ih z hz).1
  ·exact(ih z hz).2
 |lst h1 h2 ih=>
  unfold toP;rw [zat];refine⟨zcs λy hy=>?_,YJ (zcc λy hy=>?_)⟩;all_goals obtain⟨z,hz,rfl⟩:=lL.mp hy
  ·exact(ih z hz).1
  ·exact(ih z hz).2
theorem Gd.okD{L n:Nat}{x:D}(h:Gd L n x)(hn:n<=64):okD x=true:=by unfold Z.okD SeqAt.shaped;rw [h.lay.1];have:=h.lay.2;simp;omega
theorem Gd.strLen{L n:Nat}{s:Str}(h:Gd L n (.str s)):s.length<=L:=by cases h;assumption
theorem Gd.strGood{L n:Nat}{s:Str}(h:Gd L n (.str s)):PyData.strOk s=true:=by cases h;assumption
theorem Gd.tupLen{L n:Nat}{s:List D}(h:Gd L n (.tup s)):s.length<=L:=by cases h;assumption
theorem Gd.tupIn{L n:Nat}{s:List D}(h:Gd L (n+1) (.tup s)):∀x∈s,Gd L n x:=by cases h;assumption
theorem Gd.tupPos{L n:Nat}{s:List D}(h:Gd L n (.tup s)):∃m,n=m+1:=by cases h;exact⟨_,rfl⟩
theorem Gd.tupIn'{L n:Nat}{s:List D}(h:Gd L n (.tup s)):∀x∈s,Gd L n x:=by obtain⟨m,rfl⟩:=h.tupPos;exact λx hx=>(h.tupIn x hx).mono (lD _) (Lm _)
theorem vN{α:Type}(f:α->Bool):∀l:List α,boolsOf (l.map λa=>D.bl (f a))=some (l.map f)
 | []=>rfl
 |a::r=>by simp [boolsOf,vN f r]
theorem strs_map:∀l:List Str,strsOf (l.map D.str)=some l
 | []=>rfl
 |a::r=>by simp [strsOf,strs_map r]
def zmI:D->D
 | .str s=>.bl (s.cps.toList.all okC)
 |_=>.non
theorem zli:(Str.ofString "a").cps.toList= [97]:=by decide+kernel
theorem zl0:(Str.ofString "z").cps.toList= [122]:=by decide+kernel
theorem zlM{a b:Nat}:([a]< [b])=(a<b):=by simp [List.cons_lt_cons_iff]
theorem zj6(c:Nat):(if (!decide ([c]< [97]))=true then !decide ([122]< [c]) else false)=okC c:=by
 simp only [zlM,okC];by_cases h:c<97
 ·simp [h];omega
 ·by_cases h2:122<c
  ·simp [h,h2]
  ·simp [h,h2];omega
theorem zfZ(x:D)(S:Sto)(hx:∀s,x= .str s->s.length<=sizeLine):vK [.d x] S= .ok (.d (.bl (isName x))) S:=by
 rw [Vy];refine Ql (Qb (t:=[some (.d x),none]) rfl ?_);cases x with
 |str s=>
  have hs:=hx s rfl
  have lc:∀t,lcD (gN 1) vG (zt .LtE .LtE (zi (.str "a")) (zf 1) (zi (.str "z"))) (s.cps.toList.map λc=>D.str ⟨#[c]⟩) [some (.d (.str s)),t] S []= .ok (s.cps.toList.map λc=>D.bl (okC c)) S:=by
   intro t;rw [JB zmI]
   ·simp [zmI]
   ·intro d hd;obtain⟨c,hc,rfl⟩:=lL.mp hd;refine⟨[some (.d (.str s)),some (.d (.str ⟨#[c]⟩))],rfl,?_⟩;apply Ql;have e:=zj6 c;by_cases h:([c]< [97])
    ·simp [h] at e;simp [zt,zi,zf,zli,zl0,h,zmI,e]
    ·simp [h] at e;simp [zt,zi,zf,zli,zl0,h,zmI,e]
   ·simp;exact hs
  have hl:s.length=s.cps.size:=rfl;by_cases h1:(1:Int)<=(s.length:Int)
  ·by_cases h2:(s.length:Int)<=8
   ·have h1':1<=s.length:=by omega
    have h2':s.length<=8:=by omega
    simp [Zd,zg,zr,zU,sIf,zN,zO,xl,zf,zi,zz,zK,zt,dT,xw,dOr,xX,zL,qI,zy,qz,qh,zT,zH,zh,za,zo,qM,xp,xV,gN,xm,qg,xM,zF,ixD,ql,zA,lh,xF,hs,h1,h2,dLc,kJ,lc,zaJ,vN,isName,h1',h2']
   ·have h2':¬s.length<=8:=by omega
    simp [Zd,zg,zr,zU,sIf,zN,zO,xl,zf,zi,zz,zK,zt,dT,xw,dOr,xX,zL,qI,zy,qz,qh,zT,zH,zh,za,zo,qM,xp,xV,gN,xm,qg,xM,zF,ixD,ql,zA,lh,xF,hs,h1,h2,isName,h2']
  ·have h1':¬1<=s.length:=by omega
   simp [Zd,zg,zr,zU,sIf,zN,zO,xl,zf,zi,zz,zK,zt,dT,xw,dOr,xX,zL,qI,zy,qz,qh,zT,zH,zh,za,zo,qM,xp,xV,gN,xm,qg,xM,zF,ixD,ql,zA,lh,xF,hs,h1,isName,h1']
 |_=>simp [Zd,zg,zr,zU,sIf,zN,zO,xl,zf,zi,zz,zK,zt,dT,xw,dOr,xX,zL,qI,zy,qz,qh,zT,zH,zh,za,zo,qM,xp,xV,gN,xm,qg,xM,zF,ixD,ql,zA,lh,xF,isName]
def ltS(x y:Str):Bool:=decide (x.cps.toList<y.cps.toList)
def j4(l:List Str):Bool:=(l.zip l.tail).all λp=>ltS p.1 p.2
def zn3:D->D
 | .tup [.str a,.str b]=>.bl (ltS a b)
 |_=>.non
theorem zdt(l:List D):cutD l (some 1) none=l.tail:=by
 unfold cutD;have e:HT.sIx l.length 0 (some 1)=min 1 l.length:=HT.zcH _ _ 1;rw [e,HT.zhf];cases l with
 |nil=>rfl
 |cons a r=>
  have:min 1 (a::r).length=1:=by simp
  rw [this];simp
theorem K6(l:List Str)(S:Sto)(hl:l.length<=sizeLine):kI [.d (.lst (l.map D.str))] S= .ok (.d (.bl (j4 l))) S:=by
 rw [Jw];refine Ql (Qb (t:=[some (.d (.lst (l.map D.str))),none,none]) rfl ?_)
 have lc:lcD (gTp 2 (zX (gN 1) (zX (gN 2) vD))) vG (zK .Lt (zf 1) (zf 2)) (((l.map D.str).zip (l.map D.str).tail).map λp=>D.tup [p.1,p.2]) [some (.d (.lst (l.map D.str))),none,none] S []= .ok ((l.zip l.tail).map λp=>D.bl (ltS p.1 p.2)) S:=by
  rw [JB zn3]
  ·rw [<-List.map_tail,List.zip_map];simp [zn3,yP,Function.comp_def]
  ·intro d hd;rw [<-List.map_tail,List.zip_map,yP] at hd;obtain⟨⟨a,b⟩,hc,rfl⟩:=lL.mp hd;exact⟨[some (.d (.lst (l.map D.str))),some (.d (.str a)),some (.d (.str b))],rfl,rfl⟩
  ·simp;omega
 simp [ZY,zg,zr,zU,sIf,zN,zO,xl,zf,zi,zz,zK,zt,dT,xw,dOr,xX,zL,qI,zy,qz,qh,zT,zH,zh,za,zo,qM,xp,xV,gN,xm,qg,xM,zF,ixD,ql,zA,lh,xF,dLc,kJ,zjK,Ve,qG,xK,zdt,lc,zaJ,vN,j4]
def xH:D->Bool
 | .tup [a,b,c]=>isName a&&(within b 0 1000000000&&within c 1 1000)
 |_=>false
def qD:D->Bool
 | .tup [a,b]=>isName a&&within b 1 1000
 |_=>false
def nameOf:D->Str
 | .tup (.str s::_)=>s
 |_=>Str.empty
def jD:D->Bool
 | .tup xs=>decide (1<=xs.length)&&decide (xs.length<=12)&&xs.all xH&&j4 (xs.map nameOf)
 |_=>false
def xQ:D->Bool
 | .tup xs=>decide (1<=xs.length)&&decide (xs.length<=6)&&xs.all qD&&j4 (xs.map nameOf)
 |_=>false
def xD:D->Bool
 | .tup [r,c,m]=>jD r&&(xQ c&&within m 1 1000)
 |_=>false
theorem vV{L:Nat}(h:L<=100000){m:Nat}(hm:m<=L):m<=sizeLine:=lQ (lQ hm h) (by decide)
theorem X2{a:D}(h:isName a=true):∃s,a= .str s:=by cases a <;> first|(exact⟨_,rfl⟩)|(simp [isName] at h)
section
variable {L n:Nat} (hL:L<=100000)
include hL
theorem ziu{x:D}{S:Sto}(h:Gd L n x):vK [.d x] S= .ok (.d (.bl (isName x))) S:=zfZ x S λs e=>by subst e;exact vV hL h.strLen
theorem zap{x:D}{S:Sto}(h:Gd L n x):ki [.d x] S= .ok (.d (.bl (xH x))) S:=by
 rw [Q3];refine Ql (Qb (t:=[some (.d x),none,none,none]) rfl ?_);cases x with
 |tup xs=>
  by_cases hlen:xs.length=3
  ·match xs,hlen with
   | [a,b,c],_=>
     have ea:=ziu hL (S:=S) (h.tupIn' a (by simp));by_cases h1:isName a=true
     ·by_cases h2:within b 0 1000000000=true
      ·simp [jd,zg,zr,zU,sIf,zN,zO,xl,zf,zi,zz,zK,zt,dT,xw,dOr,xX,zL,qI,zy,qz,qh,zT,zH,zh,za,zo,qM,xp,xV,gN,xm,qg,xM,zF,ixD,ql,zA,lh,xF,noX,zG,gTp,zX,vD,ea,Zq,xH,h1,h2]
      ·simp [jd,zg,zr,zU,sIf,zN,zO,xl,zf,zi,zz,zK,zt,dT,xw,dOr,xX,zL,qI,zy,qz,qh,zT,zH,zh,za,zo,qM,xp,xV,gN,xm,qg,xM,zF,ixD,ql,zA,lh,xF,noX,zG,gTp,zX,vD,ea,Zq,xH,h1,h2]
     ·simp [jd,zg,zr,zU,sIf,zN,zO,xl,zf,zi,zz,zK,zt,dT,xw,dOr,xX,zL,qI,zy,qz,qh,zT,zH,zh,za,zo,qM,xp,xV,gN,xm,qg,xM,zF,ixD,ql,zA,lh,xF,noX,zG,gTp,zX,vD,ea,Zq,xH,h1]
  ·have e:xH (.tup xs)=false:=by
    unfold xH;split
    ·rename_i q;cases q;exact absurd rfl hlen
    ·rfl
   have e2:(decide ((3:Int)<=(xs.length:Int))&&decide ((xs.length:Int)<=3))=false:=by simp;omega
   have eT:noX zS [W.d (D.tup xs),W.d (D.int 3),W.d (D.int 3)] S= .ok (.d (.bl false)) S:=by unfold noX;rw [zG];simp only [e2]
   simp [jd,zg,zr,zU,sIf,zN,zO,xl,zf,zi,zz,zK,zt,dT,xw,dOr,xX,zL,qI,zy,qz,qh,zT,zH,zh,za,zo,qM,xp,xV,gN,xm,qg,xM,zF,ixD,ql,zA,lh,xF,eT,e]
 |_=>simp [jd,zg,zr,zU,sIf,zN,zO,xl,zf,zi,zz,zK,zt,dT,xw,dOr,xX,zL,qI,zy,qz,qh,zT,zH,zh,za,zo,qM,xp,xV,gN,xm,qg,xM,zF,ixD,ql,zA,lh,xF,noX,zG,xH]
theorem Vv{x:D}{S:Sto}(h:Gd L n x):jS [.d x] S= .ok (.d (.bl (qD x))) S:=by
 rw [QD];refine Ql (Qb (t:=[some (.d x),none,none]) rfl ?_);cases x with
 |tup xs=>
  by_cases hlen:xs.length=2
  ·match xs,hlen with
   | [a,b],_=>
     have ea:=ziu hL (S:=S) (h.tupIn' a (by simp));by_cases h1:isName a=true
     ·simp [jj,zg,zr,zU,sIf,zN,zO,xl,zf,zi,zz,zK,zt,dT,xw,dOr,xX,zL,qI,zy,qz,qh,zT,zH,zh,za,zo,qM,xp,xV,gN,xm,qg,xM,zF,ixD,ql,zA,lh,xF,noX,zG,gTp,zX,vD,ea,Zq,qD,h1]
     ·simp [jj,zg,zr,zU,sIf,zN,zO,xl,zf,zi,zz,zK,zt,dT,xw,dOr,xX,zL,qI,zy,qz,qh,zT,zH,zh,za,zo,qM,xp,xV,gN,xm,qg,xM,zF,ixD,ql,zA,lh,xF,noX,zG,gTp,zX,vD,ea,Zq,qD,h1]
  ·have e:qD (.tup xs)=false:=by
    unfold qD;split
    ·rename_i q;cases q;exact absurd rfl hlen
    ·rfl
   have e2:(decide ((2:Int)<=(xs.length:Int))&&decide ((xs.length:Int)<=2))=false:=by simp;omega
   have eT:noX zS [W.d (D.tup xs),W.d (D.int 2),W.d (D.int 2)] S= .ok (.d (.bl false)) S:=by unfold noX;rw [zG];simp only [e2]
   simp [jj,zg,zr,zU,sIf,zN,zO,xl,zf,zi,zz,zK,zt,dT,xw,dOr,xX,zL,qI,zy,qz,qh,zT,zH,zh,za,zo,qM,xp,xV,gN,xm,qg,xM,zF,ixD,ql,zA,lh,xF,eT,e]
 |_=>simp [jj,zg,zr,zU,sIf,zN,zO,xl,zf,zi,zz,zK,zt,dT,xw,dOr,xX,zL,qI,zy,qz,qh,zT,zH,zh,za,zo,qM,xp,xV,gN,xm,qg,xM,zF,ixD,ql,zA,lh,xF,noX,zG,qD]
theorem zg0{x:D}(h:xH x=true):∃s r,x= .tup (.str s::r):=by
 unfold xH at h;split at h
 ·rename_i a;simp only [lG] at h;obtain⟨s,rfl⟩:=X2 h.1;exact⟨s,_,rfl⟩
 ·cases h
theorem zcN{x:D}{S:Sto}(h:Gd L n x):v9 [.d x] S= .ok (.d (.bl (jD x))) S:=by
 rw [JK];refine Ql (Qb (t:=[some (.d x),none]) rfl ?_);cases x with
 |tup xs=>
  by_cases h1:(1:Int)<=(xs.length:Int)
  ·by_cases h2:(xs.length:Int)<=12
   ·have lc:lcD (gN 1) vG (zh (noX ki) (za (zf 1) zo)) xs [some (.d (.tup xs)),none] S []= .ok (xs.map λd=>D.bl (xH d)) S:=by
     rw [JB (λd=>D.bl (xH d))]
     ·intro d hd;refine⟨[some (.d (.tup xs)),some (.d d)],rfl,?_⟩;simp [zh,za,zf,zo,noX,zap hL (h.tupIn' d hd)]
     ·exact vV hL h.tupLen
    have h1':1<=xs.length:=by omega
    have h2':xs.length<=12:=by omega
    by_cases h3:xs.all xH=true
    ·have lc2:lcD (gN 1) vG (zH (zf 1) (zi (.int 0))) xs [some (.d (.tup xs)),none] S []= .ok ((xs.map nameOf).map D.str) S:=by
      rw [JB (λd=>D.str (nameOf d))]
      ·simp
      ·intro d hd;refine⟨[some (.d (.tup xs)),some (.d d)],rfl,?_⟩;obtain⟨s,r,rfl⟩:=zg0 hL (yb.mp h3 d hd);simp [zH,zf,zi,ixD,atI,ixN,nameOf]
      ·exact vV hL h.tupLen
     have er:=K6 (xs.map nameOf) S (by simp;exact vV hL h.tupLen);simp only [yP] at lc2 er;have h3':∀x∈xs,xH x=true:=yb.mp h3;simp [jZ,zg,zr,zU,sIf,zN,zO,xl,zf,zi,zz,zK,zt,dT,xw,dOr,xX,zL,qI,zy,qz,qh,zT,zH,zh,za,zo,qM,xp,xV,gN,xm,qg,xM,zF,ixD,ql,zA,lh,xF,noX,zG,h1,h2,h1',h2',dLc,kJ,lc,lc2,zaJ,vN,jD,h3,er];all_goals simp_all
    ·have eT:noX zS [W.d (D.tup xs),W.d (D.int 1),W.d (D.int 12)] S= .ok (.d (.bl true)) S:=by unfold noX;rw [zG];simp [h1,h2]
     have h3':xs.all xH=false:=yE.mpr h3
     have eA:zaJ [W.d (D.lst (xs.map λd=>D.bl (xH d)))] S= .ok (.d (.bl false)) S:=by
      have e:(xs.map xH).all id=xs.all xH:=by rw [YW];rfl
      simp only [zaJ,zF,yK,vN,e,h3']
     have eR:jD (.tup xs)=false:=by simp only [jD,h3',Lk,LX]
     rw [eR];simp [jZ,zg,zr,zU,sIf,zN,zO,xl,zf,zi,zz,zK,zt,dT,xw,dOr,xX,zL,qI,zy,qz,qh,zT,zH,zh,za,zo,qM,xp,xV,gN,xm,qg,xM,zF,ixD,ql,zA,lh,xF,eT,dLc,kJ,lc,eA]
   ·have h2':¬xs.length<=12:=by omega
    simp [jZ,zg,zr,zU,sIf,zN,zO,xl,zf,zi,zz,zK,zt,dT,xw,dOr,xX,zL,qI,zy,qz,qh,zT,zH,zh,za,zo,qM,xp,xV,gN,xm,qg,xM,zF,ixD,ql,zA,lh,xF,noX,zG,h1,h2,jD,h2']
  ·have h1':¬1<=xs.length:=by omega
   simp [jZ,zg,zr,zU,sIf,zN,zO,xl,zf,zi,zz,zK,zt,dT,xw,dOr,xX,zL,qI,zy,qz,qh,zT,zH,zh,za,zo,qM,xp,xV,gN,xm,qg,xM,zF,ixD,ql,zA,lh,xF,noX,zG,h1,jD,h1']
 |_=>simp [jZ,zg,zr,zU,sIf,zN,zO,xl,zf,zi,zz,zK,zt,dT,xw,dOr,xX,zL,qI,zy,qz,qh,zT,zH,zh,za,zo,qM,xp,xV,gN,xm,qg,xM,zF,ixD,ql,zA,lh,xF,noX,zG,jD]
theorem zgy{x:D}(h:qD x=true):∃s r,x= .tup (.str s::r):=by
 unfold qD at h;split at h
 ·rename_i a;simp only [lG] at h;obtain⟨s,rfl⟩:=X2 h.1;exact⟨s,_,rfl⟩
 ·cases h
theorem zbF{x:D}{S:Sto}(h:Gd L n x):vJ [.d x] S= .ok (.d (.bl (xQ x))) S:=by
 rw [XZ];refine Ql (Qb (t:=[some (.d x),none]) rfl ?_);cases x with
 |tup xs=>
  by_cases h1:(1:Int)<=(xs.length:Int)
  ·by_cases h2:(xs.length:Int)<=6
   ·have lc:lcD (gN 1) vG (zh (noX jS) (za (zf 1) zo)) xs [some (.d (.tup xs)),none] S []= .ok (xs.map λd=>D.bl (qD d)) S:=by
     rw [JB (λd=>D.bl (qD d))]
     ·intro d hd;refine⟨[some (.d (.tup xs)),some (.d d)],rfl,?_⟩;simp [zh,za,zf,zo,noX,Vv hL (h.tupIn' d hd)]
     ·exact vV hL h.tupLen
    have h1':1<=xs.length:=by omega
    have h2':xs.length<=6:=by omega
    by_cases h3:xs.all qD=true
    ·have lc2:lcD (gN 1) vG (zH (zf 1) (zi (.int 0))) xs [some (.d (.tup xs)),none] S []= .ok ((xs.map nameOf).map D.str) S:=by
      rw [JB (λd=>D.str (nameOf d))]
      ·simp
      ·intro d hd;refine⟨[some (.d (.tup xs)),some (.d d)],rfl,?_⟩;obtain⟨s,r,rfl⟩:=zgy hL (yb.mp h3 d hd);simp [zH,zf,zi,ixD,atI,ixN,nameOf]
      ·exact vV hL h.tupLen
     have er:=K6 (xs.map nameOf) S (by simp;exact vV hL h.tupLen);simp only [yP] at lc2 er;have h3':∀x∈xs,qD x=true:=yb.mp h3;simp [jy,zg,zr,zU,sIf,zN,zO,xl,zf,zi,zz,zK,zt,dT,xw,dOr,xX,zL,qI,zy,qz,qh,zT,zH,zh,za,zo,qM,xp,xV,gN,xm,qg,xM,zF,ixD,ql,zA,lh,xF,noX,zG,h1,h2,h1',h2',dLc,kJ,lc,lc2,zaJ,vN,xQ,h3,er];all_goals simp_all
    ·have eT:noX zS [W.d (D.tup xs),W.d (D.int 1),W.d (D.int 6)] S= .ok (.d (.bl true)) S:=by unfold noX;rw [zG];simp [h1,h2]
     have h3':xs.all qD=false:=yE.mpr h3
     have eA:zaJ [W.d (D.lst (xs.map λd=>D.bl (qD d)))] S= .ok (.d (.bl false)) S:=by
      have e:(xs.map qD).all id=xs.all qD:=by rw [YW];rfl
      simp only [zaJ,zF,yK,vN,e,h3']
     have eR:xQ (.tup xs)=false:=by simp only [xQ,h3',Lk,LX]
     rw [eR];simp [jy,zg,zr,zU,sIf,zN,zO,xl,zf,zi,zz,zK,zt,dT,xw,dOr,xX,zL,qI,zy,qz,qh,zT,zH,zh,za,zo,qM,xp,xV,gN,xm,qg,xM,zF,ixD,ql,zA,lh,xF,eT,dLc,kJ,lc,eA]
   ·have h2':¬xs.length<=6:=by omega
    simp [jy,zg,zr,zU,sIf,zN,zO,xl,zf,zi,zz,zK,zt,dT,xw,dOr,xX,zL,qI,zy,qz,qh,zT,zH,zh,za,zo,qM,xp,xV,gN,xm,qg,xM,zF,ixD,ql,zA,lh,xF,noX,zG,h1,h2,xQ,h2']
  ·have h1':¬1<=xs.length:=by omega
   simp [jy,zg,zr,zU,sIf,zN,zO,xl,zf,zi,zz,zK,zt,dT,xw,dOr,xX,zL,qI,zy,qz,qh,zT,zH,zh,za,zo,qM,xp,xV,gN,xm,qg,xM,zF,ixD,ql,zA,lh,xF,noX,zG,h1,xQ,h1']
 |_=>simp [jy,zg,zr,zU,sIf,zN,zO,xl,zf,zi,zz,zK,zt,dT,xw,dOr,xX,zL,qI,zy,qz,qh,zT,zH,zh,za,zo,qM,xp,xV,gN,xm,qg,xM,zF,ixD,ql,zA,lh,xF,noX,zG,xQ]
theorem Xz{x:D}{S:Sto}(h:Gd L n x):qy [.d x] S= .ok (.d (.bl (xD x))) S:=by
 rw [Q9];refine Ql (Qb (t:=[some (.d x),none,none,none]) rfl ?_);cases x with
 |tup xs=>
  by_cases hlen:xs.length=3
  ·match xs,hlen with
   | [a,b,c],_=>
     have ea:=zcN hL (S:=S) (h.tupIn' a (by simp));have eb:=zbF hL (S:=S) (h.tupIn' b (by simp));by_cases h1:jD a=true
     ·by_cases h2:xQ b=true
      ·simp [ja,zg,zr,zU,sIf,zN,zO,xl,zf,zi,zz,zK,zt,dT,xw,dOr,xX,zL,qI,zy,qz,qh,zT,zH,zh,za,zo,qM,xp,xV,gN,xm,qg,xM,zF,ixD,ql,zA,lh,xF,noX,zG,gTp,zX,vD,ea,eb,Zq,xD,h1,h2]
      ·simp [ja,zg,zr,zU,sIf,zN,zO,xl,zf,zi,zz,zK,zt,dT,xw,dOr,xX,zL,qI,zy,qz,qh,zT,zH,zh,za,zo,qM,xp,xV,gN,xm,qg,xM,zF,ixD,ql,zA,lh,xF,noX,zG,gTp,zX,vD,ea,eb,Zq,xD,h1,h2]
     ·simp [ja,zg,zr,zU,sIf,zN,zO,xl,zf,zi,zz,zK,zt,dT,xw,dOr,xX,zL,qI,zy,qz,qh,zT,zH,zh,za,zo,qM,xp,xV,gN,xm,qg,xM,zF,ixD,ql,zA,lh,xF,noX,zG,gTp,zX,vD,ea,Zq,xD,h1]
  ·have e:xD (.tup xs)=false:=by
    unfold xD;split
    ·rename_i q;cases q;exact absurd rfl hlen
    ·rfl
   have e2:(decide ((3:Int)<=(xs.length:Int))&&decide ((xs.length:Int)<=3))=false:=by simp;omega
   have eT:noX zS [W.d (D.tup xs),W.d (D.int 3),W.d (D.int 3)] S= .ok (.d (.bl false)) S:=by unfold noX;rw [zG];simp only [e2]
   simp [ja,zg,zr,zU,sIf,zN,zO,xl,zf,zi,zz,zK,zt,dT,xw,dOr,xX,zL,qI,zy,qz,qh,zT,zH,zh,za,zo,qM,xp,xV,gN,xm,qg,xM,zF,ixD,ql,zA,lh,xF,eT,e]
 |_=>simp [ja,zg,zr,zU,sIf,zN,zO,xl,zf,zi,zz,zK,zt,dT,xw,dOr,xX,zL,qI,zy,qz,qh,zT,zH,zh,za,zo,qM,xp,xV,gN,xm,qg,xM,zF,ixD,ql,zA,lh,xF,noX,zG,xD]
end
theorem zcl(xs:List D):peq (.lst xs) (.lst [])=xs.isEmpty:=by
 cases xs with
 |nil=>rfl
 |cons a r=>rfl
theorem zds:∀l m:List Str,PyData.eqvAll (Ji (l.map D.str)) (Ji (m.map D.str))=decide (l=m)
 | [],[]=>rfl
 | [],_::_=>rfl
 |_::_,[]=>rfl
 |a::l,b::m=>by show(PyData.eqv (.str a) (.str b)&&PyData.eqvAll (Ji (l.map D.str)) (Ji (m.map D.str)))=_;rw [zds l m];show((a==b)&&decide (l=m))=_;by_cases h:a=b <;> by_cases h2:l=m <;> simp [h,h2]
theorem zgO(l m:List Str):peq (.lst (l.map D.str)) (.lst (m.map D.str))=decide (l=m):=zds l m
theorem zdY(c:Nat):decide (c∈(Str.ofString "abcdefghijklmnopqrstuvwxyz").cps.toList)=okC c:=by
 have e:(Str.ofString "abcdefghijklmnopqrstuvwxyz").cps.toList= [97,98,99,100,101,102,103,104,105,106,107,108,109,110,111,112,113,114,115,116,117,118,119,120,121,122]:=by decide+kernel
 rw [e];unfold okC;rw [<-Bool.decide_and];apply decide_eq_decide.mpr;simp;omega
def zgH:D->Bool
 | .str s=> !(s.cps.toList.all okC)
 |_=>true
theorem zb0{c:Nat}{s:Str}(h:PyData.strOk s=true)(hc:c∈s.cps.toList):PyData.strOk ⟨#[c]⟩=true:=by
 unfold PyData.strOk at*;rw [LQ] at*;intro x hx;have:x=c:=by simpa using hx
 subst this;exact h x (by simpa using hc)
section
variable {L n:Nat} (hL:L<=100000)
include hL
theorem XU{x:D}{S:Sto}(h:Gd L n x):ku [.d x] S= .ok (.d (.bl (isName x))) S:=by
 rw [Q8];refine Ql (Qb (t:=[some (.d x),none]) rfl ?_);cases x with
 |str s=>
  have hs:s.length<=sizeLine:=vV hL h.strLen
  have lc:lcD (gN 1) (dT (zK .NotIn (zf 1) (zi (.str "abcdefghijklmnopqrstuvwxyz")))) (zf 1) (s.cps.toList.map λc=>D.str ⟨#[c]⟩) [some (.d (.str s)),none] S []= .ok ((s.cps.toList.map λc=>D.str ⟨#[c]⟩).filter zgH) S:=by
   rw [VU zgH id]
   ·simp
   ·intro d hd;obtain⟨c,hc,rfl⟩:=lL.mp hd;refine⟨[some (.d (.str s)),some (.d (.str ⟨#[c]⟩))],rfl,?_,λ_=>rfl⟩;show Res.ok (!decide (c∈(Str.ofString "abcdefghijklmnopqrstuvwxyz").cps.toList)) S=_;rw [zdY];simp [zgH]
   ·simp;exact hs
  have eqk:Vd (.lst ((s.cps.toList.map λc=>D.str ⟨#[c]⟩).filter zgH)) (.lst [])=true:=by
   have g1:Gd (s.cps.toList.length+1) 1 (.lst ((s.cps.toList.map λc=>D.str ⟨#[c]⟩).filter zgH)):=by
    refine .lst ?_ λx hx=>?_
    ·refine lQ (List.length_filter_le _ _) ?_;simp
    ·obtain⟨c,hc,rfl⟩:=lL.mp (LN.mp hx).1;exact .str (by show 1<=_;omega) (zb0 h.strGood hc)
   unfold Vd;rw [g1.okD (by decide)];rfl
  have ee:((s.cps.toList.map λc=>D.str ⟨#[c]⟩).filter zgH).isEmpty=s.cps.toList.all okC:=by
   rw [La,List.isEmpty_iff,L7,yb];constructor
   ·intro q c hc;have:=q (.str ⟨#[c]⟩) (lL.mpr ⟨c,hc,rfl⟩);simpa [zgH] using this
   ·intro q d hd;obtain⟨c,hc,rfl⟩:=lL.mp hd;simp [zgH,q c hc]
  by_cases h1:(s.length:Int)<1
  ·have h1':¬1<=s.length:=by omega
   simp [jG,zg,zr,zU,sIf,zN,zO,xl,zf,zi,zz,zK,zt,dT,xw,dOr,xX,zL,qI,zy,qz,qh,zT,zH,zh,za,zo,qM,xp,xV,gN,xm,qg,xM,zF,ixD,ql,zA,lh,xF,hs,h1,isName,h1']
  ·have h1':1<=s.length:=by omega
   by_cases h2:(8:Int)<(s.length:Int)
   ·have h2':¬s.length<=8:=by omega
    simp [jG,zg,zr,zU,sIf,zN,zO,xl,zf,zi,zz,zK,zt,dT,xw,dOr,xX,zL,qI,zy,qz,qh,zT,zH,zh,za,zo,qM,xp,xV,gN,xm,qg,xM,zF,ixD,ql,zA,lh,xF,hs,h1,h2,isName,h2']
   ·have h2':s.length<=8:=by omega
    have cm:Vj .Eq (.d (.lst ((s.cps.toList.map λc=>D.str ⟨#[c]⟩).filter zgH))) (.d (.lst [])) S= .ok (.d (.bl (s.cps.toList.all okC))) S:=by show(if Vd _ _=true then _ else _)=_;rw [if_pos eqk,zcl,ee]
    have eR:isName (.str s)=s.cps.toList.all okC:=by simp [isName,h1',h2']
    rw [eR];simp only [jG,zg,zr,zU,sIf,zN,zO,xl,zf,zi,zz,zK,zt,dT,xw,dOr,xX,zL,qI,zy,qz,qh,zT,zH,zh,za,zo,qM,xp,xV,gN,xm,qg,xM,zF,ixD,ql,zA,lh,xF,hs,h1,h2,dLc,kJ,zb2,vY,wp_bind,xu,zlP,zlB];simp [hs,h1,h2,lc,cm,xM,qg]
 |_=>simp [jG,zg,zr,zU,sIf,zN,zO,xl,zf,zi,zz,zK,zt,dT,xw,dOr,xX,zL,qI,zy,qz,qh,zT,zH,zh,za,zo,qM,xp,xV,gN,xm,qg,xM,zF,ixD,ql,zA,lh,xF,isName]
end
theorem kR(x:D)(a b:Int)(S:Sto):qN [.d x,.d (.int a),.d (.int b)] S= .ok (.d (.bl (within x a b))) S:=by
 rw [X0];refine Ql (Qb (t:=[some (.d x),some (.d (.int a)),some (.d (.int b))]) rfl ?_);cases x <;> simp [Zm,zg,zr,zU,sIf,zN,zO,xl,zf,zi,zz,zK,zt,dT,xw,dOr,xX,zL,qI,zy,qz,qh,zT,zH,zh,za,zo,qM,xp,xV,gN,xm,qg,xM,zF,ixD,ql,zA,lh,xF,within]
 rename_i i;by_cases h:a<=i <;> simp [h]
theorem zhJ{q:SR}{t:DS}{S:Sto}(h:wps q (λt' S'=>t'=t/\S'=S) λ_ _=>False):q= .nx t S:=by
 cases q with
 |nx _ _=>obtain⟨rfl,rfl⟩:=h;rfl
 |rt _ _=>exact h.elim
 |bk _ _=>exact h.elim
 |ct _ _=>exact h.elim
 |exc _ _ _=>exact h.elim
 |bad=>exact h.elim
theorem zkn{q:SR}{w:W}{S:Sto}(h:wps q (λ_ _=>False) λw' S'=>w'=w/\S'=S):q= .rt w S:=by
 cases q with
 |nx _ _=>exact h.elim
 |rt _ _=>obtain⟨rfl,rfl⟩:=h;rfl
 |bk _ _=>exact h.elim
 |ct _ _=>exact h.elim
 |exc _ _ _=>exact h.elim
 |bad=>exact h.elim
theorem JZ{g:W->DS->Option DS}{body:MSt}(mk:List (Option W)->DS)(p:D->Bool)(b:W)(S:Sto):∀(ds:List D) (r:List (Option W)),(∀d∈ds,∀r,∃r',g (.d d) (mk r)=some (mk r')/\(p d=true->body (mk r') S= .nx (mk r') S)/\(p d=false->body (mk r') S= .rt b S))->
 ∃r',(ds.all p=true->Vk g body ds (mk r) S= .nx (mk r') S)/\(ds.all p=false->Vk g body ds (mk r) S= .rt b S)
 | [],r,_=>⟨r,λ_=>rfl,λh=>by simp at h⟩
 |d::ds,r,h=>by
  obtain⟨r1,e1,e2,e3⟩:=h d (by simp) r;obtain⟨r2,q1,q2⟩:=JZ mk p b S ds r1 λx hx=>h x (by simp [hx])
  cases hp:p d with
  |true=>
   refine⟨r2,λha=>?_,λha=>?_⟩
   ·unfold Vk;rw [e1];dsimp only;rw [e2 hp];dsimp only;exact q1 (by rw [Lv,hp,Lw] at ha;exact ha)
   ·unfold Vk;rw [e1];dsimp only;rw [e2 hp];dsimp only;exact q2 (by rw [Lv,hp,Lw] at ha;exact ha)
  |false=>
   refine⟨r2,λha=>?_,λha=>?_⟩
   ·rw [Lv,hp,LX] at ha;cases ha
   ·unfold Vk;rw [e1];dsimp only;rw [e3 hp]
theorem zfp{x y:Str}:ltS x y=true↔Spec.ltCps x.cps.toList y.cps.toList=true:=by rw [vb];unfold ltS;exact decide_eq_true_iff
theorem za4{x y z:Str}(h1:ltS x y=true)(h2:ltS y z=true):ltS x z=true:=by unfold ltS at*;simp only [decide_eq_true_eq] at*;exact List.lt_trans h1 h2
theorem zfN(x:Str):ltS x x=false:=by unfold ltS;exact decide_eq_false (List.lt_irrefl _)
theorem zag:∀l:List Str,j4 l=true↔l.Pairwise λa b=>ltS a b=true
 | []=>by simp [j4]
 | [a]=>by simp [j4]
 |a::b::r=>by
  have ih:=zag (b::r);have e:j4 (a::b::r)=(ltS a b&&j4 (b::r)):=by simp [j4]
  rw [e,lG,ih];constructor
  ·rintro⟨h1,h2⟩;refine yp.mpr ⟨λc hc=>?_,h2⟩;rcases lu.mp hc with rfl|hc
   ·exact h1
   ·exact za4 h1 ((yp.mp h2).1 c hc)
  ·intro h;obtain⟨h1,h2⟩:=yp.mp h;exact⟨h1 b (by simp),h2⟩
theorem zmb{x y:Str}(h:ltS x y=true):leS x y=true:=by
 unfold leS;cases q:Spec.ltCps y.cps.toList x.cps.toList with
 |false=>rfl
 |true=>
  have h1:=zfN x;rw [za4 h (zfp.mpr q)] at h1;cases h1
theorem ziw{x y:Str}(h:leS x y=true)(hne:x≠y):ltS x y=true:=by
 cases q:ltS x y with
 |true=>rfl
 |false=>
  exfalso;apply hne;refine zdA h ?_;unfold leS;cases q2:Spec.ltCps x.cps.toList y.cps.toList with
  |false=>rfl
  |true=>rw [zfp.mpr q2] at q;cases q
theorem zhE{acc:List Str}{x:Str}(h:acc.Nodup):(ZS1.stepT acc x).Nodup:=by
 unfold ZS1.stepT;split
 ·exact h
 ·rename_i hx;rw [L6];refine⟨h,by simp,λa ha b hb=>?_⟩;have:b=x:=by simpa using hb
  subst this;exact λe=>hx (e▸ha)
theorem zdk:∀(xs acc:List Str),acc.Nodup->(xs.foldl ZS1.stepT acc).Nodup
 | [],acc,h=>h
 |x::r,acc,h=>zdk r _ (zhE h)
theorem zeG(xs:List Str):(ZS1.xJ xs).Nodup:=zdk xs [] Yr
theorem zaV:∀(xs acc:List Str),(acc++xs).Nodup->xs.foldl ZS1.stepT acc=acc++xs
 | [],acc,h=>by simp
 |x::r,acc,h=>by
  have hx:x∉acc:=λhx=>by rw [L6] at h;exact h.2.2 x hx x (by simp) rfl
  have e:ZS1.stepT acc x=acc++ [x]:=by unfold ZS1.stepT;rw [if_neg hx]
  rw [LO,e,zaV r (acc++ [x]) (by simpa using h)];simp
theorem zel(l:List Str):decide (l=QF (ZS1.xJ l))=j4 l:=by
 rw [La,decide_eq_true_iff,zag];constructor
 ·intro h;have hs:ZW l:=by rw [h];exact vM _
  have hn:l.Nodup:=by rw [h];exact(kj _).nodup_iff.mpr (zeG l)
  exact(List.Pairwise.and hs hn).imp λ⟨a,b⟩=>ziw a b
 ·intro h;have hn:l.Nodup:=h.imp λ{a b} hab e=>by subst e;rw [zfN] at hab;cases hab
  have hs:ZW l:=h.imp λhab=>zmb hab
  have e:ZS1.xJ l=l:=by unfold ZS1.xJ;rw [zaV l [] (by simpa using hn)];rfl
  rw [e];exact Xh (kj l).symm hs (vM l)
def JO(k:Nat):D->Bool
 | .tup ys=>decide (ys.length=k)&&isName (ys.headD .non)
 |_=>false
def qR(k m:Nat):D->Bool
 | .tup xs=>decide (1<=xs.length)&&decide (xs.length<=m)&&xs.all (JO k)&&j4 (xs.map nameOf)
 |_=>false
theorem zdI{k:Nat}{x:D}(hk:1<=k)(h:JO k x=true):∃s r,x= .tup (.str s::r):=by
 unfold JO at h;split at h
 ·rename_i ys;rw [lG,decide_eq_true_iff] at h;cases ys with
  |nil=>simp at h;omega
  |cons a r=>
   obtain⟨s,rfl⟩:=X2 h.2;exact⟨s,r,rfl⟩
 ·cases h
theorem Ku{i j:Int}{S:Sto}:Vj .NotEq (.d (.int i)) (.d (.int j)) S= .ok (.d (.bl (!(i==j)))) S:=rfl
theorem zjI{L n:Nat}{x:D}(h:Gd L n x)(hs:∃s r,x= .tup (.str s::r)):(nameOf x).length<=L/\PyData.strOk (nameOf x)=true:=by obtain⟨s,r,rfl⟩:=hs;have:=h.tupIn' (.str s) (by simp);exact⟨this.strLen,this.strGood⟩
section
variable {L n:Nat} (hL:L<=100000)
include hL
theorem zeX{x:D}{S:Sto}{k m:Nat}(h:Gd L n x)(hk:1<=k)(hm:m<=12):qO [.d x,.d (.int k),.d (.int m)] S= .ok (.d (.bl (qR k m x))) S:=by
 rw [ZU];refine Ql (Qb (t:=[some (.d x),some (.d (.int k)),some (.d (.int m)),none,none]) rfl ?_);cases x with
 |tup xs=>
  by_cases h1:(xs.length:Int)<1
  ·have h1':¬1<=xs.length:=by omega
   simp [zZ,zg,zr,zU,sIf,zN,zO,xl,zf,zi,zz,zK,zt,dT,xw,dOr,xX,zL,qI,zy,qz,qh,zT,zH,zh,za,zo,qM,xp,xV,gN,xm,qg,xM,zF,ixD,ql,zA,lh,xF,h1,qR,h1']
  ·have h1':1<=xs.length:=by omega
   by_cases h2:(m:Int)<(xs.length:Int)
   ·have h2':¬xs.length<=m:=by omega
    simp [zZ,zg,zr,zU,sIf,zN,zO,xl,zf,zi,zz,zK,zt,dT,xw,dOr,xX,zL,qI,zy,qz,qh,zT,zH,zh,za,zo,qM,xp,xV,gN,xm,qg,xM,zF,ixD,ql,zA,lh,xF,h1,h2,qR,h2']
   ·have h2':xs.length<=m:=by omega
    obtain⟨r',f1,f2⟩:=JZ (g:=gN 3) (body:=zg (sIf (qI (zy (dT (qM .tuple (zf 3)))) (qI (dT (zK .NotEq (zh qg (za (zf 3) zo)) (zf 1))) (zy (dT (zh (noX ku) (za (zH (zf 3) (zi (.int 0))) zo)))))) (zg (zU (zi (.bl false))) zr) zr) zr)
     (λr=>[some (.d (.tup xs)),some (.d (.int k)),some (.d (.int m)),r.headD none,none]) (JO k) (.d (.bl false)) S xs [] (by
       intro d hd r;refine⟨[some (.d d)],rfl,λhp=>zhJ ?_,λhp=>zkn ?_⟩
       ·obtain⟨s,q,rfl⟩:=zdI hk hp;have hn:=XU hL (S:=S) ((h.tupIn' _ hd).tupIn' (.str s) (by simp));simp only [JO,lG,decide_eq_true_iff,Lr] at hp;obtain⟨hk',hp'⟩:=hp;subst hk';simp only [zZ,zg,zr,zU,sIf,zN,zO,xl,zf,zi,zz,zK,zt,dT,xw,dOr,xX,zL,qI,zy,qz,qh,zT,zH,zh,za,zo,qM,xp,xV,gN,xm,qg,xM,zF,ixD,ql,zA,lh,xF,Lr];simp [Ku,qg,xM,ixD,atI,ixN,noX,hn,hp',zr]
       ·cases d with
        |tup ys=>
         by_cases hl:ys.length=k
         ·cases ys with
          |nil=>simp at hl;omega
          |cons a q=>
           have hn:=XU hL (S:=S) ((h.tupIn' _ hd).tupIn' a (by simp));simp only [JO,hl,decide_true,Lw,Lr] at hp;subst hl;simp only [zZ,zg,zr,zU,sIf,zN,zO,xl,zf,zi,zz,zK,zt,dT,xw,dOr,xX,zL,qI,zy,qz,qh,zT,zH,zh,za,zo,qM,xp,xV,gN,xm,qg,xM,zF,ixD,ql,zA,lh,xF,Lr];simp [Ku,qg,xM,ixD,atI,ixN,noX,hn,hp]
         ·have hl':¬((ys.length:Int))=(k:Int):=by omega
          simp only [zZ,zg,zr,zU,sIf,zN,zO,xl,zf,zi,zz,zK,zt,dT,xw,dOr,xX,zL,qI,zy,qz,qh,zT,zH,zh,za,zo,qM,xp,xV,gN,xm,qg,xM,zF,ixD,ql,zA,lh,xF,Lr];simp [Ku,qg,xM,hl']
        |_=>
         simp only [zZ,zg,zr,zU,sIf,zN,zO,xl,zf,zi,zz,zK,zt,dT,xw,dOr,xX,zL,qI,zy,qz,qh,zT,zH,zh,za,zo,qM,xp,xV,gN,xm,qg,xM,zF,ixD,ql,zA,lh,xF,Lr];simp [xp])
    cases h3:xs.all (JO k) with
    |false=>
     have f2:=f2 h3;have eR:qR k m (.tup xs)=false:=by simp only [qR,h3,Lk,LX]
     rw [eR];simp only [List.headD_nil] at f2;simp [zZ,zg,zr,zU,sIf,zN,zO,xl,zf,zi,zz,zK,zt,dT,xw,dOr,xX,zL,qI,zy,qz,qh,zT,zH,zh,za,zo,qM,xp,xV,gN,xm,qg,xM,zF,ixD,ql,zA,lh,xF,h1,h2,f2]
    |true=>
     have f1:=f1 h3;simp only [List.headD_nil] at f1;have hrow:∀d∈xs,∃s r,d= .tup (.str s::r):=λd hd=>zdI hk (yb.mp h3 d hd)
     have lc:∀t,lcD (gN 3) vG (zH (zf 3) (zi (.int 0))) xs [some (.d (.tup xs)),some (.d (.int k)),some (.d (.int m)),t,none] S []= .ok ((xs.map nameOf).map D.str) S:=by
      intro t;rw [JB (λd=>D.str (nameOf d))]
      ·simp
      ·intro d hd;refine⟨[some (.d (.tup xs)),some (.d (.int k)),some (.d (.int m)),some (.d d),none],rfl,?_⟩;obtain⟨s,r,rfl⟩:=hrow d hd;simp [zH,zf,zi,ixD,atI,ixN,nameOf]
      ·exact vV hL h.tupLen
     have gl:∀l:List Str,l.length<=100000->(∀s∈l,s.length<=100000/\PyData.strOk s=true)->okD (.lst (l.map D.str))=true:=λl hl hs=>by refine Gd.okD (L:=100000) (n:=1) (.lst (by simpa using hl) λx hx=>?_) (by decide);obtain⟨s,hs',rfl⟩:=lL.mp hx;exact .str (hs s hs').1 (hs s hs').2
     have hA:∀s∈xs.map nameOf,s.length<=100000/\PyData.strOk s=true:=λs hs=>by obtain⟨d,hd,rfl⟩:=lL.mp hs;have:=zjI (h.tupIn' d hd) (hrow d hd);exact⟨by omega,this.2⟩
     have hB:∀s∈QF (ZS1.xJ (xs.map nameOf)),s∈xs.map nameOf:=λs hs=>by
      have h1:=(kj _).mem_iff.mp hs;have key:∀(ys acc:List Str),s∈ys.foldl ZS1.stepT acc->s∈acc\/s∈ys:=by
       intro ys;induction ys with
       |nil=>intro acc q;exact .inl q
       |cons y r ih=>
        intro acc q;rcases ih _ q with q|q
        ·unfold ZS1.stepT at q;split at q
         ·exact .inl q
         ·rcases yd.mp q with q|q
          ·exact .inl q
          ·exact .inr (by simp at q;simp [q])
        ·exact .inr (by simp [q])
      rcases key _ [] h1 with q|q
      ·cases q
      ·exact q
     have lenB:(QF (ZS1.xJ (xs.map nameOf))).length<=100000:=by rw [(kj _).length_eq];have:=ZS1.XR (xs.map nameOf) [];unfold ZS1.xJ;simp at this;omega
     have ek:Vd (.lst ((xs.map nameOf).map D.str)) (.lst ((QF (ZS1.xJ (xs.map nameOf))).map D.str))=true:=by unfold Vd;rw [gl _ (by simp;omega) hA,gl _ lenB λs hs=>hA s (hB s hs)];simp
     have cm:Vj .Eq (.d (.lst ((xs.map nameOf).map D.str))) (.d (.lst ((QF (ZS1.xJ (xs.map nameOf))).map D.str))) S= .ok (.d (.bl (j4 (xs.map nameOf)))) S:=by show(if Vd _ _=true then _ else _)=_;rw [if_pos ek,zgO,zel]
     have sg:Kd [.d (.lst ((xs.map nameOf).map D.str))] S= .ok (.d (.lst ((QF (ZS1.xJ (xs.map nameOf))).map D.str))) S:=by
      have:(xs.map nameOf).length<64:=by simp;omega
      simp only [Kd,zF,yK,strs_map,this,if_true]
     have eR:qR k m (.tup xs)=j4 (xs.map nameOf):=by simp only [qR,h3,h1',h2',decide_true,Lw]
     rw [eR];simp only [yP] at lc cm sg;simp [zZ,zg,zr,zU,sIf,zN,zO,xl,zf,zi,zz,zK,zt,dT,xw,dOr,xX,zL,qI,zy,qz,qh,zT,zH,zh,za,zo,qM,xp,xV,gN,xm,qg,xM,zF,ixD,ql,zA,lh,xF,h1,h2,f1,dLc,kJ,lc,V5,sg,cm]
 |_=>simp [zZ,zg,zr,zU,sIf,zN,zO,xl,zf,zi,zz,zK,zt,dT,xw,dOr,xX,zL,qI,zy,qz,qh,zT,zH,zh,za,zo,qM,xp,xV,gN,xm,qg,xM,zF,ixD,ql,zA,lh,xF,qR]
end
def wR:D->Bool
 | .tup [_,b,c]=>within b 0 1000000000&&within c 1 1000
 |_=>false
def wC':D->Bool
 | .tup [_,b]=>within b 1 1000
 |_=>false
theorem ze6(d:D):xH d=(JO 3 d&&wR d):=by
 cases d with
 |tup ys=>
  match ys with
  | []=>rfl
  | [_]=>rfl
  | [_,_]=>rfl
  | [a,b,c]=>simp [xH,JO,wR]
  |_::_::_::_::_=>simp [xH,JO,wR]
 |_=>rfl
theorem zek(d:D):qD d=(JO 2 d&&wC' d):=by
 cases d with
 |tup ys=>
  match ys with
  | []=>rfl
  | [_]=>rfl
  | [a,b]=>simp [qD,JO,wC']
  |_::_::_::_=>simp [qD,JO,wC']
 |_=>rfl
theorem Kk{α:Type}{f g h:α->Bool}(e:∀d,f d=(g d&&h d)):∀l:List α,l.all f=(l.all g&&l.all h)
 | []=>rfl
 |a::r=>by simp only [Lv,e,Kk e r];cases g a <;> cases h a <;> cases r.all g <;> cases r.all h <;> rfl
theorem zdu(rs:List D):jD (.tup rs)=(qR 3 12 (.tup rs)&&rs.all wR):=by simp only [jD,qR,Kk ze6];cases decide (1<=rs.length) <;> cases decide (rs.length<=12) <;> cases rs.all (JO 3) <;> cases rs.all wR <;> cases j4 (rs.map nameOf) <;> rfl
theorem zbT(rs:List D):xQ (.tup rs)=(qR 2 6 (.tup rs)&&rs.all wC'):=by simp only [xQ,qR,Kk zek];cases decide (1<=rs.length) <;> cases decide (rs.length<=6) <;> cases rs.all (JO 2) <;> cases rs.all wC' <;> cases j4 (rs.map nameOf) <;> rfl
theorem zbo{k m:Nat}{x:D}(h:qR k m x=true):∃xs,x= .tup xs/\xs.all (JO k)=true:=by
 cases x with
 |tup xs=>
  simp only [qR,lG] at h;exact⟨xs,rfl,h.1.2⟩
 |_=>cases h
theorem zoa{d:D}(h:JO 3 d=true):∃a b c,d= .tup [a,b,c]:=by
 cases d with
 |tup ys=>
  match ys with
  | []=>simp [JO] at h
  | [_]=>simp [JO] at h
  | [_,_]=>simp [JO] at h
  | [a,b,c]=>exact⟨a,b,c,rfl⟩
  |_::_::_::_::_=>simp [JO] at h
 |_=>cases h
theorem zoW{d:D}(h:JO 2 d=true):∃a b,d= .tup [a,b]:=by
 cases d with
 |tup ys=>
  match ys with
  | []=>simp [JO] at h
  | [_]=>simp [JO] at h
  | [a,b]=>exact⟨a,b,rfl⟩
  |_::_::_::_=>simp [JO] at h
 |_=>cases h
section
variable {L n:Nat} (hL:L<=100000)
include hL
theorem ZK{x:D}{S:Sto}(h:Gd L n x):zE [.d x] S= .ok (.d (.bl (xD x))) S:=by
 rw [Zn];refine Ql (Qb (t:=[some (.d x),none,none,none,none,none]) rfl ?_);cases x with
 |tup xs=>
  by_cases hlen:xs.length=3
  ·match xs,hlen with
   | [r,c,m],_=>
     have er:=zeX hL (S:=S) (k:=3) (m:=12) (h.tupIn' r (by simp)) (by omega) (by omega);have ec:=zeX hL (S:=S) (k:=2) (m:=6) (h.tupIn' c (by simp)) (by omega) (by omega);have er':noX qO [.d r,.d (.int 3),.d (.int 12)] S= .ok (.d (.bl (qR 3 12 r))) S:=by unfold noX;rw [show(3:Int)=((3:Nat):Int) from rfl,show(12:Int)=((12:Nat):Int) from rfl,er]
     have ec':noX qO [.d c,.d (.int 2),.d (.int 6)] S= .ok (.d (.bl (qR 2 6 c))) S:=by unfold noX;rw [show(2:Int)=((2:Nat):Int) from rfl,show(6:Int)=((6:Nat):Int) from rfl,ec]
     cases h1:qR 3 12 r with
     |false=>
      have eR:xD (.tup [r,c,m])=false:=by
       have:jD r=false:=by
        cases r with
        |tup rs=>rw [zdu,h1];rfl
        |_=>rfl
       simp [xD,this]
      rw [eR];rw [h1] at er';simp [zI,zg,zr,zU,sIf,zN,zO,xl,zf,zi,zz,zK,zt,dT,xw,dOr,xX,zL,qI,zy,qz,qh,zT,zH,zh,za,zo,qM,xp,xV,gN,xm,qg,xM,zF,ixD,ql,zA,lh,xF,Ku,atI,ixN,er']
     |true=>
      rw [h1] at er';cases h2:qR 2 6 c with
      |false=>
       have eR:xD (.tup [r,c,m])=false:=by
        have:xQ c=false:=by
         cases c with
         |tup rs=>rw [zbT,h2];rfl
         |_=>rfl
        simp [xD,this]
       rw [eR];rw [h2] at ec';simp [zI,zg,zr,zU,sIf,zN,zO,xl,zf,zi,zz,zK,zt,dT,xw,dOr,xX,zL,qI,zy,qz,qh,zT,zH,zh,za,zo,qM,xp,xV,gN,xm,qg,xM,zF,ixD,ql,zA,lh,xF,Ku,atI,ixN,er',ec']
      |true=>
       rw [h2] at ec';obtain⟨rs,rfl,hr⟩:=zbo h1;obtain⟨cs,rfl,hc⟩:=zbo h2;have eR:xD (.tup [.tup rs,.tup cs,m])=(rs.all wR&&(cs.all wC'&&within m 1 1000)):=by simp only [xD,zdu,zbT,h1,h2,Lw]
       rw [eR];obtain⟨p',f1,f2⟩:=JZ (g:=gTp 3 (zX (gN 1) (zX (gN 2) (zX (gN 3) vD)))) (body:=zg (sIf (qI (zy (dT (zh (noX qN) (za (zf 2) (za (zi (.int 0)) (za (zz .Pow (zi (.int 10)) (zi (.int 9))) zo)))))) (zy (dT (zh (noX qN) (za (zf 3) (za (zi (.int 1)) (za (zi (.int 1000)) zo))))))) (zg (zU (zi (.bl false))) zr) zr) zr)
        (λl=>[some (.d (.tup [.tup rs,.tup cs,m])),l.getD 0 none,l.getD 1 none,l.getD 2 none,none,none]) wR (.d (.bl false)) S rs [] (by
          intro d hd l;obtain⟨a,b,e,rfl⟩:=zoa (yb.mp hr d hd);refine⟨[some (.d a),some (.d b),some (.d e)],rfl,λhp=>zhJ ?_,λhp=>zkn ?_⟩
          ·simp only [wR,lG] at hp;simp [zI,zg,zr,zU,sIf,zN,zO,xl,zf,zi,zz,zK,zt,dT,xw,dOr,xX,zL,qI,zy,qz,qh,zT,zH,zh,za,zo,qM,xp,xV,gN,xm,qg,xM,zF,ixD,ql,zA,lh,xF,noX,kR,hp.1,hp.2,zr]
          ·cases hb:within b 0 1000000000 with
           |false=>simp [zI,zg,zr,zU,sIf,zN,zO,xl,zf,zi,zz,zK,zt,dT,xw,dOr,xX,zL,qI,zy,qz,qh,zT,zH,zh,za,zo,qM,xp,xV,gN,xm,qg,xM,zF,ixD,ql,zA,lh,xF,noX,kR,hb,zr]
           |true=>
            simp only [wR,hb,Lw] at hp;simp [zI,zg,zr,zU,sIf,zN,zO,xl,zf,zi,zz,zK,zt,dT,xw,dOr,xX,zL,qI,zy,qz,qh,zT,zH,zh,za,zo,qM,xp,xV,gN,xm,qg,xM,zF,ixD,ql,zA,lh,xF,noX,kR,hb,hp,zr])
       cases h3:rs.all wR with
       |false=>
        have f2:=f2 h3;simp only [YD] at f2;simp [zI,zg,zr,zU,sIf,zN,zO,xl,zf,zi,zz,zK,zt,dT,xw,dOr,xX,zL,qI,zy,qz,qh,zT,zH,zh,za,zo,qM,xp,xV,gN,xm,qg,xM,zF,ixD,ql,zA,lh,xF,Ku,atI,ixN,er',ec',f2]
       |true=>
        have f1:=f1 h3;simp only [YD] at f1;generalize p'.getD 0 none=z0 at f1;generalize p'.getD 1 none=z1 at f1;generalize p'.getD 2 none=z2 at f1;obtain⟨q',k1,k2⟩:=JZ (g:=gTp 2 (zX (gN 4) (zX (gN 5) vD))) (body:=zg (sIf (zy (dT (zh (noX qN) (za (zf 5) (za (zi (.int 1)) (za (zi (.int 1000)) zo)))))) (zg (zU (zi (.bl false))) zr) zr) zr)
         (λl=>[some (.d (.tup [.tup rs,.tup cs,m])),z0,z1,z2,l.getD 0 none,l.getD 1 none]) wC' (.d (.bl false)) S cs [] (by
           intro d hd l;obtain⟨a,b,rfl⟩:=zoW (yb.mp hc d hd);refine⟨[some (.d a),some (.d b)],rfl,λhp=>zhJ ?_,λhp=>zkn ?_⟩
           ·simp only [wC'] at hp;simp [zI,zg,zr,zU,sIf,zN,zO,xl,zf,zi,zz,zK,zt,dT,xw,dOr,xX,zL,qI,zy,qz,qh,zT,zH,zh,za,zo,qM,xp,xV,gN,xm,qg,xM,zF,ixD,ql,zA,lh,xF,noX,kR,hp,zr]
           ·simp only [wC'] at hp;simp [zI,zg,zr,zU,sIf,zN,zO,xl,zf,zi,zz,zK,zt,dT,xw,dOr,xX,zL,qI,zy,qz,qh,zT,zH,zh,za,zo,qM,xp,xV,gN,xm,qg,xM,zF,ixD,ql,zA,lh,xF,noX,kR,hp,zr])
        cases h4:cs.all wC' with
        |false=>
         have k2:=k2 h4;simp only [YD] at k2;simp [zI,zg,zr,zU,sIf,zN,zO,xl,zf,zi,zz,zK,zt,dT,xw,dOr,xX,zL,qI,zy,qz,qh,zT,zH,zh,za,zo,qM,xp,xV,gN,xm,qg,xM,zF,ixD,ql,zA,lh,xF,Ku,atI,ixN,er',ec',f1,k2]
        |true=>
         have k1:=k1 h4;simp only [YD] at k1;have ew:noX qN [.d m,.d (.int 1),.d (.int 1000)] S= .ok (.d (.bl (within m 1 1000))) S:=by unfold noX;rw [kR]
         simp [zI,zg,zr,zU,sIf,zN,zO,xl,zf,zi,zz,zK,zt,dT,xw,dOr,xX,zL,qI,zy,qz,qh,zT,zH,zh,za,zo,qM,xp,xV,gN,xm,qg,xM,zF,ixD,ql,zA,lh,xF,Ku,atI,ixN,er',ec',f1,k1,ew]
  ·have e:xD (.tup xs)=false:=by
    unfold xD;split
    ·rename_i q;cases q;exact absurd rfl hlen
    ·rfl
   rw [e];have hl':¬(xs.length:Int)=3:=by omega
   simp [zI,zg,zr,zU,sIf,zN,zO,xl,zf,zi,zz,zK,zt,dT,xw,dOr,xX,zL,qI,zy,qz,qh,zT,zH,zh,za,zo,qM,xp,xV,gN,xm,qg,xM,zF,ixD,ql,zA,lh,xF,Ku,hl']
 |_=>simp [zI,zg,zr,zU,sIf,zN,zO,xl,zf,zi,zz,zK,zt,dT,xw,dOr,xX,zL,qI,zy,qz,qh,zT,zH,zh,za,zo,qM,xp,xV,gN,xm,qg,xM,zF,ixD,ql,zA,lh,xF,xD]
end
def JU(n:Nat)(S:Sto):Prop:=∃a b,S[n]? =some (.lst [.int a,.int b])
structure Dr (n:Nat) (S S':Sto):Prop where
 len:S'.length=S.length
 oth:∀i,i≠n->S'[i]? =S[i]?
 has:JU n S'
theorem JU.lt{n:Nat}{S:Sto}(h:JU n S):n<S.length:=let⟨_,_,e⟩:=h;(lI.mp e).1
theorem Dr.refl{n:Nat}{S:Sto}(h:JU n S):Dr n S S:=⟨rfl,λ_ _=>rfl,h⟩
theorem Dr.trans{n:Nat}{S S1 S2:Sto}(a:Dr n S S1)(b:Dr n S1 S2):Dr n S S2:=⟨b.len.trans a.len,λi hi=>(b.oth i hi).trans (a.oth i hi),b.has⟩
theorem Dr.set{n:Nat}{S:Sto}{a b:Int}(h:n<S.length):Dr n S (S.set n (.lst [.int a,.int b])):=
 ⟨by simp,λi hi=>by rw [lV (yY hi)],a,b,by rw [lW h]⟩
theorem Dr.take{n:Nat}{S S':Sto}(h:Dr n S S'):Dr n S (S'.take S.length):=by have:S'.take S.length=S':=yk (by rw [h.len];exact lD _);rw [this];exact h
section
variable {n:Nat} {many:Int}
abbrev drC:MB:=dT (zK .Lt (zf 3) (zf 1))
abbrev drB:MSt:=(zg (jb (zz .Mod (zz .Mult (zH (zf 0) (zi (.int 1))) (zi (.int 69621))) (zi (.int 2147483647))) (zf 0) (zi (.int 1))) (zg (zN (zz .Add (zz .Mult (zf 2) (zi (.int 268435456))) (zz .FloorDiv (zz .Mod (zz .Mult (zH (zf 0) (zi (.int 1))) (zz .Add (zz .FloorDiv (zH (zf 0) (zi (.int 1))) (zi (.int 128))) (zi (.int 3)))) (zi (.int 2147483629))) (zi (.int 8)))) (gN 2)) (zg (zN (zz .Mult (zf 3) (zi (.int 268435456))) (gN 3)) zr)))
theorem zm6(a b:D):atI [a,b] 0=some a:=rfl
theorem znU(a b:D):atI [a,b] 1=some b:=rfl
theorem znC:ixN 2 0=some 0:=rfl
theorem zmM:ixN 2 1=some 1:=rfl
theorem zi3{S:Sto}{f w a b:Int}(hS:S[n]? =some (.lst [.int a,.int b])):
 ∃f' b':Int,drB [some (.ref n),some (.d (.int many)),some (.d (.int f)),some (.d (.int w))] S= .nx [some (.ref n),some (.d (.int many)),some (.d (.int f')),some (.d (.int (w*268435456)))] (S.set n (.lst [.int a,.int b'])):=by
 have hn:n<S.length:=(lI.mp hS).1;have h1:Zy b 69621=true:=Xm (by decide);have hb0:0<=b*69621%2147483647:=LP _ (by decide);have hb1:b*69621%2147483647<2147483647:=Lp _ (by decide);generalize hb':b*69621%2147483647=b' at*;have h2:Zy b' (b'/128+3)=true:=zaz (by omega);have h3:Zy f 268435456=true:=Xm (by decide);have h4:Zy w 268435456=true:=Xm (by decide);have d1:Vt 128=true:=Xp (by decide) (by decide);have d2:Vt 8=true:=Xp (by decide) (by decide);have hS1:(S.set n (.lst [.int a,.int b']))[n]? =some (.lst [.int a,.int b']):=lW hn;refine⟨f*268435456+b'*(b'/128+3)%2147483629/8,b',zhJ ?_⟩;simp [kr,zg,zr,zU,sIf,zN,zO,xl,zf,zi,zz,zK,zt,dT,xw,dOr,xX,zL,qI,zy,qz,qh,zT,zH,zh,za,zo,qM,xp,xV,gN,xm,qg,xM,zF,ixD,ql,zA,lh,xF,jb,hS,zm6,znU,zmM,h1,hb',h2,h3,h4,d1,d2,hS1]
theorem zeN(k:Nat):∀(f w a b:Int) (S:Sto),S[n]? =some (.lst [.int a,.int b])->1<=w->many<=w*268435456^k->
 wps (Q2 drC drB (k+1) [some (.ref n),some (.d (.int many)),some (.d (.int f)),some (.d (.int w))] S)
  (λt' S'=>∃f' w':Int,t'= [some (.ref n),some (.d (.int many)),some (.d (.int f')),some (.d (.int w'))]/\Dr n S S') λ_ _=>False:=by
 induction k with
 |zero=>
  intro f w a b S hS hw hm;have hn:n<S.length:=(lI.mp hS).1;have h1:¬w<many:=by simp at hm;omega
  unfold Q2;simp [dT,zK,zf,h1];exact Dr.refl ⟨a,b,hS⟩
 |succ k ih=>
  intro f w a b S hS hw hm;have hn:n<S.length:=(lI.mp hS).1;unfold Q2;by_cases h1:w<many
  ·obtain⟨f',b',e⟩:=zi3 (n:=n) (many:=many) (f:=f) (w:=w) hS;have hS1:(S.set n (.lst [.int a,.int b']))[n]? =some (.lst [.int a,.int b']):=lW hn;have:=ih f' (w*268435456) a b' _ hS1 (by omega) (by rw [Int.pow_succ] at hm;rw [Int.mul_assoc,Int.mul_comm 268435456];exact hm);have c1:drC [some (.ref n),some (.d (.int many)),some (.d (.int f)),some (.d (.int w))] S= .ok true S:=by simp [drC,dT,zK,zf,h1]
   rw [c1];simp only [Zx,if_true];rw [e];exact zak this (λt' S' ⟨f2,w2,e2,d2⟩=>⟨f2,w2,e2,(Dr.set hn).trans d2⟩) λ_ _ z=>z
  ·have c1:drC [some (.ref n),some (.d (.int many)),some (.d (.int f)),some (.d (.int w))] S= .ok false S:=by simp [drC,dT,zK,zf,h1]
   rw [c1];simp;exact Dr.refl ⟨a,b,hS⟩
theorem xo{S:Sto}(h:JU n S)(h1:1<=many)(h2:many<=2^84):wp (noX zq [.ref n,.d (.int many)] S) λw S'=>∃v:Int,w= .d (.int v)/\0<=v/\v<many/\Dr n S S':=by
 refine K8 ?_;obtain⟨a,b,hS⟩:=h;have hn:n<S.length:=(lI.mp hS).1;rw [K2];refine Qb (t:=[some (.ref n),some (.d (.int many)),none,none]) rfl ?_;have hmod:∀x:Int,0<=x%many/\x%many<many:=λx=>⟨LP _ (by omega),Lp _ (by omega)⟩
 have hpos:0<many:=by omega
 have hdiv:Vt many=true:=Xp hpos (Int.lt_of_le_of_lt h2 (by decide));by_cases h0:0<a
 ·have q:=hmod a;simp [kr,zg,zr,zU,sIf,zN,zO,xl,zf,zi,zz,zK,zt,dT,xw,dOr,xX,zL,qI,zy,qz,qh,zT,zH,zh,za,zo,qM,xp,xV,gN,xm,qg,xM,zF,ixD,ql,zA,lh,xF,jb,hS,zm6,znU,znC,h0,hpos,hdiv];refine⟨q.1,q.2,?_⟩;exact(Dr.set (a:=a/many) (b:=b) hn).take
 ·have L:=zeN (n:=n) (many:=many) 4 0 1 a b S hS (by omega) (YY h2 (by decide));unfold kr;simp only [zg,zb2,sIf,vY,dT,wp_bind,zK,zH,zf,zi,xu];simp [kr,zg,zr,zU,sIf,zN,zO,xl,zf,zi,zz,zK,zt,dT,xw,dOr,xX,zL,qI,zy,qz,qh,zT,zH,zh,za,zo,qM,xp,xV,gN,xm,qg,xM,zF,ixD,ql,zA,lh,xF,hS,zm6,h0];refine zak L (λt' S' ⟨f',w',e,d⟩=>?_) λ_ _ z=>z.elim
  subst e;have q:=hmod f';simp [kr,zg,zr,zU,sIf,zN,zO,xl,zf,zi,zz,zK,zt,dT,xw,dOr,xX,zL,qI,zy,qz,qh,zT,zH,zh,za,zo,qM,xp,xV,gN,xm,qg,xM,zF,ixD,ql,zA,lh,xF,hpos];exact⟨q.1,q.2,d.take⟩
end
theorem zit{n:Nat}{m:MSt}{ws:List W}{S:Sto}{Q:W->Sto->Prop}{t:DS}(ht:ws.map some++List.replicate (n-ws.length) none=t)
 (h:wps (m t S) (λ_ S'=>Q (.d .non) (S'.take S.length)) λw S'=>(∃x,w= .d x/\Q (.d x) (S'.take S.length))\/∃k xs,w= .ref k/\S.length<=k/\S'[k]? =some (.lst xs)/\Q (.ref S.length) (S'.take S.length++ [.lst xs])):wp (fnD n m ws S) Q:=by
 subst ht;unfold fnD;cases q:m (ws.map some++List.replicate (n-ws.length) none) S with
 |nx t1 S1=>rw [q] at h;exact h
 |rt w S1=>
  rw [q] at h;rcases h with⟨x,rfl,h⟩|⟨k,xs,rfl,hk,e,h⟩
  ·exact h
  ·unfold zkF;dsimp only;rw [if_neg (by omega),e];exact h
 |bk _ _=>rw [q] at h;exact h.elim
 |ct _ _=>rw [q] at h;exact h.elim
 |exc _ _ _=>rw [q] at h;exact h.elim
 |bad=>rw [q] at h;exact h.elim
theorem Qs{α:Type}{xs:List α}{v:Int}(h0:0<=v)(h1:v<xs.length):∃x,atI xs v=some x/\xs[v.toNat]? =some x/\x∈xs:=by
 have hv:v.toNat<xs.length:=by omega
 refine⟨xs[v.toNat],?_,by simp [hv],L9 hv⟩;unfold atI ixN;rw [if_pos h0,if_pos h1];simp [hv]
def lets:List Nat:=[97,98,99,100,101,102,103,104,105,106,107,108,109,110,111,112,113,114,115,116,117,118,119,120,121,122]
theorem zdz:(Str.ofString "abcdefghijklmnopqrstuvwxyz").cps.toList=lets:=by decide+kernel
theorem zdC:(Str.ofString "abcdefghijklmnopqrstuvwxyz").length<=sizeLine:=by decide+kernel
theorem zfm{v:Int}(h0:0<=v)(h1:v<26):atI lets v=some (97+v.toNat):=by
 have key:∀k:Fin 26,atI lets ((k.val:Nat):Int)=some (97+k.val):=by decide
 have:=key ⟨v.toNat,by omega⟩;rw [show(((v.toNat:Nat):Int))=v by omega] at this;exact this
def gdS(s:Str):Prop:=1<=s.length/\s.length<=8/\∀c∈s.cps.toList,okC c=true
theorem zdd{s:Str}(h:gdS s):isName (.str s)=true:=by unfold isName;simp only [h.1,h.2.1,decide_true,Lw];exact yb.mpr h.2.2
theorem ziL{s:Str}(h:∀c∈s.cps.toList,okC c=true):PyData.strOk s=true:=by unfold PyData.strOk;rw [LQ];intro c hc;have:=h c (by simpa using hc);simp [okC] at this;simp;omega
theorem Jl(a b:Str):(a++b).cps.toList=a.cps.toList++b.cps.toList:=by show(a.cps++b.cps).toList=_;simp
theorem len_app(a b:Str):(a++b).length=a.length+b.length:=by show(a.cps++b.cps).size=a.cps.size+b.cps.size;simp
theorem zj8:∀l:List Str,(∀s∈l,s.length=1/\∀c∈s.cps.toList,okC c=true)->(Txt.join (Str.ofString "") l).length=l.length/\∀c∈(Txt.join (Str.ofString "") l).cps.toList,okC c=true:=by
 have e:∀l,Txt.join (Str.ofString "") l=Str.join (Str.ofString "") l:=λl=>PySem.StrLaws.glued_eq_join _ _
 intro l;rw [e];have z:(Str.ofString "").length=0:=by decide+kernel
 have z2:(Str.ofString "").cps.toList= []:=by decide+kernel
 induction l with
 |nil=>exact λ_=>⟨rfl,λc hc=>by simp [Str.join,Str.empty] at hc⟩
 |cons x r ih=>
  intro h;cases r with
  |nil=>exact⟨(h x (by simp)).1,(h x (by simp)).2⟩
  |cons y r=>
   obtain⟨h1,h2⟩:=ih λs hs=>h s (lA _ hs)
   have ej:Str.join (Str.ofString "") (x::y::r)=x++Str.ofString ""++Str.join (Str.ofString "") (y::r):=rfl;rw [ej];refine⟨?_,λc hc=>?_⟩
   ·rw [len_app,len_app,z,h1,(h x (by simp)).1];simp;omega
   ·rw [Jl,Jl,z2,yn] at hc;rcases yd.mp hc with hc|hc
    ·exact(h x (by simp)).2 c hc
    ·exact h2 c hc
def nth(stem:Str)(f s:Int)(k:Nat):Str:=stem++⟨#[97+((f+s*(k:Int))%26).toNat]⟩
theorem zjE{stem:Str}{f s:Int}(hs:s=1\/s=3\/s=5\/s=7){j k:Nat}(hj:j<26)(hk:k<26)(hjk:j<k):nth stem f s j≠nth stem f s k:=by
 intro e;have e1:(nth stem f s j).cps.toList=(nth stem f s k).cps.toList:=by rw [e]
 unfold nth at e1;rw [Jl,Jl] at e1;have e2:=List.append_cancel_left e1;simp at e2;rcases hs with rfl|rfl|rfl|rfl <;> omega
theorem zdZ{stem:Str}{f s:Int}(hs:s=1\/s=3\/s=5\/s=7){m:Nat}(hm:m<=26):j4 (QF ((List.range m).map (nth stem f s)))=true:=by
 have nd:((List.range m).map (nth stem f s)).Nodup:=by refine List.pairwise_map.mpr ((YZ (n:=m)).imp_of_mem λ{a b} ha hb hab=>?_);rw [LV] at ha hb;exact zjE hs (by omega) (by omega) hab
 rw [zag];have h1:=vM ((List.range m).map (nth stem f s));have h2:(QF ((List.range m).map (nth stem f s))).Nodup:=(kj _).nodup_iff.mpr nd;exact(List.Pairwise.and h1 h2).imp λ⟨a,b⟩=>ziw a b
def znH(stem:Str)(f s:Int):D->D
 | .int k=>.str (stem++⟨#[97+((f+s*k)%26).toNat]⟩)
 |_=>.non
def znG(x:D):Prop:=∃c,okC c=true/\x= .str ⟨#[c]⟩
theorem Jz:∀{l:List D},(∀x∈l,znG x)->∃ss,strsOf l=some ss/\ss.length=l.length/\∀s∈ss,s.length=1/\∀c∈s.cps.toList,okC c=true
 | [],_=>⟨[],rfl,rfl,λs hs=>by cases hs⟩
 |x::r,h=>by
  obtain⟨c,hc,rfl⟩:=h x (by simp);obtain⟨ss,e,l,q⟩:=Jz λy hy=>h y (lA _ hy)
  refine⟨⟨#[c]⟩::ss,by simp [strsOf,e],by simp [l],λs hs=>?_⟩;rcases lu.mp hs with rfl|hs
  ·exact⟨rfl,λd hd=>by simp at hd;rw [hd];exact hc⟩
  ·exact q s hs
theorem zdK:∀{l:List Str},(∀s∈l,s.length=1)->(l.map (·.length)).sum=l.length
 | [],_=>rfl
 |x::r,h=>by
  have:=zdK λs hs=>h s (lA _ hs)
  simp [this,h x (by simp)];omega
theorem zeA{n:Nat}{S:Sto}{many:Int}(h:JU n S)(h0:0<=many)(h26:many<=26):
 wp (noX jf [.ref n,.d (.int many)] S) λw S'=>∃l:List Str,w= .d (.lst (l.map D.str))/\l.length=many.toNat/\(∀s∈l,gdS s/\s.length≠4)/\j4 l=true/\Dr n S S':=by
 refine K8 ?_;rw [JG];refine Qb (t:=[some (.ref n),some (.d (.int many)),none,none,none,none,none]) rfl ?_;simp [vA,zg,zr,zU,sIf,zN,zO,xl,zf,zi,zz,zK,zt,dT,xw,dOr,xX,zL,qI,zy,qz,qh,zT,zH,zh,za,zo,qM,xp,xV,gN,xm,qg,xM,zF,ixD,ql,zA,lh,xF,Zh,dLc,kG,kJ];refine wp_mono (xo (many:=4) h (by decide) (by decide)) ?_;rintro _ S1 ⟨v,rfl,v0,v1,d1⟩;obtain⟨x,ex,_,hx⟩:=Qs (xs:=[D.int 0,D.int 1,D.int 2,D.int 7]) v0 v1;have hx':∃r:Int,x= .int r/\0<=r/\r<=7/\r≠3:=by
  simp at hx;rcases hx with rfl|rfl|rfl|rfl
  ·exact⟨0,rfl,by omega,by omega,by omega⟩
  ·exact⟨1,rfl,by omega,by omega,by omega⟩
  ·exact⟨2,rfl,by omega,by omega,by omega⟩
  ·exact⟨7,rfl,by omega,by omega,by omega⟩
 obtain⟨r,rfl,hr0,hr,hr3⟩:=hx';have hC:(-4611686018427387904<=r/\r<4611686018427387904)=True:=eq_true (by omega);simp only [ex,xu,zio,hC,if_true];refine wp_mono (VN (λS'=>Dr n S S') (λ_ x=>znG x) _ _ _ ?_ ?_ d1) ?_
 ·intro d hd S' hS';refine⟨_,rfl,?_⟩;simp [vA,zg,zr,zU,sIf,zN,zO,xl,zf,zi,zz,zK,zt,dT,xw,dOr,xX,zL,qI,zy,qz,qh,zT,zH,zh,za,zo,qM,xp,xV,gN,xm,qg,xM,zF,ixD,ql,zA,lh,xF];refine wp_mono (xo (many:=26) hS'.has (by decide) (by decide)) ?_;rintro _ S2 ⟨u,rfl,u0,u1,d2⟩;simp [zdC,zdz,zfm u0 u1];refine⟨⟨_,?_,rfl⟩,hS'.trans d2⟩;simp [okC];omega
 ·rw [lB,Le];exact lQ (by simp;omega:([]:List D).length+r.toNat<=7) (by decide)
 ·rintro xs S2 ⟨ys,exs,f2,d2⟩;rw [yo] at exs;subst exs;obtain⟨ss,es,el,eo⟩:=Jz (λx hx=>F2.all (R:=znG) (λ_ _ p=>p) f2 x hx);have ly:xs.length=r.toNat:=by rw [f2.length];simp
  have hsum:(ss.map (·.length)).sum+ss.length*(Str.ofString "").length<=16777216:=by rw [zdK λs hs=>(eo s hs).1,show(Str.ofString "").length=0 by decide+kernel];omega
  obtain⟨j1,j2⟩:=zj8 ss eo;simp only [zdX,Vf,zF,yK,es,hsum,if_true,xu];generalize Txt.join (Str.ofString "") ss=stem at*;refine wp_mono (xo (many:=26) d2.has (by decide) (by decide)) ?_;rintro _ S3 ⟨f,rfl,f0,f1,d3⟩;refine wp_mono (xo (many:=4) d3.has (by decide) (by decide)) ?_;rintro _ S4 ⟨g,rfl,g0,g1,d4⟩;obtain⟨x,ex,_,hx⟩:=Qs (xs:=[D.int 1,D.int 3,D.int 5,D.int 7]) g0 g1;have hx':∃s:Int,x= .int s/\(s=1\/s=3\/s=5\/s=7):=by
   simp at hx;rcases hx with rfl|rfl|rfl|rfl
   ·exact⟨1,rfl,by omega⟩
   ·exact⟨3,rfl,by omega⟩
   ·exact⟨5,rfl,by omega⟩
   ·exact⟨7,rfl,by omega⟩
  obtain⟨s,rfl,hs⟩:=hx';have hstem:stem.length<=7:=by omega
  have lc:lcD (gN 6) vG (zz .Add (zf 3) (zH (zf 2) (zz .Mod (zz .Add (zf 4) (zz .Mult (zf 5) (zf 6))) (zi (.int 26))))) ((List.range many.toNat).map λ(i:Nat)=>D.int (i:Int)) [some (.ref n),some (.d (.int many)),some (.d (.str "abcdefghijklmnopqrstuvwxyz")),some (.d (.str stem)),some (.d (.int f)),some (.d (.int s)),none] S4 []= .ok (((List.range many.toNat).map (nth stem f s)).map D.str) S4:=by
   rw [JB (znH stem f s)]
   ·simp [znH,nth]
   ·intro d hd;obtain⟨k,hk,rfl⟩:=lL.mp hd;refine⟨_,rfl,Ql ?_⟩;have m0:0<=(f+s*(k:Int))%26:=LP _ (by decide);have m1:(f+s*(k:Int))%26<26:=Lp _ (by decide);have mk:Zy s (k:Int)=true:=zaz (by rcases hs with rfl|rfl|rfl|rfl <;> decide);have hz:stem.length+1<=sizeLine:=lQ (by omega:stem.length+1<=8) (by decide);have ez:∀c:Nat,(⟨#[c]⟩:Str).length=1:=λc=>rfl
    simp [vA,zg,zr,zU,sIf,zN,zO,xl,zf,zi,zz,zK,zt,dT,xw,dOr,xX,zL,qI,zy,qz,qh,zT,zH,zh,za,zo,qM,xp,xV,gN,xm,qg,xM,zF,ixD,ql,zA,lh,xF,mk,zdC,zdz,zfm m0 m1,znH,ez,hz]
   ·rw [lB,Le];exact lQ (by omega:many.toNat<=26) (by decide)
  have hC2:(-4611686018427387904<=many/\many<4611686018427387904)=True:=eq_true (by omega);have h64:((List.range many.toNat).map (nth stem f s)).length<64:=by simp;omega
  have gs:K5 [.d (.lst (((List.range many.toNat).map (nth stem f s)).map D.str))] S4= .ok (.d (.lst ((QF ((List.range many.toNat).map (nth stem f s))).map D.str))) S4:=by simp only [K5,zF,yK,strs_map,h64,if_true]
  simp only [yP] at lc gs;simp only [ex,xu,hC2,true_and,lc,gs];refine⟨_,rfl,QF ((List.range many.toNat).map (nth stem f s)),rfl,?_,?_,zdZ hs (by omega),((d2.trans d3).trans d4).take⟩
  ·rw [(kj _).length_eq];simp
  ·intro z hz;have hz:=(kj _).mem_iff.mp hz;obtain⟨k,hk,rfl⟩:=lL.mp hz;have e1:∀c:Nat,(⟨#[c]⟩:Str).length=1:=λc=>rfl
   refine⟨⟨?_,?_,λc hc=>?_⟩,?_⟩
   ·unfold nth;rw [len_app,e1];omega
   ·unfold nth;rw [len_app,e1];omega
   ·unfold nth at hc;rw [Jl] at hc;rcases yd.mp hc with hc|hc
    ·exact j2 c hc
    ·simp at hc;have m0:0<=(f+s*(k:Int))%26:=LP _ (by decide);have m1:(f+s*(k:Int))%26<26:=Lp _ (by decide);simp [okC];omega
   ·unfold nth;rw [len_app,e1];omega
theorem Ka{n:Nat}{S:Sto}{many:Int}(h:JU n S)(h0:0<=many)(h26:many<=26):
 wp (noX jf [.ref n,.d (.int many)] S) λw S'=>∃l:List Str,w= .d (.lst (l.map D.str))/\l.length=many.toNat/\(∀s∈l,gdS s)/\j4 l=true/\Dr n S S':=
 wp_mono (zeA h h0 h26) λ_ _ ⟨l,a,b,c,d,e⟩=>⟨l,a,b,λs hs=>(c s hs).1,d,e⟩
theorem qL{a b:MSt}{t:DS}{S:Sto}{N1 N:DS->Sto->Prop}{R:W->Sto->Prop}(h:wps (a t S) N1 R)(h2:∀t S,N1 t S->wps (b t S) N R):wps (zg a b t S) N R:=by unfold zg;rw [zb2];exact zak h h2 λ_ _ z=>z
theorem K0{c:MB}{a b:MSt}{t:DS}{S:Sto}{N:DS->Sto->Prop}{R:W->Sto->Prop}(h:wp (c t S) λk S1=>(k=true->wps (a t S1) N R)/\(k=false->wps (b t S1) N R)):wps (sIf c a b t S) N R:=by
 unfold sIf;rw [vY];refine wp_mono h λk S1 ⟨h1,h2⟩=>?_
 cases k with
 |true=>exact h1 rfl
 |false=>exact h2 rfl
theorem Zt{a:M}{i:Nat}{t:DS}{S:Sto}{N:DS->Sto->Prop}{R:W->Sto->Prop}(h:wp (a t S) λw S1=>N (t.set i (some w)) S1):wps (zN a (gN i) t S) N R:=by unfold zN;rw [vY];exact wp_mono h λw S1 q=>q
theorem QA{a:M}{t:DS}{S:Sto}{N:DS->Sto->Prop}{R:W->Sto->Prop}(h:wp (a t S) R):wps (zU a t S) N R:=by unfold zU;rw [vY];exact wp_mono h λw S1 q=>q
theorem VY{a:M}{t:DS}{S:Sto}{N:DS->Sto->Prop}{R:W->Sto->Prop}(h:wp (a t S) λ_ S1=>N t S1):wps (zO a t S) N R:=by unfold zO;rw [vY];exact wp_mono h λw S1 q=>q
theorem zcV{g:W->DS->Option DS}{body:MSt}{N:DS->Sto->Prop}{R:W->Sto->Prop}(M:Nat)(I:List D->DS->Sto->Prop):∀(ds done:List D) (t:DS) (S:Sto),done.length+ds.length<=M->(∀d∈ds,∀done t S,done.length<M->I done t S->∃t1,g (.d d) t=some t1/\wps (body t1 S) (I (done++ [d])) R)->I done t S->(∀t S,I (done++ds) t S->N t S)->wps (Vk g body ds t S) N R
 | [],done,t,S,_,_,hI,k=>k t S (by rw [yn];exact hI)
 |d::ds,done,t,S,hM,h,hI,k=>by
  rw [lO] at hM;obtain⟨t1,e1,e2⟩:=h d (by simp) done t S (by omega) hI;unfold Vk;rw [e1];dsimp only;cases q:body t1 S with
  |nx t2 S2=>rw [q] at e2;exact zcV M I ds (done++ [d]) t2 S2 (by simp;omega) (λx hx=>h x (by simp [hx])) e2 λt S z=>k t S (by simpa using z)
  |rt w S2=>rw [q] at e2;exact e2
  |bk _ _=>rw [q] at e2;exact e2.elim
  |ct _ _=>rw [q] at e2;exact e2.elim
  |exc _ _ _=>rw [q] at e2;exact e2.elim
  |bad=>rw [q] at e2;exact e2.elim
theorem zjb:Zy 1000000000000000000000000000000000000000000000000000000000000 1000000000000000000000000000000000000000000000000000000000000=true:=by decide+kernel
theorem zgV{ns:List Int}{k:Int}{S:Sto}(hk:0<=k)(hk2:k<=100):wp (noX kL [.fz (ns.map D.int),.d (.int k)] S) λw S'=>∃a b:Int,w= .ref S.length/\S'=S++ [.lst [.int a,.int b]]:=by
 refine K8 ?_;rw [JA];refine zit (t:=[some (.fz (ns.map D.int)),some (.d (.int k)),none]) rfl ?_;unfold jg;have m1:∀x:Int,Zy 15485863 x=true:=λx=>zaz (by decide)
 have m2:∀x:Int,Zy x 69621=true:=λx=>Xm (by decide)
 have m3:∀x:Int,Zy 86028121 x=true:=λx=>zaz (by decide)
 refine qL (N1:=λt' S'=>S=S'/\∃c:Int,t'= [some (.fz (ns.map D.int)),some (.d (.int k)),some (.d (.int c))]) ?_ ?_
 ·simp [jg,zg,zr,zU,sIf,zN,zO,xl,zf,zi,zz,zK,zt,dT,xw,dOr,xX,zL,qI,zy,qz,qh,zT,zH,zh,za,zo,qM,xp,xV,gN,xm,qg,xM,zF,ixD,ql,zA,lh,xF,m1]
 rintro _ _ ⟨rfl,c,rfl⟩;refine qL (N1:=λt' S'=>S=S'/\∃c:Int,t'= [some (.fz (ns.map D.int)),some (.d (.int k)),some (.d (.int c))]) ?_ ?_
 ·by_cases h1:k<(ns.length:Int)
  ·obtain⟨x,ex,_,hx⟩:=Qs (xs:=ns.map D.int) hk (by simpa using h1);obtain⟨y,_,rfl⟩:=lL.mp hx;simp [jg,zg,zr,zU,sIf,zN,zO,xl,zf,zi,zz,zK,zt,dT,xw,dOr,xX,zL,qI,zy,qz,qh,zT,zH,zh,za,zo,qM,xp,xV,gN,xm,qg,xM,zF,ixD,ql,zA,lh,xF,h1,ex,zjb]
  ·by_cases h2:0<(ns.length:Int)
   ·obtain⟨x,ex,_,hx⟩:=Qs (xs:=ns.map D.int) (v:=k%(ns.length:Int)) (LP _ (by omega)) (by simp;exact Lp _ h2);obtain⟨y,_,rfl⟩:=lL.mp hx;have h2':0<ns.length:=by omega
    simp [jg,zg,zr,zU,sIf,zN,zO,xl,zf,zi,zz,zK,zt,dT,xw,dOr,xX,zL,qI,zy,qz,qh,zT,zH,zh,za,zo,qM,xp,xV,gN,xm,qg,xM,zF,ixD,ql,zA,lh,xF,h1,h2,h2',ex,m1]
   ·have h2':¬0<ns.length:=by omega
    simp [jg,zg,zr,zU,sIf,zN,zO,xl,zf,zi,zz,zK,zt,dT,xw,dOr,xX,zL,qI,zy,qz,qh,zT,zH,zh,za,zo,qM,xp,xV,gN,xm,qg,xM,zF,ixD,ql,zA,lh,xF,h1,h2,h2']
 rintro _ _ ⟨rfl,c,rfl⟩;have m4:∀b:Bool,Zy c (if b=true then 1 else 0)=true:=λb=>Xm (by cases b <;> decide)
 have m5:Zy c 1=true:=Xm (by decide);have m6:Zy c 0=true:=Xm (by decide);by_cases hc:1000000000000000000<=c
 ·simp [jg,zg,zr,zU,sIf,zN,zO,xl,zf,zi,zz,zK,zt,dT,xw,dOr,xX,zL,qI,zy,qz,qh,zT,zH,zh,za,zo,qM,xp,xV,gN,xm,qg,xM,zF,ixD,ql,zA,lh,xF,zjJ,m2,m3,m5,hc]
 ·simp [jg,zg,zr,zU,sIf,zN,zO,xl,zf,zi,zz,zK,zt,dT,xw,dOr,xX,zL,qI,zy,qz,qh,zT,zH,zh,za,zo,qM,xp,xV,gN,xm,qg,xM,zF,ixD,ql,zA,lh,xF,zjJ,m2,m3,m6,hc]
theorem Xc{s:Str}(h:gdS s){L n:Nat}(hL:8<=L):Gd L n (.str s):=.str (by have:=h.2.1;omega) (ziL h.2.2)
theorem Qq{i a b:Int}(h1:a<=i)(h2:i<=b):within (.int i) a b=true:=by simp [within,h1,h2]
theorem F2.names{P:D->D->Prop}(hP:∀s y,P (.str s) y->nameOf y=s):∀{l:List Str} {ys:List D},F2 P (l.map D.str) ys->ys.map nameOf=l
 | [],_,h=>by cases h;rfl
 |s::l,_,h=>by
  cases h with
  |cons p t=>rw [lU,hP _ _ p,F2.names hP t]
structure Dx (n p:Nat) (S0 S:Sto) (xs:List D):Prop where
 len:S.length=p+1
 p0:S0.length=p
 cell:S[p]? =some (.lst xs)
 oth:∀i,i<p->i≠n->S[i]? =S0[i]?
 has:JU n S
 hn:n<p
theorem Dx.start{n:Nat}{S0:Sto}(h:JU n S0)(xs:List D):Dx n S0.length S0 (S0++ [.lst xs]) xs:=by refine⟨by simp,rfl,by simp,λi hi _=>by rw [yu hi],?_,h.lt⟩;obtain⟨a,b,e⟩:=id h;exact⟨a,b,by rw [yu h.lt];exact e⟩
theorem Dx.draw{n p:Nat}{S0 S S1:Sto}{xs:List D}(d:Dx n p S0 S xs)(e:Dr n S S1):Dx n p S0 S1 xs:=by have hp:p≠n:=Ln d.hn;exact⟨e.len.trans d.len,d.p0,(e.oth p hp).trans d.cell,λi hi hn=>(e.oth i hn).trans (d.oth i hi hn),e.has,d.hn⟩
theorem Dx.set{n p:Nat}{S0 S:Sto}{xs:List D}(d:Dx n p S0 S xs)(ys:List D):Dx n p S0 (S.set p (.lst ys)) ys:=by
 have hp:p≠n:=Ln d.hn;have hl:p<S.length:=by rw [d.len];omega
 refine⟨by rw [Yd];exact d.len,d.p0,lW hl,λi hi hn=>?_,?_,d.hn⟩
 ·rw [lV (by omega)];exact d.oth i hi hn
 ·obtain⟨a,b,e⟩:=d.has;exact⟨a,b,by rw [lV hp];exact e⟩
theorem Dx.done{n p:Nat}{S0 S:Sto}{xs:List D}(d:Dx n p S0 S xs):Dr n S0 (S.take S0.length):=by
 have hl:(S.take S0.length).length=S0.length:=by rw [lK,d.len,d.p0];omega
 refine⟨hl,λi hn=>?_,?_⟩
 ·by_cases hi:i<S0.length
  ·rw [yG hi];exact d.oth i (by rw [<-d.p0];exact hi) hn
  ·rw [yt (by omega),yt (by omega)]
 ·obtain⟨a,b,e⟩:=d.has;exact⟨a,b,by rw [yG (by rw [d.p0];exact d.hn)];exact e⟩
theorem zil{a b c d:D}{v:Int}(h0:0<=v)(h1:v<4):∃x,atI [a,b,c,d] v=some x/\(x=a\/x=b\/x=c\/x=d):=by obtain⟨x,ex,_,hx⟩:=Qs (xs:=[a,b,c,d]) h0 (by simpa using h1);exact⟨x,ex,by simpa using hx⟩
def strN:D->Str
 | .str s=>s
 |_=>Str.empty
theorem zbf{s:Str}{a b:Int}(h:gdS s)(a0:0<=a)(a1:a<=1000000000)(b0:1<=b)(b1:b<=1000):xH (.tup [.str s,.int a,.int b])=true:=by simp only [xH,zdd h,Qq a0 a1,Qq b0 b1,YE]
theorem VQ{s:Str}{b:Int}(h:gdS s)(b0:1<=b)(b1:b<=1000):qD (.tup [.str s,.int b])=true:=by simp only [qD,zdd h,Qq b0 b1,YE]
abbrev arI(gr:Int)(n p:Nat)(S:Sto)(done:List D)(t:DS)(S':Sto):Prop:=
 ∃rows a b,t= [some (.ref n),some (.d (.int gr)),some (.ref p),a,none,none,b]/\Dx n p S S' rows/\rows.map nameOf=done.map strN/\∀r∈rows,xH r=true/\Gd 20 1 r
abbrev arB:MSt:=(zg (zN (zH (qh (za (zh (noX zq) (za (zf 0) (za (zi (.int 9)) zo))) (za (zz .Add (zi (.int 1)) (zh (noX zq) (za (zf 0) (za (zi (.int 40)) zo)))) (za (zi (.int 480)) (za (zh (noX zq) (za (zf 0) (za (zz .Add (zf 1) (zi (.int 1))) zo))) zo))))) (zh (noX zq) (za (zf 0) (za (zi (.int 4)) zo)))) (gN 6)) (zg (zO (vF (zf 2) (qz (za (zf 3) (za (zf 6) (za (zH (qh (za (zi (.int 1)) (za (zi (.int 28)) (za (zz .Add (zi (.int 1)) (zh (noX zq) (za (zf 0) (za (zi (.int 30)) zo)))) (za (zz .Add (zi (.int 1)) (zh (noX zq) (za (zf 0) (za (zi (.int 9)) zo)))) zo))))) (zh (noX zq) (za (zf 0) (za (zi (.int 4)) zo)))) zo)))))) zr))
theorem zmn{gr:Int}{n p:Nat}{S S':Sto}{done:List D}{t:DS}{s:Str}(h:arI gr n p S done t S')(hs:gdS s)(hd:done.length<=20)(g0:0<=gr)(g1:gr<=1000000000){R:W->Sto->Prop}:wps (arB (t.set 3 (some (.d (.str s)))) S') (arI gr n p S (done++ [.str s])) R:=by
 obtain⟨rows,a,b,rfl,dx,hnm,hrows⟩:=h;refine qL (N1:=λt' S'=>Dx n p S S' rows/\∃x:Int,0<=x/\x<=1000000000/\t'= [some (.ref n),some (.d (.int gr)),some (.ref p),some (.d (.str s)),none,none,some (.d (.int x))]) ?_ ?_
 ·refine Zt ?_;simp [qx,zg,zr,zU,sIf,zN,zO,xl,zf,zi,zz,zK,zt,dT,xw,dOr,xX,zL,qI,zy,qz,qh,zT,zH,zh,za,zo,qM,xp,xV,gN,xm,qg,xM,zF,ixD,ql,zA,lh,xF];refine wp_mono (xo (many:=9) dx.has (by decide) (by decide)) ?_;rintro _ S1 ⟨v1,rfl,v10,v11,d1⟩;have dx:=dx.draw d1;refine wp_mono (xo (many:=40) dx.has (by decide) (by decide)) ?_;rintro _ S2 ⟨v2,rfl,v20,v21,d2⟩;have dx:=dx.draw d2;simp;refine wp_mono (xo (many:=gr+1) dx.has (by omega) (YY (by omega:gr+1<=1000000001) (by decide))) ?_;rintro _ S3 ⟨v3,rfl,v30,v31,d3⟩;have dx:=dx.draw d3;simp [xm,xF];refine wp_mono (xo (many:=4) dx.has (by decide) (by decide)) ?_;rintro _ S4 ⟨v4,rfl,v40,v41,d4⟩;have dx:=dx.draw d4;obtain⟨x,ex,hx⟩:=zil (a:=.int v1) (b:=.int (1+v2)) (c:=.int 480) (d:=.int v3) v40 v41;simp [ex];refine⟨dx,?_⟩;rcases hx with rfl|rfl|rfl|rfl
  ·exact⟨v1,by omega,by omega,rfl⟩
  ·exact⟨1+v2,by omega,by omega,rfl⟩
  ·exact⟨480,by omega,by omega,rfl⟩
  ·exact⟨v3,by omega,by omega,rfl⟩
 rintro _ S1 ⟨dx,x,x0,x1,rfl⟩;refine qL (N1:=arI gr n p S (done++ [.str s])) ?_ ?_
 ·refine VY ?_;have c1:=dx.cell;have hlr:rows.length<=20:=by have:=congrArg List.length hnm;rw [lB,lB] at this;omega
  simp [qx,zg,zr,zU,sIf,zN,zO,xl,zf,zi,zz,zK,zt,dT,xw,dOr,xX,zL,qI,zy,qz,qh,zT,zH,zh,za,zo,qM,xp,xV,gN,xm,qg,xM,zF,ixD,ql,zA,lh,xF,vF,Xd,c1];refine wp_mono (xo (many:=30) dx.has (by decide) (by decide)) ?_;rintro _ S2 ⟨v1,rfl,v10,v11,d1⟩;have dx:=dx.draw d1;simp;refine wp_mono (xo (many:=9) dx.has (by decide) (by decide)) ?_;rintro _ S3 ⟨v2,rfl,v20,v21,d2⟩;have dx:=dx.draw d2;simp [xm,xF];refine wp_mono (xo (many:=4) dx.has (by decide) (by decide)) ?_;rintro _ S4 ⟨v4,rfl,v40,v41,d4⟩;have dx:=dx.draw d4;obtain⟨y,ey,hy⟩:=zil (a:=.int 1) (b:=.int 28) (c:=.int (1+v1)) (d:=.int (1+v2)) v40 v41;have hy':∃b:Int,y= .int b/\1<=b/\b<=1000:=by
   rcases hy with rfl|rfl|rfl|rfl
   ·exact⟨1,rfl,by omega,by omega⟩
   ·exact⟨28,rfl,by omega,by omega⟩
   ·exact⟨1+v1,rfl,by omega,by omega⟩
   ·exact⟨1+v2,rfl,by omega,by omega⟩
  obtain⟨bb,rfl,b0,b1⟩:=hy';have c4:=dx.cell;have hz:rows.length<sizeLine:=yJ hlr (by decide);have key:arI gr n p S (done++ [.str s]) [some (.ref n),some (.d (.int gr)),some (.ref p),some (.d (.str s)),none,none,some (.d (.int x))] (S4.set p (.lst (rows++ [.tup [.str s,.int x,.int bb]]))):=by
   refine⟨rows++ [.tup [.str s,.int x,.int bb]],_,_,rfl,dx.set _,?_,λr hr=>?_⟩
   ·rw [yZ,yZ,hnm];rfl
   ·rcases yd.mp hr with hr|hr
    ·exact hrows r hr
    ·simp at hr;subst hr;refine⟨zbf hs x0 x1 b0 b1,.tup (by simp) λy hy=>?_⟩;simp at hy;rcases hy with rfl|rfl|rfl
     ·exact Xc hs (by decide)
     ·exact .int _
     ·exact .int _
  simp [ey,xF,c4,hz,xm];exact key
 ·intro t2 S2 h2;exact h2
theorem zgZ{gr:Int}{n:Nat}{S:Sto}(h:JU n S)(g0:0<=gr)(g1:gr<=1000000000):wp (noX qZ [.ref n,.d (.int gr)] S) λw S'=>∃rs cs m,w= .d (.tup [.tup rs,.tup cs,m])/\xD (.tup [.tup rs,.tup cs,m])=true/\Gd 20 3 (.tup [.tup rs,.tup cs,m])/\(∃i:Int,m= .int i/\i<=28)/\Dr n S S':=by
 refine K8 ?_;rw [QE];refine Qb (t:=[some (.ref n),some (.d (.int gr)),none,none,none,none,none]) rfl ?_;unfold qx;refine qL (N1:=λt' S'=>S'=S++ [.lst []]/\t'= [some (.ref n),some (.d (.int gr)),some (.ref S.length),none,none,none,none]) ?_ ?_
 ·simp [qx,zg,zr,zU,sIf,zN,zO,xl,zf,zi,zz,zK,zt,dT,xw,dOr,xX,zL,qI,zy,qz,qh,zT,zH,zh,za,zo,qM,xp,xV,gN,xm,qg,xM,zF,ixD,ql,zA,lh,xF]
 rintro _ _ ⟨rfl,rfl⟩;have dx0:=Dx.start h [];refine qL (N1:=λt' S'=>∃rows a b,t'= [some (.ref n),some (.d (.int gr)),some (.ref S.length),a,none,none,b]/\Dx n S.length S S' rows/\1<=rows.length/\rows.length<=12/\j4 (rows.map nameOf)=true/\∀r∈rows,xH r=true/\Gd 20 1 r) ?_ ?_
 ·unfold xl;rw [vY];simp [qx,zg,zr,zU,sIf,zN,zO,xl,zf,zi,zz,zK,zt,dT,xw,dOr,xX,zL,qI,zy,qz,qh,zT,zH,zh,za,zo,qM,xp,xV,gN,xm,qg,xM,zF,ixD,ql,zA,lh,xF];refine wp_mono (xo (many:=4) dx0.has (by decide) (by decide)) ?_;rintro _ S1 ⟨v,rfl,v0,v1,d1⟩;have dx:=dx0.draw d1;simp;refine wp_mono (Ka (many:=1+v) dx.has (by omega) (by omega)) ?_;rintro _ S2 ⟨l,rfl,ll,lg,lr,d2⟩;have dx:=dx.draw d2;simp;have len_le:l.length<=4:=by omega
  refine zcV 20 (arI gr n S.length S) _ [] _ _ (by simp;omega) ?_ ⟨[],none,none,rfl,dx,rfl,λr hr=>by cases hr⟩ ?_
  ·intro d hd done t S' hl hI;obtain⟨s,hs,rfl⟩:=lL.mp hd;exact⟨_,rfl,zmn hI (lg s hs) (by omega) g0 g1⟩
  ·rintro t S' ⟨rows,a,b,rfl,dx,hnm,hrows⟩;have e:(([]:List D)++l.map D.str).map strN=l:=by rw [yo,yP];exact List.map_id' l
   rw [e] at hnm;have hl:rows.length=l.length:=by rw [<-hnm,lB]
   refine⟨⟨a,b,rfl⟩,rows,dx,by omega,by omega,by rw [hnm];exact lr,hrows⟩
 rintro _ S1 ⟨rows,a,b,rfl,dx,r1,r2,rr,hrows⟩;refine qL (N1:=λt' S'=>Dx n S.length S S' rows/\∃cs,t'= [some (.ref n),some (.d (.int gr)),some (.ref S.length),a,some (.d (.lst cs)),none,b]/\1<=cs.length/\cs.length<=6/\j4 (cs.map nameOf)=true/\∀r∈cs,qD r=true/\Gd 20 1 r) ?_ ?_
 ·refine Zt ?_;simp [qx,zg,zr,zU,sIf,zN,zO,xl,zf,zi,zz,zK,zt,dT,xw,dOr,xX,zL,qI,zy,qz,qh,zT,zH,zh,za,zo,qM,xp,xV,gN,xm,qg,xM,zF,ixD,ql,zA,lh,xF,dLc,kJ];refine wp_mono (xo (many:=3) dx.has (by decide) (by decide)) ?_;rintro _ S2 ⟨v,rfl,v0,v1,d1⟩;have dx:=dx.draw d1;simp;refine wp_mono (Ka (many:=1+v) dx.has (by omega) (by omega)) ?_;rintro _ S3 ⟨l,rfl,ll,lg,lr,d2⟩;have dx:=dx.draw d2;simp;refine wp_mono (VN (λS'=>Dx n S.length S S' rows) (λd y=>nameOf y=strN d/\qD y=true/\Gd 20 1 y) _ _ _ ?_ ?_ dx) ?_
  ·intro d hd S' hS';obtain⟨s,hs,rfl⟩:=lL.mp hd;refine⟨_,rfl,?_⟩;simp [qx,zg,zr,zU,sIf,zN,zO,xl,zf,zi,zz,zK,zt,dT,xw,dOr,xX,zL,qI,zy,qz,qh,zT,zH,zh,za,zo,qM,xp,xV,gN,xm,qg,xM,zF,ixD,ql,zA,lh,xF];refine wp_mono (xo (many:=9) hS'.has (by decide) (by decide)) ?_;rintro _ S4 ⟨u,rfl,u0,u1,d3⟩;simp [xm,xF];refine⟨⟨rfl,VQ (lg s hs) (by omega) (by omega),.tup (by simp) λy hy=>?_⟩,hS'.draw d3⟩;simp at hy;rcases hy with rfl|rfl
   ·exact Xc (lg s hs) (by decide)
   ·exact .int _
  ·simp;exact lQ (by omega:l.length<=13) (by decide)
  ·rintro xs S4 ⟨ys,exs,f2,dx⟩;rw [yo] at exs;subst exs;have nm:xs.map nameOf=l:=F2.names (λs y p=>p.1) f2;have hl:xs.length=l.length:=by rw [f2.length,lB]
   refine⟨dx,by omega,by omega,by rw [nm];exact lr,F2.all (R:=λy=>qD y=true/\Gd 20 1 y) (λ_ _ p=>p.2) f2⟩
 rintro _ S2 ⟨dx,cs,rfl,c1,c2,cr,hcs⟩;refine qL (N1:=λt' S'=>Dx n S.length S S' rows/\∃m:Int,1<=m/\m<=28/\t'= [some (.ref n),some (.d (.int gr)),some (.ref S.length),a,some (.d (.lst cs)),some (.d (.int m)),b]) ?_ ?_
 ·refine Zt ?_;simp [qx,zg,zr,zU,sIf,zN,zO,xl,zf,zi,zz,zK,zt,dT,xw,dOr,xX,zL,qI,zy,qz,qh,zT,zH,zh,za,zo,qM,xp,xV,gN,xm,qg,xM,zF,ixD,ql,zA,lh,xF];refine wp_mono (xo (many:=12) dx.has (by decide) (by decide)) ?_;rintro _ S3 ⟨v1,rfl,v10,v11,d1⟩;have dx:=dx.draw d1;simp [xm,xF];refine wp_mono (xo (many:=4) dx.has (by decide) (by decide)) ?_;rintro _ S4 ⟨v4,rfl,v40,v41,d4⟩;have dx:=dx.draw d4;obtain⟨y,ey,hy⟩:=zil (a:=.int 1) (b:=.int 7) (c:=.int (1+v1)) (d:=.int 28) v40 v41;have hy':∃b:Int,y= .int b/\1<=b/\b<=28:=by
   rcases hy with rfl|rfl|rfl|rfl
   ·exact⟨1,rfl,by omega,by omega⟩
   ·exact⟨7,rfl,by omega,by omega⟩
   ·exact⟨1+v1,rfl,by omega,by omega⟩
   ·exact⟨28,rfl,by omega,by omega⟩
  obtain⟨m,rfl,m0,m1⟩:=hy';simp [ey];exact⟨dx,m0,m1⟩
 rintro _ S3 ⟨dx,m,m0,m28,rfl⟩;have m1:m<=1000:=by omega
 have c3:=dx.cell;have hG:Gd 20 3 (.tup [.tup rows,.tup cs,.int m]):=by
  refine .tup (by simp) λy hy=>?_
  simp at hy;rcases hy with rfl|rfl|rfl
  ·exact .tup (by omega) λx hx=>(hrows x hx).2
  ·exact .tup (by omega) λx hx=>(hcs x hx).2
  ·exact .int _
 have hA:xD (.tup [.tup rows,.tup cs,.int m])=true:=by
  have h1:rows.all xH=true:=yb.mpr λx hx=>(hrows x hx).1
  have h2:cs.all qD=true:=yb.mpr λx hx=>(hcs x hx).1
  simp only [xD,jD,xQ,Qq m0 m1,h1,h2,rr,cr,r1,r2,c1,c2,decide_true,YE]
 have hD:=dx.done;simp [qx,zg,zr,zU,sIf,zN,zO,xl,zf,zi,zz,zK,zt,dT,xw,dOr,xX,zL,qI,zy,qz,qh,zT,zH,zh,za,zo,qM,xp,xV,gN,xm,qg,xM,zF,ixD,ql,zA,lh,xF,xI,Vf,c3];exact⟨rows,cs,.int m,⟨rfl,rfl,rfl⟩,hA,hG,⟨m,rfl,m28⟩,hD⟩
theorem zg4{gr:Int}{n:Nat}{S:Sto}(h:JU n S)(g0:0<=gr)(g1:gr<=1000000000):wp (noX qZ [.ref n,.d (.int gr)] S) λw S'=>∃rs cs m,w= .d (.tup [.tup rs,.tup cs,m])/\xD (.tup [.tup rs,.tup cs,m])=true/\Gd 20 3 (.tup [.tup rs,.tup cs,m])/\Dr n S S':=
 wp_mono (zgZ h g0 g1) λ_ _ ⟨rs,cs,m,e,hA,hG,_,hD⟩=>⟨rs,cs,m,e,hA,hG,hD⟩
theorem zi9{n:Nat}{S:Sto}(h:JU n S):wp (noX qZ [.ref n,.d (.int 1000000000)] S) λw S'=>∃rs cs m,w= .d (.tup [.tup rs,.tup cs,m])/\xD (.tup [.tup rs,.tup cs,m])=true/\Gd 20 3 (.tup [.tup rs,.tup cs,m])/\Dr n S S':=
 zg4 h (by decide) (by decide)
theorem zlU{xs ys:List D}{S:Sto}:opD .Add (.d (.lst xs)) (.d (.lst ys)) S=if xs.length+ys.length<=sizeLine then .ok (.d (.lst (xs++ys))) S else .bad:=rfl
theorem zk6{i j:Int}{S:Sto}:Vj .Eq (.d (.int i)) (.d (.int j)) S= .ok (.d (.bl (i==j))) S:=rfl
def T20:List D:=[.int 0,.int 1,.int (-1),.bl true,.bl false,.non,.str "",.str "a",.str "ab",.str "A",.str "abcdefghi",.str "lost",.str "joins",.int 1000000000000,.int 1000000000001,.int 1000,.int 1001,.int 1000000001,.tup [],.lst []]
theorem zmd:∀x∈T20,Gd 20 1 x:=by
 intro x hx;simp only [T20,lu,List.mem_nil_iff,or_false] at hx;rcases hx with rfl|rfl|rfl|rfl|rfl|rfl|rfl|rfl|rfl|rfl|rfl|rfl|rfl|rfl|rfl|rfl|rfl|rfl|rfl|rfl
 all_goals first
  |exact .int _
  |exact .bl _
  |exact .non
  |exact .str (by decide+kernel) (by decide+kernel)
  |exact .tup (by decide) λx hx=>by cases hx
  |exact .lst (by decide) λx hx=>by cases hx
theorem zas:∀(fuel n:Nat) (S:Sto) (deep:Int),JU n S->0<=deep->deep<(fuel:Int)->wp (noX (kM fuel) [.ref n,.d (.int deep)] S) λw S'=>∃x,w= .d x/\Gd 20 (deep.toNat+1) x/\Dr n S S'
 |0,_,_,deep,_,h0,h1=>by omega
 |fuel+1,n,S,deep,h,h0,h1=>by
  refine K8 ?_;rw [Jy];refine Qb (t:=[some (.ref n),some (.d (.int deep)),none,none,none,none]) rfl ?_;unfold jk;refine qL (N1:=λt' S'=>Dr n S S'/\∃v:Int,t'= [some (.ref n),some (.d (.int deep)),some (.d (.int v)),none,none,none]/\0<=v/\v<9) ?_ ?_
  ·refine Zt ?_;simp [jk,zg,zr,zU,sIf,zN,zO,xl,zf,zi,zz,zK,zt,dT,xw,dOr,xX,zL,qI,zy,qz,qh,zT,zH,zh,za,zo,qM,xp,xV,gN,xm,qg,xM,zF,ixD,ql,zA,lh,xF];refine wp_mono (xo (many:=9) h (by decide) (by decide)) ?_;rintro _ S1 ⟨v,rfl,v0,v1,d1⟩;exact⟨d1,v,by simp,v0,v1⟩
  rintro _ S1 ⟨d1,v,rfl,v0,v1⟩;refine qL (N1:=λt' S'=>S1=S'/\t'= [some (.ref n),some (.d (.int deep)),some (.d (.int v)),none,none,none]/\¬v<6/\deep≠0) ?_ ?_
  ·refine K0 ?_;have hc:(qI (dT (zK .Lt (zf 2) (zi (.int 6)))) (dT (zK .Eq (zf 1) (zi (.int 0))))) [some (.ref n),some (.d (.int deep)),some (.d (.int v)),none,none,none] S1= .ok (decide (v<6)||(deep==0)) S1:=by
    by_cases hv:v<6
    ·simp [qI,dT,zK,zf,zi,hv]
    ·simp [qI,dT,zK,zf,zi,hv,zk6]
   rw [hc,xu];refine⟨λhk=>?_,λhk=>?_⟩
   ·refine qL (N1:=λt' S'=>S1=S'/\t'= [some (.ref n),some (.d (.int deep)),some (.d (.int v)),none,some (.d (.lst (T20.take 15))),none]) ?_ ?_
    ·simp [jk,zg,zr,zU,sIf,zN,zO,xl,zf,zi,zz,zK,zt,dT,xw,dOr,xX,zL,qI,zy,qz,qh,zT,zH,zh,za,zo,qM,xp,xV,gN,xm,qg,xM,zF,ixD,ql,zA,lh,xF,T20]
    rintro _ _ ⟨rfl,rfl⟩;refine qL (N1:=λ_ _=>False) ?_ (λ_ _ z=>z.elim);refine QA ?_;have e:(zz .Add (zf 4) (qh (za (zi (.int 1000)) (za (zi (.int 1001)) (za (zz .Add (zz .Pow (zi (.int 10)) (zi (.int 9))) (zi (.int 1))) (za (qz zo) (za (qh zo) zo))))))) [some (.ref n),some (.d (.int deep)),some (.d (.int v)),none,some (.d (.lst (T20.take 15))),none] S1= .ok (.d (.lst T20)) S1:=by apply Ql;simp [jk,zg,zr,zU,sIf,zN,zO,xl,zf,zi,zz,zK,zt,dT,xw,dOr,xX,zL,qI,zy,qz,qh,zT,zH,zh,za,zo,qM,xp,xV,gN,xm,qg,xM,zF,ixD,ql,zA,lh,xF,zlU,T20]
    unfold zH;rw [wp_bind,e,xu,wp_bind];simp only [zh,za,zf,zi,zo,wp_bind,xu];simp;refine wp_mono (xo (many:=20) d1.has (by decide) (by decide)) ?_;rintro _ S2 ⟨u,rfl,u0,u1,d2⟩;obtain⟨x,ex,_,hx⟩:=Qs (xs:=T20) u0 u1;have ei:ixD (.d (.lst T20)) (.d (.int u)) S2= .ok (.d x) S2:=by simp only [ixD,zF,ex]
    rw [ei,xu];exact⟨x,rfl,(zmd x hx).mono (lD _) (by omega),(d1.trans d2).take⟩
   ·simp at hk;exact⟨rfl,rfl,by omega,hk.2⟩
  rintro _ _ ⟨rfl,rfl,hv,hd⟩;refine qL (N1:=λt' S'=>Dr n S S'/\∃ys,t'= [some (.ref n),some (.d (.int deep)),some (.d (.int v)),some (.d (.lst ys)),none,none]/\ys.length<=20/\∀y∈ys,Gd 20 deep.toNat y) ?_ ?_
  ·refine Zt ?_;simp [jk,zg,zr,zU,sIf,zN,zO,xl,zf,zi,zz,zK,zt,dT,xw,dOr,xX,zL,qI,zy,qz,qh,zT,zH,zh,za,zo,qM,xp,xV,gN,xm,qg,xM,zF,ixD,ql,zA,lh,xF,dLc,kJ,kG];refine wp_mono (xo (many:=7) d1.has (by decide) (by decide)) ?_;rintro _ S2 ⟨u,rfl,u0,u1,d2⟩;have hC:(-4611686018427387904<=u/\u<4611686018427387904)=True:=eq_true (by omega);simp only [xu,zio,hC,if_true];refine wp_mono (VN (λS'=>Dr n S S') (λd y=>Gd 20 deep.toNat y) _ _ _ ?_ ?_ (d1.trans d2)) ?_
   ·intro d hd2 S' hS';refine⟨_,rfl,?_⟩;simp [jk,zg,zr,zU,sIf,zN,zO,xl,zf,zi,zz,zK,zt,dT,xw,dOr,xX,zL,qI,zy,qz,qh,zT,zH,zh,za,zo,qM,xp,xV,gN,xm,qg,xM,zF,ixD,ql,zA,lh,xF];refine wp_mono (zas fuel n S' (deep-1) hS'.has (by omega) (by omega)) ?_;rintro _ S3 ⟨x,rfl,gx,d3⟩;exact⟨x,rfl,by rw [show(deep-1).toNat+1=deep.toNat by omega] at gx;exact gx,hS'.trans d3⟩
   ·rw [lB,Le];exact lQ (by simp;omega:([]:List D).length+u.toNat<=7) (by decide)
   ·rintro xs S3 ⟨ys,exs,f2,d3⟩;rw [yo] at exs;subst exs;refine⟨d3,?_,F2.all (R:=λy=>Gd 20 deep.toNat y) (λ_ _ p=>p) f2⟩;rw [f2.length,lB,Le];omega
  rintro _ S2 ⟨d2,ys,rfl,ly,gy⟩;have hG1:Gd 20 (deep.toNat+1) (.lst ys):=.lst ly gy;have hG2:Gd 20 (deep.toNat+1) (.tup ys):=.tup ly gy;obtain⟨x,ex,_,hx⟩:=Qs (xs:=[D.lst ys,D.tup ys,D.tup ys]) (v:=v-6) (by omega) (by simp;omega);have hG:Gd 20 (deep.toNat+1) x:=by
   simp at hx;rcases hx with rfl|rfl
   ·exact hG1
   ·exact hG2
  have hD:=d2.take;simp [jk,zg,zr,zU,sIf,zN,zO,xl,zf,zi,zz,zK,zt,dT,xw,dOr,xX,zL,qI,zy,qz,qh,zT,zH,zh,za,zo,qM,xp,xV,gN,xm,qg,xM,zF,ixD,ql,zA,lh,xF,xI,Vf,ex];exact⟨hG,hD⟩
theorem ziU{m:M}{t:DS}{S:Sto}{Q:W->Sto->Prop}(h:wp (m t S) λw S'=>(∃x,w= .d x/\Q (.d x) S')\/∃xs S0,w= .ref S.length/\S'=S0++ [.lst xs]/\S0.length=S.length/\Q (.d (.lst xs)) S0):wp (zjZ m t S) Q:=by
 unfold zjZ;rw [wp_bind];refine wp_mono h λw S' q=>?_
 rcases q with⟨x,rfl,q⟩|⟨xs,S0,rfl,rfl,hl,q⟩
 ·exact q
 ·dsimp only;rw [if_pos ⟨lD _,by simp [hl]⟩];have e:(S0++ [Cell.lst xs])[S.length]? =some (.lst xs):=by rw [<-hl];simp
  rw [e];dsimp only;have e2:(S0++ [Cell.lst xs]).take S.length=S0:=by rw [<-hl];simp
  rw [e2];exact q
theorem Zf{a:M}{i j p:Nat}{v:Int}{t:DS}{S:Sto}{N:DS->Sto->Prop}{R:W->Sto->Prop}(h1:t[i]? =some (some (.ref p)))(h2:t[j]? =some (some (.d (.int v))))(h0:0<=v)
 (h:wp (a t S) λw S1=>∃e xs,w= .d e/\S1[p]? =some (.lst xs)/\v<xs.length/\N t (S1.set p (.lst (xs.set v.toNat e)))):wps (jb a (zf i) (zf j) t S) N R:=by
 unfold jb;rw [vY];refine wp_mono h λw S1 ⟨e,xs,ew,hp,hv,q⟩=>?_
 subst ew;have e1:zf i t S1= .ok (.ref p) S1:=by unfold zf;rw [h1]
 have e2:zf j t S1= .ok (.d (.int v)) S1:=by unfold zf;rw [h2]
 rw [e1,Zx,e2,Zx];dsimp only;rw [hp];dsimp only;have e3:ixN xs.length v=some v.toNat:=by unfold ixN;rw [if_pos h0,if_pos hv]
 rw [e3];exact q
def RQ(S:Sto)(Q:W->Sto->Prop)(w:W)(S':Sto):Prop:=(∃x,w= .d x/\Q (.d x) (S'.take S.length))\/∃k xs,w= .ref k/\S.length<=k/\S'[k]? =some (.lst xs)/\Q (.ref S.length) (S'.take S.length++ [.lst xs])
def zg6(y:D):Prop:=∃ys,y= .tup ys\/y= .lst ys
def OQ(n L m:Nat)(S:Sto)(w:W)(S':Sto):Prop:=(∃y,w= .d y/\zg6 y/\Gd L m y/\Dr n S S')\/∃ys S0,w= .ref S.length/\S'=S0++ [.lst ys]/\Gd L m (.lst ys)/\Dr n S S0
theorem zb7{n p L m:Nat}{S S':Sto}{xs ys:List D}(d:Dx n p S S' xs)(g:Gd L m (.tup ys)):RQ S (OQ n L m S) (.d (.tup ys)) S':=.inl ⟨_,rfl,.inl ⟨_,rfl,⟨ys,.inl rfl⟩,g,d.done⟩⟩
theorem zju{n p L m:Nat}{S S':Sto}{xs:List D}(d:Dx n p S S' xs)(g:Gd L m (.lst xs)):RQ S (OQ n L m S) (.ref p) S':=
 .inr ⟨p,xs,rfl,yU d.p0,d.cell,.inr ⟨xs,_,rfl,rfl,g,d.done⟩⟩
def Pz(L m:Nat)(ys:List D):Prop:=ys.length<=L/\∀y∈ys,Gd L m y
theorem Pz.tup{L m:Nat}{ys:List D}(h:Pz L m ys):Gd L (m+1) (.tup ys):=.tup h.1 h.2
theorem Pz.lst{L m:Nat}{ys:List D}(h:Pz L m ys):Gd L (m+1) (.lst ys):=.lst h.1 h.2
theorem Pz.set{L m:Nat}{ys:List D}{e:D}{i:Nat}(h:Pz L m ys)(g:Gd L m e):Pz L m (ys.set i e):=by
 refine⟨by rw [Yd];exact h.1,λy hy=>?_⟩;rcases List.mem_or_eq_of_mem_set hy with hy|rfl
 ·exact h.2 y hy
 ·exact g
def T13:List D:=[.int 0,.int 1,.int (-1),.int 1000,.int 1001,.int 1000000,.int 1000001,.int 1000000000,.int 1000000001,.int 1000000000000,.int 1000000000001,.non,.bl true]
theorem zlK{L n:Nat}:∀x∈T13,Gd L n x:=by
 intro x hx;simp only [T13,lu,List.mem_nil_iff,or_false] at hx;rcases hx with rfl|rfl|rfl|rfl|rfl|rfl|rfl|rfl|rfl|rfl|rfl|rfl|rfl
 all_goals first
  |exact .int _
  |exact .bl _
  |exact .non
abbrev otT(n p:Nat)(thing:D)(deep v way:Int)(z:Option W):DS:=[some (.ref n),some (.d thing),some (.d (.int deep)),some (.ref p),some (.d (.int v)),some (.d (.int way)),z]
abbrev otC:MSt:=(sIf (dT (zK .Eq (zf 5) (zi (.int 0)))) (zg (zO (zdJ (zf 3) (zf 4))) zr) (zg (sIf (dT (zK .Eq (zf 5) (zi (.int 1)))) (zg (zO (zaH (zf 3) (zf 4) (zH (zf 3) (zf 4)))) zr) (zg (sIf (dT (zK .Eq (zf 5) (zi (.int 2)))) (zg (zae (zmE (Ve (zf 3) (qG (zf 4)) (qG (zz .Add (zf 4) (zi (.int 2)))))) (zf 3) (qG (zf 4)) (qG (zz .Add (zf 4) (zi (.int 2))))) zr) (zg (sIf (dT (zK .Eq (zf 5) (zi (.int 3)))) (zg (jb (zh (noX vm) (za (zf 0) (za (zi (.int 2)) zo))) (zf 3) (zf 4)) zr) (zg (sIf (dT (zK .Eq (zf 5) (zi (.int 4)))) (zg (zN (qh (za (zi (.int 0)) (za (zi (.int 1)) (za (xV (zi (.int 1))) (za (zi (.int 1000)) (za (zi (.int 1001)) (za (zz .Pow (zi (.int 10)) (zi (.int 6))) (za (zz .Add (zz .Pow (zi (.int 10)) (zi (.int 6))) (zi (.int 1))) (za (zz .Pow (zi (.int 10)) (zi (.int 9))) (za (zz .Add (zz .Pow (zi (.int 10)) (zi (.int 9))) (zi (.int 1))) (za (zz .Pow (zi (.int 10)) (zi (.int 12))) (za (zz .Add (zz .Pow (zi (.int 10)) (zi (.int 12))) (zi (.int 1))) (za (zi .non) (za (zi (.bl true)) zo)))))))))))))) (gN 6)) (zg (jb (zH (zf 6) (zh (noX zq) (za (zf 0) (za (zi (.int 13)) zo)))) (zf 3) (zf 4)) zr)) (zg (sIf (zL (dT (zK .Eq (zf 5) (zi (.int 5)))) (dT (qM .tuple (zH (zf 3) (zf 4))))) (zg (jb (zh zfX (za (zH (zf 3) (zf 4)) zo)) (zf 3) (zf 4)) zr) (zg (sIf (zL (dT (zK .Eq (zf 5) (zi (.int 6)))) (dT (qM .str (zH (zf 3) (zf 4))))) (zg (jb (zz .Add (zH (zf 3) (zf 4)) (zH (qh (za (zi (.str "a")) (za (zi (.str "A")) (za (zi (.str " ")) (za (zi (.str "bbbbbbbb")) zo))))) (zh (noX zq) (za (zf 0) (za (zi (.int 4)) zo))))) (zf 3) (zf 4)) zr) (zg (zU (zf 3)) zr)) zr)) zr)) zr)) zr)) zr)) zr))
theorem zfK{a b:Str}(h1:PyData.strOk a=true)(h2:PyData.strOk b=true):PyData.strOk (a++b)=true:=by
 unfold PyData.strOk at*;rw [LQ] at*;intro c hc;have:c∈(a++b).cps.toList:=by simpa using hc
 rw [Jl] at this;rcases yd.mp this with q|q
 ·exact h1 c (by simpa using q)
 ·exact h2 c (by simpa using q)
section
variable {n p L m:Nat} {S S1:Sto} {thing:D} {deep v:Int} {xs:List D} {e:D}
theorem j5{k way:Int}{z:Option W}{a b:MSt}{N:DS->Sto->Prop}{R:W->Sto->Prop}(h:(way==k)=false)(hb:wps (b (otT n p thing deep v way z) S1) N R):wps (sIf (dT (zK .Eq (zf 5) (zi (.int k)))) a b (otT n p thing deep v way z) S1) N R:=by refine K0 ?_;show wp (Res.ok (way==k) S1) _;rw [h];exact⟨λz=>(nomatch z),λ_=>hb⟩
theorem zbO{k way:Int}{z:Option W}{a b:MSt}{N:DS->Sto->Prop}{R:W->Sto->Prop}(h:(way==k)=true)(ha:wps (a (otT n p thing deep v way z) S1) N R):wps (sIf (dT (zK .Eq (zf 5) (zi (.int k)))) a b (otT n p thing deep v way z) S1) N R:=by refine K0 ?_;show wp (Res.ok (way==k) S1) _;rw [h];exact⟨λ_=>ha,λz=>(nomatch z)⟩
theorem xc{a:MSt}{t:DS}{N:DS->Sto->Prop}{R:W->Sto->Prop}(h:wps (a t S1) N R):wps (zg a zr t S1) N R:=qL h λ_ _ q=>q
theorem KD{T:Ty}{k way:Int}{z:Option W}{a b:MSt}{N:DS->Sto->Prop}{R:W->Sto->Prop}(c1:S1[p]? =some (.lst xs))(ex:atI xs v=some e)(h:(way==k)=false\/xp T (.d e)=false)(hb:wps (b (otT n p thing deep v way z) S1) N R):
 wps (sIf (zL (dT (zK .Eq (zf 5) (zi (.int k)))) (dT (qM T (zH (zf 3) (zf 4))))) a b (otT n p thing deep v way z) S1) N R:=by
 refine K0 ?_;have e1:(dT (zK .Eq (zf 5) (zi (.int k)))) (otT n p thing deep v way z) S1= .ok (way==k) S1:=rfl;have e2:(dT (qM T (zH (zf 3) (zf 4)))) (otT n p thing deep v way z) S1= .ok (xp T (.d e)) S1:=by simp [dT,qM,zH,zf,otT,ixD,zF,c1,ex,asB]
 unfold zL;rw [e1,wp_bind,xu];rcases h with h|h
 ·rw [h];exact⟨λz=>(nomatch z),λ_=>hb⟩
 ·cases hk:(way==k) with
  |false=>exact⟨λz=>(nomatch z),λ_=>hb⟩
  |true=>
   rw [if_pos rfl,e2,xu,h];exact⟨λz=>(nomatch z),λ_=>hb⟩
theorem zeL{T:Ty}{k way:Int}{z:Option W}{a b:MSt}{N:DS->Sto->Prop}{R:W->Sto->Prop}(c1:S1[p]? =some (.lst xs))(ex:atI xs v=some e)(h:(way==k)=true)(h2:xp T (.d e)=true)(hb:wps (a (otT n p thing deep v way z) S1) N R):
 wps (sIf (zL (dT (zK .Eq (zf 5) (zi (.int k)))) (dT (qM T (zH (zf 3) (zf 4))))) a b (otT n p thing deep v way z) S1) N R:=by
 refine K0 ?_;have e1:(dT (zK .Eq (zf 5) (zi (.int k)))) (otT n p thing deep v way z) S1= .ok (way==k) S1:=rfl;have e2:(dT (qM T (zH (zf 3) (zf 4)))) (otT n p thing deep v way z) S1= .ok (xp T (.d e)) S1:=by simp [dT,qM,zH,zf,otT,ixD,zF,c1,ex,asB]
 unfold zL;rw [e1,wp_bind,xu,h,if_pos rfl,e2,xu,h2];exact⟨λ_=>hb,λz=>(nomatch z)⟩
theorem zjN{xs:List D}{v:Int}(v0:0<=v):(cutD xs (some v) (some (v+2))).length<=2:=by
 unfold cutD;have e1:HT.sIx xs.length 0 (some v)=min v.toNat xs.length:=by have:=HT.zcH xs.length 0 v.toNat;rwa [show((v.toNat:Nat):Int)=v by omega] at this
 have e2:HT.sIx xs.length xs.length (some (v+2))=min (v.toNat+2) xs.length:=by have:=HT.zcH xs.length xs.length (v.toNat+2);rwa [show((v.toNat+2:Nat):Int)=v+2 by omega] at this
 rw [e1,e2,lK,ym];omega
theorem zi5{xs:List D}{a b:Option Int}{y:D}(h:y∈cutD xs a b):y∈xs:=yX (Lf h)
theorem zgQ(dx:Dx n p S S1 xs)(pz:Pz L m xs)(hm:3<=m)(hL:20<=L)(hL2:L<=900)(v0:0<=v)(v1:v<xs.length)(ex:atI xs v=some e)(he:e∈xs){way:Int}(w0:0<=way)(w1:way<8):
 wps (otC (otT n p thing deep v way none) S1) (λt' S'=>∃ys z,t'=otT n p thing deep v way z/\Dx n p S S' ys/\Pz (L+8) m ys) (RQ S (OQ n (L+8) (m+1) S)):=by
 have c1:=dx.cell;have ge:Gd L m e:=pz.2 e he;have pz8:Pz (L+8) m xs:=⟨by have:=pz.1;omega,λy hy=>(pz.2 y hy).mono (by omega) (lD _)⟩;have ve:xs[v.toNat]? =some e:=by obtain⟨x,e1,e2,_⟩:=Qs v0 v1;rw [ex] at e1;cases e1;exact e2
 have hw:way=0\/way=1\/way=2\/way=3\/way=4\/way=5\/way=6\/way=7:=by omega
 have h63:0<=v/\v<2^63:=by have:=pz.1;omega
 have hret:RQ S (OQ n (L+8) (m+1) S) (.ref p) S1:=zju dx pz8.lst;have fin:∀{way:Int} {ys:List D} {z:Option W},Pz (L+8) m ys->∃ys' z',otT n p thing deep v way z=otT n p thing deep v way z'/\Dx n p S (S1.set p (.lst ys)) ys'/\Pz (L+8) m ys':=λ{way ys z} h=>⟨ys,z,rfl,dx.set _,h⟩
 have z1:xs.length<sizeLine:=yJ (lQ pz.1 hL2) (by decide);rcases hw with rfl|rfl|rfl|rfl|rfl|rfl|rfl|rfl
 ·
  refine zbO rfl (xc (VY ?_));simp only [zdJ,zf,wp_bind,lJ,lN,xu,Xd,c1,if_true,ve];rw [if_pos h63];exact fin ⟨by have:=pz8.1;have h2:=List.length_eraseIdx_le xs v.toNat;omega,λy hy=>pz8.2 y (List.mem_of_mem_eraseIdx hy)⟩
 ·
  refine j5 rfl (xc (zbO rfl (xc (VY ?_))));simp only [zaH,zH,ixD,zF,zf,wp_bind,lJ,lN,xu,Xd,c1,if_true,ex];rw [if_pos ⟨h63.1,h63.2,z1⟩];refine fin ⟨?_,λy hy=>?_⟩
  ·rw [lH,lO,lK,ym];have:=pz.1;omega
  ·rcases yd.mp hy with hy|hy
   ·exact pz8.2 y (Lf hy)
   ·rcases lu.mp hy with rfl|hy
    ·exact pz8.2 _ he
    ·exact pz8.2 y (yX hy)
 ·
  refine j5 rfl (xc (j5 rfl (xc (zbO rfl (xc ?_)))));have cl:=zjN (xs:=xs) v0;have hz:xs.length+(cutD xs (some v) (some (v+2))).reverse.length<=sizeLine:=by rw [Lj];exact lQ (by have:=pz.1;omega:_<=902) (by decide)
  have hc:0<=v/\v<=v+2/\v<=(xs.length:Int)/\xs.length+(cutD xs (some v) (some (v+2))).reverse.length<=sizeLine:=⟨v0,by omega,by omega,hz⟩;simp only [zae,vY,zmE,Ve,qG,zz,zgx,zi,zF,zf,wp_bind,lJ,lN,xu,c1];rw [if_pos hc];refine fin ⟨?_,λy hy=>?_⟩
  ·rw [lH,lH,lK,ym,Lj];have:=pz.1;omega
  ·rcases yd.mp hy with hy|hy
   ·rcases yd.mp hy with hy|hy
    ·exact pz8.2 y (Lf hy)
    ·exact pz8.2 y (zi5 (List.mem_reverse.mp hy))
   ·exact pz8.2 y (yX hy)
 ·
  refine j5 rfl (xc (j5 rfl (xc (j5 rfl (xc (zbO rfl (xc (Zf (p:=p) (v:=v) rfl rfl v0 ?_))))))));simp only [zh,za,zi,zo,zf,wp_bind,lJ,lN,xu];refine wp_mono (zas 4 n S1 2 dx.has (by decide) (by decide)) ?_;rintro _ S2 ⟨x,rfl,gx,d2⟩;have dx2:=dx.draw d2;exact⟨x,xs,rfl,dx2.cell,v1,_,_,rfl,dx2.set _,pz8.set (gx.mono (by omega) (by simpa using hm))⟩
 ·
  refine j5 rfl (xc (j5 rfl (xc (j5 rfl (xc (j5 rfl (xc (zbO rfl ?_))))))));refine qL (N1:=λt' S'=>S1=S'/\t'=otT n p thing deep v 4 (some (.d (.lst T13)))) ?_ ?_
  ·refine Zt ?_;simp [kr,zg,zr,zU,sIf,zN,zO,xl,zf,zi,zz,zK,zt,dT,xw,dOr,xX,zL,qI,zy,qz,qh,zT,zH,zh,za,zo,qM,xp,xV,gN,xm,qg,xM,zF,ixD,ql,zA,lh,xF,T13,otT]
  rintro _ _ ⟨rfl,rfl⟩;refine xc (Zf (p:=p) (v:=v) rfl rfl v0 ?_);simp only [zH,zh,za,zi,zo,zf,wp_bind,lJ,lN,xu];refine wp_mono (xo (many:=13) dx.has (by decide) (by decide)) ?_;rintro _ S2 ⟨u,rfl,u0,u1,d2⟩;obtain⟨x,ex',_,hx⟩:=Qs (xs:=T13) u0 u1;have dx2:=dx.draw d2;simp only [ixD,zF,ex',xu];exact⟨x,xs,rfl,dx2.cell,v1,_,_,rfl,dx2.set _,pz8.set (zlK x hx)⟩
 ·
  cases hT:xp .tuple (.d e) with
  |true=>
   obtain⟨es,rfl⟩:∃es,e= .tup es:=by cases e <;> first|exact⟨_,rfl⟩|(simp [xp] at hT)
   refine j5 rfl (xc (j5 rfl (xc (j5 rfl (xc (j5 rfl (xc (j5 rfl (xc (zeL c1 ex rfl hT (xc (Zf (p:=p) (v:=v) rfl rfl v0 ?_))))))))))));simp only [zH,ixD,zF,zh,za,zi,zo,zf,wp_bind,lJ,lN,xu,c1,ex,zfX,Vf];refine⟨.lst es,xs,rfl,by first|exact c1|rfl,v1,_,_,rfl,dx.set _,pz8.set ?_⟩;obtain⟨k,rfl⟩:=ge.tupPos;exact(Gd.lst ge.tupLen ge.tupIn).mono (by omega) (lD _)
  |false=>
   refine j5 rfl (xc (j5 rfl (xc (j5 rfl (xc (j5 rfl (xc (j5 rfl (xc (KD c1 ex (.inr hT) (xc (KD c1 ex (.inl rfl) (xc (QA ?_))))))))))))));simp only [zf,lJ,lN,xu];exact hret
 ·
  cases hT:xp .str (.d e) with
  |true=>
   obtain⟨es,rfl⟩:∃es,e= .str es:=by cases e <;> first|exact⟨_,rfl⟩|(simp [xp] at hT)
   refine j5 rfl (xc (j5 rfl (xc (j5 rfl (xc (j5 rfl (xc (j5 rfl (xc (KD c1 ex (.inl rfl) (xc (zeL c1 ex rfl hT (xc (Zf (p:=p) (v:=v) rfl rfl v0 ?_))))))))))))));simp only [zz,zH,ixD,zF,qh,xm,zh,za,zi,zo,zf,wp_bind,lJ,lN,xu,c1,ex];simp only [Ls,lO,yh,xF,if_true,xu,Nat.reduceAdd,Nat.reduceLeDiff];refine wp_mono (xo (many:=4) dx.has (by decide) (by decide)) ?_;rintro _ S2 ⟨u,rfl,u0,u1,d2⟩;have dx2:=dx.draw d2;obtain⟨x,ex',hx⟩:=zil (a:=.str "a") (b:=.str "A") (c:=.str " ") (d:=.str "bbbbbbbb") u0 u1;have hx':∃s:Str,x= .str s/\s.length<=8/\PyData.strOk s=true:=by
    rcases hx with rfl|rfl|rfl|rfl
    all_goals exact⟨_,rfl,by decide+kernel,by decide+kernel⟩
   obtain⟨s,rfl,s1,s2⟩:=hx';have hz:es.length+s.length<=sizeLine:=lQ (by have:=ge.strLen;omega:_<=908) (by decide);simp only [ex',xu,zeP,hz,if_true];refine⟨.str (es++s),xs,rfl,dx2.cell,v1,_,_,rfl,dx2.set _,pz8.set (.str ?_ (zfK ge.strGood s2))⟩;rw [len_app];have:=ge.strLen;omega
  |false=>
   refine j5 rfl (xc (j5 rfl (xc (j5 rfl (xc (j5 rfl (xc (j5 rfl (xc (KD c1 ex (.inl rfl) (xc (KD c1 ex (.inr hT) (xc (QA ?_))))))))))))));simp only [zf,lJ,lN,xu];exact hret
 ·
  refine j5 rfl (xc (j5 rfl (xc (j5 rfl (xc (j5 rfl (xc (j5 rfl (xc (KD c1 ex (.inl rfl) (xc (KD c1 ex (.inl rfl) (xc (QA ?_))))))))))))));simp only [zf,lJ,lN,xu];exact hret
end
theorem zgc{thing:D}{L m:Nat}(h:zg6 thing)(g:Gd L m thing):∃xs k,Vf ([]:Sto) (.d thing)=some xs/\(∀S:Sto,Vf S (.d thing)=some xs)/\m=k+1/\Pz L k xs:=by
 obtain⟨xs,rfl|rfl⟩:=h
 ·cases g with
  |tup h1 h2=>exact⟨xs,_,rfl,λ_=>rfl,rfl,h1,h2⟩
 ·cases g with
  |lst h1 h2=>exact⟨xs,_,rfl,λ_=>rfl,rfl,h1,h2⟩
theorem ziH:∀(fuel n L m:Nat) (S:Sto) (thing:D) (deep:Int),JU n S->0<=deep->deep<(fuel:Int)->4+deep.toNat<=m->m<=60->20<=L->L<=900->zg6 thing->Gd L m thing->wp (noX (xP fuel) [.ref n,.d thing,.d (.int deep)] S) (OQ n (L+8) m S)
 |0,_,_,_,_,_,deep,_,h0,h1,_,_,_,_,_,_=>by omega
 |fuel+1,n,L,m,S,thing,deep,h,h0,h1,hm,hm2,hL,hL2,hs,hg=>by
  obtain⟨xs,k,_,hseq,rfl,pz⟩:=zgc hs hg;refine K8 ?_;rw [Qc];refine zit (t:=[some (.ref n),some (.d thing),some (.d (.int deep)),none,none,none,none]) rfl ?_;unfold kY;have pz8:Pz (L+8) k xs:=⟨by have:=pz.1;omega,λy hy=>(pz.2 y hy).mono (by omega) (lD _)⟩;refine qL (N1:=λt' S'=>S'=S++ [.lst xs]/\t'= [some (.ref n),some (.d thing),some (.d (.int deep)),some (.ref S.length),none,none,none]) ?_ ?_
  ·refine Zt ?_;simp [zh,za,zf,zo,zdp,hseq]
  rintro _ _ ⟨rfl,rfl⟩;have dx0:=Dx.start h xs;generalize S++ [Cell.lst xs]=S1 at*;have c0:=dx0.cell;refine qL (N1:=λt' S'=>S1=S'/\t'= [some (.ref n),some (.d thing),some (.d (.int deep)),some (.ref S.length),none,none,none]/\1<=xs.length) ?_ ?_
  ·refine K0 ?_;have ek:Vd (.lst xs) (.lst [])=true:=by unfold Vd;rw [(pz.lst).okD (by omega)];rfl
   have hc:(dT (zK .Eq (zf 3) (qh zo))) [some (.ref n),some (.d thing),some (.d (.int deep)),some (.ref S.length),none,none,none] S1= .ok xs.isEmpty S1:=by
    have e1:Vj .Eq (.ref S.length) (.d (.lst [])) S1= .ok (.d (.bl xs.isEmpty)) S1:=by
     show(match dataOf S1 (.ref S.length),dataOf S1 (.d (.lst [])) with
      |some a,some b=>if Vd a b=true then Res.ok (W.d (.bl (peq a b))) S1 else .bad
      |_,_=>.bad)=_
     have e2:dataOf S1 (.ref S.length)=some (.lst xs):=by unfold dataOf;dsimp only;rw [c0]
     rw [e2];show(if Vd (.lst xs) (.lst [])=true then _ else _)=_;rw [if_pos ek,zcl]
    simp [dT,zK,zf,qh,zo,xm,e1,xF]
   rw [hc,xu];refine⟨λhk=>?_,λhk=>?_⟩
   ·refine xc (QA ?_);simp only [qz,zh,za,zi,zo,zf,wp_bind,lJ,lN,xu];refine wp_mono (zas 4 n S1 1 dx0.has (by decide) (by decide)) ?_;rintro _ S2 ⟨x,rfl,gx,d2⟩;simp only [xm,Ls,lO,yh,xF,if_true,xu,Nat.reduceAdd,Nat.reduceLeDiff];refine zb7 (dx0.draw d2) (.tup (by simp) λy hy=>?_);simp at hy;subst hy;exact gx.mono (by omega) (by simp;omega)
   ·refine⟨rfl,rfl,?_⟩;cases xs with
    |nil=>cases hk
    |cons a r=>simp
  rintro _ _ ⟨rfl,rfl,hlen⟩;refine qL (N1:=λt' S'=>Dx n S.length S S' xs/\∃v:Int,t'= [some (.ref n),some (.d thing),some (.d (.int deep)),some (.ref S.length),some (.d (.int v)),none,none]/\0<=v/\v<xs.length) ?_ ?_
  ·refine Zt ?_;simp only [zh,za,zi,zo,zf,qg,xM,zF,wp_bind,lJ,lN,xu,c0,Ls];refine wp_mono (xo (many:=(xs.length:Int)) dx0.has (by omega) (YY (by have:=pz.1;omega:(xs.length:Int)<=900) (by decide))) ?_;rintro _ S2 ⟨v,rfl,v0,v1,d2⟩;exact⟨dx0.draw d2,v,rfl,v0,v1⟩
  rintro _ S2 ⟨dx,v,rfl,v0,v1⟩;obtain⟨e,ex,_,he⟩:=Qs v0 v1;have c1:=dx.cell;refine qL (N1:=λt' S'=>Dx n S.length S S' xs/\t'= [some (.ref n),some (.d thing),some (.d (.int deep)),some (.ref S.length),some (.d (.int v)),none,none]) ?_ ?_
  ·refine K0 ?_;have e1:(dT (qM .tuple (zH (zf 3) (zf 4)))) [some (.ref n),some (.d thing),some (.d (.int deep)),some (.ref S.length),some (.d (.int v)),none,none] S2= .ok (xp .tuple (.d e)) S2:=by simp [dT,qM,zH,zf,ixD,zF,c1,ex,asB]
   have e2:(dT (zK .Gt (zf 2) (zi (.int 0)))) [some (.ref n),some (.d thing),some (.d (.int deep)),some (.ref S.length),some (.d (.int v)),none,none] S2= .ok (decide (0<deep)) S2:=rfl;unfold zL;rw [wp_bind,e1,xu];cases hT:xp .tuple (.d e) with
   |false=>exact⟨λz=>(nomatch z),λ_=>⟨dx,rfl⟩⟩
   |true=>
    rw [if_pos rfl,wp_bind,e2,xu];by_cases hd:0<deep
    ·rw [if_pos (decide_eq_true hd)];simp only [dT,zK,zh,za,zi,zo,zf,wp_bind,lJ,lN,xu];refine wp_mono (xo (many:=4) dx.has (by decide) (by decide)) ?_;rintro _ S3 ⟨u,rfl,u0,u1,d3⟩;have dx:=dx.draw d3;simp only [zmU,xu,zlR];refine⟨λhk=>?_,λhk=>⟨dx,rfl⟩⟩;obtain⟨es,rfl⟩:∃es,e= .tup es:=by cases e <;> first|exact⟨_,rfl⟩|(simp [xp] at hT)
     have ge:Gd L k (.tup es):=pz.2 _ he;refine qL (N1:=λt' S'=>∃ys,Dx n S.length S S' ys/\Pz (L+8) k ys/\t'= [some (.ref n),some (.d thing),some (.d (.int deep)),some (.ref S.length),some (.d (.int v)),none,none]) ?_ ?_
     ·refine Zf (p:=S.length) (v:=v) rfl rfl v0 (ziU ?_);have c3:=dx.cell;simp only [zz,zH,ixD,zF,zh,za,zi,zo,zf,wp_bind,lJ,lN,xu,c3,ex,znq];refine wp_mono (ziH fuel n L k S3 (.tup es) (deep-1) dx.has (by omega) (by omega) (by omega) (by omega) hL hL2 ⟨es,.inl rfl⟩ ge) ?_;rintro w S4 (⟨y,rfl,hy,gy,d4⟩|⟨ys,S0,rfl,rfl,gy,d4⟩)
      ·have dx:=dx.draw d4;exact .inl ⟨y,rfl,y,xs,rfl,dx.cell,v1,_,dx.set _,pz8.set gy,trivial⟩
      ·have dx:=dx.draw d4;exact .inr ⟨ys,S0,rfl,rfl,d4.len,.lst ys,xs,rfl,dx.cell,v1,_,dx.set _,pz8.set gy,trivial⟩
     rintro _ S4 ⟨ys,dx,pzy,rfl⟩;refine xc (QA ?_);have c4:=dx.cell;simp only [zh,za,zo,zf,xI,Vf,zF,wp_bind,lJ,lN,xu,c4];exact zb7 dx pzy.tup
    ·rw [if_neg (by simp [hd])];exact⟨λz=>(nomatch z),λ_=>⟨dx,rfl⟩⟩
  rintro _ S3 ⟨dx,rfl⟩;refine qL (N1:=λt' S'=>Dx n S.length S S' xs/\∃way:Int,t'=otT n S.length thing deep v way none/\0<=way/\way<8) ?_ ?_
  ·refine Zt ?_;simp only [zh,za,zi,zo,zf,wp_bind,lJ,lN,xu];refine wp_mono (xo (many:=8) dx.has (by decide) (by decide)) ?_;rintro _ S4 ⟨u,rfl,u0,u1,d4⟩;exact⟨dx.draw d4,u,rfl,u0,u1⟩
  rintro _ S4 ⟨dx,way,rfl,w0,w1⟩;refine qL (zgQ dx pz (by omega) hL hL2 v0 v1 ex he w0 w1) ?_;rintro _ S5 ⟨ys,z,rfl,dx,pzy⟩;refine xc (QA ?_);have c5:=dx.cell;simp only [zh,za,zo,zf,xI,Vf,zF,wp_bind,lJ,lN,xu,c5];exact zb7 dx pzy.tup
end K01
namespace K02
open PySem L2 Z K01
theorem zk2{s r:Str}{S:Sto}:Vj .Eq (.d (.str s)) (.d (.str r)) S= .ok (.d (.bl (s==r))) S:=rfl
theorem zmc{L n:Nat}(hL:L<=100000){x:D}{S:Sto}(h:Gd L n x):jo [.d x] S=if xD x=true then .ok (.d .non) S else .exc {cls:="NoArticles"} S:=by rw [Qi];unfold fnD;cases q:xD x <;> simp [vg,zg,zr,zU,sIf,zN,zO,xl,zf,zi,zz,zK,zt,dT,xw,dOr,xX,zL,qI,zy,qz,qh,zT,zH,zh,za,zo,qM,xp,xV,gN,xm,qg,xM,zF,ixD,ql,zA,lh,xF,nxT,vL,noX,Xz hL h,q,zkF]
end K02
namespace K03
open PySem L2 Z ZT K01 K02
section
variable {α:Type} {a b c d e f:α} {r:List α}
end
section
variable {L n:Nat} (hL:L<=100000)
end
section
variable {α:Type} {a b c d e f:α}
end
theorem c12:((0:Int)<=12/\(12:Int)<=1000000/\(10:Int).natAbs<2^64)=True:=by decide
theorem c9:((0:Int)<=9/\(9:Int)<=1000000/\(10:Int).natAbs<2^64)=True:=by decide
theorem c6:((0:Int)<=6/\(6:Int)<=1000000/\(10:Int).natAbs<2^64)=True:=by decide
section
variable {L n:Nat} {arts:D} {S:Sto}
end
section
variable {arts:D} {m b r:Str} {d e p t:Int}
end
section
variable {arts:D} {m b r:Str} {d e p t f g:Int}
end
def znO:D->Option Str
 | .tup (_:: .str m::_)=>some m
 |_=>none
section
variable {arts:D} {n:Nat} {S:Sto} {man:Str} {bs:List Str} {far great:Int}
end
def zow(q:Str)(ys:List D):Nat:=(ys.filter λy=>znO y==some q).length
def zoF(ys:List D):Nat:=(ys.filter λy=>znO y==none).length
def isNm(q:Str):D->Bool
 | .str s=>s==q
 |_=>false
def zoq(q:Str)(ds:List D):Nat:=(ds.filter (isNm q)).length
section
variable {rs:List D} {c mo:D} {n:Nat} {S:Sto} {crew bs:List Str} {far great most:Int}
structure FewW (crew ys:List D):Prop where
 men:∀q,zow q ys<=14*zoq q crew
 los:zoF ys<=1
theorem zdc:∀(A B:List D),A.Nodup->(∀x∈A,x∈B)->A.length<=B.length
 | [],B,_,_=>by simp
 |x::A,B,hn,hs=>by
  obtain⟨s,t,rfl⟩:=List.append_of_mem (hs x lC);have nd:=Lb.mp hn
  have:=zdc A (s++t) nd.2 λy hy=>by
   have:=hs y (lA _ hy);rw [yd,lu] at this;rw [yd];rcases this with h|rfl|h
   ·exact .inl h
   ·exact absurd hy nd.1
   ·exact .inr h
  rw [lH] at this;rw [lH,lO,lO];omega
theorem FewW.sub{crew ys zs:List D}(h:FewW crew ys)(nd:zs.Nodup)(hm:∀z∈zs,z∈ys):FewW crew zs:=by
 have key:∀f:D->Bool,(zs.filter f).length<=(ys.filter f).length:=λf=>
  zdc _ _ (nd.filter _) λx hx=>by rw [LN] at hx⊢;exact⟨hm x hx.1,hx.2⟩
 exact⟨λq=>lQ (key _) (h.men q),lQ (key _) h.los⟩
end
section
variable {rs:List D} {c mo:D} {n:Nat} {S:Sto} {man:Str}
end
end K03
namespace K12
open PySem PySem.Spec L2 Z ZX ZT K01 K02 K03
open PyProof.Rows hiding St
end K12
namespace K12
open PySem L2 Z ZT K01 K02 K03
inductive Pg where
 |joins (m:Str) (d:Int) (r:Str)|ranked (m:Str) (d:Int) (r:Str)|leaves (m:Str) (d:Int)|away (m:Str) (d e:Int)|advance (m:Str) (d p:Int) (b:Str)|slops (m:Str) (d p:Int) (b:Str)
 |fine (m:Str) (d p:Int)|home (m:Str) (d p k:Int) (b:Str)|lost (d e:Int)
def pd:Pg->D
 | .joins m d r=>.tup [.str "joins",.str m,.int d,.str r]
 | .ranked m d r=>.tup [.str "ranked",.str m,.int d,.str r]
 | .leaves m d=>.tup [.str "leaves",.str m,.int d]
 | .away m d e=>.tup [.str "away",.str m,.int d,.int e]
 | .advance m d p b=>.tup [.str "advance",.str m,.int d,.int p,.str b]
 | .slops m d p b=>.tup [.str "slops",.str m,.int d,.int p,.str b]
 | .fine m d p=>.tup [.str "fine",.str m,.int d,.int p]
 | .home m d p k b=>.tup [.str "home",.str m,.int d,.int p,.int k,.str b]
 | .lost d e=>.tup [.str "lost",.int d,.int e]
theorem ju{α:Type}{e:α->D}{g:W->DS->Option DS}{mt:MB}{me:M}{t:DS}{S:Sto}(p:α->Bool)(f:α->D):∀(ds:List α) (acc:List D),(∀d∈ds,∃t1,g (.d (e d)) t=some t1/\mt t1 S= .ok (p d) S/\(p d=true->me t1 S= .ok (.d (f d)) S))->acc.length+ds.length<=sizeLine->
 lcD g mt me (ds.map e) t S acc= .ok (acc++(ds.filter p).map f) S
 | [],acc,_,_=>by simp [lcD]
 |d::ds,acc,h,hz=>by
  obtain⟨t1,e1,e2,e3⟩:=h d (by simp);have hz':acc.length+ds.length+1<=sizeLine:=by simp at hz;omega
  rw [lU];unfold lcD;rw [e1];dsimp only;rw [e2];cases hp:p d with
  |true=>
   dsimp only;rw [e3 hp];dsimp only;rw [if_pos (by omega),ju p f ds (acc++ [f d]) (λx hx=>h x (by simp [hx])) (by simp;omega)];simp [hp]
  |false=>
   dsimp only;rw [ju p f ds acc (λx hx=>h x (by simp [hx])) (by omega)];simp [hp]
abbrev pl(ps:List Pg):W:=.d (.lst (ps.map pd))
theorem few{α:Type}{l:List α}(h:l.length<=900):([]:List D).length+l.length<=sizeLine:=lQ (by simpa using h) (by decide)
theorem kD{n:Nat}{m:MSt}{ws:List W}{S S':Sto}{t:DS}{x:D}(ht:ws.map some++List.replicate (n-ws.length) none=t)(h:m t S= .rt (.d x) S'):fnD n m ws S= .ok (.d x) (S'.take S.length):=by subst ht;unfold fnD;rw [h];rfl
theorem qo{a:M}{g:W->DS->Option DS}{m:MSt}{t t1:DS}{S S1:Sto}{w:W}(h:a t S= .ok w S1)(hg:g w t=some t1):zg (zN a g) m t S=m t1 S1:=by unfold zg zN;rw [h,Zx,hg];rfl
theorem jq{a:M}{m:MSt}{t:DS}{S S1:Sto}{w:W}(h:a t S= .ok w S1):zg (zU a) m t S= .rt w S1:=by unfold zg zU;rw [h,Zx];rfl
theorem jT{a:M}{m:MSt}{t:DS}{S S1:Sto}{w:W}(h:a t S= .ok w S1):zg (zO a) m t S=m t S1:=by unfold zg zO;rw [h,Zx];rfl
theorem jW{c:MB}{a b m:MSt}{t:DS}{S S1:Sto}(h:c t S= .ok true S1):zg (sIf c a b) m t S=(a t S1).seq m:=by unfold zg sIf;rw [h,Zx];rfl
theorem vj{c:MB}{a b m:MSt}{t:DS}{S S1:Sto}(h:c t S= .ok false S1):zg (sIf c a b) m t S=(b t S1).seq m:=by unfold zg sIf;rw [h,Zx];rfl
theorem jV{own:List Nat}{mi:MIs}{g:W->DS->Option DS}{mt:MB}{me:M}{t:DS}{S S1 S2:Sto}{ds xs:List D}(h1:mi t S= .ok ds S1)(h2:lcD g mt me ds (kJ t own) S1 []= .ok xs S2):dLc own mi g mt me t S= .ok (.d (.lst xs)) S2:=by unfold dLc;rw [h1,zB,h2,zB]
theorem qV{g:List W->Sto->Res W}{a:M}{t:DS}{S S1:Sto}{w:W}(h:a t S= .ok w S1):zh g (za a zo) t S=g [w] S1:=by unfold zh za;rw [h];rfl
theorem call2{g:List W->Sto->Res W}{a b:M}{t:DS}{S S1 S2:Sto}{w v:W}(h:a t S= .ok w S1)(h2:b t S1= .ok v S2):zh g (za a (za b zo)) t S=g [w,v] S2:=by unfold zh za;rw [h,zB,h2];rfl
theorem xG{g:List W->Sto->Res W}{ws:List W}{S S1:Sto}{w:W}(h:g ws S= .ok w S1):noX g ws S= .ok w S1:=by unfold noX;rw [h]
theorem xy{g:W->DS->Option DS}{body:MSt}{d:D}{ds:List D}{t t1 t2:DS}{S S2:Sto}(hg:g (.d d) t=some t1)(hb:body t1 S= .nx t2 S2):Vk g body (d::ds) t S=Vk g body ds t2 S2:=by
 conv=>lhs;unfold Vk
 rw [hg];dsimp only;rw [hb]
theorem Za{mi:MIs}{g:W->DS->Option DS}{body m:MSt}{t t2:DS}{S S1 S2:Sto}{ds:List D}(h:mi t S= .ok ds S1)(h2:Vk g body ds t S1= .nx t2 S2):zg (xl mi g body) m t S=m t2 S2:=by unfold zg xl;rw [h,Zx,h2];rfl
theorem jB{S:Sto}{c:Cell}:(S++ [c])[S.length]? =some c:=by simp
theorem j0{S:Sto}{c c':Cell}:(S++ [c]).set S.length c'=S++ [c']:=by simp
theorem ZI{st m:MSt}{t t1:DS}{S S1:Sto}(h:st t S= .nx t1 S1):zg st m t S=m t1 S1:=by unfold zg;rw [h];rfl
theorem Zw{a b:M}{t:DS}{S:Sto}{x y:D}(h:a t S= .ok (.d x) S)(h2:b t S= .ok (.d y) S):qz (za a (za b zo)) t S= .ok (.d (.tup [x,y])) S:=by unfold qz za;rw [h,zB,h2];rfl
theorem qJ{a:M}{t:DS}{S S1:Sto}{xs:List D}(h:a t S= .ok (.d (.lst xs)) S1):ql a t S= .ok xs S1:=by unfold ql;rw [h];rfl
def x2:Pg->Bool×Int
 | .away _ _ e=>(true,e+1)
 |_=>(false,0)
def x3(mo:Int):Pg->Bool×Int
 | .home _ d _ k _=>(true,d+(k-1)*mo+1)
 |_=>(false,0)
def x4:Pg->Bool×Int
 | .advance _ d _ _=>(true,d+1)
 | .slops _ d _ _=>(true,d+1)
 | .fine _ d _=>(true,d+1)
 |_=>(false,0)
abbrev i2:MSt:=sIf (dT (zK .Eq (zH (zf 4) (zi (.int 0))) (zi (.str "away")))) (zg (zO (vF (zf 3) (zz .Add (zH (zf 4) (zi (.int 3))) (zi (.int 1))))) zr) zr
abbrev i4:MSt:=sIf (dT (zK .In (zH (zf 4) (zi (.int 0))) (qz (za (zi (.str "advance")) (za (zi (.str "slops")) (za (zi (.str "fine")) zo)))))) (zg (zO (vF (zf 3) (zz .Add (zH (zf 4) (zi (.int 2))) (zi (.int 1))))) zr) zr
theorem sub_eq{a b:M}{t:DS}{S S1 S2:Sto}{w v:W}(ha:a t S= .ok w S1)(hb:b t S1= .ok v S2):zH a b t S=ixD w v S2:=by unfold zH;rw [ha,zB,hb,zB]
theorem jP{op:Operator}{a b:M}{t:DS}{S S1 S2:Sto}{w v:W}(ha:a t S= .ok w S1)(hb:b t S1= .ok v S2):zz op a b t S=opD op w v S2:=by unfold zz;rw [ha,zB,hb,zB]
theorem xr{op:CmpOp}{a b:M}{t:DS}{S S1 S2:Sto}{w v:W}(ha:a t S= .ok w S1)(hb:b t S1= .ok v S2):zK op a b t S=Vj op w v S2:=by unfold zK;rw [ha,zB,hb,zB]
theorem jl{a:M}{t:DS}{S S1:Sto}{k:Bool}(ha:a t S= .ok (.d (.bl k)) S1):dT a t S= .ok k S1:=by unfold dT;rw [ha];rfl
theorem and_eq{a b:MB}{t:DS}{S S1:Sto}{k:Bool}(ha:a t S= .ok k S1):zL a b t S=if k=true then b t S1 else .ok false S1:=by unfold zL;rw [ha,zB]
def zje(d:Int)(r:Int×Option Int):Bool:=decide (r.1<=d)&&(match r.2 with|none=>true|some e=>decide (d<=e))
def inB(B:List (Int×Option Int))(d:Int):Bool:=B.any (zje d)
theorem zji(A B:List (Int×Option Int))(d:Int):inB (A++B) d=(inB A d||inB B d):=List.any_append
theorem zjF(r:Int×Option Int)(d:Int):inB [r] d=zje d r:=by simp [inB]
def J(B:List (Int×Option Int))(b:Bool)(d:Int):Prop:=(b=true/\∃B0 a,B=B0++ [(a,none)]/\a<=d/\inB B0 d=false)\/(b=false/\inB B d=false)
theorem J.is{B:List (Int×Option Int)}{b:Bool}{d:Int}(h:J B b d):inB B d=b:=by
 rcases h with⟨rfl,B0,a,rfl,ha,h0⟩|⟨rfl,h⟩
 ·rw [zji,zjF,h0];simp [zje,ha]
 ·exact h
theorem or_eq{a b:MB}{t:DS}{S S1:Sto}{k:Bool}(ha:a t S= .ok k S1):qI a b t S=if k=true then .ok true S1 else b t S1:=by unfold qI;rw [ha,zB]
mutual
theorem zdo:∀d:D,peq d d=true
 | .non=>rfl
 | .bl b=>by show(b==b)=true;simp
 | .int i=>by show(i==i)=true;simp
 | .str s=>by show(s==s)=true;simp
 | .tup xs=>K7 xs
 | .lst xs=>K7 xs
theorem K7:∀xs:List D,PyData.eqvAll (Ji xs) (Ji xs)=true
 | []=>rfl
 |d::ds=>by show(PyData.eqv (toP d) (toP d)&&PyData.eqvAll (Ji ds) (Ji ds))=true;rw [K7 ds,Bool.and_true];exact zdo d
end
theorem xU{S:Sto}{x y:W}{d:D}(hx:dataOf S x=some d)(hy:dataOf S y=some d)(ok:okD d=true):Vj .NotEq x y S= .ok (.d (.bl false)) S:=by
 have e1:Vd d d=true:=by unfold Vd;rw [ok];simp
 have:Vj .NotEq x y S=(match dataOf S x,dataOf S y with
  |some a,some b=>if Vd a b=true then(Res.ok (W.d (.bl (!peq a b))) S:Res W) else Res.bad
  |_,_=>Res.bad):=by
  cases x with
  |d x=>cases x <;> cases y <;> rfl
  |ref _=>rfl
  |fz _=>rfl
  |exn _=>rfl
  |fk _ _=>rfl
  |tl _ _ _=>rfl
 rw [this,hx,hy];dsimp only;rw [e1,zdo,if_pos rfl];rfl
end K12
namespace K82
open PySem L2 Z ZT TL K01
open K12 (kD qo jq jT jW vj qV call2 xG jl xr jP sub_eq and_eq or_eq ZI jB j0 Zw jV ju xU qJ)
theorem XS{n:Nat}{m:MSt}{ws:List W}{S S':Sto}{t t':DS}{x:Xn}(ht:ws.map some++List.replicate (n-ws.length) none=t)(h:m t S= .exc x t' S'):fnD n m ws S= .exc x (S'.take S.length):=by unfold fnD;rw [ht,h];rfl
theorem zoP{m:MSt}{t t1:DS}{S S1:Sto}(h:m t S= .nx t1 S1):nxS m t S= .nx t1 S1:=by unfold nxS;rw [h]
theorem zoR{m:MSt}{t:DS}{w:W}{S S1:Sto}(h:m t S= .rt w S1):nxS m t S= .rt w S1:=by unfold nxS;rw [h]
theorem zne{m:M}{t:DS}{w:W}{S S1:Sto}(h:m t S= .ok w S1):nxE m t S= .ok w S1:=by unfold nxE;rw [h]
theorem znX{m:MB}{t:DS}{k:Bool}{S S1:Sto}(h:m t S= .ok k S1):nxT m t S= .ok k S1:=by unfold nxT;rw [h]
theorem zk5{a:M}{g:W->DS->Option DS}{t t1:DS}{S S1:Sto}{w:W}(h:a t S= .ok w S1)(hg:g w t=some t1):zN a g t S= .nx t1 S1:=by have:=(qo (m:=zr) h hg).trans (rfl:zr t1 S1= .nx t1 S1);unfold zg SR.seq at this;cases q:zN a g t S <;> rw [q] at this <;> first|exact this|exact absurd this (by simp [zr])
theorem Jt{a:M}{g:W->DS->Option DS}{m:MSt}{t t1:DS}{S S1:Sto}{w:W}(h:a t S= .ok w S1)(hg:g w t=some t1):zg (nxS (zN a g)) m t S=m t1 S1:=ZI (zoP (zk5 h hg))
theorem ziN{a:M}{t:DS}{S S1:Sto}{w:W}(h:a t S= .ok w S1):zU a t S= .rt w S1:=by unfold zU;rw [h];rfl
theorem zc0{a:M}{m:MSt}{t:DS}{S S1:Sto}{w:W}(h:a t S= .ok w S1):zg (nxS (zU a)) m t S= .rt w S1:=by unfold zg;rw [zoR (ziN h)];rfl
theorem X1{st m:MSt}{t t1:DS}{S S1:Sto}{x:Xn}(h:st t S= .exc x t1 S1):zg st m t S= .exc x t1 S1:=by unfold zg;rw [h];rfl
theorem zcr{a:M}{t:DS}{S S1:Sto}{x:Xn}(h:a t S= .exc x S1):zU a t S= .exc x t S1:=by unfold zU;rw [h];rfl
theorem Jn{a:M}{g:W->DS->Option DS}{t:DS}{S S1:Sto}{x:Xn}(h:a t S= .exc x S1):zN a g t S= .exc x t S1:=by unfold zN;rw [h];rfl
theorem zhn{a:M}{t:DS}{S S1:Sto}{x:Xn}(h:a t S= .exc x S1):zO a t S= .exc x t S1:=by unfold zO;rw [h];rfl
theorem zht{c:Str}{d:D}{t:DS}{S:Sto}:vL c (za (zi d) zo) t S= .exc {cls:=c} t S:=by unfold vL;show(if ([W.d d]:List W).length<=sizeLine then SR.exc {cls:=c} t S else SR.bad)=_;rw [if_pos (by rw [sizeLine_eq];show 1<=16777216;decide)]
theorem Ja{c:MB}{a m:MSt}{t:DS}{S:Sto}(h:c t S= .ok false S):zg (sIf (nxT c) a zr) m t S=m t S:=(vj (znX h)).trans rfl
theorem Jr{c:MB}{k:Str}{d:D}{m:MSt}{t:DS}{S:Sto}(h:c t S= .ok true S):zg (sIf (nxT c) (zg (vL k (za (zi d) zo)) zr) zr) m t S= .exc {cls:=k} t S:=by rw [jW (znX h),X1 zht];rfl
abbrev noT:Xn:={cls:="NoText"}
theorem Qw:(Str.ofString ",")=sep 44:=by decide+kernel
theorem zmA:(Str.ofString "=")=sep 61:=by decide+kernel
theorem J3:(Str.ofString "/")=sep 47:=by decide+kernel
theorem za7:(Str.ofString "*")=sep 42:=by decide+kernel
theorem QI:(Str.ofString " ")=sep 32:=by decide+kernel
theorem zo2:(Str.ofString "0123456789").cps.toList= [48,49,50,51,52,53,54,55,56,57]:=by decide+kernel
theorem zfo:(Str.ofString "0")=sep 48:=by decide+kernel
theorem ziD(c:Nat):decide (c∈(Str.ofString "0123456789").cps.toList)=vQ c:=by rw [zo2];unfold vQ;rw [<-Bool.decide_and];apply decide_eq_decide.mpr;simp;omega
theorem VI{a:M}{x:Str}{t:DS}{S:Sto}(h:a t S= .ok (.d (.str x)) S)(hz:x.length<=sizeLine):zh qg (za a zo) t S= .ok (.d (.int (x.length:Int))) S:=by
 refine(qV h).trans ?_;have e:xM S (.d (.str x))=some x.length:=by unfold xM;dsimp only;rw [if_pos hz]
 unfold qg;dsimp only;rw [e]
theorem first_is{x:Str}{t:DS}{S:Sto}{i:Nat}(h:t[i]? =some (some (.d (.str x))))(hz:x.length<=sizeLine)(h1:1<=x.length):∃c,(tl x).head? =some c/\zH (zf i) (zi (.int 0)) t S= .ok (.d (.str (sep c))) S:=by
 rw [xj] at h1;cases q:tl x with
 |nil=>rw [q] at h1;exact absurd h1 (by decide)
 |cons c r=>
  refine⟨c,rfl,?_⟩;have v:zf i t S= .ok (.d (.str x)) S:=by unfold zf;rw [h]
  refine(sub_eq v (v:=.d (.int 0)) (S2:=S) rfl).trans ?_;have e:x=⟨(c::r).toArray⟩:=by rw [<-q,zjm]
  subst e;unfold ixD;dsimp only;rw [if_pos hz];have e:atI (c::r) (0:Int)=some c:=by simp [atI,ixN]
  rw [e]
section
variable {x:Str} {S:Sto}
theorem vU(hz:x.length<=sizeLine):zw [.d (.str x)] S=match xq x with|some n=>.ok (.d (.int (n:Int))) S|none=>.exc noT S:=by
 rw [Xb];have hch:zt .LtE .LtE (zi (.int 1)) (zh qg (za (zf 0) zo)) (zi (.int 13)) [some (.d (.str x)),none] S= .ok (.d (.bl (decide (1<=x.length/\x.length<=13)))) S:=by
  have e:zt .LtE .LtE (zi (.int 1)) (zh qg (za (zf 0) zo)) (zi (.int 13)) [some (.d (.str x)),none] S=(if decide ((1:Int)<=x.length)=true then(Res.ok (W.d (.bl (decide ((x.length:Int)<=13)))) S:Res W) else .ok (.d (.bl false)) S):=by have l:=VI (a:=zf 0) (t:=[some (.d (.str x)),none]) (S:=S) rfl hz;unfold zt;have d1:zi (.int 1) [some (.d (.str x)),none] S= .ok (.d (.int 1)) S:=rfl;rw [d1,zB,l,zB];rfl
  rw [e];by_cases h:1<=x.length
  ·rw [if_pos (by simpa using (by omega:(1:Int)<=x.length))];congr 3;rw [decide_eq_decide];omega
  ·rw [if_neg (by simpa using (by omega:¬(1:Int)<=x.length)),decide_eq_false (by omega)]
 have hall:zh zaJ (za (dLc [1] (ql (zf 0)) (gN 1) vG (zK .In (zf 1) (zi (.str "0123456789")))) zo) [some (.d (.str x)),none] S= .ok (.d (.bl ((tl x).all vQ))) S:=by
  have k:dLc [1] (ql (zf 0)) (gN 1) vG (zK .In (zf 1) (zi (.str "0123456789"))) [some (.d (.str x)),none] S= .ok (.d (.lst ((tl x).map λc=>D.bl (vQ c)))) S:=by
   refine jV (own:=[1]) (S1:=S) (ds:=(tl x).map λc=>D.str (sep c)) rfl ?_;rw [ju (e:=λc:Nat=>D.str (sep c)) (λ_=>true) (λc:Nat=>D.bl (vQ c)) (tl x) [] (λc _=>⟨[some (.d (.str x)),some (.d (.str (sep c)))],rfl,rfl,λ_=>?_⟩) (by rw [<-xj];simpa using hz),yC.mpr λ_ _=>rfl]
   ·rfl
   ·show Res.ok (W.d (.bl (decide (c∈(Str.ofString "0123456789").cps.toList)))) S=_;rw [ziD]
  refine(qV k).trans ?_;unfold zaJ;have b:(zF S (.d (.lst ((tl x).map λc=>D.bl (vQ c))))).bind boolsOf=some ((tl x).map vQ):=vN vQ (tl x);dsimp only;rw [b];dsimp only;rw [YW];rfl
 by_cases h:1<=x.length/\x.length<=13
 ·by_cases ha:(tl x).all vQ=true
  ·obtain⟨c,hc,hs⟩:=first_is (x:=x) (t:=[some (.d (.str x)),none]) (S:=S) (i:=0) rfl hz h.1;have c1:qI (zy (dT (zt .LtE .LtE (zi (.int 1)) (zh qg (za (zf 0) zo)) (zi (.int 13))))) (zy (dT (zh zaJ (za (dLc [1] (ql (zf 0)) (gN 1) vG (zK .In (zf 1) (zi (.str "0123456789")))) zo)))) [some (.d (.str x)),none] S= .ok false S:=by
    refine(or_eq (k:=false) (S1:=S) ?_).trans ?_
    ·unfold zy;rw [jl hch,decide_eq_true h];rfl
    ·rw [if_neg (by decide)];unfold zy;rw [jl hall,ha];rfl
   have c2:zL (dT (zK .Eq (zH (zf 0) (zi (.int 0))) (zi (.str "0")))) (dT (zK .Gt (zh qg (za (zf 0) zo)) (zi (.int 1)))) [some (.d (.str x)),none] S= .ok (decide ((tl x).head? =some 48/\1<x.length)) S:=by
    refine(and_eq (k:=decide ((tl x).head? =some 48)) (S1:=S) (jl ((xr hs (v:=.d (.str "0")) (S2:=S) rfl).trans ?_))).trans ?_
    ·refine K02.zk2.trans ?_;congr 3;rw [zfo,hc];by_cases e:c=48
     ·rw [e];simp
     ·have:¬(sep c=sep 48):=λz=>e (by have:=congrArg tl z;injection this)
      simp [e,this]
    ·by_cases e:(tl x).head? =some 48
     ·rw [decide_eq_true e,if_pos rfl];refine(jl ((xr (w:=.d (.int x.length)) (v:=.d (.int 1)) (S1:=S) (S2:=S) (VI rfl hz) rfl).trans zmU)).trans ?_;congr 1;rw [decide_eq_decide];constructor
      ·intro h;exact⟨e,by omega⟩
      ·rintro⟨_,h⟩;omega
     ·rw [decide_eq_false e,if_neg (by decide),decide_eq_false λz=>e z.1]
   by_cases hh:(tl x).head? =some 48/\1<x.length
   ·rw [decide_eq_true hh] at c2;have r:xq x=none:=by unfold xq;rw [if_neg λz=>z.2.2.2 hh]
    rw [r];have:=XS (n:=2) (m:=qK) (ws:=[.d (.str x)]) (S:=S) (S':=S) (t:=[some (.d (.str x)),none]) (t':=[some (.d (.str x)),none]) (x:=noT) rfl ?_
    ·rw [this,lh]
    ·unfold qK;rw [Ja c1];exact Jr c2
   ·rw [decide_eq_false hh] at c2;have r:xq x=some (NumText.digitsVal (tl x)):=by unfold xq;rw [if_pos ⟨h.1,h.2,ha,hh⟩]
    have ri:=zcY r;rw [r];have:=kD (n:=2) (m:=qK) (ws:=[.d (.str x)]) (S:=S) (S':=S) (t:=[some (.d (.str x)),none]) (x:=.int (NumText.digitsVal (tl x):Nat)) rfl ?_
    ·rw [this,lh]
    ·unfold qK;rw [Ja c1,Ja c2];refine zc0 ((qV (S1:=S) (w:=.d (.str x)) rfl).trans ?_);unfold zcL;dsimp only;rw [ri.1];dsimp only;rw [if_pos ri.2]
  ·have r:xq x=none:=by unfold xq;rw [if_neg λz=>ha z.2.2.1]
   rw [r];have:=XS (n:=2) (m:=qK) (ws:=[.d (.str x)]) (S:=S) (S':=S) (t:=[some (.d (.str x)),none]) (t':=[some (.d (.str x)),none]) (x:=noT) rfl ?_
   ·rw [this,lh]
   ·unfold qK;refine Jr ?_;refine(or_eq (k:=false) (S1:=S) ?_).trans ?_
    ·unfold zy;rw [jl hch,decide_eq_true h];rfl
    ·rw [if_neg (by decide)];unfold zy;rw [jl hall,yE.mpr ha];rfl
 ·have r:xq x=none:=by unfold xq;rw [if_neg λz=>h ⟨z.1,z.2.1⟩]
  rw [r];have:=XS (n:=2) (m:=qK) (ws:=[.d (.str x)]) (S:=S) (S':=S) (t:=[some (.d (.str x)),none]) (t':=[some (.d (.str x)),none]) (x:=noT) rfl ?_
  ·rw [this,lh]
  ·unfold qK;refine Jr ?_;refine(or_eq (k:=true) (S1:=S) ?_).trans (if_pos rfl);unfold zy;rw [jl hch,decide_eq_false h];rfl
end
def gT(n:Nat)(x:Str):Prop:=x.length<=n/\PyData.strOk x=true
theorem X6{x:Str}:PyData.strOk x=true↔∀c∈tl x,c<0x110000:=by
 unfold PyData.strOk;rw [LQ];constructor
 ·intro h c hc;have:=h c (by simpa using hc);simpa using this
 ·intro h c hc;have:=h c (by simpa using hc);simpa using this
theorem zdi{n:Nat}{x y:Str}(h:gT n x)(hl:y.length<=x.length)(hs:∀c∈tl y,c∈tl x):gT n y:=⟨lQ hl h.1,X6.mpr λc hc=>X6.mp h.2 c (hs c hc)⟩
theorem XC:tl Str.empty= []:=by decide
theorem QO{c:Nat}:∀{r:List Str} {p:Str},(∀q∈p::r,q.length<=(Txt.join (sep c) (p::r)).length/\∀z∈tl q,z∈tl (Txt.join (sep c) (p::r)))/\(Txt.join (sep c) r).length<=(Txt.join (sep c) (p::r)).length/\∀z∈tl (Txt.join (sep c) r),z∈tl (Txt.join (sep c) (p::r))
 | [],p=>by
   rw [join_one,join_nil];refine⟨λq hq=>?_,?_,λz hz=>?_⟩
   ·rw [yT] at hq;subst hq;exact⟨lD _,λ_ h=>h⟩
   ·rw [xj,XC];exact yx _
   ·rw [XC] at hz;cases hz
 |q::r,p=>by
  obtain⟨h1,h2,h3⟩:=QO (c:=c) (r:=r) (p:=q);have e:tl (Txt.join (sep c) (p::q::r))=tl p++ [c]++tl (Txt.join (sep c) (q::r)):=by rw [xb,zY,zY]
  have l:(Txt.join (sep c) (p::q::r)).length=p.length+1+(Txt.join (sep c) (q::r)).length:=by rw [xj,e,lH,lH,<-xj,<-xj];rfl
  refine⟨λa ha=>?_,by omega,λz hz=>by rw [e];exact lX _ hz⟩;rcases lu.mp ha with rfl|ha
  ·exact⟨by omega,λz hz=>by rw [e];exact yB _ (yB _ hz)⟩
  ·obtain⟨a1,a2⟩:=h1 a ha;exact⟨by omega,λz hz=>by rw [e];exact lX _ (a2 z hz)⟩
theorem kh{n c:Nat}(hc:c<256){x:Str}(h:gT n x):∀q∈Txt.split x (sep c),gT n q:=λq hq=>by obtain⟨p,r,e,_,_,hx⟩:=xY hc x;rw [e] at hq;have:=(QO (c:=c) (r:=r) (p:=p)).1 q hq;rw [<-hx] at this;exact zdi h this.1 this.2
theorem zco{n c:Nat}{p:Str}{r:List Str}(h:gT n (Txt.join (sep c) (p::r))):gT n (Txt.join (sep c) r):=zdi h (QO).2.1 (QO).2.2
theorem zeY{n c:Nat}{p:Str}{r:List Str}(h:gT n (Txt.join (sep c) (p::r))):gT n p:=zdi h ((QO).1 p lC).1 ((QO).1 p lC).2
theorem split_len{n c:Nat}(hc:c<256){x:Str}(h:gT n x):(Txt.split x (sep c)).length<=n+1:=by
 obtain⟨p,r,e,_,_,hx⟩:=xY hc x;rw [e]
 have key:∀(r:List Str) (p:Str),(p::r).length<=(Txt.join (sep c) (p::r)).length+1:=λr=>by
  induction r with
  |nil=>intro p;simp
  |cons q r ih=>
   intro p;have l:(Txt.join (sep c) (p::q::r)).length=p.length+1+(Txt.join (sep c) (q::r)).length:=by rw [xj,xb,zY,zY,lH,lH,<-xj,<-xj];rfl
   have:=ih q;simp only [lO] at this⊢;omega
 have:=key r p;rw [<-hx] at this;have:=h.1;omega
def optN(x:Str):D:=match xq x with|some n=>.int n|none=>.non
theorem zlE{x:Str}{t:DS}{S:Sto}(h:t[0]? =some (some (.d (.str x))))(ht:kJ t [1]=t)(hn:∀c,gN 1 (.d (.str (sep c))) t=some (t.set 1 (some (.d (.str (sep c))))))(h1:1<t.length)(hz:x.length<=sizeLine)(hs:PyData.strOk x=true):
 dT (zK .NotEq (dLc [1] (ql (zf 0)) (gN 1) (dT (zK .NotIn (zf 1) (zi (.str "0123456789")))) (zf 1)) (qh zo)) t S= .ok (!(tl x).all vQ) S:=by
 have v0:zf 0 t S= .ok (.d (.str x)) S:=by unfold zf;rw [h]
 have k:dLc [1] (ql (zf 0)) (gN 1) (dT (zK .NotIn (zf 1) (zi (.str "0123456789")))) (zf 1) t S= .ok (.d (.lst (((tl x).filter λc=> !vQ c).map λc=>D.str (sep c)))) S:=by
  have i0:ql (zf 0) t S= .ok ((tl x).map λc=>D.str (sep c)) S:=by unfold ql;rw [v0];rfl
  refine jV (own:=[1]) (S1:=S) (ds:=(tl x).map λc=>D.str (sep c)) i0 ?_;rw [ht];have q:∀c:Nat,(t.set 1 (some (.d (.str (sep c)))))[1]? =some (some (W.d (.str (sep c)))):=λc=>by rw [lW h1]
  rw [ju (e:=λc:Nat=>D.str (sep c)) (λc:Nat=> !vQ c) (λc:Nat=>D.str (sep c)) (tl x) [] (λc _=>⟨_,hn c,?_,λ_=>?_⟩) (by rw [<-xj];simpa using hz)]
  ·rfl
  ·refine jl ((xr (w:=.d (.str (sep c))) (v:=.d (.str "0123456789")) (S1:=S) (S2:=S) (by unfold zf;rw [q]) rfl).trans ?_);show Res.ok (W.d (.bl (!decide (c∈(Str.ofString "0123456789").cps.toList)))) S=_;rw [ziD]
  ·unfold zf;rw [q]
 have g1:Gd (x.length+1) 1 (.lst (((tl x).filter λc=> !vQ c).map λc=>D.str (sep c))):=by
  refine .lst ?_ λd hd=>?_
  ·rw [lB];have:=List.length_filter_le (λc=> !vQ c) (tl x);rw [xj];omega
  ·obtain⟨c,hc,rfl⟩:=lL.mp hd;exact .str (by show 1<=_;omega) (zb0 hs (LN.mp hc).1)
 have ok:Vd (.lst (((tl x).filter λc=> !vQ c).map λc=>D.str (sep c))) (.lst [])=true:=by unfold Vd;rw [g1.okD (by decide)];rfl
 refine jl ((xr k (v:=.d (.lst [])) (S2:=S) rfl).trans ?_);show(if Vd _ _=true then(Res.ok (W.d (.bl (!peq _ _))) S:Res W) else .bad)=_;rw [if_pos ok,zcl];by_cases h3:(tl x).all vQ=true
 ·have e:(tl x).filter (λc=> !vQ c)= []:=L7.mpr λc hc z=>by rw [yb.mp h3 c hc] at z;exact lE z
  rw [e,h3];rfl
 ·rw [yE.mpr h3];cases q:(tl x).filter λc=> !vQ c with
  |nil=>
   refine absurd (yb.mpr λc hc=>?_) h3;have:=L7.mp q c hc;cases r:vQ c with
   |true=>rfl
   |false=>rw [r] at this;exact absurd rfl this
  |cons a r=>rfl
section
variable {x:Str} {S:Sto}
theorem Zc(hz:x.length<=sizeLine)(hs:PyData.strOk x=true):zM [.d (.str x)] S= .ok (.d (optN x)) S:=by
 rw [Qg];have hl:zh qg (za (zf 0) zo) [some (.d (.str x)),none] S= .ok (.d (.int (x.length:Int))) S:=VI rfl hz;have c1:dT (zK .Lt (zh qg (za (zf 0) zo)) (zi (.int 1))) [some (.d (.str x)),none] S= .ok (decide ((x.length:Int)<1)) S:=jl ((xr hl (v:=.d (.int 1)) (S2:=S) rfl).trans zo1);have c2:dT (zK .Gt (zh qg (za (zf 0) zo)) (zi (.int 13))) [some (.d (.str x)),none] S= .ok (decide ((13:Int)<x.length)) S:=jl ((xr hl (v:=.d (.int 13)) (S2:=S) rfl).trans zmU);have c3:=zlE (x:=x) (t:=[some (.d (.str x)),none]) (S:=S) rfl rfl (λ_=>rfl) (show 1<2 by decide) hz hs;have cc:qI (dT (zK .Lt (zh qg (za (zf 0) zo)) (zi (.int 1)))) (qI (dT (zK .Gt (zh qg (za (zf 0) zo)) (zi (.int 13)))) (dT (zK .NotEq (dLc [1] (ql (zf 0)) (gN 1) (dT (zK .NotIn (zf 1) (zi (.str "0123456789")))) (zf 1)) (qh zo)))) [some (.d (.str x)),none] S= .ok (!(decide (1<=x.length)&&(decide (x.length<=13)&&(tl x).all vQ))) S:=by
  refine(or_eq c1).trans ?_;by_cases h1:(x.length:Int)<1
  ·rw [decide_eq_true h1,if_pos rfl,decide_eq_false (by omega:¬1<=x.length)];rfl
  ·rw [decide_eq_false h1,if_neg (by decide),decide_eq_true (by omega:1<=x.length)];refine(or_eq c2).trans ?_;by_cases h2:(13:Int)<x.length
   ·rw [decide_eq_true h2,if_pos rfl,decide_eq_false (by omega:¬x.length<=13)];rfl
   ·rw [decide_eq_false h2,if_neg (by decide),c3,decide_eq_true (by omega:x.length<=13)];rfl
 by_cases h:1<=x.length/\x.length<=13/\(tl x).all vQ=true
 ·rw [decide_eq_true h.1,decide_eq_true h.2.1,h.2.2] at cc;obtain⟨c,hc,hsb⟩:=first_is (x:=x) (t:=[some (.d (.str x)),none]) (S:=S) (i:=0) rfl hz h.1;have c4:zL (dT (zK .Eq (zH (zf 0) (zi (.int 0))) (zi (.str "0")))) (dT (zK .NotEq (zf 0) (zi (.str "0")))) [some (.d (.str x)),none] S= .ok (decide ((tl x).head? =some 48/\1<x.length)) S:=by
   refine(and_eq (k:=decide ((tl x).head? =some 48)) (S1:=S) (jl ((xr hsb (v:=.d (.str "0")) (S2:=S) rfl).trans ?_))).trans ?_
   ·refine K02.zk2.trans ?_;congr 3;rw [zfo,hc];by_cases e:c=48
    ·rw [e];simp
    ·have:¬(sep c=sep 48):=λz=>e (by have:=congrArg tl z;injection this)
     simp [e,this]
   ·by_cases e:(tl x).head? =some 48
    ·rw [decide_eq_true e,if_pos rfl];have cn:Vj .NotEq (.d (.str x)) (.d (.str "0")) S= .ok (.d (.bl (!(x=="0")))) S:=rfl;refine(jl ((xr (w:=.d (.str x)) (v:=.d (.str "0")) (S1:=S) (S2:=S) rfl rfl).trans cn)).trans ?_;congr 1;rw [La,decide_eq_true_iff,yN,beq_eq_false_iff_ne,zfo];constructor
     ·intro ne;refine⟨e,?_⟩;cases q:tl x with
      |nil=>rw [q] at e;cases e
      |cons a r=>
       rw [q] at e;have ha:a=48:=Option.some.inj e;cases r with
       |nil=>exact absurd (Xe (by rw [q,ha])) ne
       |cons b r=>rw [xj,q];simp
     ·rintro⟨_,l⟩ z;rw [z] at l;exact absurd l (by decide)
    ·rw [decide_eq_false e,if_neg (by decide),decide_eq_false λz=>e z.1]
  have fin:dIf (zL (dT (zK .Eq (zH (zf 0) (zi (.int 0))) (zi (.str "0")))) (dT (zK .NotEq (zf 0) (zi (.str "0"))))) (zi .non) (zh zcL (za (zf 0) zo)) [some (.d (.str x)),none] S= .ok (.d (optN x)) S:=by
   unfold dIf;rw [c4,zB];by_cases hh:(tl x).head? =some 48/\1<x.length
   ·rw [decide_eq_true hh,if_pos rfl];have r:xq x=none:=by unfold xq;rw [if_neg λz=>z.2.2.2 hh]
    unfold optN;rw [r];rfl
   ·rw [decide_eq_false hh,if_neg (by decide)];have r:xq x=some (NumText.digitsVal (tl x)):=by unfold xq;rw [if_pos ⟨h.1,h.2.1,h.2.2,hh⟩]
    have ri:=zcY r;unfold optN;rw [r];refine(qV (S1:=S) (w:=.d (.str x)) rfl).trans ?_;unfold zcL;dsimp only;rw [ri.1];dsimp only;rw [if_pos ri.2]
  have:=kD (n:=2) (m:=xN) (ws:=[.d (.str x)]) (S:=S) (S':=S) (t:=[some (.d (.str x)),none]) (x:=optN x) rfl ?_
  ·rw [this,lh]
  ·unfold xN;rw [vj cc];exact jq fin
 ·have cf:(!(decide (1<=x.length)&&(decide (x.length<=13)&&(tl x).all vQ)))=true:=by rw [yN,yE];intro z;rw [lG,lG,decide_eq_true_eq,decide_eq_true_eq] at z;exact h z
  rw [cf] at cc;have r:xq x=none:=by unfold xq;rw [if_neg λz=>h ⟨z.1,z.2.1,z.2.2.1⟩]
  have:=kD (n:=2) (m:=xN) (ws:=[.d (.str x)]) (S:=S) (S':=S) (t:=[some (.d (.str x)),none]) (x:=optN x) rfl ?_
  ·rw [this,lh]
  ·unfold xN;rw [jW cc];unfold optN;rw [r];rfl
end
def Z0(x:Str):Option D:=match xq (Txt.partition (Txt.partition x (sep 61)).2.2 (sep 47)).1,xq (Txt.partition (Txt.partition x (sep 61)).2.2 (sep 47)).2.2 with
 |some i,some j=>some (.tup [.str (Txt.partition x (sep 61)).1,.int (i:Int),.int (j:Int)])
 |_,_=>none
def jQ(x:Str):D:=.tup (.str (Txt.partition x (sep 61)).1::(Txt.split (Txt.partition x (sep 61)).2.2 (sep 47)).map optN)
def va(x:Str):Option D:=match xq (Txt.partition x (sep 42)).2.2 with
 |some k=>some (.tup [.str (Txt.partition x (sep 42)).1,.int (k:Int)])
 |none=>none
def jv(x:Str):D:=.tup [.str (Txt.partition x (sep 42)).1,optN (Txt.partition x (sep 42)).2.2]
theorem J9{x:Str}{i:Int}(h:optN x= .int i):∃n:Nat,xq x=some n/\i=n:=by
 unfold optN at h;cases q:xq x with
 |none=>rw [q] at h;cases h
 |some n=>rw [q] at h;injection h with h;exact⟨n,rfl,h.symm⟩
theorem QB{x:Str}{n:Nat}(h:xq x=some n):optN x= .int (n:Int):=by unfold optN;rw [h]
theorem zjP{x:Str}{d:D}(h:Z0 x=some d):jQ x=d/\∃s i j,d= .tup [.str s,.int i,.int j]:=by
 obtain⟨p,r,e,hp,hr,hx⟩:=xY (c:=61) (by decide) x;obtain⟨a,q,e2,ha,hq,hx2⟩:=xY (c:=47) (by decide) (Txt.join (sep 61) r);have p1:Txt.partition x (sep 61)=(p,(if r= [] then Str.empty else sep 61),Txt.join (sep 61) r):=by rw [hx];exact vo hp
 have p2:Txt.partition (Txt.join (sep 61) r) (sep 47)=(a,(if q= [] then Str.empty else sep 47),Txt.join (sep 47) q):=by rw [hx2];exact vo ha
 unfold Z0 at h;unfold jQ;rw [p1] at h⊢;dsimp only at h⊢;rw [p2] at h;rw [e2];dsimp only at h;cases ra:xq a with
 |none=>rw [ra] at h;cases h
 |some i=>
  cases rb:xq (Txt.join (sep 47) q) with
  |none=>rw [ra,rb] at h;cases h
  |some j=>
   rw [ra,rb] at h;injection h with h
   match q,rb with
   | [],rb=>rw [join_nil,Jm] at rb;cases rb
   | [b],rb=>
     rw [join_one] at rb;refine⟨?_,p,i,j,h.symm⟩;rw [<-h,lU,lU,QB ra,QB rb];rfl
   |b::c::q,rb=>
    rw [zbK (c:=47) (by decide) (by rw [xb,zY,zY];simp)] at rb;cases rb
theorem zjj{x:Str}{s:Str}{i j:Int}(h:jQ x= .tup [.str s,.int i,.int j]):Z0 x=some (.tup [.str s,.int i,.int j]):=by
 obtain⟨p,r,e,hp,hr,hx⟩:=xY (c:=61) (by decide) x;obtain⟨a,q,e2,ha,hq,hx2⟩:=xY (c:=47) (by decide) (Txt.join (sep 61) r);have p1:Txt.partition x (sep 61)=(p,(if r= [] then Str.empty else sep 61),Txt.join (sep 61) r):=by rw [hx];exact vo hp
 have p2:Txt.partition (Txt.join (sep 61) r) (sep 47)=(a,(if q= [] then Str.empty else sep 47),Txt.join (sep 47) q):=by rw [hx2];exact vo ha
 unfold jQ at h;unfold Z0;rw [p1] at h⊢;dsimp only at h⊢;rw [p2];rw [e2] at h;dsimp only;injection h with h
 rw [lU] at h;injection h with h1 h
 injection h with h2 h
 injection h1 with h1
 obtain⟨n,rn,rfl⟩:=J9 h2
 match q,h with
 | [],h=>cases h
 |b::q,h=>
  rw [lU] at h;injection h with h3 h
  match q,h with
  | [],_=>
    obtain⟨m,rm,rfl⟩:=J9 h3;rw [join_one,rn,rm,h1]
  |_::_,h=>cases h
theorem zhj{x:Str}{d:D}(h:va x=some d):jv x=d/\∃s i,d= .tup [.str s,.int i]:=by
 unfold va at h;unfold jv;cases q:xq (Txt.partition x (sep 42)).2.2 with
 |none=>rw [q] at h;cases h
 |some k=>
  rw [q] at h;injection h with h
  exact⟨by rw [<-h,QB q],_,_,h.symm⟩
theorem zhl{x:Str}{s:Str}{i:Int}(h:jv x= .tup [.str s,.int i]):va x=some (.tup [.str s,.int i]):=by
 unfold jv at h;unfold va;injection h with h
 injection h with h1 h
 injection h with h2 _
 obtain⟨n,rn,rfl⟩:=J9 h2;rw [rn,h1]
def Qe(f:Str->Option D):List Str->Option (List D)
 | []=>some []
 |x::r=>match f x,Qe f r with
  |some d,some ds=>some (d::ds)
  |_,_=>none
theorem zaA{f:Str->Option D}:∀{xs:List Str} {ds:List D},Qe f xs=some ds->ds.length=xs.length
 | [],ds,h=>by cases h;rfl
 |x::r,ds,h=>by
  unfold Qe at h;cases q:f x with
  |none=>rw [q] at h;cases h
  |some d=>
   cases q2:Qe f r with
   |none=>rw [q,q2] at h;cases h
   |some es=>
    rw [q,q2] at h;cases h;rw [lO,lO,zaA q2]
theorem zcK{f:Str->Option D}{g:Str->D}(h:∀x d,f x=some d->g x=d):∀{xs:List Str} {ds:List D},Qe f xs=some ds->xs.map g=ds
 | [],ds,e=>by cases e;rfl
 |x::r,ds,e=>by
  unfold Qe at e;cases q:f x with
  |none=>rw [q] at e;cases e
  |some d=>
   cases q2:Qe f r with
   |none=>rw [q,q2] at e;cases e
   |some es=>
    rw [q,q2] at e;cases e;rw [lU,h x d q,zcK h q2]
theorem zcR{f:Str->Option D}{g:Str->D}:∀{xs:List Str},(∀x∈xs,f x=some (g x))->Qe f xs=some (xs.map g)
 | [],_=>rfl
 |x::r,h=>by unfold Qe;rw [h x lC,zcR λy hy=>h y (lA _ hy)];rfl
theorem zac{f:Str->Option D}:∀{xs:List Str} {ds:List D},Qe f xs=some ds->∀d∈ds,∃x∈xs,f x=some d
 | [],ds,e,d,hd=>by cases e;cases hd
 |x::r,ds,e,d,hd=>by
  unfold Qe at e;cases q:f x with
  |none=>rw [q] at e;cases e
  |some d0=>
   cases q2:Qe f r with
   |none=>rw [q,q2] at e;cases e
   |some es=>
    rw [q,q2] at e;cases e;rcases lu.mp hd with rfl|hd
    ·exact⟨x,lC,q⟩
    ·obtain⟨y,hy,e⟩:=zac q2 d hd;exact⟨y,lA _ hy,e⟩
def Zz(rs cs:List D)(m:Nat):D:=.tup [.tup rs,.tup cs,.int (m:Int)]
def XY(a b c:Str):Option D:=match Qe Z0 (Txt.split a (sep 44)),Qe va (Txt.split b (sep 44)),xq c with
 |some rs,some cs,some m=>if xD (Zz rs cs m)=true then some (Zz rs cs m) else none
 |_,_,_=>none
def zjL:List Str->Option D
 | [a,b,c]=>XY a b c
 |_=>none
def vI(t:Str):Option D:=zjL (Txt.split t (sep 32))
def V8:D->Option D
 | .str t=>vI t
 |_=>none
section
variable {S:Sto}
theorem vE{o a:M}{t:DS}{x:Str}{c:Nat}(h:o t S= .ok (.d (.str x)) S)(h2:a t S= .ok (.d (.str (sep c))) S)(hz:x.length+2<=sizeLine):qY o a t S= .ok (.d (.lst ((Txt.split x (sep c)).map D.str))) S:=by unfold qY;rw [h,zB];dsimp only;rw [h2,zB];dsimp only;rw [if_pos ⟨rfl,hz⟩]
theorem zcP{o a:M}{t:DS}{x:Str}{c:Nat}(h:o t S= .ok (.d (.str x)) S)(h2:a t S= .ok (.d (.str (sep c))) S)(hz:x.length<=sizeLine):zbI o a t S= .ok (.d (.tup [.str (Txt.partition x (sep c)).1,.str (Txt.partition x (sep c)).2.1,.str (Txt.partition x (sep c)).2.2])) S:=by unfold zbI;rw [h,zB];dsimp only;rw [h2,zB];dsimp only;rw [if_pos ⟨rfl,hz⟩]
theorem zep{x:D}(hx:∀t,x= .str t->t.length+2<=sizeLine):kt [.d x] S=match x with| .str t=>.ok (.d (.lst ((Txt.split t (sep 32)).map D.str))) S|_=>.exc noT S:=by
 rw [KW]
 have other:(∀t,x≠ .str t)->zy (dT (qM .str (zf 0))) [some (.d x)] S= .ok true S->fnD 1 kP [.d x] S= .exc noT S:=λ_ h=>by
  have:=XS (n:=1) (m:=kP) (ws:=[.d x]) (S:=S) (S':=S) (t:=[some (.d x)]) (t':=[some (.d x)]) (x:=noT) rfl ?_
  ·rw [this,lh]
  ·unfold kP;exact Jr h
 cases x with
 |str t=>
  have:=kD (n:=1) (m:=kP) (ws:=[.d (.str t)]) (S:=S) (S':=S) (t:=[some (.d (.str t))]) (x:=.lst ((Txt.split t (sep 32)).map D.str)) rfl ?_
  ·rw [this,lh]
  ·unfold kP;rw [Ja rfl];exact zc0 (vE rfl (by rw [<-QI];rfl) (hx t rfl))
 |non=>exact other (λ_ z=>nomatch z) rfl
 |bl b=>exact other (λ_ z=>nomatch z) rfl
 |int i=>exact other (λ_ z=>nomatch z) rfl
 |tup l=>exact other (λ_ z=>nomatch z) rfl
 |lst l=>exact other (λ_ z=>nomatch z) rfl
theorem Xk{n c:Nat}(hc:c<256){x:Str}(h:gT n x):gT n (Txt.partition x (sep c)).1/\gT n (Txt.partition x (sep c)).2.2:=by obtain⟨p,r,e,hp,hr,hx⟩:=xY hc x;rw [hx] at h⊢;rw [vo hp];exact⟨zeY h,zco h⟩
theorem zcp{n:Nat}(hn:n<=90000){x:Str}(h:gT n x):vB [.d (.str x)] S=match Z0 x with|some d=>.ok (.d d) S|none=>.exc noT S:=by
 rw [JH];have sz:90000<=sizeLine:=by rw [sizeLine_eq];decide
 have h1:=Xk (c:=61) (by decide) h;have h2:=Xk (c:=47) (by decide) h1.2;have e1:=zcP (o:=zf 0) (a:=zi (.str "=")) (t:=[some (.d (.str x)),none,none,none,none,none,none]) (S:=S) (x:=x) (c:=61) rfl (by rw [<-zmA];rfl) (by have:=h.1;omega);have r1:=vU (x:=(Txt.partition (Txt.partition x (sep 61)).2.2 (sep 47)).1) (S:=S) (by have:=h2.1.1;omega);have r2:=vU (x:=(Txt.partition (Txt.partition x (sep 61)).2.2 (sep 47)).2.2) (S:=S) (by have:=h2.2.1;omega);unfold Z0;generalize hA:Txt.partition x (sep 61)=A at*;obtain⟨nm,sg,rate⟩:=A;have e2:=zcP (o:=zf 3) (a:=zi (.str "/")) (t:=[some (.d (.str x)),some (.d (.str nm)),some (.d (.str sg)),some (.d (.str rate)),none,none,none]) (S:=S) (x:=rate) (c:=47) rfl (by rw [<-J3];rfl) (by have:=h1.2.1;dsimp only at this;omega);dsimp only at r1 r2⊢;generalize hB:Txt.partition rate (sep 47)=B at*;obtain⟨pe,st,da⟩:=B;dsimp only at r1 r2 e1 e2⊢;have s1:zg (nxS (zN (zbI (zf 0) (zi (.str "="))) (gTp 3 (zX (gN 1) (zX (gN 2) (zX (gN 3) vD))))))=λm t S=>zg (nxS (zN (zbI (zf 0) (zi (.str "="))) (gTp 3 (zX (gN 1) (zX (gN 2) (zX (gN 3) vD)))))) m t S:=rfl
 have body:∀r:SR,zU (qz (za (zf 1) (za (zh zw (za (zf 4) zo)) (za (zh zw (za (zf 6) zo)) zo)))) [some (.d (.str x)),some (.d (.str nm)),some (.d (.str sg)),some (.d (.str rate)),some (.d (.str pe)),some (.d (.str st)),some (.d (.str da))] S=r->(∀t S,r≠ .nx t S)->j9 [some (.d (.str x)),none,none,none,none,none,none] S=r:=λr hr hnx=>by unfold j9;rw [Jt e1 (t1:=[some (.d (.str x)),some (.d (.str nm)),some (.d (.str sg)),some (.d (.str rate)),none,none,none]) rfl];rw [Jt e2 (t1:=[some (.d (.str x)),some (.d (.str nm)),some (.d (.str sg)),some (.d (.str rate)),some (.d (.str pe)),some (.d (.str st)),some (.d (.str da))]) rfl];unfold zg;rw [hr];cases r <;> first|rfl|exact absurd rfl (hnx _ _)
 cases q1:xq pe with
 |none=>
  rw [q1] at r1;have:=XS (n:=7) (m:=j9) (ws:=[.d (.str x)]) (S:=S) (S':=S) (t:=[some (.d (.str x)),none,none,none,none,none,none]) (t':=[some (.d (.str x)),some (.d (.str nm)),some (.d (.str sg)),some (.d (.str rate)),some (.d (.str pe)),some (.d (.str st)),some (.d (.str da))]) (x:=noT) rfl (body _ (zcr ?_) λ_ _ z=>nomatch z)
  ·rw [this,lh]
  ·unfold qz za;have v1:zf 1 [some (.d (.str x)),some (.d (.str nm)),some (.d (.str sg)),some (.d (.str rate)),some (.d (.str pe)),some (.d (.str st)),some (.d (.str da))] S= .ok (.d (.str nm)) S:=rfl;rw [v1,zB];have c1:zh zw (za (zf 4) zo) [some (.d (.str x)),some (.d (.str nm)),some (.d (.str sg)),some (.d (.str rate)),some (.d (.str pe)),some (.d (.str st)),some (.d (.str da))] S= .exc noT S:=(qV (S1:=S) (w:=.d (.str pe)) rfl).trans r1;unfold za at c1;rw [c1];rfl
 |some i=>
  rw [q1] at r1;have c1:zh zw (za (zf 4) zo) [some (.d (.str x)),some (.d (.str nm)),some (.d (.str sg)),some (.d (.str rate)),some (.d (.str pe)),some (.d (.str st)),some (.d (.str da))] S= .ok (.d (.int (i:Int))) S:=(qV (S1:=S) (w:=.d (.str pe)) rfl).trans r1;cases q2:xq da with
  |none=>
   rw [q2] at r2;have:=XS (n:=7) (m:=j9) (ws:=[.d (.str x)]) (S:=S) (S':=S) (t:=[some (.d (.str x)),none,none,none,none,none,none]) (t':=[some (.d (.str x)),some (.d (.str nm)),some (.d (.str sg)),some (.d (.str rate)),some (.d (.str pe)),some (.d (.str st)),some (.d (.str da))]) (x:=noT) rfl (body _ (zcr ?_) λ_ _ z=>nomatch z)
   ·rw [this,lh]
   ·have c2:zh zw (za (zf 6) zo) [some (.d (.str x)),some (.d (.str nm)),some (.d (.str sg)),some (.d (.str rate)),some (.d (.str pe)),some (.d (.str st)),some (.d (.str da))] S= .exc noT S:=(qV (S1:=S) (w:=.d (.str da)) rfl).trans r2;have v1:zf 1 [some (.d (.str x)),some (.d (.str nm)),some (.d (.str sg)),some (.d (.str rate)),some (.d (.str pe)),some (.d (.str st)),some (.d (.str da))] S= .ok (.d (.str nm)) S:=rfl;generalize zh zw (za (zf 4) zo)=m1 at c1⊢;generalize zh zw (za (zf 6) zo)=m2 at c2⊢;unfold qz za;rw [v1,zB,c1,zB,c2];rfl
  |some j=>
   rw [q2] at r2;have:=kD (n:=7) (m:=j9) (ws:=[.d (.str x)]) (S:=S) (S':=S) (t:=[some (.d (.str x)),none,none,none,none,none,none]) (x:=.tup [.str nm,.int (i:Int),.int (j:Int)]) rfl (body _ (ziN ?_) λ_ _ z=>nomatch z)
   ·rw [this,lh]
   ·have c2:zh zw (za (zf 6) zo) [some (.d (.str x)),some (.d (.str nm)),some (.d (.str sg)),some (.d (.str rate)),some (.d (.str pe)),some (.d (.str st)),some (.d (.str da))] S= .ok (.d (.int (j:Int))) S:=(qV (S1:=S) (w:=.d (.str da)) rfl).trans r2;have v1:zf 1 [some (.d (.str x)),some (.d (.str nm)),some (.d (.str sg)),some (.d (.str rate)),some (.d (.str pe)),some (.d (.str st)),some (.d (.str da))] S= .ok (.d (.str nm)) S:=rfl;generalize zh zw (za (zf 4) zo)=m1 at c1⊢;generalize zh zw (za (zf 6) zo)=m2 at c2⊢;unfold qz za;rw [v1,zB,c1,zB,c2];rfl
theorem zbi{n:Nat}(hn:n<=90000){x:Str}(h:gT n x):kQ [.d (.str x)] S=match va x with|some d=>.ok (.d d) S|none=>.exc noT S:=by
 rw [XW];have sz:90000<=sizeLine:=by rw [sizeLine_eq];decide
 have h1:=Xk (c:=42) (by decide) h;have e1:=zcP (o:=zf 0) (a:=zi (.str "*")) (t:=[some (.d (.str x)),none,none,none]) (S:=S) (x:=x) (c:=42) rfl (by rw [<-za7];rfl) (by have:=h.1;omega);have r1:=vU (x:=(Txt.partition x (sep 42)).2.2) (S:=S) (by have:=h1.2.1;omega);unfold va;generalize hA:Txt.partition x (sep 42)=A at*;obtain⟨nm,sg,rest⟩:=A;dsimp only at r1 e1⊢;have v1:zf 1 [some (.d (.str x)),some (.d (.str nm)),some (.d (.str sg)),some (.d (.str rest))] S= .ok (.d (.str nm)) S:=rfl;cases q1:xq rest with
 |none=>
  rw [q1] at r1;have c1:zh zw (za (zf 3) zo) [some (.d (.str x)),some (.d (.str nm)),some (.d (.str sg)),some (.d (.str rest))] S= .exc noT S:=(qV (S1:=S) (w:=.d (.str rest)) rfl).trans r1;have:=XS (n:=4) (m:=j8) (ws:=[.d (.str x)]) (S:=S) (S':=S) (t:=[some (.d (.str x)),none,none,none]) (t':=[some (.d (.str x)),some (.d (.str nm)),some (.d (.str sg)),some (.d (.str rest))]) (x:=noT) rfl ?_
  ·rw [this,lh]
  ·unfold j8;rw [Jt e1 (t1:=[some (.d (.str x)),some (.d (.str nm)),some (.d (.str sg)),some (.d (.str rest))]) rfl];generalize zh zw (za (zf 3) zo)=m1 at c1⊢;refine X1 (zcr ?_);unfold qz za;rw [v1,zB,c1];rfl
 |some i=>
  rw [q1] at r1;have c1:zh zw (za (zf 3) zo) [some (.d (.str x)),some (.d (.str nm)),some (.d (.str sg)),some (.d (.str rest))] S= .ok (.d (.int (i:Int))) S:=(qV (S1:=S) (w:=.d (.str rest)) rfl).trans r1;have:=kD (n:=4) (m:=j8) (ws:=[.d (.str x)]) (S:=S) (S':=S) (t:=[some (.d (.str x)),none,none,none]) (x:=.tup [.str nm,.int (i:Int)]) rfl ?_
  ·rw [this,lh]
  ·unfold j8;rw [Jt e1 (t1:=[some (.d (.str x)),some (.d (.str nm)),some (.d (.str sg)),some (.d (.str rest))]) rfl];generalize zh zw (za (zf 3) zo)=m1 at c1⊢;exact jq (Zw v1 c1)
end
theorem zix{i:Nat}{me:M}{t:DS}{S:Sto}{f:Str->Option D}:∀(xs:List Str) (acc:List D),(∀x∈xs,∃t1,gN i (.d (.str x)) t=some t1/\me t1 S=match f x with|some d=>.ok (.d d) S|none=>.exc noT S)->acc.length+xs.length<=sizeLine->
 lcX (gN i) vG me (xs.map D.str) t S acc=match Qe f xs with|some ds=>.ok (acc++ds) S|none=>.exc noT S
 | [],acc,_,_=>by show Res.ok acc S=Res.ok (acc++ []) S;rw [yn]
 |x::xs,acc,h,hl=>by
  obtain⟨t1,e1,e2⟩:=h x lC;rw [lO] at hl;rw [lU];unfold lcX Qe;rw [e1];dsimp only;have y:vG t1 S= .ok true S:=rfl;rw [y];dsimp only;rw [e2];cases q:f x with
  |none=>rfl
  |some d=>
   dsimp only;rw [if_pos (by omega),zix xs (acc++ [d]) (λz hz=>h z (lA _ hz)) (by rw [lH];simp only [lO,yh];omega)];cases q2:Qe f xs with
   |none=>rfl
   |some ds=>
    dsimp only;rw [yD];rfl
theorem zf0{i:Nat}{mi:MIs}{me:M}{t:DS}{S:Sto}{f:Str->Option D}{xs:List Str}(hi:mi t S= .ok (xs.map D.str) S)(h:∀x∈xs,∃t1,gN i (.d (.str x)) (kJ t [i])=some t1/\me t1 S=match f x with|some d=>.ok (.d d) S|none=>.exc noT S)(hl:xs.length<=sizeLine):
 zh xI (za (ziE [i] mi (gN i) vG me) zo) t S=match Qe f xs with|some ds=>.ok (.d (.tup ds)) S|none=>.exc noT S:=by
 have k:ziE [i] mi (gN i) vG me t S=match Qe f xs with|some ds=>.ok (.d (.lst ds)) S|none=>.exc noT S:=by unfold ziE;rw [hi,zB,zix xs [] h (by simpa using hl)];cases Qe f xs <;> rfl
 cases q:Qe f xs with
 |none=>
  rw [q] at k;unfold zh za;rw [k];rfl
 |some ds=>
  rw [q] at k;exact(qV k).trans rfl
theorem zkx{n:Nat}{x:Str}{d:D}(h:gT n x)(e:Z0 x=some d):Gd (n+3) 1 d:=by
 have h1:=(Xk (c:=61) (by decide) h).1;unfold Z0 at e;split at e
 ·cases e;refine .tup (by simp) λz hz=>?_
  simp only [lu,lP,or_false] at hz;rcases hz with rfl|rfl|rfl
  ·exact .str (by have:=h1.1;omega) h1.2
  ·exact .int _
  ·exact .int _
 ·cases e
theorem zh9{n:Nat}{x:Str}{d:D}(h:gT n x)(e:va x=some d):Gd (n+3) 1 d:=by
 have h1:=(Xk (c:=42) (by decide) h).1;unfold va at e;split at e
 ·cases e;refine .tup (by simp) λz hz=>?_
  simp only [lu,lP,or_false] at hz;rcases hz with rfl|rfl
  ·exact .str (by have:=h1.1;omega) h1.2
  ·exact .int _
 ·cases e
theorem zl4{n m:Nat}{a b:Str}{rs cs:List D}(ha:gT n a)(hb:gT n b)(e1:Qe Z0 (Txt.split a (sep 44))=some rs)(e2:Qe va (Txt.split b (sep 44))=some cs):Gd (n+3) 3 (Zz rs cs m):=by
 have l1:=split_len (c:=44) (by decide) ha;have l2:=split_len (c:=44) (by decide) hb;have m1:=zaA e1;have m2:=zaA e2;refine .tup (by simp) λz hz=>?_
 simp only [lu,lP,or_false] at hz;rcases hz with rfl|rfl|rfl
 ·refine .tup (by omega) λd hd=>?_
  obtain⟨x,hx,e⟩:=zac e1 d hd;exact(zkx (kh (by decide) ha x hx) e)
 ·refine .tup (by omega) λd hd=>?_
  obtain⟨x,hx,e⟩:=zac e2 d hd;exact(zh9 (kh (by decide) hb x hx) e)
 ·exact .int _
theorem no3:∀w:List Str,w.length≠3->zjL w=none
 | [],_=>rfl
 | [_],_=>rfl
 | [_,_],_=>rfl
 | [_,_,_],h=>absurd rfl h
 |_::_::_::_::_,_=>rfl
abbrev raT(x:D)(z1 z2 z3 z4:Option W):DS:=[some (.d x),z1,z2,z3,z4,none]
abbrev raR:M:=zh xI (za (ziE [5] (ql (nxE (qY (zH (zf 1) (zi (.int 0))) (zi (.str ","))))) (gN 5) vG (zh vB (za (zf 5) zo))) zo)
abbrev raC:M:=zh xI (za (ziE [5] (ql (nxE (qY (zH (zf 1) (zi (.int 1))) (zi (.str ","))))) (gN 5) vG (zh kQ (za (zf 5) zo))) zo)
abbrev raA:M:=qz (za (zf 2) (za (zf 3) (za (zh zw (za (nxE (zH (zf 1) (zi (.int 2)))) zo)) zo)))
theorem zcD:qf=zg (zN (zh kt (za (zf 0) zo)) (gN 1)) (zg (sIf (nxT (dT (zK .NotEq (zh qg (za (zf 1) zo)) (zi (.int 3))))) (zg (vL "NoText" (za (zi (.str "articles are ranks, chests and a month")) zo)) zr) zr) (zg (zN raR (gN 2)) (zg (zN raC (gN 3)) (zg (zN raA (gN 4)) (zg (sIf (nxT (zy (dT (zh (noX qy) (za (zf 4) zo))))) (zg (vL "NoText" (za (zi (.str "these are no articles")) zo)) zr) zr) (zg (nxS (zU (zf 4))) zr)))))):=by kernel_rfl
theorem KP{n:Nat}(hn:n<=90000){x:D}(hx:∀t,x= .str t->gT n t)(S:Sto):jr [.d x] S=match V8 x with|some a=>.ok (.d a) S|none=>.exc noT S:=by
 rw [Qh];have sz:99999<=sizeLine:=by rw [sizeLine_eq];decide
 have hw:=zep (x:=x) (S:=S) λt e=>by have:=(hx t e).1;omega
 have exc:∀t',qf (raT x none none none none) S= .exc noT t' S->fnD 6 qf [.d x] S= .exc noT S:=λt' h=>by have:=XS (n:=6) (m:=qf) (ws:=[.d x]) (S:=S) (S':=S) (t:=raT x none none none none) rfl h;rw [this,lh]
 have other:kt [.d x] S= .exc noT S->fnD 6 qf [.d x] S= .exc noT S:=λh=>exc (raT x none none none none) (by rw [zcD];exact X1 (Jn ((qV (S1:=S) (w:=.d x) rfl).trans h)))
 cases x with
 |non=>exact other hw
 |bl b=>exact other hw
 |int i=>exact other hw
 |tup l=>exact other hw
 |lst l=>exact other hw
 |str t=>
  have ht:=hx t rfl;dsimp only at hw;show _=match vI t with|some a=>Res.ok (W.d a) S|none=>.exc noT S
  have k1:zh kt (za (zf 0) zo) (raT (.str t) none none none none) S= .ok (.d (.lst ((Txt.split t (sep 32)).map D.str))) S:=(qV (S1:=S) (w:=.d (.str t)) rfl).trans hw;have sg:=kh (c:=32) (by decide) ht;unfold vI;generalize Txt.split t (sep 32)=w at*;have k2:dT (zK .NotEq (zh qg (za (zf 1) zo)) (zi (.int 3))) (raT (.str t) (some (.d (.lst (w.map D.str)))) none none none) S= .ok (!((w.length:Int)==3)) S:=by
   have l:zh qg (za (zf 1) zo) (raT (.str t) (some (.d (.lst (w.map D.str)))) none none none) S= .ok (.d (.int (w.length:Int))) S:=by refine(qV (S1:=S) (w:=.d (.lst (w.map D.str))) rfl).trans ?_;show Res.ok (W.d (.int ((w.map D.str).length:Int))) S=_;rw [lB]
   exact jl ((xr l (v:=.d (.int 3)) (S2:=S) rfl).trans Ku)
  by_cases h3:w.length=3
  ·match w,h3 with
   | [a,b,c],_=>
     have ga:=sg a (by simp);have gb:=sg b (by simp);have gc:=sg c (by simp);have k2:dT (zK .NotEq (zh qg (za (zf 1) zo)) (zi (.int 3))) (raT (.str t) (some (.d (.lst [.str a,.str b,.str c]))) none none none) S= .ok false S:=k2;have k1:zh kt (za (zf 0) zo) (raT (.str t) none none none none) S= .ok (.d (.lst [.str a,.str b,.str c])) S:=k1;show _=match XY a b c with|some a=>Res.ok (W.d a) S|none=>.exc noT S
     unfold XY;have to2:∀r:MSt->SR,(∀m,zg (zN raR (gN 2)) m (raT (.str t) (some (.d (.lst [.str a,.str b,.str c]))) none none none) S=r m)->qf (raT (.str t) none none none none) S=r (zg (zN raC (gN 3)) (zg (zN raA (gN 4)) (zg (sIf (nxT (zy (dT (zh (noX qy) (za (zf 4) zo))))) (zg (vL "NoText" (za (zi (.str "these are no articles")) zo)) zr) zr) (zg (nxS (zU (zf 4))) zr)))):=λr h=>by rw [zcD,qo k1 (t1:=raT (.str t) (some (.d (.lst [.str a,.str b,.str c]))) none none none) rfl,Ja k2];exact h _
     have i1:ql (nxE (qY (zH (zf 1) (zi (.int 0))) (zi (.str ",")))) (raT (.str t) (some (.d (.lst [.str a,.str b,.str c]))) none none none) S= .ok ((Txt.split a (sep 44)).map D.str) S:=qJ (zne (vE (x:=a) rfl (by rw [<-Qw];rfl) (by have:=ga.1;omega)))
     have rk:raR (raT (.str t) (some (.d (.lst [.str a,.str b,.str c]))) none none none) S=match Qe Z0 (Txt.split a (sep 44)) with|some ds=>.ok (.d (.tup ds)) S|none=>.exc noT S:=
      zf0 i1 (λy hy=>⟨[some (.d (.str t)),some (.d (.lst [.str a,.str b,.str c])),none,none,none,some (.d (.str y))],rfl,(qV (S1:=S) (w:=.d (.str y)) rfl).trans (zcp hn (kh (by decide) ga y hy))⟩) (by have:=split_len (c:=44) (by decide) ga;omega)
     cases qr:Qe Z0 (Txt.split a (sep 44)) with
     |none=>
      rw [qr] at rk;exact exc _ (to2 _ λm=>X1 (Jn rk))
     |some rs=>
      rw [qr] at rk;have i2:ql (nxE (qY (zH (zf 1) (zi (.int 1))) (zi (.str ",")))) (raT (.str t) (some (.d (.lst [.str a,.str b,.str c]))) (some (.d (.tup rs))) none none) S= .ok ((Txt.split b (sep 44)).map D.str) S:=qJ (zne (vE (x:=b) rfl (by rw [<-Qw];rfl) (by have:=gb.1;omega)))
      have ck:raC (raT (.str t) (some (.d (.lst [.str a,.str b,.str c]))) (some (.d (.tup rs))) none none) S=match Qe va (Txt.split b (sep 44)) with|some ds=>.ok (.d (.tup ds)) S|none=>.exc noT S:=
       zf0 i2 (λy hy=>⟨[some (.d (.str t)),some (.d (.lst [.str a,.str b,.str c])),some (.d (.tup rs)),none,none,some (.d (.str y))],rfl,(qV (S1:=S) (w:=.d (.str y)) rfl).trans (zbi hn (kh (by decide) gb y hy))⟩) (by have:=split_len (c:=44) (by decide) gb;omega)
      have to3:∀r:MSt->SR,(∀m,zg (zN raC (gN 3)) m (raT (.str t) (some (.d (.lst [.str a,.str b,.str c]))) (some (.d (.tup rs))) none none) S=r m)->qf (raT (.str t) none none none none) S=r (zg (zN raA (gN 4)) (zg (sIf (nxT (zy (dT (zh (noX qy) (za (zf 4) zo))))) (zg (vL "NoText" (za (zi (.str "these are no articles")) zo)) zr) zr) (zg (nxS (zU (zf 4))) zr))):=λr h=>(to2 _ λm=>qo rk (t1:=raT (.str t) (some (.d (.lst [.str a,.str b,.str c]))) (some (.d (.tup rs))) none none) rfl).trans (h _)
      cases qc:Qe va (Txt.split b (sep 44)) with
      |none=>
       rw [qc] at ck;exact exc _ (to3 _ λm=>X1 (Jn ck))
      |some cs=>
       rw [qc] at ck;have rn:=vU (x:=c) (S:=S) (by have:=gc.1;omega);have v2:zf 2 (raT (.str t) (some (.d (.lst [.str a,.str b,.str c]))) (some (.d (.tup rs))) (some (.d (.tup cs))) none) S= .ok (.d (.tup rs)) S:=rfl;have v3:zf 3 (raT (.str t) (some (.d (.lst [.str a,.str b,.str c]))) (some (.d (.tup rs))) (some (.d (.tup cs))) none) S= .ok (.d (.tup cs)) S:=rfl;have cn:zh zw (za (nxE (zH (zf 1) (zi (.int 2)))) zo) (raT (.str t) (some (.d (.lst [.str a,.str b,.str c]))) (some (.d (.tup rs))) (some (.d (.tup cs))) none) S=match xq c with|some n=>.ok (.d (.int (n:Int))) S|none=>.exc noT S:=(qV (zne (S1:=S) (w:=.d (.str c)) rfl)).trans rn
       have to4:∀r:MSt->SR,(∀m,zg (zN raA (gN 4)) m (raT (.str t) (some (.d (.lst [.str a,.str b,.str c]))) (some (.d (.tup rs))) (some (.d (.tup cs))) none) S=r m)->qf (raT (.str t) none none none none) S=r (zg (sIf (nxT (zy (dT (zh (noX qy) (za (zf 4) zo))))) (zg (vL "NoText" (za (zi (.str "these are no articles")) zo)) zr) zr) (zg (nxS (zU (zf 4))) zr)):=λr h=>(to3 _ λm=>qo ck (t1:=raT (.str t) (some (.d (.lst [.str a,.str b,.str c]))) (some (.d (.tup rs))) (some (.d (.tup cs))) none) rfl).trans (h _)
       cases qm:xq c with
       |none=>
        rw [qm] at cn;refine exc _ (to4 _ λm=>X1 (Jn ?_));unfold raA;generalize zh zw (za (nxE (zH (zf 1) (zi (.int 2)))) zo)=m1 at cn⊢;unfold qz za;rw [v2,zB,v3,zB,cn];rfl
       |some m=>
        rw [qm] at cn;have ak:raA (raT (.str t) (some (.d (.lst [.str a,.str b,.str c]))) (some (.d (.tup rs))) (some (.d (.tup cs))) none) S= .ok (.d (Zz rs cs m)) S:=by unfold raA;generalize zh zw (za (nxE (zH (zf 1) (zi (.int 2)))) zo)=m1 at cn⊢;unfold qz za;rw [v2,zB,v3,zB,cn];rfl
        have gi:=xG (Xz (L:=n+3) (by omega) (S:=S) (zl4 (m:=m) ga gb qr qc));have ci:zy (dT (zh (noX qy) (za (zf 4) zo))) (raT (.str t) (some (.d (.lst [.str a,.str b,.str c]))) (some (.d (.tup rs))) (some (.d (.tup cs))) (some (.d (Zz rs cs m)))) S= .ok (!xD (Zz rs cs m)) S:=by generalize noX qy=g at gi⊢;unfold zy;rw [jl ((qV (S1:=S) (w:=.d (Zz rs cs m)) rfl).trans gi)];rfl
        dsimp only;by_cases hA:xD (Zz rs cs m)=true
        ·rw [if_pos hA];rw [hA] at ci;have:=kD (n:=6) (m:=qf) (ws:=[.d (.str t)]) (S:=S) (S':=S) (t:=raT (.str t) none none none none) (x:=Zz rs cs m) rfl ((to4 _ λ_=>qo ak (t1:=raT (.str t) (some (.d (.lst [.str a,.str b,.str c]))) (some (.d (.tup rs))) (some (.d (.tup cs))) (some (.d (Zz rs cs m)))) rfl).trans ?_)
         ·rw [this,lh]
         ·rw [Ja ci];exact zc0 rfl
        ·rw [if_neg hA];rw [yE.mpr hA] at ci;refine exc (raT (.str t) (some (.d (.lst [.str a,.str b,.str c]))) (some (.d (.tup rs))) (some (.d (.tup cs))) (some (.d (Zz rs cs m)))) ((to4 _ λ_=>qo ak (t1:=raT (.str t) (some (.d (.lst [.str a,.str b,.str c]))) (some (.d (.tup rs))) (some (.d (.tup cs))) (some (.d (Zz rs cs m)))) rfl).trans ?_);exact Jr ci
  ·rw [no3 w h3];have e3:(!((w.length:Int)==3))=true:=by rw [yN,beq_eq_false_iff_ne];omega
   rw [e3] at k2;refine exc (raT (.str t) (some (.d (.lst (w.map D.str)))) none none none) ?_;rw [zcD,qo k1 (t1:=raT (.str t) (some (.d (.lst (w.map D.str)))) none none none) rfl];exact Jr k2
abbrev RkR:=Str×Nat×Nat
abbrev ChR:=Str×Nat
def rkD(r:RkR):D:=.tup [.str r.1,.int (r.2.1:Int),.int (r.2.2:Int)]
def chD(r:ChR):D:=.tup [.str r.1,.int (r.2:Int)]
def iS(n:Nat):Str:=Str.ofString (toString ((n:Nat):Int))
def rkT(r:RkR):Str:=r.1++sep 61++iS r.2.1++sep 47++iS r.2.2
def chT(r:ChR):Str:=r.1++sep 42++iS r.2
def Xu(R:List RkR)(C:List ChR)(m:Nat):Str:=Txt.join (sep 44) (R.map rkT)++sep 32++Txt.join (sep 44) (C.map chT)++sep 32++iS m
structure ArtOk (R:List RkR) (C:List ChR) (m:Nat):Prop where
 r1:1<=R.length
 r12:R.length<=12
 c1:1<=C.length
 c6:C.length<=6
 rn:∀r∈R,gdS r.1/\r.2.1<=1000000000/\r.2.2<=1000
 cn:∀r∈C,gdS r.1/\r.2<=1000
 m0:m<=1000
theorem zdG{i:Int}{a b:Int}(h:within (.int i) a b=true)(a0:0<=a):∃n:Nat,i=n/\(n:Int)<=b:=by simp [within] at h;exact⟨i.toNat,by omega,by omega⟩
theorem within_int{x:D}{a b:Int}(h:within x a b=true):∃i,x= .int i:=by cases x <;> first|exact⟨_,rfl⟩|(simp [within] at h)
theorem zf9{s:Str}(h:isName (.str s)=true):gdS s:=by unfold isName at h;dsimp only at h;rw [lG,lG,decide_eq_true_eq,decide_eq_true_eq,yb] at h;exact⟨h.1.1,h.1.2,h.2⟩
theorem zhF{d:D}(h:xH d=true):∃r:RkR,d=rkD r/\gdS r.1/\r.2.1<=1000000000/\r.2.2<=1000:=by
 unfold xH at h;split at h
 ·rename_i a b c;rw [lG,lG] at h;obtain⟨s,rfl⟩:=X2 h.1;obtain⟨i,rfl⟩:=within_int h.2.1;obtain⟨j,rfl⟩:=within_int h.2.2;obtain⟨n,rfl,hn⟩:=zdG h.2.1 (by decide);obtain⟨k,rfl,hk⟩:=zdG h.2.2 (by decide);exact⟨(s,n,k),rfl,zf9 h.1,by show n<=_;omega,by show k<=_;omega⟩
 ·cases h
theorem zgt{d:D}(h:qD d=true):∃r:ChR,d=chD r/\gdS r.1/\r.2<=1000:=by
 unfold qD at h;split at h
 ·rename_i a b;rw [lG] at h;obtain⟨s,rfl⟩:=X2 h.1;obtain⟨i,rfl⟩:=within_int h.2;obtain⟨n,rfl,hn⟩:=zdG h.2 (by decide);exact⟨(s,n),rfl,zf9 h.1,by show n<=_;omega⟩
 ·cases h
theorem zcJ{α:Type}{f:α->D}{p:D->Bool}{q:α->Prop}(h:∀d,p d=true->∃r,d=f r/\q r):∀l:List D,l.all p=true->∃R:List α,l=R.map f/\∀r∈R,q r
 | [],_=>⟨[],rfl,λ_ z=>nomatch z⟩
 |d::l,e=>by
  rw [Lv,lG] at e;obtain⟨r,rfl,hr⟩:=h d e.1;obtain⟨R,rfl,hR⟩:=zcJ h l e.2
  exact⟨r::R,rfl,λx hx=>by
   rcases lu.mp hx with rfl|hx
   ·exact hr
   ·exact hR x hx⟩
theorem J8{x:D}(h:xD x=true):∃R C m,x=Zz (R.map rkD) (C.map chD) m/\ArtOk R C m:=by
 unfold xD at h;split at h
 ·rename_i r c m;rw [lG,lG] at h;obtain⟨h1,h2,h3⟩:=h;unfold jD at h1;split at h1
  ·rename_i xs;rw [lG,lG,lG,decide_eq_true_eq,decide_eq_true_eq] at h1;unfold xQ at h2;split at h2
   ·rename_i ys;rw [lG,lG,lG,decide_eq_true_eq,decide_eq_true_eq] at h2;obtain⟨R,rfl,hR⟩:=zcJ (λd=>zhF) xs h1.1.2;obtain⟨C,rfl,hC⟩:=zcJ (λd=>zgt) ys h2.1.2;obtain⟨i,rfl⟩:=within_int h3;obtain⟨n,rfl,hn⟩:=zdG h3 (by decide);have l1:=h1.1.1;have l2:=h2.1.1;rw [lB] at l1 l2;exact⟨R,C,n,rfl,l1.1,l1.2,l2.1,l2.2,hR,hC,by omega⟩
   ·cases h2
  ·cases h1
 ·cases h
theorem zlp(n:Nat):tl (iS n)=zaL n:=zdr n
theorem ZG{n:Nat}(h:n<=1000000000):(iS n).length<=13:=by rw [xj,zlp];exact zda (by decide) (yJ h (by decide))
theorem qS(c:Nat):(sep c).length=1:=rfl
theorem zfk{r:RkR}(h:gdS r.1/\r.2.1<=1000000000/\r.2.2<=1000):(rkT r).length<=36:=by have a:=ZG h.2.1;have b:=ZG (n:=r.2.2) (by omega);have c:=h.1.2.1;unfold rkT;rw [len_app,len_app,len_app,len_app,qS,qS];omega
theorem zf6{r:ChR}(h:gdS r.1/\r.2<=1000):(chT r).length<=36:=by have b:=ZG (n:=r.2) (by omega);have c:=h.1.2.1;unfold chT;rw [len_app,len_app,qS];omega
theorem ze9{k:Nat}:∀l:List Str,(∀s∈l,s.length<=k)->(l.map (·.length)).sum<=l.length*k
 | [],_=>by simp
 |s::l,h=>by
  have:=ze9 l λx hx=>h x (lA _ hx)
  have h1:=h s lC;rw [lU,Yb,lO,Nat.succ_mul];omega
theorem zab{c k:Nat}:∀l:List Str,(∀s∈l,s.length<=k)->(Txt.join (sep c) l).length<=l.length*(k+1)
 | [],_=>by rw [join_nil];exact yx _
 | [p],h=>by have:=h p lC;rw [join_one];simp only [lO,yh];omega
 |p::q::r,h=>by
  have h1:=h p lC;have ih:=zab (c:=c) (q::r) λs hs=>h s (lA _ hs)
  rw [xb,len_app,len_app,qS,lO,Nat.succ_mul];omega
theorem zcB{R:List RkR}{C:List ChR}{m:Nat}(A:ArtOk R C m):(Txt.join (sep 44) (R.map rkT)).length<=444/\(Txt.join (sep 44) (C.map chT)).length<=222/\(Xu R C m).length<=681:=by
 have a:=zab (c:=44) (k:=36) (R.map rkT) λs hs=>by obtain⟨r,hr,rfl⟩:=lL.mp hs;exact zfk (A.rn r hr)
 have b:=zab (c:=44) (k:=36) (C.map chT) λs hs=>by obtain⟨r,hr,rfl⟩:=lL.mp hs;exact zf6 (A.cn r hr)
 rw [lB] at a b;have r12:=A.r12;have c6:=A.c6;have im:=ZG (n:=m) (by have:=A.m0;omega);have a2:(Txt.join (sep 44) (R.map rkT)).length<=444:=lQ a (by omega);have b2:(Txt.join (sep 44) (C.map chT)).length<=222:=lQ b (by omega);refine⟨a2,b2,?_⟩;unfold Xu;rw [len_app,len_app,len_app,len_app,qS];omega
section
variable {S:Sto} {t:DS}
theorem Zr{a b:M}{x y:Str}(h:a t S= .ok (.d (.str x)) S)(h2:b t S= .ok (.d (.str y)) S)(hl:x.length+y.length<=5000):zz .Add a b t S= .ok (.d (.str (x++y))) S:=by refine(jP h h2).trans ?_;rw [zeP,if_pos (by rw [sizeLine_eq];omega)]
theorem zaN{a:M}{n:Nat}(h:a t S= .ok (.d (.int (n:Int))) S)(hn:n<=1000000000):zh zeq (za a zo) t S= .ok (.d (.str (iS n))) S:=by
 refine(qV h).trans ?_;unfold zeq;dsimp only;rw [if_pos]
 ·rfl
 ·have:Int.natAbs (n:Int)=n:=Int.natAbs_natCast n;rw [this];have h9:n<2^1920:=yJ hn (lM (show 1000000000<2^30 by decide) (Nat.pow_le_pow_right (by decide) (by decide)));by_cases z:n=0
  ·subst z;decide
  ·exact(Nat.log2_lt z).mpr h9
theorem Ke{o a:M}{c:Nat}{l:List Str}(h:o t S= .ok (.d (.str (sep c))) S)(h2:a t S= .ok (.d (.lst (l.map D.str))) S)(hl:l.length<=12)(hk:∀s∈l,s.length<=36):Zh o a t S= .ok (.d (.str (Txt.join (sep c) l))) S:=by unfold Zh;rw [h,zB];dsimp only;rw [h2,zB];unfold zdX;have e:(Vf S (.d (.lst (l.map D.str)))).bind strsOf=some l:=strs_map l;rw [e];dsimp only;have:=ze9 l hk;rw [if_pos];rw [qS];omega
end
theorem vZ{R:List RkR}{C:List ChR}{m:Nat}(A:ArtOk R C m){S:Sto}:zD [.d (Zz (R.map rkD) (C.map chD) m)] S= .ok (.d (.str (Xu R C m))) S:=by
 rw [vR];obtain⟨al,bl,tl'⟩:=zcB A
 have rows:∀(z1 z2:Option W),Zh (zi (.str ",")) (dLc [2] (ql (zH (zf 0) (zi (.int 0)))) (gN 2) vG (zz .Add (zz .Add (zz .Add (zz .Add (zH (zf 2) (zi (.int 0))) (zi (.str "="))) (zh zeq (za (zH (zf 2) (zi (.int 1))) zo))) (zi (.str "/"))) (zh zeq (za (zH (zf 2) (zi (.int 2))) zo)))) [some (.d (Zz (R.map rkD) (C.map chD) m)),z1,z2] S= .ok (.d (.str (Txt.join (sep 44) (R.map rkT)))) S:=λz1 z2=>by
  refine Ke (by rw [<-Qw];rfl) (l:=R.map rkT) ?_ (by rw [lB];exact A.r12) λs hs=>by obtain⟨r,hr,rfl⟩:=lL.mp hs;exact zfk (A.rn r hr)
  refine jV (own:=[2]) (S1:=S) (ds:=R.map rkD) rfl ?_;rw [ju (e:=rkD) (λ_=>true) (λr:RkR=>D.str (rkT r)) R [] (λr hr=>⟨[some (.d (Zz (R.map rkD) (C.map chD) m)),z1,some (.d (rkD r))],rfl,rfl,λ_=>?_⟩) (by have:=A.r12;simp only [yh];exact lQ (by omega:0+R.length<=12) (by rw [sizeLine_eq];decide)),yC.mpr λ_ _=>rfl,yP]
  ·rfl
  ·obtain⟨hg,h1,h2⟩:=A.rn r hr;have g8:=hg.2.1;have i1:=ZG h1;have i2:=ZG (n:=r.2.2) (by omega);refine Zr (Zr (Zr (Zr (x:=r.1) (y:=sep 61) rfl (by rw [<-zmA];rfl) ?_) (zaN (n:=r.2.1) rfl h1) ?_) (y:=sep 47) (by rw [<-J3];rfl) ?_) (zaN (n:=r.2.2) rfl (by omega)) ?_;all_goals
    simp only [len_app,qS];omega
 have chs:∀(z1 z2:Option W),Zh (zi (.str ",")) (dLc [2] (ql (zH (zf 0) (zi (.int 1)))) (gN 2) vG (zz .Add (zz .Add (zH (zf 2) (zi (.int 0))) (zi (.str "*"))) (zh zeq (za (zH (zf 2) (zi (.int 1))) zo)))) [some (.d (Zz (R.map rkD) (C.map chD) m)),z1,z2] S= .ok (.d (.str (Txt.join (sep 44) (C.map chT)))) S:=λz1 z2=>by
  refine Ke (by rw [<-Qw];rfl) (l:=C.map chT) ?_ (by rw [lB];have:=A.c6;omega) λs hs=>by obtain⟨r,hr,rfl⟩:=lL.mp hs;exact zf6 (A.cn r hr)
  refine jV (own:=[2]) (S1:=S) (ds:=C.map chD) rfl ?_;rw [ju (e:=chD) (λ_=>true) (λr:ChR=>D.str (chT r)) C [] (λr hr=>⟨[some (.d (Zz (R.map rkD) (C.map chD) m)),z1,some (.d (chD r))],rfl,rfl,λ_=>?_⟩) (by have:=A.c6;simp only [yh];exact lQ (by omega:0+C.length<=12) (by rw [sizeLine_eq];decide)),yC.mpr λ_ _=>rfl,yP]
  ·rfl
  ·obtain⟨hg,h1⟩:=A.cn r hr;have g8:=hg.2.1;have i1:=ZG (n:=r.2) (by omega);refine Zr (Zr (x:=r.1) (y:=sep 42) rfl (by rw [<-za7];rfl) ?_) (zaN (n:=r.2) rfl (by omega)) ?_;all_goals
    simp only [len_app,qS];omega
 have im:=ZG (n:=m) (by have:=A.m0;omega);have:=kD (n:=3) (m:=xR) (ws:=[.d (Zz (R.map rkD) (C.map chD) m)]) (S:=S) (S':=S) (t:=[some (.d (Zz (R.map rkD) (C.map chD) m)),none,none]) (x:=.str (Xu R C m)) rfl ?_
 ·rw [this,lh]
 ·unfold xR;refine(qo (rows none none) (t1:=[some (.d (Zz (R.map rkD) (C.map chD) m)),some (.d (.str (Txt.join (sep 44) (R.map rkT)))),none]) rfl).trans (jq ?_);refine Zr (Zr (Zr (Zr (x:=Txt.join (sep 44) (R.map rkT)) (y:=sep 32) rfl (by rw [<-QI];rfl) ?_) (chs _ _) ?_) (y:=sep 32) (by rw [<-QI];rfl) ?_) (zaN (n:=m) rfl (by have:=A.m0;omega)) ?_;all_goals
   simp only [len_app,qS];omega
theorem jO(a b c:Str):a++b++c=a++(b++c):=Xe (by rw [zY,zY,zY,zY,yD])
theorem empty_app(a:Str):Str.empty++a=a:=Xe (by rw [zY,XC];rfl)
theorem zgu{y:Str}{d:D}(h:Z0 y=some d):∃r:RkR,d=rkD r/\y=rkT r:=by
 obtain⟨p,r,e,hp,hr,hx⟩:=xY (c:=61) (by decide) y;obtain⟨a,q,e2,ha,hq,hx2⟩:=xY (c:=47) (by decide) (Txt.join (sep 61) r);have p1:Txt.partition y (sep 61)=(p,(if r= [] then Str.empty else sep 61),Txt.join (sep 61) r):=by rw [hx];exact vo hp
 have p2:Txt.partition (Txt.join (sep 61) r) (sep 47)=(a,(if q= [] then Str.empty else sep 47),Txt.join (sep 47) q):=by rw [hx2];exact vo ha
 unfold Z0 at h;rw [p1] at h;dsimp only at h;rw [p2] at h;dsimp only at h;cases ra:xq a with
 |none=>rw [ra] at h;cases h
 |some i=>
  cases rb:xq (Txt.join (sep 47) q) with
  |none=>rw [ra,rb] at h;cases h
  |some j=>
   rw [ra,rb] at h;injection h with h
   match q,rb,hx2 with
   | [],rb,_=>rw [join_nil,Jm] at rb;cases rb
   | [b],rb,hx2=>
     rw [join_one] at rb;rw [xb,join_one] at hx2;refine⟨(p,i,j),h.symm,?_⟩
     match r,hx,hx2 with
     | [],_,hx2=>
       rw [join_nil] at hx2;have:=congrArg tl hx2;rw [XC,zY,zY] at this;simp at this
     |z::r,hx,hx2=>
      rw [hx,xb,hx2];show p++sep 61++(a++sep 47++b)=p++sep 61++iS i++sep 47++iS j;unfold iS;rw [XG ra,XG rb,jO (p++sep 61++a),jO (p++sep 61),jO a]
   |b::c::q,rb,_=>
    rw [zbK (c:=47) (by decide) (by rw [xb,zY,zY];simp)] at rb;cases rb
theorem zd9{y:Str}{d:D}(h:va y=some d):∃r:ChR,d=chD r/\y=chT r:=by
 obtain⟨p,r,e,hp,hr,hx⟩:=xY (c:=42) (by decide) y;have p1:Txt.partition y (sep 42)=(p,(if r= [] then Str.empty else sep 42),Txt.join (sep 42) r):=by rw [hx];exact vo hp
 unfold va at h;rw [p1] at h;dsimp only at h;cases rb:xq (Txt.join (sep 42) r) with
 |none=>rw [rb] at h;cases h
 |some j=>
  rw [rb] at h;injection h with h
  refine⟨(p,j),h.symm,?_⟩
  match r,rb,hx with
  | [],rb,_=>rw [join_nil,Jm] at rb;cases rb
  |z::r,rb,hx=>
   rw [hx,xb];show _=p++sep 42++iS j;unfold iS;rw [XG rb]
theorem zaf{α:Type}{f:Str->Option D}{g:α->D}{h:α->Str}(k:∀y d,f y=some d->∃r,d=g r/\y=h r):∀{ys:List Str} {ds:List D},Qe f ys=some ds->∃R:List α,ds=R.map g/\ys=R.map h
 | [],ds,e=>by cases e;exact⟨[],rfl,rfl⟩
 |y::ys,ds,e=>by
  unfold Qe at e;cases q:f y with
  |none=>rw [q] at e;cases e
  |some d=>
   cases q2:Qe f ys with
   |none=>rw [q,q2] at e;cases e
   |some es=>
    rw [q,q2] at e;cases e;obtain⟨r,rfl,rfl⟩:=k y d q;obtain⟨R,rfl,rfl⟩:=zaf k q2;exact⟨r::R,rfl,rfl⟩
theorem zka:∀x y:RkR,rkD x=rkD y->x=y:=λ⟨a,b,c⟩ ⟨a',b',c'⟩ h=>by
 injection h with h
 injection h with h1 h
 injection h with h2 h
 injection h with h3 _
 injection h1 with h1
 injection h2 with h2
 injection h3 with h3
 have e1:a=a':=h1;have e2:b=b':=Int.ofNat.inj h2;have e3:c=c':=Int.ofNat.inj h3;rw [e1,e2,e3]
theorem zi4:∀x y:ChR,chD x=chD y->x=y:=λ⟨a,b⟩ ⟨a',b'⟩ h=>by
 injection h with h
 injection h with h1 h
 injection h with h2 _
 injection h1 with h1
 injection h2 with h2
 have e1:a=a':=h1;have e2:b=b':=Int.ofNat.inj h2;rw [e1,e2]
theorem zfT{R:List RkR}{C:List ChR}{m:Nat}(h:xD (Zz (R.map rkD) (C.map chD) m)=true):ArtOk R C m:=by
 obtain⟨R',C',m',e,A⟩:=J8 h;injection e with e
 injection e with e1 e
 injection e with e2 e
 injection e with e3 _
 injection e1 with e1
 injection e2 with e2
 injection e3 with e3
 rw [(List.map_inj_right zka).mp e1,(List.map_inj_right zi4).mp e2,Int.ofNat.inj e3];exact A
theorem zbP{t:Str}{x:D}(h:vI t=some x):∃R C m,x=Zz (R.map rkD) (C.map chD) m/\ArtOk R C m/\t=Xu R C m/\xD x=true:=by
 obtain⟨p,r,e,hp,hr,hx⟩:=xY (c:=32) (by decide) t;unfold vI at h;rw [e] at h
 match r,h,hx with
 | [b,c],h,hx=>
   have h:XY p b c=some x:=h;unfold XY at h;cases q1:Qe Z0 (Txt.split p (sep 44)) with
   |none=>rw [q1] at h;cases h
   |some rs=>
    cases q2:Qe va (Txt.split b (sep 44)) with
    |none=>rw [q1,q2] at h;cases h
    |some cs=>
     cases q3:xq c with
     |none=>rw [q1,q2,q3] at h;cases h
     |some m=>
      rw [q1,q2,q3] at h;dsimp only at h;split at h
      ·rename_i hA;injection h with h
       obtain⟨R,rfl,e1⟩:=zaf (λy d=>zgu) q1;obtain⟨C,rfl,e2⟩:=zaf (λy d=>zd9) q2;obtain⟨p1,r1,s1,_,_,j1⟩:=xY (c:=44) (by decide) p;obtain⟨p2,r2,s2,_,_,j2⟩:=xY (c:=44) (by decide) b;rw [<-s1,e1] at j1;rw [<-s2,e2] at j2;refine⟨R,C,m,h.symm,zfT hA,?_,by rw [<-h];exact hA⟩;rw [hx,xb,xb,join_one,j1,j2];unfold Xu iS;rw [XG q3,jO (Txt.join (sep 44) (R.map rkT)++sep 32++Txt.join (sep 44) (C.map chT)),jO (Txt.join (sep 44) (R.map rkT)++sep 32),jO (Txt.join (sep 44) (C.map chT))]
      ·cases h
 | [],h,_=>cases h
 | [_],h,_=>cases h
 |_::_::_::_,h,_=>cases h
theorem zal{s:Str}(h:gdS s){c:Nat}(hc:c<97):c∉tl s:=λz=>by have:=h.2.2 c z;unfold okC at this;rw [lG,decide_eq_true_eq] at this;omega
theorem Jg{n c:Nat}(h:c<48\/57<c):c∉tl (iS n):=by rw [zlp];exact zfV h
theorem mem_join{c z:Nat}:∀{l:List Str},z∈tl (Txt.join (sep c) l)->z=c\/∃s∈l,z∈tl s
 | [],h=>by rw [join_nil,XC] at h;cases h
 | [p],h=>by rw [join_one] at h;exact .inr ⟨p,lC,h⟩
 |p::q::r,h=>by
  rw [xb,zY,zY] at h;rcases yd.mp h with h|h
  ·rcases yd.mp h with h|h
   ·exact .inr ⟨p,lC,h⟩
   ·exact .inl (by simpa using h)
  ·rcases mem_join h with h|⟨s,hs,h⟩
   ·exact .inl h
   ·exact .inr ⟨s,lA _ hs,h⟩
theorem zb3{r:RkR}(h:gdS r.1){c:Nat}(hc:c<47):c∉tl (rkT r):=λz=>by
 unfold rkT at z;simp only [zY,yd] at z;rcases z with(((z|z)|z)|z)|z
 ·exact zal h (by omega) z
 ·have:c=61:=by simpa using z
  omega
 ·exact Jg (by omega) z
 ·have:c=47:=by simpa using z
  omega
 ·exact Jg (by omega) z
theorem zct{r:ChR}(h:gdS r.1){c:Nat}(hc:c<47)(h42:c≠42):c∉tl (chT r):=λz=>by
 unfold chT at z;simp only [zY,yd] at z;rcases z with(z|z)|z
 ·exact zal h (by omega) z
 ·exact h42 (by simpa using z)
 ·exact Jg (by omega) z
theorem zgd{r:RkR}(h:gdS r.1/\r.2.1<=1000000000/\r.2.2<=1000):Z0 (rkT r)=some (rkD r):=by
 obtain⟨s,i,j⟩:=r;have e1:rkT (s,i,j)=Txt.join (sep 61) [s,iS i++sep 47++iS j]:=by rw [xb,join_one];show s++sep 61++iS i++sep 47++iS j=_;rw [jO (s++sep 61++iS i),jO (s++sep 61),<-jO (iS i)]
 have e2:iS i++sep 47++iS j=Txt.join (sep 47) [iS i,iS j]:=by rw [xb,join_one]
 have p1:Txt.partition (rkT (s,i,j)) (sep 61)=(s,sep 61,iS i++sep 47++iS j):=by rw [e1,vo (zal h.1 (by decide)),join_one];rfl
 have p2:Txt.partition (iS i++sep 47++iS j) (sep 47)=(iS i,sep 47,iS j):=by rw [e2,vo (Jg (by decide)),join_one];rfl
 have r1:xq (iS i)=some i:=J4 (yJ h.2.1 (by decide));have r2:xq (iS j)=some j:=J4 (yJ h.2.2 (by decide));unfold Z0;rw [p1];dsimp only;rw [p2];dsimp only;rw [r1,r2];rfl
theorem zd7{r:ChR}(h:gdS r.1/\r.2<=1000):va (chT r)=some (chD r):=by
 obtain⟨s,i⟩:=r;have e1:chT (s,i)=Txt.join (sep 42) [s,iS i]:=by rw [xb,join_one];rfl
 have p1:Txt.partition (chT (s,i)) (sep 42)=(s,sep 42,iS i):=by rw [e1,vo (zal h.1 (by decide)),join_one];rfl
 have r1:xq (iS i)=some i:=J4 (yJ h.2 (by decide));unfold va;rw [p1];dsimp only;rw [r1];rfl
theorem zav{α:Type}{f:Str->Option D}{g:α->D}{h:α->Str}:∀R:List α,(∀r∈R,f (h r)=some (g r))->Qe f (R.map h)=some (R.map g)
 | [],_=>rfl
 |r::R,k=>by rw [lU];unfold Qe;rw [k r lC,zav R λx hx=>k x (lA _ hx)];rfl
theorem zez{R:List RkR}{C:List ChR}{m:Nat}(h:xD (Zz (R.map rkD) (C.map chD) m)=true):vI (Xu R C m)=some (Zz (R.map rkD) (C.map chD) m):=by
 have A:=zfT h;have r1:=A.r1;have c1:=A.c1
 have fA:32∉tl (Txt.join (sep 44) (R.map rkT)):=λz=>by
  rcases mem_join z with z|⟨s,hs,z⟩
  ·exact absurd z (by decide)
  ·obtain⟨r,hr,rfl⟩:=lL.mp hs;exact zb3 (A.rn r hr).1 (by decide) z
 have fB:32∉tl (Txt.join (sep 44) (C.map chT)):=λz=>by
  rcases mem_join z with z|⟨s,hs,z⟩
  ·exact absurd z (by decide)
  ·obtain⟨r,hr,rfl⟩:=lL.mp hs;exact zct (A.cn r hr).1 (by decide) (by decide) z
 have e:Xu R C m=Txt.join (sep 32) [Txt.join (sep 44) (R.map rkT),Txt.join (sep 44) (C.map chT),iS m]:=by rw [xb,xb,join_one];unfold Xu;rw [jO (Txt.join (sep 44) (R.map rkT)++sep 32++Txt.join (sep 44) (C.map chT)),jO (Txt.join (sep 44) (R.map rkT)++sep 32),jO (Txt.join (sep 44) (C.map chT))]
 have s:Txt.split (Xu R C m) (sep 32)= [Txt.join (sep 44) (R.map rkT),Txt.join (sep 44) (C.map chT),iS m]:=by
  rw [e];refine zaa (by decide) fA λq hq=>?_
  simp only [lu,lP,or_false] at hq;rcases hq with rfl|rfl
  ·exact fB
  ·exact Jg (by decide)
 have sR:Txt.split (Txt.join (sep 44) (R.map rkT)) (sep 44)=R.map rkT:=by
  cases R with
  |nil=>simp at r1
  |cons r R=>
   refine zaa (by decide) (zb3 (A.rn r lC).1 (by decide)) λq hq=>?_
   obtain⟨z,hz,rfl⟩:=lL.mp hq;exact zb3 (A.rn z (lA _ hz)).1 (by decide)
 have sC:Txt.split (Txt.join (sep 44) (C.map chT)) (sep 44)=C.map chT:=by
  cases C with
  |nil=>simp at c1
  |cons r C=>
   refine zaa (by decide) (zct (A.cn r lC).1 (by decide) (by decide)) λq hq=>?_
   obtain⟨z,hz,rfl⟩:=lL.mp hq;exact zct (A.cn z (lA _ hz)).1 (by decide) (by decide)
 have rm:xq (iS m)=some m:=J4 (yJ A.m0 (by decide));unfold vI;rw [s];show XY _ _ _=_;unfold XY;rw [sR,sC,zav R λr hr=>zgd (A.rn r hr),zav C λr hr=>zd7 (A.cn r hr),rm];dsimp only;rw [if_pos h]
end K82
namespace K82
open PySem L2 Z ZT TL K01
open K12 (kD qo jq jT jW vj qV call2 xG jl xr jP sub_eq and_eq or_eq ZI jB j0 Zw jV ju xU qJ Za xy)
theorem zjr{o a:M}{t:DS}{S:Sto}{xs:List D}{x:D}(ho:o t (S++ [.lst xs])= .ok (.ref S.length) (S++ [.lst xs]))(ha:a t (S++ [.lst xs])= .ok (.d x) (S++ [.lst xs]))(hl:xs.length<sizeLine):vF o a t (S++ [.lst xs])= .ok (.d .non) (S++ [.lst (xs++ [x])]):=by
 unfold vF;rw [ho,zB];have e:Xd (S++ [.lst xs]) (.ref S.length)=true:=by dsimp only [Xd];rw [jB]
 rw [if_pos e,ha,zB];dsimp only;rw [jB];dsimp only;rw [if_pos hl,j0]
theorem zkf{x:D}{ys:List D}{S:Sto}(h:ys.length+1<=sizeLine):opD .Add (.d (.tup [x])) (.d (.tup ys)) S= .ok (.d (.tup (x::ys))) S:=by
 show(if (!([x]:List D).isEmpty&&decide (([x]:List D).length+ys.length<=sizeLine))=true then(Res.ok (W.d (.tup ([x]++ys))) S:Res W) else .bad)=_;rw [if_pos]
 ·rfl
 ·rw [lG,decide_eq_true_eq];exact⟨rfl,by simp only [lO,yh];omega⟩
theorem zdL{c:Nat}:∀(r:List Str) (p:Str),((p::r).map (·.length)).sum<=(Txt.join (sep c) (p::r)).length
 | [],p=>by rw [join_one];simp
 |q::r,p=>by have:=zdL (c:=c) r q;rw [xb,len_app,len_app,qS,lU,Yb];omega
abbrev lrT(t:Str)(z1 z2 z3 z4 z5 z6 z7 z8:Option W):DS:=[some (.d (.str t)),z1,z2,z3,z4,z5,z6,z7,z8]
abbrev lrB:MSt:=zg (zN (zH (qY (zf 3) (zi (.str "="))) (zi (.int 0))) (gN 6)) (zg (zN (dLc [8] (ql (qY (kF (zf 3) (qG (zz .Add (zh qg (za (zf 6) zo)) (zi (.int 1)))) xK) (zi (.str "/")))) (gN 8) vG (zh (noX zM) (za (zf 8) zo))) (gN 7)) (zg (zO (vF (zf 2) (zz .Add (qz (za (zf 6) zo)) (zh xI (za (zf 7) zo))))) zr))
abbrev lrC:M:=dLc [3] (ql (qY (zH (zf 1) (zi (.int 1))) (zi (.str ",")))) (gN 3) vG (qz (za (zH (qY (zf 3) (zi (.str "*"))) (zi (.int 0))) (za (zh (noX zM) (za (Zh (zi (.str "*")) (Ve (qY (zf 3) (zi (.str "*"))) (qG (zi (.int 1))) xK)) zo)) zo)))
abbrev lrF:M:=qz (za (zh xI (za (zf 2) zo)) (za (zh xI (za (zf 4) zo)) (za (zh (noX zM) (za (zH (zf 1) (zi (.int 2))) zo)) zo)))
theorem zdj:qu=zg (zN (dIf (dT (qM .str (zf 0))) (qY (zf 0) (zi (.str " "))) (qh zo)) (gN 1)) (zg (sIf (dT (zK .NotEq (zh qg (za (zf 1) zo)) (zi (.int 3)))) (zg (zU (zi .non)) zr) zr) (zg (zN (zT zo) (gN 2)) (zg (xl (ql (qY (zH (zf 1) (zi (.int 0))) (zi (.str ",")))) (gN 3) lrB) (zg (zN lrC (gN 4)) (zg (zN lrF (gN 5)) (zg (sIf (qI (zy (dT (zh (noX zE) (za (zf 5) zo)))) (dT (zK .NotEq (zh (noX zD) (za (zf 5) zo)) (zf 0)))) (zg (zU (zi .non)) zr) zr) (zg (zU (zf 5)) zr))))))):=by kernel_rfl
section
variable {n:Nat} (hn:n<=90000)
include hn
theorem zl6{t x:Str}(hx:gT n x){S:Sto}{acc:List D}(hl:acc.length<99000){z1 z4 z5 z6 z7 z8:Option W}:
 ∃a6 a7,lrB (lrT t z1 (some (.ref S.length)) (some (.d (.str x))) z4 z5 z6 z7 z8) (S++ [.lst acc])= .nx (lrT t z1 (some (.ref S.length)) (some (.d (.str x))) z4 z5 a6 a7 z8) (S++ [.lst (acc++ [jQ x])]):=by
 have sz:99999<=sizeLine:=by rw [sizeLine_eq];decide
 obtain⟨p,r,e,hp,hr,ex⟩:=xY (c:=61) (by decide) x;have p1:Txt.partition x (sep 61)=(p,(if r= [] then Str.empty else sep 61),Txt.join (sep 61) r):=by rw [ex];exact vo hp
 have gr:gT n (Txt.join (sep 61) r):=zco (p:=p) (by rw [<-ex];exact hx);have gp:gT n p:=zeY (r:=r) (by rw [<-ex];exact hx);have k1:zH (qY (zf 3) (zi (.str "="))) (zi (.int 0)) (lrT t z1 (some (.ref S.length)) (some (.d (.str x))) z4 z5 z6 z7 z8) (S++ [.lst acc])= .ok (.d (.str p)) (S++ [.lst acc]):=by
  have s:=vE (o:=zf 3) (a:=zi (.str "=")) (t:=lrT t z1 (some (.ref S.length)) (some (.d (.str x))) z4 z5 z6 z7 z8) (S:=S++ [.lst acc]) (x:=x) (c:=61) rfl (by rw [<-zmA];rfl) (by have:=hx.1;omega);rw [e] at s;refine(sub_eq s (v:=.d (.int 0)) (S2:=S++ [.lst acc]) rfl).trans ?_;show(match atI (D.str p::r.map D.str) (0:Int) with|some v=>(Res.ok (W.d v) (S++ [Cell.lst acc]):Res W)|none=>.bad)=_;have:atI (D.str p::r.map D.str) (0:Int)=some (D.str p):=by simp [atI,ixN]
  rw [this]
 have kc:kF (zf 3) (qG (zz .Add (zh qg (za (zf 6) zo)) (zi (.int 1)))) xK (lrT t z1 (some (.ref S.length)) (some (.d (.str x))) z4 z5 (some (.d (.str p))) z7 none) (S++ [.lst acc])= .ok (.d (.str (Txt.join (sep 61) r))) (S++ [.lst acc]):=by
  have l:=VI (a:=zf 6) (x:=p) (t:=lrT t z1 (some (.ref S.length)) (some (.d (.str x))) z4 z5 (some (.d (.str p))) z7 none) (S:=S++ [.lst acc]) rfl (by have:=gp.1;omega);have ad:zz .Add (zh qg (za (zf 6) zo)) (zi (.int 1)) (lrT t z1 (some (.ref S.length)) (some (.d (.str x))) z4 z5 (some (.d (.str p))) z7 none) (S++ [.lst acc])= .ok (.d (.int ((p.length:Int)+1))) (S++ [.lst acc]):=(jP l (v:=.d (.int 1)) (S2:=S++ [.lst acc]) rfl).trans zgx;have v3:zf 3 (lrT t z1 (some (.ref S.length)) (some (.d (.str x))) z4 z5 (some (.d (.str p))) z7 none) (S++ [.lst acc])= .ok (.d (.str x)) (S++ [.lst acc]):=rfl;generalize zz .Add (zh qg (za (zf 6) zo)) (zi (.int 1))=m1 at ad⊢;have os:qG m1 (lrT t z1 (some (.ref S.length)) (some (.d (.str x))) z4 z5 (some (.d (.str p))) z7 none) (S++ [.lst acc])= .ok (some ((p.length:Int)+1)) (S++ [.lst acc]):=by unfold qG;rw [ad];rfl
  have on:xK (lrT t z1 (some (.ref S.length)) (some (.d (.str x))) z4 z5 (some (.d (.str p))) z7 none) (S++ [.lst acc])= .ok none (S++ [.lst acc]):=rfl;unfold kF;rw [v3,zB,os,zB,on,zB];dsimp only;rw [if_pos (by have:=hx.1;omega)];rw [show ziy x (some ((p.length:Int)+1)) none=Txt.join (sep 61) r by rw [ex];exact zhU]
 have i2:=qJ (vE (a:=zi (.str "/")) (c:=47) kc (by rw [<-J3];rfl) (by have:=gr.1;omega));have k2:dLc [8] (ql (qY (kF (zf 3) (qG (zz .Add (zh qg (za (zf 6) zo)) (zi (.int 1)))) xK) (zi (.str "/")))) (gN 8) vG (zh (noX zM) (za (zf 8) zo)) (lrT t z1 (some (.ref S.length)) (some (.d (.str x))) z4 z5 (some (.d (.str p))) z7 none) (S++ [.lst acc])= .ok (.d (.lst ((Txt.split (Txt.join (sep 61) r) (sep 47)).map optN))) (S++ [.lst acc]):=by
  refine jV (own:=[8]) (S1:=S++ [.lst acc]) i2 ?_;rw [ju (e:=D.str) (λ_=>true) optN (Txt.split (Txt.join (sep 61) r) (sep 47)) [] (λy hy=>⟨lrT t z1 (some (.ref S.length)) (some (.d (.str x))) z4 z5 (some (.d (.str p))) z7 (some (.d (.str y))),rfl,rfl,λ_=>?_⟩) (by have:=split_len (c:=47) (by decide) gr;simp only [yh];omega),yC.mpr λ_ _=>rfl]
  ·rfl
  ·have gy:=kh (c:=47) (by decide) gr y hy;have:=xG (Zc (x:=y) (S:=S++ [.lst acc]) (by have:=gy.1;omega) gy.2);generalize noX zM=g at this⊢;exact(qV (S1:=S++ [.lst acc]) (w:=.d (.str y)) rfl).trans this
 have k2':∀z8',dLc [8] (ql (qY (kF (zf 3) (qG (zz .Add (zh qg (za (zf 6) zo)) (zi (.int 1)))) xK) (zi (.str "/")))) (gN 8) vG (zh (noX zM) (za (zf 8) zo)) (lrT t z1 (some (.ref S.length)) (some (.d (.str x))) z4 z5 (some (.d (.str p))) z7 z8') (S++ [.lst acc])= .ok (.d (.lst ((Txt.split (Txt.join (sep 61) r) (sep 47)).map optN))) (S++ [.lst acc]):=λz8'=>k2
 have rl:jQ x= .tup (.str p::(Txt.split (Txt.join (sep 61) r) (sep 47)).map optN):=by unfold jQ;rw [p1]
 have k3:zz .Add (qz (za (zf 6) zo)) (zh xI (za (zf 7) zo)) (lrT t z1 (some (.ref S.length)) (some (.d (.str x))) z4 z5 (some (.d (.str p))) (some (.d (.lst ((Txt.split (Txt.join (sep 61) r) (sep 47)).map optN)))) z8) (S++ [.lst acc])= .ok (.d (jQ x)) (S++ [.lst acc]):=by rw [rl];exact(jP (w:=.d (.tup [.str p])) (v:=.d (.tup ((Txt.split (Txt.join (sep 61) r) (sep 47)).map optN))) (S1:=S++ [.lst acc]) (S2:=S++ [.lst acc]) rfl rfl).trans (zkf (by rw [lB];have:=split_len (c:=47) (by decide) gr;omega))
 refine⟨some (.d (.str p)),some (.d (.lst ((Txt.split (Txt.join (sep 61) r) (sep 47)).map optN))),?_⟩;refine(qo k1 (t1:=lrT t z1 (some (.ref S.length)) (some (.d (.str x))) z4 z5 (some (.d (.str p))) z7 z8) rfl).trans ?_;refine(qo (k2' z8) (t1:=lrT t z1 (some (.ref S.length)) (some (.d (.str x))) z4 z5 (some (.d (.str p))) (some (.d (.lst ((Txt.split (Txt.join (sep 61) r) (sep 47)).map optN)))) z8) rfl).trans ?_;exact(jT (zjr rfl k3 (by omega))).trans rfl
theorem zfd{t:Str}{S:Sto}{z1 z4 z5 z8:Option W}:∀(xs:List Str) (acc:List D) (z3 z6 z7:Option W),(∀x∈xs,gT n x)->acc.length+xs.length<99000->
 ∃a3 a6 a7,Vk (gN 3) lrB (xs.map D.str) (lrT t z1 (some (.ref S.length)) z3 z4 z5 z6 z7 z8) (S++ [.lst acc])= .nx (lrT t z1 (some (.ref S.length)) a3 z4 z5 a6 a7 z8) (S++ [.lst (acc++xs.map jQ)])
 | [],acc,z3,z6,z7,_,_=>⟨z3,z6,z7,by rw [Ld,Ld,yn];rfl⟩
 |x::xs,acc,z3,z6,z7,h,hl=>by
  rw [lO] at hl;obtain⟨a6,a7,e1⟩:=zl6 (t:=t) (x:=x) hn (h x lC) (S:=S) (acc:=acc) (by omega) (z1:=z1) (z4:=z4) (z5:=z5) (z6:=z6) (z7:=z7) (z8:=z8);obtain⟨b3,b6,b7,e2⟩:=zfd (t:=t) (S:=S) (z1:=z1) (z4:=z4) (z5:=z5) (z8:=z8) xs (acc++ [jQ x]) (some (.d (.str x))) a6 a7 (λy hy=>h y (lA _ hy)) (by rw [lH];simp only [lO,yh];omega);have eq:acc++ [jQ x]++xs.map jQ=acc++(x::xs).map jQ:=by rw [yD];rfl
  rw [eq] at e2;generalize lrB=B at e1 e2⊢;exact⟨b3,b6,b7,(xy (t1:=lrT t z1 (some (.ref S.length)) (some (.d (.str x))) z4 z5 z6 z7 z8) rfl e1).trans e2⟩
theorem zeI{t a b c:Str}(hb:gT n b){S:Sto}{z2 z3 z4 z5 z6 z7 z8:Option W}:lrC (lrT t (some (.d (.lst [.str a,.str b,.str c]))) z2 z3 z4 z5 z6 z7 z8) S= .ok (.d (.lst ((Txt.split b (sep 44)).map jv))) S:=by
 have sz:999999<=sizeLine:=by rw [sizeLine_eq];decide
 refine jV (own:=[3]) (S1:=S) (qJ (vE (x:=b) (c:=44) rfl (by rw [<-Qw];rfl) (by have:=hb.1;omega))) ?_;rw [ju (e:=D.str) (λ_=>true) jv (Txt.split b (sep 44)) [] (λy hy=>⟨lrT t (some (.d (.lst [.str a,.str b,.str c]))) z2 (some (.d (.str y))) z4 z5 z6 z7 z8,rfl,rfl,λ_=>?_⟩) (by have:=split_len (c:=44) (by decide) hb;simp only [yh];omega),yC.mpr λ_ _=>rfl]
 ·rfl
 ·have gy:=kh (c:=44) (by decide) hb y hy;obtain⟨p,r,e,hp,hr,ex⟩:=xY (c:=42) (by decide) y;have p1:Txt.partition y (sep 42)=(p,(if r= [] then Str.empty else sep 42),Txt.join (sep 42) r):=by rw [ex];exact vo hp
  have gr:gT n (Txt.join (sep 42) r):=zco (p:=p) (by rw [<-ex];exact gy);have s:=vE (o:=zf 3) (a:=zi (.str "*")) (t:=lrT t (some (.d (.lst [.str a,.str b,.str c]))) z2 (some (.d (.str y))) z4 z5 z6 z7 z8) (S:=S) (x:=y) (c:=42) rfl (by rw [<-za7];rfl) (by have:=gy.1;omega);rw [e] at s;have k1:zH (qY (zf 3) (zi (.str "*"))) (zi (.int 0)) (lrT t (some (.d (.lst [.str a,.str b,.str c]))) z2 (some (.d (.str y))) z4 z5 z6 z7 z8) S= .ok (.d (.str p)) S:=by
   refine(sub_eq s (v:=.d (.int 0)) (S2:=S) rfl).trans ?_;show(match atI (D.str p::r.map D.str) (0:Int) with|some v=>(Res.ok (W.d v) S:Res W)|none=>.bad)=_;have:atI (D.str p::r.map D.str) (0:Int)=some (D.str p):=by simp [atI,ixN]
   rw [this]
  have k2:Ve (qY (zf 3) (zi (.str "*"))) (qG (zi (.int 1))) xK (lrT t (some (.d (.lst [.str a,.str b,.str c]))) z2 (some (.d (.str y))) z4 z5 z6 z7 z8) S= .ok (.d (.lst (r.map D.str))) S:=by have os:qG (zi (.int 1)) (lrT t (some (.d (.lst [.str a,.str b,.str c]))) z2 (some (.d (.str y))) z4 z5 z6 z7 z8) S= .ok (some 1) S:=rfl;have on:xK (lrT t (some (.d (.lst [.str a,.str b,.str c]))) z2 (some (.d (.str y))) z4 z5 z6 z7 z8) S= .ok none S:=rfl;unfold Ve;rw [s,zB,os,zB,on,zB];show Res.ok (W.d (.lst (cutD ((p::r).map D.str) (some 1) none))) S=_;rw [zdt,lU];rfl
  have k3:Zh (zi (.str "*")) (Ve (qY (zf 3) (zi (.str "*"))) (qG (zi (.int 1))) xK) (lrT t (some (.d (.lst [.str a,.str b,.str c]))) z2 (some (.d (.str y))) z4 z5 z6 z7 z8) S= .ok (.d (.str (Txt.join (sep 42) r))) S:=by
   have st:zi (.str "*") (lrT t (some (.d (.lst [.str a,.str b,.str c]))) z2 (some (.d (.str y))) z4 z5 z6 z7 z8) S= .ok (.d (.str (sep 42))) S:=by rw [<-za7];rfl
   generalize Ve (qY (zf 3) (zi (.str "*"))) (qG (zi (.int 1))) xK=m2 at k2⊢;unfold Zh;rw [st,zB];dsimp only;rw [k2,zB];unfold zdX;have e2:(Vf S (.d (.lst (r.map D.str)))).bind strsOf=some r:=strs_map r;rw [e2];dsimp only;have sl:=split_len (c:=42) (by decide) gy;rw [e,lO] at sl;have sj:=zdL (c:=42) r p;rw [<-ex,lU,Yb] at sj;have:=gy.1;rw [if_pos];rw [qS];omega
  have gn:=xG (Zc (x:=Txt.join (sep 42) r) (S:=S) (by have:=gr.1;omega) gr.2);generalize noX zM=g at gn⊢;have cl:jv y= .tup [.str p,optN (Txt.join (sep 42) r)]:=by unfold jv;rw [p1]
  rw [cl];exact Zw k1 ((qV k3).trans gn)
end
theorem QY{c:MB}{a m:MSt}{t:DS}{S S1:Sto}(h:c t S= .ok false S1):zg (sIf c a zr) m t S=m t S1:=(vj h).trans rfl
theorem Xc{n:Nat}{x:Str}(h:gT n x){k:Nat}:Gd (n+3) k (.str x):=.str (by have:=h.1;omega) h.2
theorem zb5{n k:Nat}{x:Str}:Gd n k (optN x):=by
 unfold optN;cases xq x with
 |none=>exact .non
 |some n=>exact .int _
theorem zhm{n:Nat}{x:Str}(h:gT n x):Gd (n+3) 1 (jQ x):=by
 have h1:=Xk (c:=61) (by decide) h;have l:=split_len (c:=47) (by decide) h1.2;unfold jQ;refine .tup (by rw [lO,lB];omega) λz hz=>?_
 rcases lu.mp hz with rfl|hz
 ·exact Xc h1.1
 ·obtain⟨y,_,rfl⟩:=lL.mp hz;exact zb5
theorem zer{n:Nat}{x:Str}(h:gT n x):Gd (n+3) 1 (jv x):=by
 have h1:=Xk (c:=42) (by decide) h;unfold jv;refine .tup (by simp) λz hz=>?_
 simp only [lu,lP,or_false] at hz;rcases hz with rfl|rfl
 ·exact Xc h1.1
 ·exact zb5
def kX(a b c:Str):D:=.tup [.tup ((Txt.split a (sep 44)).map jQ),.tup ((Txt.split b (sep 44)).map jv),optN c]
theorem zih{n:Nat}{a b c:Str}(ha:gT n a)(hb:gT n b):Gd (n+3) 3 (kX a b c):=by
 have l1:=split_len (c:=44) (by decide) ha;have l2:=split_len (c:=44) (by decide) hb;refine .tup (by simp) λz hz=>?_
 simp only [lu,lP,or_false] at hz;rcases hz with rfl|rfl|rfl
 ·refine .tup (by rw [lB];omega) λd hd=>?_
  obtain⟨y,hy,rfl⟩:=lL.mp hd;exact zhm (kh (by decide) ha y hy)
 ·refine .tup (by rw [lB];omega) λd hd=>?_
  obtain⟨y,hy,rfl⟩:=lL.mp hd;exact zer (kh (by decide) hb y hy)
 ·exact zb5
theorem zfb{a b c:Str}(h:xD (kX a b c)=true):XY a b c=some (kX a b c):=by
 obtain⟨R,C,m,e,A⟩:=J8 h;have e0:=e;unfold kX at e;injection e with e
 injection e with e1 e
 injection e with e2 e
 injection e with e3 _
 injection e1 with e1
 injection e2 with e2
 have q1:Qe Z0 (Txt.split a (sep 44))=some ((Txt.split a (sep 44)).map jQ):=zcR λy hy=>by
  have:jQ y∈R.map rkD:=by rw [<-e1];exact lL.mpr ⟨y,hy,rfl⟩
  obtain⟨r,_,er⟩:=lL.mp this;rw [<-er];exact zjj er.symm
 have q2:Qe va (Txt.split b (sep 44))=some ((Txt.split b (sep 44)).map jv):=zcR λy hy=>by
  have:jv y∈C.map chD:=by rw [<-e2];exact lL.mpr ⟨y,hy,rfl⟩
  obtain⟨r,_,er⟩:=lL.mp this;rw [<-er];exact zhl er.symm
 obtain⟨k,q3,hk⟩:=J9 e3;unfold XY;rw [q1,q2,q3];dsimp only;have ef:Zz ((Txt.split a (sep 44)).map jQ) ((Txt.split b (sep 44)).map jv) k=kX a b c:=by unfold Zz kX;rw [QB q3]
 rw [ef,if_pos h]
theorem zh0{a b c:Str}{x:D}(h:XY a b c=some x):x=kX a b c/\xD x=true:=by
 unfold XY at h;cases q1:Qe Z0 (Txt.split a (sep 44)) with
 |none=>rw [q1] at h;cases h
 |some rs=>
  cases q2:Qe va (Txt.split b (sep 44)) with
  |none=>rw [q1,q2] at h;cases h
  |some cs=>
   cases q3:xq c with
   |none=>rw [q1,q2,q3] at h;cases h
   |some m=>
    rw [q1,q2,q3] at h;dsimp only at h;split at h
    ·rename_i hA;injection h with h
     rw [<-h];refine⟨?_,hA⟩;unfold kX Zz;rw [zcK (λy d e=>(zjP e).1) q1,zcK (λy d e=>(zhj e).1) q2,QB q3]
    ·cases h
def JQ(x:Option D):D:=match x with|some a=>a|none=>.non
theorem Xj{n:Nat}(hn:n<=90000){t:Str}(ht:gT n t){S:Sto}:qF [.d (.str t)] S= .ok (.d (JQ (vI t))) S:=by
 rw [vS];have sz:99999<=sizeLine:=by rw [sizeLine_eq];decide
 have k1:dIf (dT (qM .str (zf 0))) (qY (zf 0) (zi (.str " "))) (qh zo) (lrT t none none none none none none none none) S= .ok (.d (.lst ((Txt.split t (sep 32)).map D.str))) S:=by have c:dT (qM .str (zf 0)) (lrT t none none none none none none none none) S= .ok true S:=rfl;unfold dIf;rw [c,zB,if_pos rfl];exact vE rfl (by rw [<-QI];rfl) (by have:=ht.1;omega)
 have sg:=kh (c:=32) (by decide) ht;have done:∀(x:D) S',qu (lrT t none none none none none none none none) S= .rt (.d x) S'->S'.take S.length=S->fnD 9 qu [.d (.str t)] S= .ok (.d x) S:=λx S' h e=>by have:=kD (n:=9) (m:=qu) (ws:=[.d (.str t)]) (S:=S) (S':=S') (t:=lrT t none none none none none none none none) (x:=x) rfl h;rw [this,e]
 have rw3:vI t=zjL (Txt.split t (sep 32)):=rfl;rw [rw3];generalize Txt.split t (sep 32)=w at*;have k2:dT (zK .NotEq (zh qg (za (zf 1) zo)) (zi (.int 3))) (lrT t (some (.d (.lst (w.map D.str)))) none none none none none none none) S= .ok (!((w.length:Int)==3)) S:=by
  have l:zh qg (za (zf 1) zo) (lrT t (some (.d (.lst (w.map D.str)))) none none none none none none none) S= .ok (.d (.int (w.length:Int))) S:=by refine(qV (S1:=S) (w:=.d (.lst (w.map D.str))) rfl).trans ?_;show Res.ok (W.d (.int ((w.map D.str).length:Int))) S=_;rw [lB]
  exact jl ((xr l (v:=.d (.int 3)) (S2:=S) rfl).trans Ku)
 by_cases h3:w.length=3
 ·match w,h3 with
  | [a,b,c],_=>
    have ga:=sg a (by simp);have gb:=sg b (by simp);have gc:=sg c (by simp);have k2:dT (zK .NotEq (zh qg (za (zf 1) zo)) (zi (.int 3))) (lrT t (some (.d (.lst [.str a,.str b,.str c]))) none none none none none none none) S= .ok false S:=k2;have k1:dIf (dT (qM .str (zf 0))) (qY (zf 0) (zi (.str " "))) (qh zo) (lrT t none none none none none none none none) S= .ok (.d (.lst [.str a,.str b,.str c])) S:=k1;show _=Res.ok (W.d (JQ (XY a b c))) S;obtain⟨a3,a6,a7,e4⟩:=zfd hn (t:=t) (S:=S) (z1:=some (.d (.lst [.str a,.str b,.str c]))) (z4:=none) (z5:=none) (z8:=none) (Txt.split a (sep 44)) [] none none none (kh (by decide) ga) (by have:=split_len (c:=44) (by decide) ga;simp only [yh];omega);rw [yo] at e4;have i4:ql (qY (zH (zf 1) (zi (.int 0))) (zi (.str ","))) (lrT t (some (.d (.lst [.str a,.str b,.str c]))) (some (.ref S.length)) none none none none none none) (S++ [.lst []])= .ok ((Txt.split a (sep 44)).map D.str) (S++ [.lst []]):=qJ (vE (x:=a) rfl (by rw [<-Qw];rfl) (by have:=ga.1;omega));have k5:=zeI hn (t:=t) (a:=a) (c:=c) gb (S:=S++ [.lst ((Txt.split a (sep 44)).map jQ)]) (z2:=some (.ref S.length)) (z3:=a3) (z4:=none) (z5:=none) (z6:=a6) (z7:=a7) (z8:=none);have k6:lrF (lrT t (some (.d (.lst [.str a,.str b,.str c]))) (some (.ref S.length)) a3 (some (.d (.lst ((Txt.split b (sep 44)).map jv)))) none a6 a7 none) (S++ [.lst ((Txt.split a (sep 44)).map jQ)])= .ok (.d (kX a b c)) (S++ [.lst ((Txt.split a (sep 44)).map jQ)]):=by
     generalize hU:S++ [Cell.lst ((Txt.split a (sep 44)).map jQ)]=U at*;have x1:zh xI (za (zf 2) zo) (lrT t (some (.d (.lst [.str a,.str b,.str c]))) (some (.ref S.length)) a3 (some (.d (.lst ((Txt.split b (sep 44)).map jv)))) none a6 a7 none) U= .ok (.d (.tup ((Txt.split a (sep 44)).map jQ))) U:=by
      refine(qV (S1:=U) (w:=.ref S.length) rfl).trans ?_;unfold xI;have:Vf U (.ref S.length)=some ((Txt.split a (sep 44)).map jQ):=by rw [<-hU];dsimp only [Vf];unfold zF;dsimp only;rw [jB]
      dsimp only;rw [this]
     have x2:zh xI (za (zf 4) zo) (lrT t (some (.d (.lst [.str a,.str b,.str c]))) (some (.ref S.length)) a3 (some (.d (.lst ((Txt.split b (sep 44)).map jv)))) none a6 a7 none) U= .ok (.d (.tup ((Txt.split b (sep 44)).map jv))) U:=(qV (S1:=U) (w:=.d (.lst ((Txt.split b (sep 44)).map jv))) rfl).trans rfl;have gn:=xG (Zc (x:=c) (S:=U) (by have:=gc.1;omega) gc.2);have x3:zh (noX zM) (za (zH (zf 1) (zi (.int 2))) zo) (lrT t (some (.d (.lst [.str a,.str b,.str c]))) (some (.ref S.length)) a3 (some (.d (.lst ((Txt.split b (sep 44)).map jv)))) none a6 a7 none) U= .ok (.d (optN c)) U:=by generalize noX zM=g at gn⊢;exact(qV (S1:=U) (w:=.d (.str c)) rfl).trans gn
     unfold lrF;generalize zh xI (za (zf 2) zo)=m1 at x1⊢;generalize zh xI (za (zf 4) zo)=m2 at x2⊢;generalize zh (noX zM) (za (zH (zf 1) (zi (.int 2))) zo)=m3 at x3⊢;unfold qz za;rw [x1,zB,x2,zB,x3];rfl
    have gi:=xG (ZK (L:=n+3) (by omega) (S:=S++ [.lst ((Txt.split a (sep 44)).map jQ)]) (zih (c:=c) ga gb));have to7:∀r:SR,zg (sIf (qI (zy (dT (zh (noX zE) (za (zf 5) zo)))) (dT (zK .NotEq (zh (noX zD) (za (zf 5) zo)) (zf 0)))) (zg (zU (zi .non)) zr) zr) (zg (zU (zf 5)) zr) (lrT t (some (.d (.lst [.str a,.str b,.str c]))) (some (.ref S.length)) a3 (some (.d (.lst ((Txt.split b (sep 44)).map jv)))) (some (.d (kX a b c))) a6 a7 none) (S++ [.lst ((Txt.split a (sep 44)).map jQ)])=r->qu (lrT t none none none none none none none none) S=r:=λr h=>by rw [zdj,qo k1 (t1:=lrT t (some (.d (.lst [.str a,.str b,.str c]))) none none none none none none none) rfl,QY k2,qo (w:=.ref S.length) (S1:=S++ [.lst []]) (t1:=lrT t (some (.d (.lst [.str a,.str b,.str c]))) (some (.ref S.length)) none none none none none none) rfl rfl,Za i4 e4,qo k5 (t1:=lrT t (some (.d (.lst [.str a,.str b,.str c]))) (some (.ref S.length)) a3 (some (.d (.lst ((Txt.split b (sep 44)).map jv)))) none a6 a7 none) rfl,qo k6 (t1:=lrT t (some (.d (.lst [.str a,.str b,.str c]))) (some (.ref S.length)) a3 (some (.d (.lst ((Txt.split b (sep 44)).map jv)))) (some (.d (kX a b c))) a6 a7 none) rfl];exact h
    have nA:zy (dT (zh (noX zE) (za (zf 5) zo))) (lrT t (some (.d (.lst [.str a,.str b,.str c]))) (some (.ref S.length)) a3 (some (.d (.lst ((Txt.split b (sep 44)).map jv)))) (some (.d (kX a b c))) a6 a7 none) (S++ [.lst ((Txt.split a (sep 44)).map jQ)])= .ok (!xD (kX a b c)) (S++ [.lst ((Txt.split a (sep 44)).map jQ)]):=by generalize noX zE=g at gi⊢;unfold zy;rw [jl ((qV (S1:=S++ [.lst ((Txt.split a (sep 44)).map jQ)]) (w:=.d (kX a b c)) rfl).trans gi)];rfl
    have tk:(S++ [Cell.lst ((Txt.split a (sep 44)).map jQ)]).take S.length=S:=Yl;by_cases hA:xD (kX a b c)=true
    ·have hr:=zfb hA;rw [hr];rw [hA] at nA;have hrt:vI t=some (kX a b c):=by rw [rw3];exact hr
     obtain⟨R,C,m,ef,A,et,_⟩:=zbP hrt;have gt:=xG (vZ A (S:=S++ [.lst ((Txt.split a (sep 44)).map jQ)]));rw [<-ef,<-et] at gt;refine done _ _ (to7 _ ?_) tk;have cF:qI (zy (dT (zh (noX zE) (za (zf 5) zo)))) (dT (zK .NotEq (zh (noX zD) (za (zf 5) zo)) (zf 0))) (lrT t (some (.d (.lst [.str a,.str b,.str c]))) (some (.ref S.length)) a3 (some (.d (.lst ((Txt.split b (sep 44)).map jv)))) (some (.d (kX a b c))) a6 a7 none) (S++ [.lst ((Txt.split a (sep 44)).map jQ)])= .ok false (S++ [.lst ((Txt.split a (sep 44)).map jQ)]):=by refine(or_eq nA).trans ?_;rw [if_neg (by decide)];generalize noX zD=g at gt⊢;exact jl ((xr ((qV (S1:=S++ [.lst ((Txt.split a (sep 44)).map jQ)]) (w:=.d (kX a b c)) rfl).trans gt) (v:=.d (.str t)) (S2:=S++ [.lst ((Txt.split a (sep 44)).map jQ)]) rfl).trans (xU (d:=.str t) rfl rfl ((Xc ht (k:=0)).okD (by decide))))
     rw [QY cF];rfl
    ·have hr:XY a b c=none:=by
      cases q:XY a b c with
      |none=>rfl
      |some x=>
       obtain⟨e,h⟩:=zh0 q;rw [e] at h;exact absurd h hA
     rw [hr];rw [yE.mpr hA] at nA;refine done _ _ (to7 _ ?_) tk;have cT:qI (zy (dT (zh (noX zE) (za (zf 5) zo)))) (dT (zK .NotEq (zh (noX zD) (za (zf 5) zo)) (zf 0))) (lrT t (some (.d (.lst [.str a,.str b,.str c]))) (some (.ref S.length)) a3 (some (.d (.lst ((Txt.split b (sep 44)).map jv)))) (some (.d (kX a b c))) a6 a7 none) (S++ [.lst ((Txt.split a (sep 44)).map jQ)])= .ok true (S++ [.lst ((Txt.split a (sep 44)).map jQ)]):=(or_eq nA).trans (if_pos rfl);rw [jW cT];rfl
 ·have e3:(!((w.length:Int)==3))=true:=by rw [yN,beq_eq_false_iff_ne];omega
  rw [e3] at k2;rw [no3 w h3];refine done _ S ?_ (lh);rw [zdj,qo k1 (t1:=lrT t (some (.d (.lst (w.map D.str)))) none none none none none none none) rfl,jW k2];rfl
section
variable {S:Sto} {t:DS}
theorem Jd{a:M}{r:Str->M}{out y:Str}(h:a t S= .ok (.d (.str y)) S)(hl:(out++y).length<=5000):vX a r out t S=r (out++y) t S:=by unfold vX;rw [h,zB];dsimp only;rw [if_pos (by rw [sizeLine_eq];omega)]
theorem zke{out:Str}(hl:out.length<=5000):zia out t S= .ok (.d (.str out)) S:=by unfold zia;rw [if_pos (by rw [sizeLine_eq];omega)]
theorem zhw{a:M}{x:Str}(h:a t S= .ok (.d (.str x)) S)(hl:x.length<=5000):zaK a t S= .ok (.d (.str x)) S:=by unfold zaK;rw [h,zB];show(if x.length<=sizeLine then(Res.ok (W.d (.str x)) S:Res W) else .bad)=_;rw [if_pos (by rw [sizeLine_eq];omega)]
theorem zii{a:M}{n:Nat}(h:a t S= .ok (.d (.int (n:Int))) S)(hn:n<=1000000000):zaK a t S= .ok (.d (.str (iS n))) S:=by
 have e:zmD (.d (.int (n:Int)))=some (iS n):=by
  have s:=zaN (t:=t) (S:=S) h hn;rw [qV h] at s;unfold zeq at s;unfold zmD;dsimp only at s⊢;split at s
  ·rename_i c;rw [if_pos c];rfl
  ·cases s
 have l:=ZG hn;unfold zaK;rw [h,zB,e];dsimp only;rw [if_pos (by rw [sizeLine_eq];omega)]
end
theorem KG{L n:Nat}(hL:L<=100000){x:D}(hx:Gd L n x)(S:Sto):(xD x=true->∀R C m,x=Zz (R.map rkD) (C.map chD) m->xf [.d x] S= .ok (.d (.str (Xu R C m))) S)/\(xD x=false->xf [.d x] S= .exc {cls:="NoArticles"} S):=by
 have gn:=K02.zmc hL (S:=S) hx;refine⟨λh R C m e=>?_,λh=>?_⟩
 ·rw [if_pos h] at gn;have A:ArtOk R C m:=zfT (by rw [<-e];exact h);subst e;obtain⟨al,bl,tl'⟩:=zcB A;rw [vO];have k0:zh K02.jo (za (zf 0) zo) [some (.d (Zz (R.map rkD) (C.map chD) m)),none,none,none,none,none,none,none] S= .ok (.d .non) S:=(qV (S1:=S) (w:=.d (Zz (R.map rkD) (C.map chD) m)) rfl).trans gn;have rows:Zh (zi (.str ",")) (dLc [3,4,5] (ql (zH (zf 0) (zi (.int 0)))) (gTp 3 (zX (gN 3) (zX (gN 4) (zX (gN 5) vD)))) vG (Z2 (vX (zaK (zf 3)) (vX (zi (.str "=")) (vX (zaK (zf 4)) (vX (zi (.str "/")) (vX (zaK (zf 5)) zia))))))) [some (.d (Zz (R.map rkD) (C.map chD) m)),none,none,none,none,none,none,none] S= .ok (.d (.str (Txt.join (sep 44) (R.map rkT)))) S:=by
   refine Ke (by rw [<-Qw];rfl) (l:=R.map rkT) ?_ (by rw [lB];exact A.r12) λs hs=>by obtain⟨r,hr,rfl⟩:=lL.mp hs;exact zfk (A.rn r hr)
   refine jV (own:=[3,4,5]) (S1:=S) (ds:=R.map rkD) rfl ?_;rw [ju (e:=rkD) (λ_=>true) (λr:RkR=>D.str (rkT r)) R [] (λr hr=>⟨[some (.d (Zz (R.map rkD) (C.map chD) m)),none,none,some (.d (.str r.1)),some (.d (.int (r.2.1:Int))),some (.d (.int (r.2.2:Int))),none,none],rfl,rfl,λ_=>?_⟩) (by have:=A.r12;simp only [yh];exact lQ (by omega:0+R.length<=12) (by rw [sizeLine_eq];decide)),yC.mpr λ_ _=>rfl,yP]
   ·rfl
   ·obtain⟨hg,h1,h2⟩:=A.rn r hr;have g8:=hg.2.1;have i1:=ZG h1;have i2:=ZG (n:=r.2.2) (by omega);unfold Z2;rw [Jd (zhw (x:=r.1) rfl (by omega)) (by rw [empty_app];omega),Jd (y:=sep 61) (by rw [<-zmA];rfl) (by simp only [len_app,qS,empty_app];omega),Jd (zii (n:=r.2.1) rfl h1) (by simp only [len_app,qS,empty_app];omega),Jd (y:=sep 47) (by rw [<-J3];rfl) (by simp only [len_app,qS,empty_app];omega),Jd (zii (n:=r.2.2) rfl (by omega)) (by simp only [len_app,qS,empty_app];omega),zke (by simp only [len_app,qS,empty_app];omega),empty_app];rfl
  have chs:Zh (zi (.str ",")) (dLc [6,7] (ql (zH (zf 0) (zi (.int 1)))) (gTp 2 (zX (gN 6) (zX (gN 7) vD))) vG (Z2 (vX (zaK (zf 6)) (vX (zi (.str "*")) (vX (zaK (zf 7)) zia))))) [some (.d (Zz (R.map rkD) (C.map chD) m)),some (.d (.str (Txt.join (sep 44) (R.map rkT)))),none,none,none,none,none,none] S= .ok (.d (.str (Txt.join (sep 44) (C.map chT)))) S:=by
   refine Ke (by rw [<-Qw];rfl) (l:=C.map chT) ?_ (by rw [lB];have:=A.c6;omega) λs hs=>by obtain⟨r,hr,rfl⟩:=lL.mp hs;exact zf6 (A.cn r hr)
   refine jV (own:=[6,7]) (S1:=S) (ds:=C.map chD) rfl ?_;rw [ju (e:=chD) (λ_=>true) (λr:ChR=>D.str (chT r)) C [] (λr hr=>⟨[some (.d (Zz (R.map rkD) (C.map chD) m)),some (.d (.str (Txt.join (sep 44) (R.map rkT)))),none,none,none,none,some (.d (.str r.1)),some (.d (.int (r.2:Int)))],rfl,rfl,λ_=>?_⟩) (by have:=A.c6;simp only [yh];exact lQ (by omega:0+C.length<=12) (by rw [sizeLine_eq];decide)),yC.mpr λ_ _=>rfl,yP]
   ·rfl
   ·obtain⟨hg,h1⟩:=A.cn r hr;have g8:=hg.2.1;have i1:=ZG (n:=r.2) (by omega);unfold Z2;rw [Jd (zhw (x:=r.1) rfl (by omega)) (by rw [empty_app];omega),Jd (y:=sep 42) (by rw [<-za7];rfl) (by simp only [len_app,qS,empty_app];omega),Jd (zii (n:=r.2) rfl (by omega)) (by simp only [len_app,qS,empty_app];omega),zke (by simp only [len_app,qS,empty_app];omega),empty_app];rfl
  have im:=ZG (n:=m) (by have:=A.m0;omega);have:=kD (n:=8) (m:=xS) (ws:=[.d (Zz (R.map rkD) (C.map chD) m)]) (S:=S) (S':=S) (t:=[some (.d (Zz (R.map rkD) (C.map chD) m)),none,none,none,none,none,none,none]) (x:=.str (Xu R C m)) rfl ?_
  ·rw [this,lh]
  ·unfold xS;rw [jT k0,Jt rows (t1:=[some (.d (Zz (R.map rkD) (C.map chD) m)),some (.d (.str (Txt.join (sep 44) (R.map rkT)))),none,none,none,none,none,none]) rfl,Jt chs (t1:=[some (.d (Zz (R.map rkD) (C.map chD) m)),some (.d (.str (Txt.join (sep 44) (R.map rkT)))),some (.d (.str (Txt.join (sep 44) (C.map chT)))),none,none,none,none,none]) rfl];refine zc0 ?_;unfold Z2;rw [Jd (zhw (x:=Txt.join (sep 44) (R.map rkT)) rfl (by omega)) (by rw [empty_app];omega),Jd (y:=sep 32) (by rw [<-QI];rfl) (by simp only [len_app,qS,empty_app];omega),Jd (zhw (x:=Txt.join (sep 44) (C.map chT)) rfl (by omega)) (by simp only [len_app,qS,empty_app];omega),Jd (y:=sep 32) (by rw [<-QI];rfl) (by simp only [len_app,qS,empty_app];omega),Jd (zii (n:=m) rfl (by have:=A.m0;omega)) (by simp only [len_app,qS,empty_app];omega),zke (by simp only [len_app,qS,empty_app];omega),empty_app];rfl
 ·rw [if_neg (by rw [h];exact lE)] at gn;rw [vO];have:=XS (n:=8) (m:=xS) (ws:=[.d x]) (S:=S) (S':=S) (t:=[some (.d x),none,none,none,none,none,none,none]) (t':=[some (.d x),none,none,none,none,none,none,none]) (x:={cls:="NoArticles"}) rfl ?_
  ·rw [this,lh]
  ·unfold xS;exact X1 (zhn ((qV (S1:=S) (w:=.d x) rfl).trans gn))
theorem zl5(S:Sto):jI [some (.exn "NoArticles"),none,none,none] S= .rt (.d (.str "NoArticles+")) S:=by kernel_rfl
theorem zmf(S:Sto):jI [some (.exn "NoText"),none,none,none] S= .rt (.d (.str "NoText+")) S:=by kernel_rfl
theorem zjt{S:Sto}:xA [.exn "NoArticles"] S= .ok (.d (.str "NoArticles+")) S:=by rw [Zs];have:=kD (n:=4) (m:=jI) (ws:=[.exn "NoArticles"]) (S:=S) (S':=S) (t:=[some (.exn "NoArticles"),none,none,none]) (x:=.str "NoArticles+") rfl (zl5 S);rw [this,lh]
theorem zko{S:Sto}:xA [.exn "NoText"] S= .ok (.d (.str "NoText+")) S:=by rw [Zs];have:=kD (n:=4) (m:=jI) (ws:=[.exn "NoText"]) (S:=S) (S':=S) (t:=[some (.exn "NoText"),none,none,none]) (x:=.str "NoText+") rfl (zmf S);rw [this,lh]
abbrev rdA:M:=dIf (nxT (dT (zK .Eq (zf 0) (zi (.int 0))))) (zh jr (za (zf 1) zo)) (zh xf (za (zf 1) zo))
abbrev rdS:MSt:=zg (zN (zh (noX xA) (za (zf 4) zo)) (gN 3)) zr
theorem Kh:vt=zg (zN (zi .non) (gN 2)) (zg (zN (zi (.str "")) (gN 3)) (zg (zgD ["NoArticles","NoText"] 4 (zg (zN rdA (gN 2)) zr) rdS) (zg (zU (qz (za (zf 2) (za (zf 3) zo)))) zr))):=by kernel_rfl
theorem zkZ{yes:List Str}{i:Nat}{mb ms:MSt}{t t1:DS}{S S1:Sto}(h:mb t S= .nx t1 S1):zgD yes i mb ms t S= .nx t1 S1:=by unfold zgD;rw [h]
theorem zeB{yes:List Str}{i:Nat}{mb ms:MSt}{t t1 t2:DS}{S S1 S2:Sto}{x:Xn}(h:mb t S= .exc x t1 S1)(hy:yes.contains x.cls=true)(h2:ms (t1.set i (some (.exn x.cls))) S1= .nx t2 S2):zgD yes i mb ms t S= .nx (t2.set i none) S2:=by unfold zgD;rw [h];dsimp only;rw [if_pos hy,h2];rfl
theorem zdy{k:Int}{x:D}{S:Sto}{r:Res W}(hr:rdA [some (.d (.int k)),some (.d x),some (.d .non),some (.d (.str "")),none] S=r):
 (∀a,r= .ok (.d a) S->zW [.d (.int k),.d x] S= .ok (.d (.tup [a,.str ""])) S)/\(r= .exc noT S->zW [.d (.int k),.d x] S= .ok (.d (.tup [.non,.str "NoText+"])) S)/\(r= .exc {cls:="NoArticles"} S->zW [.d (.int k),.d x] S= .ok (.d (.tup [.non,.str "NoArticles+"])) S):=by
 have start:∀m:MSt,zg (zN (zi .non) (gN 2)) (zg (zN (zi (.str "")) (gN 3)) m) [some (.d (.int k)),some (.d x),none,none,none] S=m [some (.d (.int k)),some (.d x),some (.d .non),some (.d (.str "")),none] S:=λm=>rfl
 refine⟨λa h=>?_,λh=>?_,λh=>?_⟩;all_goals
  rw [h] at hr;rw [KJ]
 ·have:=kD (n:=5) (m:=vt) (ws:=[.d (.int k),.d x]) (S:=S) (S':=S) (t:=[some (.d (.int k)),some (.d x),none,none,none]) (x:=.tup [a,.str ""]) rfl ?_
  ·rw [this,lh]
  ·have tn:zgD ["NoArticles","NoText"] 4 (zg (zN rdA (gN 2)) zr) rdS [some (.d (.int k)),some (.d x),some (.d .non),some (.d (.str "")),none] S= .nx [some (.d (.int k)),some (.d x),some (.d a),some (.d (.str "")),none] S:=zkZ ((qo hr rfl).trans rfl);rw [Kh,start,ZI tn];exact jq (Zw (x:=a) (y:=.str "") rfl rfl)
 ·have gk:=xG (zko (S:=S));have:=kD (n:=5) (m:=vt) (ws:=[.d (.int k),.d x]) (S:=S) (S':=S) (t:=[some (.d (.int k)),some (.d x),none,none,none]) (x:=.tup [.non,.str "NoText+"]) rfl ?_
  ·rw [this,lh]
  ·rw [Kh,start,ZI (zeB (t2:=[some (.d (.int k)),some (.d x),some (.d .non),some (.d (.str "NoText+")),some (.exn "NoText")]) (X1 (Jn hr)) (by decide+kernel) ?_)]
   ·exact jq (Zw (x:=.non) (y:=.str "NoText+") rfl rfl)
   ·unfold rdS;generalize noX xA=g at gk⊢;exact(qo ((qV (S1:=S) (w:=.exn "NoText") rfl).trans gk) rfl).trans rfl
 ·have gk:=xG (zjt (S:=S));have:=kD (n:=5) (m:=vt) (ws:=[.d (.int k),.d x]) (S:=S) (S':=S) (t:=[some (.d (.int k)),some (.d x),none,none,none]) (x:=.tup [.non,.str "NoArticles+"]) rfl ?_
  ·rw [this,lh]
  ·rw [Kh,start,ZI (zeB (t2:=[some (.d (.int k)),some (.d x),some (.d .non),some (.d (.str "NoArticles+")),some (.exn "NoArticles")]) (X1 (Jn hr)) (by decide+kernel) ?_)]
   ·exact jq (Zw (x:=.non) (y:=.str "NoArticles+") rfl rfl)
   ·unfold rdS;generalize noX xA=g at gk⊢;exact(qo ((qV (S1:=S) (w:=.exn "NoArticles") rfl).trans gk) rfl).trans rfl
def told(x:Option D):D:=match x with
 |some a=>.tup [a,.str ""]
 |none=>.tup [.non,.str "NoText+"]
theorem zcI{n:Nat}(hn:n<=90000){x:D}(hx:∀t,x= .str t->gT n t)(S:Sto):zW [.d (.int 0),.d x] S= .ok (.d (told (V8 x))) S:=by
 have g:=KP hn hx S;have e:rdA [some (.d (.int 0)),some (.d x),some (.d .non),some (.d (.str "")),none] S=match V8 x with|some a=>.ok (.d a) S|none=>.exc noT S:=by unfold rdA dIf;have c:nxT (dT (zK .Eq (zf 0) (zi (.int 0)))) [some (.d (.int 0)),some (.d x),some (.d .non),some (.d (.str "")),none] S= .ok true S:=rfl;rw [c,zB,if_pos rfl];exact(qV (S1:=S) (w:=.d x) rfl).trans g
 obtain⟨h1,h2,_⟩:=zdy e;cases q:V8 x with
 |none=>exact h2 (by rw [q])
 |some a=>exact h1 a (by rw [q])
theorem zfW{L n:Nat}(hL:L<=100000){x:D}(hx:Gd L n x)(S:Sto):(xD x=true->∀R C m,x=Zz (R.map rkD) (C.map chD) m->zW [.d (.int 1),.d x] S= .ok (.d (.tup [.str (Xu R C m),.str ""])) S)/\(xD x=false->zW [.d (.int 1),.d x] S= .ok (.d (.tup [.non,.str "NoArticles+"])) S):=by
 obtain⟨g1,g2⟩:=KG hL hx S;have e:rdA [some (.d (.int 1)),some (.d x),some (.d .non),some (.d (.str "")),none] S=xf [.d x] S:=by unfold rdA dIf;have c:nxT (dT (zK .Eq (zf 0) (zi (.int 0)))) [some (.d (.int 1)),some (.d x),some (.d .non),some (.d (.str "")),none] S= .ok false S:=rfl;rw [c,zB,if_neg (by decide)];exact qV (S1:=S) (w:=.d x) rfl
 obtain⟨h1,_,h3⟩:=zdy e;exact⟨λh R C m ex=>h1 _ (g1 h R C m ex),λh=>h3 (g2 h)⟩
theorem zes{α:Type}{r:Res α}{Q:α->Sto->Prop}(h:wp r Q):∃w S,r= .ok w S/\Q w S:=by
 cases r with
 |ok w S=>exact⟨w,S,rfl,h⟩
 |exc _ _=>exact h.elim
 |bad=>exact h.elim
theorem zaC{n:Nat}{S:Sto}(h:JU n S){m:Int}(h1:1<=m)(h2:m<=1000000):∃(v:Int) (S':Sto),noX zq [.ref n,.d (.int m)] S= .ok (.d (.int v)) S'/\0<=v/\v<m/\Dr n S S':=by obtain⟨w,S',e,v,rfl,a,b,d⟩:=zes (xo (many:=m) h h1 (by omega));exact⟨v,S',e,a,b,d⟩
theorem XX{a b:Nat}{x y:Str}(h:gT a x)(h2:gT b y):gT (a+b) (x++y):=by
 refine⟨by rw [len_app];have:=h.1;have:=h2.1;omega,X6.mpr λc hc=>?_⟩;rw [zY] at hc;rcases yd.mp hc with hc|hc
 ·exact X6.mp h.2 c hc
 ·exact X6.mp h2.2 c hc
theorem zdf{n:Nat}{x:Str}(h:gT n x)(lo hi:Option Int):gT n (ziy x lo hi):=by
 refine zdi h ?_ λc hc=>?_
 ·rw [xj,xj];show(((tl x).drop _).take _).length<=_;rw [lK,ym];omega
 ·exact yX (Lf hc)
theorem VT{a b:Nat}{x:Str}(h:gT a x)(hab:a<=b):gT b x:=⟨lQ h.1 hab,h.2⟩
theorem zca{c k:Nat}(hc:c<0x110000):∀{l:List Str},(∀s∈l,PyData.strOk s=true)->PyData.strOk (Txt.join (sep c) l)=true:=λ{l} h=>X6.mpr λz hz=>by
 rcases mem_join hz with e|⟨s,hs,hz⟩
 ·rw [e];exact hc
 ·exact X6.mp (h s hs) z hz
theorem zdn{c:Nat}:∀l:List Str,(Txt.join (sep c) l).length<=(l.map (·.length)).sum+l.length
 | []=>by rw [join_nil];exact yx _
 | [p]=>by rw [join_one];simp
 |p::q::r=>by have:=zdn (c:=c) (q::r);rw [xb,len_app,len_app,qS,lU,Yb,lO];omega
theorem zaW{c:Nat}:∀(r:List Str) (p:Str),((p::r).map (·.length)).sum+(p::r).length<=(Txt.join (sep c) (p::r)).length+1
 | [],p=>by rw [join_one];simp
 |q::r,p=>by have:=zaW (c:=c) r q;rw [xb,len_app,len_app,qS,lU,Yb,lO];omega
theorem zkv(l:List Str)(k:Nat):((l.take k).map (·.length)).sum+((l.drop (k+1)).map (·.length)).sum<=(l.map (·.length)).sum:=by
 have h1:=congrArg (λz=>(z.map (·.length)).sum) (List.take_append_drop k l);have h2:=congrArg (λz=>(z.map (·.length)).sum) (List.take_append_drop 1 (l.drop k));simp only [yZ,Y2,lad] at h1 h2;have e:k+1=1+k:=by omega
 omega
theorem zhg{S:Sto}{t:DS}{o a:M}{c:Nat}{l:List Str}(h:o t S= .ok (.d (.str (sep c))) S)(h2:a t S= .ok (.d (.lst (l.map D.str))) S)(hl:(l.map (·.length)).sum+l.length<=1000000):Zh o a t S= .ok (.d (.str (Txt.join (sep c) l))) S:=by unfold Zh;rw [h,zB];dsimp only;rw [h2,zB];unfold zdX;have e:(Vf S (.d (.lst (l.map D.str)))).bind strsOf=some l:=strs_map l;rw [e];dsimp only;rw [if_pos];rw [qS];omega
theorem QU{S:Sto}{t:DS}{a b:M}{x y:Str}(h:a t S= .ok (.d (.str x)) S)(h2:b t S= .ok (.d (.str y)) S)(hl:x.length+y.length<=1000000):zz .Add a b t S= .ok (.d (.str (x++y))) S:=by refine(jP h h2).trans ?_;rw [zeP,if_pos (by rw [sizeLine_eq];omega)]
theorem zai{S:Sto}{t:DS}{a:M}{x:Str}{lo hi:MO}{l u:Option Int}(h:a t S= .ok (.d (.str x)) S)(hl:lo t S= .ok l S)(hu:hi t S= .ok u S)(hz:x.length<=1000000):kF a lo hi t S= .ok (.d (.str (ziy x l u))) S:=by unfold kF;rw [h,zB,hl,zB,hu,zB];dsimp only;rw [if_pos (by rw [sizeLine_eq];omega)]
theorem zao{S:Sto}{t:DS}{a:M}{i:Int}(h:a t S= .ok (.d (.int i)) S):qG a t S= .ok (some i) S:=by unfold qG;rw [h];rfl
theorem zl7{α:Type}{xs:List α}{v:Int}(h0:0<=v)(h1:v<xs.length):∃x,atI xs v=some x/\x∈xs:=by obtain⟨x,a,_,b⟩:=Qs h0 h1;exact⟨x,a,b⟩
abbrev sgs:Str:=" !\"#$&'()*+,-./0123456789:;<=>?@ABCDEFGHIJKLMNOPQRSTUVWXYZ[\\]^_`abcdefghijklmnopqrstuvwxyz{|}~\n"
theorem zar:sgs.length=95:=by decide+kernel
theorem zlb:PyData.strOk sgs=true:=by decide+kernel
theorem zgB:(Str.ofString " 01,=/*-a").length=9:=by decide+kernel
theorem zl3:PyData.strOk (Str.ofString " 01,=/*-a")=true:=by decide+kernel
theorem zgr{S:Sto}{z:Str}{v:Int}(hz:z.length<=1000)(h0:0<=v)(h1:v<z.length):∃c,c∈tl z/\ixD (.d (.str z)) (.d (.int v)) S= .ok (.d (.str (sep c))) S:=by rw [xj] at h1;obtain⟨c,e,hc⟩:=zl7 (xs:=tl z) h0 h1;refine⟨c,hc,?_⟩;unfold ixD;dsimp only;rw [if_pos (by rw [sizeLine_eq];omega),e]
theorem zfY{z:Str}{c:Nat}(h:PyData.strOk z=true)(hc:c∈tl z):gT 1 (sep c):=⟨lD _,zb0 h hc⟩
abbrev spF(n:Nat)(t:Str)(z2 z3 z4 z5 z6 z7:Option W):DS:=[some (.ref n),some (.d (.str t)),z2,z3,z4,z5,z6,z7]
abbrev spS:M:=zH (qh (za (zH (zf 2) (zh (noX zq) (za (zf 0) (za (zh qg (za (zf 2) zo)) zo)))) (za (zH (zi (.str " 01,=/*-a")) (zh (noX zq) (za (zf 0) (za (zi (.int 9)) zo)))) zo))) (zh (noX zq) (za (zf 0) (za (zi (.int 2)) zo)))
abbrev znT:M:=zh (noX zq) (za (zf 0) (za (zz .Add (zh qg (za (zf 1) zo)) (zi (.int 1))) zo))
abbrev zmu:M:=zh (noX zq) (za (zf 0) (za (zi (.int 7)) zo))
abbrev znM:M:=zz .Add (zz .Add (kF (zf 1) xK (qG (zf 4))) (zf 3)) (kF (zf 1) (qG (zf 4)) xK)
abbrev zn0:M:=zz .Add (zz .Add (kF (zf 1) xK (qG (zf 4))) (zf 3)) (kF (zf 1) (qG (zz .Add (zf 4) (zi (.int 1)))) xK)
abbrev zn1:M:=zz .Add (kF (zf 1) xK (qG (zf 4))) (kF (zf 1) (qG (zz .Add (zf 4) (zi (.int 1)))) xK)
abbrev znY:M:=zz .Add (kF (zf 1) xK (qG (zz .Add (zf 4) (zi (.int 1))))) (kF (zf 1) (qG (zf 4)) xK)
abbrev znb:M:=zh (noX zq) (za (zf 0) (za (zh qg (za (zf 6) zo)) zo))
abbrev zjM:M:=zH (qh (za (qh zo) (za (zz .Mult (qh (za (zH (zf 6) (zf 4)) zo)) (zi (.int 2))) (za (qh (za (zf 7) zo)) zo)))) (zz .Sub (zf 5) (zi (.int 4)))
abbrev spJ:M:=Zh (zi (.str " ")) (zz .Add (zz .Add (Ve (zf 6) xK (qG (zf 4))) zjM) (Ve (zf 6) (qG (zz .Add (zf 4) (zi (.int 1)))) xK))
theorem Qo:kS=zg (zN (zi (.str sgs)) (gN 2)) (zg (zN spS (gN 3)) (zg (zN znT (gN 4)) (zg (zN zmu (gN 5)) (zg (sIf (dT (zK .Eq (zf 5) (zi (.int 0)))) (zg (zU znM) zr) zr) (zg (sIf (dT (zK .Eq (zf 5) (zi (.int 1)))) (zg (zU zn0) zr) zr) (zg (sIf (dT (zK .Eq (zf 5) (zi (.int 2)))) (zg (zU zn1) zr) zr) (zg (sIf (dT (zK .Eq (zf 5) (zi (.int 3)))) (zg (zU znY) zr) zr) (zg (zN (qY (zf 1) (zi (.str " "))) (gN 6)) (zg (zN znb (gN 4)) (zg (zN (zH (zf 6) znb) (gN 7)) (zg (zU spJ) zr))))))))))):=by kernel_rfl
section
variable {n:Nat} {t:Str}
theorem zjy{S:Sto}(h:JU n S){z3 z4 z5 z6 z7:Option W}:∃c S',gT 1 (sep c)/\spS (spF n t (some (.d (.str sgs))) z3 z4 z5 z6 z7) S= .ok (.d (.str (sep c))) S'/\Dr n S S':=by
 obtain⟨v1,S1,e1,a1,b1,d1⟩:=zaC h (m:=95) (by decide) (by decide);obtain⟨v2,S2,e2,a2,b2,d2⟩:=zaC d1.has (m:=9) (by decide) (by decide);obtain⟨v3,S3,e3,a3,b3,d3⟩:=zaC d2.has (m:=2) (by decide) (by decide);obtain⟨c1,m1,i1⟩:=zgr (S:=S1) (z:=sgs) (v:=v1) (by rw [zar];decide) a1 (by rw [zar];exact b1);obtain⟨c2,m2,i2⟩:=zgr (S:=S2) (z:=" 01,=/*-a") (v:=v2) (by rw [zgB];decide) a2 (by rw [zgB];exact b2);have l1:zh qg (za (zf 2) zo) (spF n t (some (.d (.str sgs))) z3 z4 z5 z6 z7) S= .ok (.d (.int 95)) S:=by have:=VI (a:=zf 2) (x:=sgs) (t:=spF n t (some (.d (.str sgs))) z3 z4 z5 z6 z7) (S:=S) rfl (by rw [zar,sizeLine_eq];decide);rw [zar] at this;exact this
 unfold spS;generalize noX zq=g at e1 e2 e3⊢;have k1:zH (zf 2) (zh g (za (zf 0) (za (zh qg (za (zf 2) zo)) zo))) (spF n t (some (.d (.str sgs))) z3 z4 z5 z6 z7) S= .ok (.d (.str (sep c1))) S1:=(sub_eq (w:=.d (.str sgs)) (S1:=S) rfl ((call2 (S1:=S) (w:=.ref n) rfl l1).trans e1)).trans i1;have k2:zH (zi (.str " 01,=/*-a")) (zh g (za (zf 0) (za (zi (.int 9)) zo))) (spF n t (some (.d (.str sgs))) z3 z4 z5 z6 z7) S1= .ok (.d (.str (sep c2))) S2:=(sub_eq (w:=.d (.str " 01,=/*-a")) (S1:=S1) rfl ((call2 (S1:=S1) (S2:=S1) (w:=.ref n) (v:=.d (.int 9)) rfl rfl).trans e2)).trans i2;have k3:zh g (za (zf 0) (za (zi (.int 2)) zo)) (spF n t (some (.d (.str sgs))) z3 z4 z5 z6 z7) S2= .ok (.d (.int v3)) S3:=(call2 (S1:=S2) (S2:=S2) (w:=.ref n) (v:=.d (.int 2)) rfl rfl).trans e3;have lst:∀(a b:M) (tt:DS) (x y:D),a tt S= .ok (.d x) S1->b tt S1= .ok (.d y) S2->qh (za a (za b zo)) tt S= .ok (.d (.lst [x,y])) S2:=λa b tt x y ha hb=>by unfold qh za;rw [ha,zB,hb];rfl
 have kl:=(sub_eq (lst _ _ _ _ _ k1 k2) k3);have hv:v3=0\/v3=1:=by omega
 rcases hv with rfl|rfl
 ·exact⟨c1,S3,zfY zlb m1,kl.trans rfl,(d1.trans d2).trans d3⟩
 ·exact⟨c2,S3,zfY zl3 m2,kl.trans rfl,(d1.trans d2).trans d3⟩
theorem zax{S:Sto}(h:JU n S){b:M}{m:Int}{tt:DS}(h0:zf 0 tt S= .ok (.ref n) S)(hb:b tt S= .ok (.d (.int m)) S)(h1:1<=m)(h2:m<=1000000):∃(v:Int) (S':Sto),zh (noX zq) (za (zf 0) (za b zo)) tt S= .ok (.d (.int v)) S'/\0<=v/\v<m/\Dr n S S':=by obtain⟨v,S',e,a,b',d⟩:=zaC h h1 h2;generalize noX zq=g at e⊢;exact⟨v,S',(call2 h0 hb).trans e,a,b',d⟩
theorem zkj(l:List D){v:Int}(h0:0<=v)(h1:v<=l.length):cutD l none (some v)=l.take v.toNat:=by
 unfold cutD;have e1:HT.sIx l.length 0 none=0:=rfl;have e2:HT.sIx l.length l.length (some v)=v.toNat:=by unfold HT.sIx;dsimp only;split <;> omega
 rw [e1,e2];simp
theorem zf3(l:List D){v:Int}(h0:0<=v)(h1:v<=l.length):cutD l (some v) none=l.drop v.toNat:=by
 unfold cutD;have e1:HT.sIx l.length l.length none=l.length:=rfl;have e2:HT.sIx l.length 0 (some v)=v.toNat:=by unfold HT.sIx;dsimp only;split <;> omega
 rw [e1,e2];refine yk ?_;rw [ym];omega
theorem ziI{S:Sto}{tt:DS}{a:M}{l:List D}{lo hi:MO}{x y:Option Int}(h:a tt S= .ok (.d (.lst l)) S)(hl:lo tt S= .ok x S)(hu:hi tt S= .ok y S):Ve a lo hi tt S= .ok (.d (.lst (cutD l x y))) S:=by unfold Ve;rw [h,zB,hl,zB,hu,zB];rfl
theorem zfe{S:Sto}{tt:DS}{a b:M}{x y:List D}(h:a tt S= .ok (.d (.lst x)) S)(h2:b tt S= .ok (.d (.lst y)) S)(hl:x.length+y.length<=1000000):zz .Add a b tt S= .ok (.d (.lst (x++y))) S:=by refine(jP h h2).trans ?_;show(if x.length+y.length<=sizeLine then(Res.ok (W.d (.lst (x++y))) S:Res W) else .bad)=_;rw [if_pos (by rw [sizeLine_eq];omega)]
end
theorem zk8{ws:List Str}{v:Int}(h0:0<=v)(h1:v<ws.length){S:Sto}:∃w∈ws,ixD (.d (.lst (ws.map D.str))) (.d (.int v)) S= .ok (.d (.str w)) S:=by obtain⟨d,e,hd⟩:=zl7 (xs:=ws.map D.str) h0 (by rw [lB];exact h1);obtain⟨w,hw,rfl⟩:=lL.mp hd;refine⟨w,hw,?_⟩;show(match atI (ws.map D.str) v with|some v=>(Res.ok (W.d v) S:Res W)|none=>.bad)=_;rw [e]
theorem pieces{k:Nat}{t:Str}(gt:gT k t){mid:List Str}(hm:mid.length<=2)(hmid:∀w∈mid,w∈Txt.split t (sep 32))(a:Nat):(((Txt.split t (sep 32)).take a++mid++(Txt.split t (sep 32)).drop (a+1)).map (·.length)).sum+((Txt.split t (sep 32)).take a++mid++(Txt.split t (sep 32)).drop (a+1)).length<=3*k+3:=by
 obtain⟨p,r,e,_,_,hx⟩:=xY (c:=32) (by decide) t;have sg:=kh (c:=32) (by decide) gt;have j:=zaW (c:=32) r p;rw [<-hx] at j;have ms:=ze9 (k:=k) mid λw hw=>(sg w (hmid w hw)).1
 have h2:=zkv (Txt.split t (sep 32)) a;have tl1:((Txt.split t (sep 32)).take a).length+((Txt.split t (sep 32)).drop (a+1)).length<=(Txt.split t (sep 32)).length:=by rw [lK,ym];omega
 rw [e] at h2 tl1⊢;rw [yZ,yZ,Y2,Y2,lH,lH];have:=gt.1;have ms2:(mid.map (·.length)).sum<=2*k:=lQ ms (Nat.mul_le_mul_right k hm);omega
theorem zh4{n k:Nat}{t:Str}{S:Sto}(h:JU n S)(hk:k<=30000)(gt:gT k t):∃t' S',noX jx [.ref n,.d (.str t)] S= .ok (.d (.str t')) S'/\gT (3*k+3) t'/\Dr n S S':=by
 have hz:=gt.1;have sz:t.length<=sizeLine:=by rw [sizeLine_eq];omega
 have done:∀(x:Str) S',kS (spF n t none none none none none none) S= .rt (.d (.str x)) S'->gT (3*k+3) x->Dr n S S'->∃t' S',noX jx [.ref n,.d (.str t)] S= .ok (.d (.str t')) S'/\gT (3*k+3) t'/\Dr n S S':=λx S' e g d=>by have:=kD (n:=8) (m:=kS) (ws:=[.ref n,.d (.str t)]) (S:=S) (S':=S') (t:=spF n t none none none none none none) (x:=.str x) rfl e;refine⟨x,S'.take S.length,xG ?_,g,d.take⟩;rw [XB];exact this
 obtain⟨c,S1,gc,k1,d1⟩:=zjy (t:=t) h (z3:=none) (z4:=none) (z5:=none) (z6:=none) (z7:=none);have lt:zz .Add (zh qg (za (zf 1) zo)) (zi (.int 1)) (spF n t (some (.d (.str sgs))) (some (.d (.str (sep c)))) none none none none) S1= .ok (.d (.int ((t.length:Int)+1))) S1:=(jP (VI (a:=zf 1) (x:=t) rfl sz) (v:=.d (.int 1)) (S2:=S1) rfl).trans zgx;obtain⟨at',S2,k2,a0,a1,d2⟩:=zax (tt:=spF n t (some (.d (.str sgs))) (some (.d (.str (sep c)))) none none none none) d1.has rfl lt (by omega) (by omega);obtain⟨w,S3,k3,w0,w1,d3⟩:=zax (b:=zi (.int 7)) (tt:=spF n t (some (.d (.str sgs))) (some (.d (.str (sep c)))) (some (.d (.int at'))) none none none) d2.has rfl rfl (by decide) (by decide);have d123:=(d1.trans d2).trans d3;have first:∀m:MSt,zg (zN (zi (.str sgs)) (gN 2)) (zg (zN spS (gN 3)) (zg (zN znT (gN 4)) (zg (zN zmu (gN 5)) m))) (spF n t none none none none none none) S=m (spF n t (some (.d (.str sgs))) (some (.d (.str (sep c)))) (some (.d (.int at'))) (some (.d (.int w))) none none) S3:=λm=>by rw [qo (w:=.d (.str sgs)) (S1:=S) (t1:=spF n t (some (.d (.str sgs))) none none none none none) rfl rfl,qo k1 (t1:=spF n t (some (.d (.str sgs))) (some (.d (.str (sep c)))) none none none none) rfl,qo k2 (t1:=spF n t (some (.d (.str sgs))) (some (.d (.str (sep c)))) (some (.d (.int at'))) none none none) rfl,qo k3 (t1:=spF n t (some (.d (.str sgs))) (some (.d (.str (sep c)))) (some (.d (.int at'))) (some (.d (.int w))) none none) rfl]
 have cq:∀j:Int,dT (zK .Eq (zf 5) (zi (.int j))) (spF n t (some (.d (.str sgs))) (some (.d (.str (sep c)))) (some (.d (.int at'))) (some (.d (.int w))) none none) S3= .ok (w==j) S3:=λj=>jl ((xr (w:=.d (.int w)) (v:=.d (.int j)) (S1:=S3) (S2:=S3) rfl rfl).trans zk6)
 have v1:zf 1 (spF n t (some (.d (.str sgs))) (some (.d (.str (sep c)))) (some (.d (.int at'))) (some (.d (.int w))) none none) S3= .ok (.d (.str t)) S3:=rfl;have v3:zf 3 (spF n t (some (.d (.str sgs))) (some (.d (.str (sep c)))) (some (.d (.int at'))) (some (.d (.int w))) none none) S3= .ok (.d (.str (sep c))) S3:=rfl;have o4:qG (zf 4) (spF n t (some (.d (.str sgs))) (some (.d (.str (sep c)))) (some (.d (.int at'))) (some (.d (.int w))) none none) S3= .ok (some at') S3:=zao rfl;have o5:qG (zz .Add (zf 4) (zi (.int 1))) (spF n t (some (.d (.str sgs))) (some (.d (.str (sep c)))) (some (.d (.int at'))) (some (.d (.int w))) none none) S3= .ok (some (at'+1)) S3:=zao ((jP (w:=.d (.int at')) (v:=.d (.int 1)) (S1:=S3) (S2:=S3) rfl rfl).trans zgx);have on:xK (spF n t (some (.d (.str sgs))) (some (.d (.str (sep c)))) (some (.d (.int at'))) (some (.d (.int w))) none none) S3= .ok none S3:=rfl;have c1:=zai v1 on o4 (by omega);have c2:=zai v1 o4 on (by omega);have c3:=zai v1 o5 on (by omega);have c4:=zai v1 on o5 (by omega);have g1:=zdf gt none (some at');have g2:=zdf gt (some at') none;have g3:=zdf gt (some (at'+1)) none;have g4:=zdf gt none (some (at'+1));by_cases h0:w=0
 ·subst h0;refine done _ S3 ?_ (VT (XX (XX g1 gc) g2) (by omega)) d123;rw [Qo,first,jW (cq 0)];have e:=QU (QU c1 v3 (by have:=g1.1;have:=gc.1;omega)) c2 (by have:=(XX g1 gc).1;have:=g2.1;omega);unfold znM;generalize zz .Add (zz .Add (kF (zf 1) xK (qG (zf 4))) (zf 3)) (kF (zf 1) (qG (zf 4)) xK)=mm at e⊢;rw [jq e];rfl
 have n0:(w==0)=false:=beq_eq_false_iff_ne.mpr h0;have q0:=cq 0;rw [n0] at q0;by_cases h1:w=1
 ·subst h1;refine done _ S3 ?_ (VT (XX (XX g1 gc) g3) (by omega)) d123;rw [Qo,first,QY q0,jW (cq 1)];have e:=QU (QU c1 v3 (by have:=g1.1;have:=gc.1;omega)) c3 (by have:=(XX g1 gc).1;have:=g3.1;omega);unfold zn0;generalize zz .Add (zz .Add (kF (zf 1) xK (qG (zf 4))) (zf 3)) (kF (zf 1) (qG (zz .Add (zf 4) (zi (.int 1)))) xK)=mm at e⊢;rw [jq e];rfl
 have n1:(w==1)=false:=beq_eq_false_iff_ne.mpr h1;have q1:=cq 1;rw [n1] at q1;by_cases h2:w=2
 ·subst h2;refine done _ S3 ?_ (VT (XX g1 g3) (by omega)) d123;rw [Qo,first,QY q0,QY q1,jW (cq 2)];have e:=QU c1 c3 (by have:=g1.1;have:=g3.1;omega);unfold zn1;generalize zz .Add (kF (zf 1) xK (qG (zf 4))) (kF (zf 1) (qG (zz .Add (zf 4) (zi (.int 1)))) xK)=mm at e⊢;rw [jq e];rfl
 have n2:(w==2)=false:=beq_eq_false_iff_ne.mpr h2;have q2:=cq 2;rw [n2] at q2;by_cases h3:w=3
 ·subst h3;refine done _ S3 ?_ (VT (XX g4 g2) (by omega)) d123;rw [Qo,first,QY q0,QY q1,QY q2,jW (cq 3)];have e:=QU c4 c2 (by have:=g4.1;have:=g2.1;omega);unfold znY;generalize zz .Add (kF (zf 1) xK (qG (zz .Add (zf 4) (zi (.int 1))))) (kF (zf 1) (qG (zf 4)) xK)=mm at e⊢;rw [jq e];rfl
 have n3:(w==3)=false:=beq_eq_false_iff_ne.mpr h3;have q3:=cq 3;rw [n3] at q3;have ks:=vE (o:=zf 1) (a:=zi (.str " ")) (t:=spF n t (some (.d (.str sgs))) (some (.d (.str (sep c)))) (some (.d (.int at'))) (some (.d (.int w))) none none) (S:=S3) (x:=t) (c:=32) rfl (by rw [<-QI];rfl) (by rw [sizeLine_eq];omega);have sl:=split_len (c:=32) (by decide) gt;have sg:=kh (c:=32) (by decide) gt;have sl1:1<=(Txt.split t (sep 32)).length:=by obtain⟨p,r,e,_,_,_⟩:=xY (c:=32) (by decide) t;rw [e];simp
 have pc:=λ(mid:List Str) hm hmid a=>pieces gt (mid:=mid) hm hmid a
 have sgs':∀s∈Txt.split t (sep 32),PyData.strOk s=true:=λs hs=>(sg s hs).2
 generalize hws:Txt.split t (sep 32)=ws at*;have lw:∀(z4:Option W) (T:Sto),zh qg (za (zf 6) zo) (spF n t (some (.d (.str sgs))) (some (.d (.str (sep c)))) z4 (some (.d (.int w))) (some (.d (.lst (ws.map D.str)))) none) T= .ok (.d (.int (ws.length:Int))) T:=λz4 T=>by refine(qV (S1:=T) (w:=.d (.lst (ws.map D.str))) rfl).trans ?_;show Res.ok (W.d (.int ((ws.map D.str).length:Int))) T=_;rw [lB]
 obtain⟨b,S4,k4,b0,b1,d4⟩:=zax (tt:=spF n t (some (.d (.str sgs))) (some (.d (.str (sep c)))) (some (.d (.int at'))) (some (.d (.int w))) (some (.d (.lst (ws.map D.str)))) none) d123.has rfl (lw _ S3) (by omega) (by omega);obtain⟨e,S5,k5,e0,e1,d5⟩:=zax (tt:=spF n t (some (.d (.str sgs))) (some (.d (.str (sep c)))) (some (.d (.int b))) (some (.d (.int w))) (some (.d (.lst (ws.map D.str)))) none) d4.has rfl (lw _ S4) (by omega) (by omega);obtain⟨ot,ho,ko⟩:=zk8 (ws:=ws) (v:=e) e0 e1 (S:=S5);have k6:zH (zf 6) znb (spF n t (some (.d (.str sgs))) (some (.d (.str (sep c)))) (some (.d (.int b))) (some (.d (.int w))) (some (.d (.lst (ws.map D.str)))) none) S4= .ok (.d (.str ot)) S5:=(sub_eq (w:=.d (.lst (ws.map D.str))) (S1:=S4) rfl k5).trans ko;obtain⟨wb,hwb,kb⟩:=zk8 (ws:=ws) (v:=b) b0 b1 (S:=S5);have d5':=(d123.trans d4).trans d5;have fin:∃mid:List Str,mid.length<=2/\(∀s∈mid,s∈ws)/\zjM (spF n t (some (.d (.str sgs))) (some (.d (.str (sep c)))) (some (.d (.int b))) (some (.d (.int w))) (some (.d (.lst (ws.map D.str)))) (some (.d (.str ot)))) S5= .ok (.d (.lst (mid.map D.str))) S5:=by
  have m1:qh (za (zH (zf 6) (zf 4)) zo) (spF n t (some (.d (.str sgs))) (some (.d (.str (sep c)))) (some (.d (.int b))) (some (.d (.int w))) (some (.d (.lst (ws.map D.str)))) (some (.d (.str ot)))) S5= .ok (.d (.lst [.str wb])) S5:=by have s:=(sub_eq (a:=zf 6) (b:=zf 4) (t:=spF n t (some (.d (.str sgs))) (some (.d (.str (sep c)))) (some (.d (.int b))) (some (.d (.int w))) (some (.d (.lst (ws.map D.str)))) (some (.d (.str ot)))) (w:=.d (.lst (ws.map D.str))) (v:=.d (.int b)) (S:=S5) (S1:=S5) (S2:=S5) rfl rfl).trans kb;generalize zH (zf 6) (zf 4)=mm at s⊢;unfold qh za;rw [s];rfl
  have m2:zz .Mult (qh (za (zH (zf 6) (zf 4)) zo)) (zi (.int 2)) (spF n t (some (.d (.str sgs))) (some (.d (.str (sep c)))) (some (.d (.int b))) (some (.d (.int w))) (some (.d (.lst (ws.map D.str)))) (some (.d (.str ot)))) S5= .ok (.d (.lst [.str wb,.str wb])) S5:=(jP m1 (v:=.d (.int 2)) (S2:=S5) rfl).trans rfl;have m3:zz .Sub (zf 5) (zi (.int 4)) (spF n t (some (.d (.str sgs))) (some (.d (.str (sep c)))) (some (.d (.int b))) (some (.d (.int w))) (some (.d (.lst (ws.map D.str)))) (some (.d (.str ot)))) S5= .ok (.d (.int (w-4))) S5:=rfl;have m0:qh zo (spF n t (some (.d (.str sgs))) (some (.d (.str (sep c)))) (some (.d (.int b))) (some (.d (.int w))) (some (.d (.lst (ws.map D.str)))) (some (.d (.str ot)))) S5= .ok (.d (.lst [])) S5:=rfl;have m4:qh (za (zf 7) zo) (spF n t (some (.d (.str sgs))) (some (.d (.str (sep c)))) (some (.d (.int b))) (some (.d (.int w))) (some (.d (.lst (ws.map D.str)))) (some (.d (.str ot)))) S5= .ok (.d (.lst [.str ot])) S5:=rfl;have ml:∀(a b' c':M) (tt:DS) (x y z:D),a tt S5= .ok (.d x) S5->b' tt S5= .ok (.d y) S5->c' tt S5= .ok (.d z) S5->qh (za a (za b' (za c' zo))) tt S5= .ok (.d (.lst [x,y,z])) S5:=λa b' c' tt x y z ha hb hc=>by unfold qh za;rw [ha,zB,hb,zB,hc];rfl
  have kk:=(sub_eq (ml _ _ _ _ _ _ _ m0 m2 m4) m3);have hw:w=4\/w=5\/w=6:=by omega
  rcases hw with rfl|rfl|rfl
  ·exact⟨[],by simp,by simp,kk.trans rfl⟩
  ·exact⟨[wb,wb],by simp,λs hs=>by simp at hs;rw [hs];exact hwb,kk.trans rfl⟩
  ·exact⟨[ot],by simp,λs hs=>by simp at hs;rw [hs];exact ho,kk.trans rfl⟩
 obtain⟨mid,hm,hmid,km⟩:=fin;have p:=pc mid hm hmid b.toNat;have cA:Ve (zf 6) xK (qG (zf 4)) (spF n t (some (.d (.str sgs))) (some (.d (.str (sep c)))) (some (.d (.int b))) (some (.d (.int w))) (some (.d (.lst (ws.map D.str)))) (some (.d (.str ot)))) S5= .ok (.d (.lst ((ws.take b.toNat).map D.str))) S5:=by refine(ziI (l:=ws.map D.str) rfl rfl (zao (i:=b) rfl)).trans ?_;rw [zkj _ b0 (by rw [lB];omega),List.map_take]
 have cB:Ve (zf 6) (qG (zz .Add (zf 4) (zi (.int 1)))) xK (spF n t (some (.d (.str sgs))) (some (.d (.str (sep c)))) (some (.d (.int b))) (some (.d (.int w))) (some (.d (.lst (ws.map D.str)))) (some (.d (.str ot)))) S5= .ok (.d (.lst ((ws.drop (b.toNat+1)).map D.str))) S5:=by refine(ziI (l:=ws.map D.str) rfl (zao (i:=b+1) ((jP (w:=.d (.int b)) (v:=.d (.int 1)) (S1:=S5) (S2:=S5) rfl rfl).trans zgx)) rfl).trans ?_;rw [zf3 _ (by omega) (by rw [lB];omega),List.map_drop];congr 4;omega
 have jn:spJ (spF n t (some (.d (.str sgs))) (some (.d (.str (sep c)))) (some (.d (.int b))) (some (.d (.int w))) (some (.d (.lst (ws.map D.str)))) (some (.d (.str ot)))) S5= .ok (.d (.str (Txt.join (sep 32) (ws.take b.toNat++mid++ws.drop (b.toNat+1))))) S5:=by have ll:=lK (i:=b.toNat) (l:=ws);have a1:=zfe cA km (by rw [lB,lB];omega);have a2:=zfe a1 cB (by rw [lH,lB,lB,lB,ym];omega);rw [<-yZ,<-yZ] at a2;unfold spJ;generalize zz .Add (zz .Add (Ve (zf 6) xK (qG (zf 4))) zjM) (Ve (zf 6) (qG (zz .Add (zf 4) (zi (.int 1)))) xK)=mm at a2⊢;exact zhg (by rw [<-QI];rfl) a2 (by omega)
 refine done _ S5 ?_ ⟨lQ (zdn _) p,zca (c:=32) (k:=0) (by decide) λs hs=>?_⟩ d5'
 ·rw [Qo,first,QY q0,QY q1,QY q2,QY q3,qo ks (t1:=spF n t (some (.d (.str sgs))) (some (.d (.str (sep c)))) (some (.d (.int at'))) (some (.d (.int w))) (some (.d (.lst (ws.map D.str)))) none) rfl,qo k4 (t1:=spF n t (some (.d (.str sgs))) (some (.d (.str (sep c)))) (some (.d (.int b))) (some (.d (.int w))) (some (.d (.lst (ws.map D.str)))) none) rfl,qo k6 (t1:=spF n t (some (.d (.str sgs))) (some (.d (.str (sep c)))) (some (.d (.int b))) (some (.d (.int w))) (some (.d (.lst (ws.map D.str)))) (some (.d (.str ot)))) rfl];exact jq jn
 ·rcases yd.mp hs with hs|hs
  ·rcases yd.mp hs with hs|hs
   ·exact sgs' s (Lf hs)
   ·exact sgs' s (hmid s hs)
  ·exact sgs' s (yX hs)
theorem znZ{t:DS}{S:Sto}:zz .Pow (zi (.int 10)) (zi (.int 9)) t S= .ok (.d (.int 1000000000)) S:=by kernel_rfl
theorem zjW{n:Nat}{S:Sto}(h:JU n S):wp (noX vq [.ref n] S) λw S'=>∃x,w= .d x/\xD x=true/\Gd 20 3 x/\Dr n S S':=by
 refine K8 ?_;rw [Ks];refine Qb (t:=[some (.ref n),none,none]) rfl ?_;unfold QP;refine qL (N1:=λt' S'=>Dr n S S'/\∃ys,t'= [some (.ref n),some (.d (.lst ys)),none]/\ys.length=12/\j4 (ys.map nameOf)=true/\∀y∈ys,xH y=true/\Gd 20 1 y) ?_ ?_
 ·refine Zt ?_;simp only [dLc,ql,zh,za,zo,zf,zi,kJ,LO,List.foldl_nil,List.set_cons_succ,List.set_cons_zero,wp_bind,lJ,lN,xu];refine wp_mono (Ka (many:=12) h (by decide) (by decide)) ?_;rintro _ S2 ⟨l,rfl,ll,lg,lr,d2⟩;simp only [zA,wp_bind,xu];refine wp_mono (VN (λS'=>Dr n S S') (λd y=>nameOf y=strN d/\xH y=true/\Gd 20 1 y) _ _ _ ?_ ?_ d2) ?_
  ·intro d hd S' hS';obtain⟨s,hs,rfl⟩:=lL.mp hd;refine⟨_,rfl,?_⟩;simp only [vG,xu,qz,za,zo,zi,zf,wp_bind,znZ,xm,Ls,xF,lJ,lN,lO,yh,if_true,Nat.reduceAdd,Nat.reduceLeDiff];refine⟨_,rfl,⟨rfl,zbf (lg s hs) (by decide) (by decide) (by decide) (by decide),.tup (by simp) λy hy=>?_⟩,hS'⟩;simp at hy;rcases hy with rfl|rfl|rfl
   ·exact K01.Xc (lg s hs) (by decide)
   ·exact .int _
   ·exact .int _
  ·rw [lB,yh];exact lQ (by omega:0+l.length<=13) (by decide)
  ·rintro xs S3 ⟨ys,exs,f2,d3⟩;rw [yo] at exs;subst exs;have nm:xs.map nameOf=l:=F2.names (λs y p=>p.1) f2;have hl:xs.length=l.length:=by rw [f2.length,lB]
   refine⟨d3,xs,rfl,by omega,by rw [nm];exact lr,F2.all (R:=λy=>xH y=true/\Gd 20 1 y) (λ_ _ p=>p.2) f2⟩
 rintro _ S1 ⟨d1,ys,rfl,ly,ry,gy⟩;refine xc (QA ?_);simp only [qz,dLc,ql,zh,za,zo,zf,zi,kJ,LO,List.foldl_nil,List.set_cons_succ,List.set_cons_zero,wp_bind,lJ,lN,xu,xI,Vf,zF,zA];refine wp_mono (Ka (many:=6) d1.has (by decide) (by decide)) ?_;rintro _ S2 ⟨l,rfl,ll,lg,lr,d2⟩;simp only [zA,wp_bind,xu];refine wp_mono (VN (λS'=>Dr n S S') (λd y=>nameOf y=strN d/\qD y=true/\Gd 20 1 y) _ _ _ ?_ ?_ (d1.trans d2)) ?_
 ·intro d hd S' hS';obtain⟨s,hs,rfl⟩:=lL.mp hd;refine⟨_,rfl,?_⟩;simp only [vG,xu,qz,za,zo,zi,zf,wp_bind,xm,Ls,xF,lJ,lN,lO,yh,if_true,Nat.reduceAdd,Nat.reduceLeDiff];refine⟨_,rfl,⟨rfl,VQ (lg s hs) (by decide) (by decide),.tup (by simp) λy hy=>?_⟩,hS'⟩;simp at hy;rcases hy with rfl|rfl
  ·exact K01.Xc (lg s hs) (by decide)
  ·exact .int _
 ·rw [lB,yh];exact lQ (by omega:0+l.length<=13) (by decide)
 ·rintro xs S3 ⟨zs,exs,f2,d3⟩;rw [yo] at exs;subst exs;have nm:xs.map nameOf=l:=F2.names (λs y p=>p.1) f2;have hl:xs.length=l.length:=by rw [f2.length,lB]
  have g:=F2.all (R:=λy=>qD y=true/\Gd 20 1 y) (λ_ _ p=>p.2) f2;have hG:Gd 20 3 (.tup [.tup ys,.tup xs,.int 1000]):=by
   refine .tup (by simp) λy hy=>?_
   simp at hy;rcases hy with rfl|rfl|rfl
   ·exact .tup (by omega) λx hx=>(gy x hx).2
   ·exact .tup (by omega) λx hx=>(g x hx).2
   ·exact .int _
  have hA:xD (.tup [.tup ys,.tup xs,.int 1000])=true:=by
   have h1:ys.all xH=true:=yb.mpr λx hx=>(gy x hx).1
   have h2:xs.all qD=true:=yb.mpr λx hx=>(g x hx).1
   have w:within (.int 1000) 1 1000=true:=Qq (by decide) (by decide);have cr:j4 (xs.map nameOf)=true:=by rw [nm];exact lr
   have a1:1<=ys.length:=by omega
   have a2:ys.length<=12:=by omega
   have a3:1<=xs.length:=by omega
   have a4:xs.length<=6:=by omega
   simp only [xD,jD,xQ,w,h1,h2,ry,cr,a1,a2,a3,a4,decide_true,YE]
  simp only [xm,Ls,xF,lO,yh,if_true,Nat.reduceAdd,Nat.reduceLeDiff,xu,zF];exact⟨_,rfl,_,rfl,hA,hG,d3.take⟩
theorem zjx{R:List RkR}{C:List ChR}{m:Nat}(A:ArtOk R C m):Gd 20 3 (Zz (R.map rkD) (C.map chD) m):=by
 refine .tup (by simp) λy hy=>?_
 simp only [lu,lP,or_false] at hy;rcases hy with rfl|rfl|rfl
 ·refine .tup (by rw [lB];have:=A.r12;omega) λx hx=>?_
  obtain⟨r,hr,rfl⟩:=lL.mp hx;refine .tup (by simp) λy hy=>?_
  simp only [lu,lP,or_false] at hy;rcases hy with rfl|rfl|rfl
  ·exact K01.Xc (A.rn r hr).1 (by decide)
  ·exact .int _
  ·exact .int _
 ·refine .tup (by rw [lB];have:=A.c6;omega) λx hx=>?_
  obtain⟨r,hr,rfl⟩:=lL.mp hx;refine .tup (by simp) λy hy=>?_
  simp only [lu,lP,or_false] at hy;rcases hy with rfl|rfl
  ·exact K01.Xc (A.cn r hr).1 (by decide)
  ·exact .int _
 ·exact .int _
theorem Q6{x y:Str}(h:PyData.strOk x=true)(h2:PyData.strOk y=true):PyData.strOk (x++y)=true:=(XX ⟨lD _,h⟩ ⟨lD _,h2⟩).2
theorem zaR{c:Nat}(h:c<0x110000):PyData.strOk (sep c)=true:=X6.mpr λz hz=>by
 have:z=c:=by simpa using hz
 omega
theorem zg7(n:Nat):PyData.strOk (iS n)=true:=X6.mpr λz hz=>by
 by_cases h:z<48\/57<z
 ·exact absurd hz (Jg h)
 ·omega
theorem zlN{s:Str}(h:gdS s):PyData.strOk s=true:=ziL h.2.2
theorem zlf{R:List RkR}{C:List ChR}{m:Nat}(A:ArtOk R C m):gT 681 (Xu R C m):=by
 refine⟨(zcB A).2.2,?_⟩;unfold Xu;refine Q6 (Q6 (Q6 (Q6 (zca (c:=44) (k:=0) (by decide) λs hs=>?_) (zaR (by decide))) (zca (c:=44) (k:=0) (by decide) λs hs=>?_)) (zaR (by decide))) (zg7 m)
 ·obtain⟨r,hr,rfl⟩:=lL.mp hs;exact Q6 (Q6 (Q6 (Q6 (zlN (A.rn r hr).1) (zaR (by decide))) (zg7 _)) (zaR (by decide))) (zg7 _)
 ·obtain⟨r,hr,rfl⟩:=lL.mp hs;exact Q6 (Q6 (zlN (A.cn r hr).1) (zaR (by decide))) (zg7 _)
theorem zoK:(([.non,.int 7,.bl true,.str "",.str "  ",.lst [.str "a=1/1 b*1 1"],.str "a=1/1 b*1",.str "a=1/0 b*1 1",.str "a=1/1 b*1 1 "]++ [.str "a=1/1 b*0 1"]:List D).map λx=>(V8 x).isNone).all id=true:=by decide+kernel
abbrev trD:M:=qz (za (zf 8) (za (zH (qh (za (zi (.str "")) (za (zi (.str "NoText+")) zo))) (zh zjJ (za (zK .Is (zf 8) (zi .non)) zo))) zo))
abbrev trC:M:=zK .NotEq (zh (noX zW) (za (zi (.int 0)) (za (zf 6) zo))) trD
abbrev trB:MSt:=zg (zN (zh (noX jx) (za (zf 2) (za (zf 6) zo))) (gN 6)) (zg (zN (zh (noX qF) (za (zf 6) zo)) (gN 8)) (zg (sIf (dT trC) (zg (zU (zi (.bl false))) zr) zr) zr))
abbrev zng:M:=zK .NotEq (zh (noX zW) (za (zi (.int 1)) (za (zf 3) zo))) (qz (za (zf 6) (za (zi (.str "")) zo)))
abbrev zmT:M:=zK .NotEq (zh (noX zW) (za (zi (.int 0)) (za (zf 6) zo))) (qz (za (zf 3) (za (zi (.str "")) zo)))
abbrev blO:M:=zjZ (zh (noX vc) (za (zf 2) (za (zf 3) (za (zi (.int 2)) zo))))
abbrev blI:MB:=zL (zy (dT (zh (noX zE) (za (zf 4) zo)))) (dT (zK .NotEq (zh (noX zW) (za (zi (.int 1)) (za (zf 4) zo))) (qz (za (zi .non) (za (zi (.str "NoArticles+")) zo)))))
abbrev noB:MSt:=zg (zU (zi (.bl false))) zr
abbrev blE:MSt:=zg (zN blO (gN 4)) (zg (sIf blI noB zr) zr)
abbrev blB:MSt:=zg (zN (zh (noX zD) (za (zf 3) zo)) (gN 6)) (zg (sIf (qI (dT zng) (dT zmT)) noB zr) (zg (xl (kG (zi (.int 4))) (gN 7) trB) blE))
abbrev thB:MSt:=zg (sIf (dT (zK .NotEq (zh (noX zW) (za (zi (.int 0)) (za (zf 5) zo))) (qz (za (zi .non) (za (zi (.str "NoText+")) zo))))) noB zr) zr
abbrev od1:M:=qh (za (zi .non) (za (zi (.int 7)) (za (zi (.bl true)) (za (zi (.str "")) (za (zi (.str "  ")) (za (qh (za (zi (.str "a=1/1 b*1 1")) zo)) (za (zi (.str "a=1/1 b*1")) (za (zi (.str "a=1/0 b*1 1")) (za (zi (.str "a=1/1 b*1 1 ")) zo)))))))))
abbrev od2:M:=zz .Add (zf 4) (qh (za (zi (.str "a=1/1 b*0 1")) zo))
abbrev rdE:MSt:=zg (zN od1 (gN 4)) (zg (xl (ql od2) (gN 5) thB) zr)
abbrev rdL:M:=qh (za (zh (noX qZ) (za (zf 2) (za (zz .Pow (zi (.int 10)) (zi (.int 9))) zo))) (za (zh (noX vq) (za (zf 2) zo)) zo))
abbrev rdB:MSt:=zg (zN (zh (noX kL) (za (zf 0) (za (zf 1) zo))) (gN 2)) (zg (xl (ql rdL) (gN 3) blB) rdE)
abbrev most:M:=(zh zee (za (zi (.int 1)) (za (zh zdW (za (zi (.int 20)) (za (zh qg (za (zf 0) zo)) zo))) zo)))
theorem zml:K82.zfD=zg (xl (kG most) (gN 1) rdB) (zg (zU (zi (.bl true))) zr):=by kernel_rfl
abbrev laF(sc k:W)(p:Nat)(z3 z4 z5 z6 z7 z8:Option W):DS:=[some sc,some k,some (.ref p),z3,z4,z5,z6,z7,z8]
section
variable {sc k:W} {p:Nat} {z3 z4 z5 z6 z7 z8:Option W} {S:Sto}
theorem zj1{t:Str}:okD (told (vI t))=true/\∀z6 z7,trD (laF sc k p z3 z4 z5 z6 z7 (some (.d (JQ (vI t))))) S= .ok (.d (told (vI t))) S:=by
 cases q:vI t with
 |none=>exact⟨by decide+kernel,λz6 z7=>by kernel_rfl⟩
 |some a=>
  obtain⟨R,C,m,rfl,A,_,_⟩:=zbP q;refine⟨?_,λz6 z7=>rfl⟩
  have g:Gd 20 4 (.tup [Zz (R.map rkD) (C.map chD) m,.str ""]):=.tup (by simp) λy hy=>by
   simp only [lu,lP,or_false] at hy;rcases hy with rfl|rfl
   ·exact zjx A
   ·exact .str (by decide+kernel) (by decide+kernel)
  exact g.okD (by decide)
theorem V9{n:Nat}{t:Str}(h:JU p S)(hn:n<=29000)(gt:gT n t):∃t' S',trB (laF sc k p z3 z4 z5 (some (.d (.str t))) z7 z8) S= .nx (laF sc k p z3 z4 z5 (some (.d (.str t'))) z7 (some (.d (JQ (vI t'))))) S'/\gT (3*n+3) t'/\Dr p S S':=by obtain⟨t',S',e1,g,d⟩:=zh4 h (by omega) gt;refine⟨t',S',?_,g,d⟩;have e2:=xG (Xj (n:=3*n+3) (by omega) g (S:=S'));have e3:=xG (zcI (n:=3*n+3) (by omega) (x:=.str t') (λu hu=>by cases hu;exact g) S');obtain⟨o,tr⟩:=zj1 (sc:=sc) (k:=k) (p:=p) (z3:=z3) (z4:=z4) (z5:=z5) (S:=S') (t:=t');have tr':=tr (some (.d (.str t'))) z7;have k1:zh (noX jx) (za (zf 2) (za (zf 6) zo)) (laF sc k p z3 z4 z5 (some (.d (.str t))) z7 z8) S= .ok (.d (.str t')) S':=(call2 (S1:=S) (S2:=S) (w:=.ref p) (v:=.d (.str t)) rfl rfl).trans e1;have k2:zh (noX qF) (za (zf 6) zo) (laF sc k p z3 z4 z5 (some (.d (.str t'))) z7 z8) S'= .ok (.d (JQ (vI t'))) S':=(qV (S1:=S') (w:=.d (.str t')) rfl).trans e2;have k3:zh (noX zW) (za (zi (.int 0)) (za (zf 6) zo)) (laF sc k p z3 z4 z5 (some (.d (.str t'))) z7 (some (.d (JQ (vI t'))))) S'= .ok (.d (told (vI t'))) S':=(call2 (S1:=S') (S2:=S') (w:=.d (.int 0)) (v:=.d (.str t')) rfl rfl).trans e3;have k4:dT trC (laF sc k p z3 z4 z5 (some (.d (.str t'))) z7 (some (.d (JQ (vI t'))))) S'= .ok false S':=jl ((xr k3 tr').trans (xU (d:=told (vI t')) rfl rfl o));unfold trB;rw [qo k1 (t1:=laF sc k p z3 z4 z5 (some (.d (.str t'))) z7 z8) rfl,qo k2 (t1:=laF sc k p z3 z4 z5 (some (.d (.str t'))) z7 (some (.d (JQ (vI t'))))) rfl,QY k4];rfl
theorem zhY{t:Str}(h:JU p S)(gt:gT 681 t):∃a6 a7 a8 S',Vk (gN 7) trB [.int 0,.int 1,.int 2,.int 3] (laF sc k p z3 z4 z5 (some (.d (.str t))) z7 z8) S= .nx (laF sc k p z3 z4 z5 a6 a7 a8) S'/\Dr p S S':=by obtain⟨t1,S1,e1,g1,d1⟩:=V9 (sc:=sc) (k:=k) (z3:=z3) (z4:=z4) (z5:=z5) (z7:=some (.d (.int 0))) (z8:=z8) h (by decide) gt;obtain⟨t2,S2,e2,g2,d2⟩:=V9 (sc:=sc) (k:=k) (z3:=z3) (z4:=z4) (z5:=z5) (z7:=some (.d (.int 1))) (z8:=some (.d (JQ (vI t1)))) d1.has (by decide) g1;obtain⟨t3,S3,e3,g3,d3⟩:=V9 (sc:=sc) (k:=k) (z3:=z3) (z4:=z4) (z5:=z5) (z7:=some (.d (.int 2))) (z8:=some (.d (JQ (vI t2)))) d2.has (by decide) g2;obtain⟨t4,S4,e4,g4,d4⟩:=V9 (sc:=sc) (k:=k) (z3:=z3) (z4:=z4) (z5:=z5) (z7:=some (.d (.int 3))) (z8:=some (.d (JQ (vI t3)))) d3.has (by decide) g3;refine⟨some (.d (.str t4)),some (.d (.int 3)),some (.d (JQ (vI t4))),S4,?_,((d1.trans d2).trans d3).trans d4⟩;generalize trB=B at e1 e2 e3 e4⊢;exact((xy (t1:=laF sc k p z3 z4 z5 (some (.d (.str t))) (some (.d (.int 0))) z8) rfl e1).trans ((xy rfl e2).trans ((xy rfl e3).trans ((xy rfl e4).trans rfl))))
end
theorem zlc{p:Nat}{S:Sto}{x:D}(h:JU p S)(hs:zg6 x)(g:Gd 20 6 x){t:DS}(h2:zf 2 t S= .ok (.ref p) S)(h3:zf 3 t S= .ok (.d x) S):∃y S',blO t S= .ok (.d y) S'/\Gd 28 6 y/\Dr p S S':=by
 have key:wp (blO t S) λw S'=>∃y,w= .d y/\Gd 28 6 y/\Dr p S S':=by
  unfold blO;refine K01.ziU ?_;unfold zh za;rw [wp_bind,wp_bind,h2,xu,wp_bind,wp_bind,h3,xu];simp only [za,zi,zo,wp_bind,xu];refine wp_mono (ziH 3 p 20 6 S x 2 h (by decide) (by decide) (by decide) (by decide) (by decide) (by decide) hs g) ?_;rintro w S2 (⟨y,rfl,hy,gy,d2⟩|⟨ys,S0,rfl,rfl,gy,d2⟩)
  ·exact .inl ⟨y,rfl,y,rfl,gy,d2⟩
  ·exact .inr ⟨ys,S0,rfl,rfl,d2.len,.lst ys,rfl,gy,d2⟩
 obtain⟨w,S',e,y,rfl,g,d⟩:=zes key;exact⟨y,S',e,g,d⟩
section
variable {sc k:W} {p:Nat} {z3 z4 z5 z6 z7 z8:Option W} {S:Sto}
theorem zgG{x:Str}(h:PyData.strOk x=true)(hl:x.length<=1000):okD (.tup [.str x,.str ""])=true:=by
 have g:Gd 1000 1 (.tup [.str x,.str ""]):=.tup (by simp) λy hy=>by
  simp only [lu,lP,or_false] at hy;rcases hy with rfl|rfl
  ·exact .str hl h
  ·exact .str (by decide+kernel) (by decide+kernel)
 exact g.okD (by decide)
theorem zjw{x:D}(h:JU p S)(hA:xD x=true)(gA:Gd 20 3 x):∃a4 S',blE (laF sc k p (some (.d x)) z4 z5 z6 z7 z8) S= .nx (laF sc k p (some (.d x)) a4 z5 z6 z7 z8) S'/\Dr p S S':=by
 obtain⟨R,C,m,ex,A⟩:=J8 hA;obtain⟨y,S',e1,g,d⟩:=zlc (t:=laF sc k p (some (.d x)) z4 z5 z6 z7 z8) h ⟨[.tup (R.map rkD),.tup (C.map chD),.int (m:Int)],.inl ex⟩ (gA.mono (lD _) (by decide)) rfl rfl;refine⟨some (.d y),S',?_,d⟩;have e2:noX zE [.d y] S'= .ok (.d (.bl (xD y))) S':=by unfold noX;rw [ZK (by decide:(28:Nat)<=100000) g]
 have k2:dT (zh (noX zE) (za (zf 4) zo)) (laF sc k p (some (.d x)) (some (.d y)) z5 z6 z7 z8) S'= .ok (xD y) S':=jl ((qV (S1:=S') (w:=.d y) rfl).trans e2);have k3:zy (dT (zh (noX zE) (za (zf 4) zo))) (laF sc k p (some (.d x)) (some (.d y)) z5 z6 z7 z8) S'= .ok (!xD y) S':=by unfold zy;rw [k2];rfl
 have k4:blI (laF sc k p (some (.d x)) (some (.d y)) z5 z6 z7 z8) S'= .ok false S':=by
  refine(and_eq k3).trans ?_;cases q:xD y with
  |true=>rfl
  |false=>
   rw [if_pos (by decide:(!false)=true)];have e3:=xG ((zfW (by decide:(28:Nat)<=100000) g S').2 q);have k5:zh (noX zW) (za (zi (.int 1)) (za (zf 4) zo)) (laF sc k p (some (.d x)) (some (.d y)) z5 z6 z7 z8) S'= .ok (.d (.tup [.non,.str "NoArticles+"])) S':=(call2 (S1:=S') (S2:=S') (w:=.d (.int 1)) (v:=.d y) rfl rfl).trans e3;exact jl ((xr k5 (v:=.d (.tup [.non,.str "NoArticles+"])) (S2:=S') rfl).trans (xU (d:=.tup [.non,.str "NoArticles+"]) rfl rfl (by decide+kernel)))
 unfold blE;rw [qo e1 (t1:=laF sc k p (some (.d x)) (some (.d y)) z5 z6 z7 z8) rfl,QY k4];rfl
theorem zoX{t:DS}:kG (zi (.int 4)) t S= .ok [.int 0,.int 1,.int 2,.int 3] S:=by kernel_rfl
theorem zir{x:D}(h:JU p S)(hA:xD x=true)(gA:Gd 20 3 x):∃a4 a6 a7 a8 S',blB (laF sc k p (some (.d x)) z4 z5 z6 z7 z8) S= .nx (laF sc k p (some (.d x)) a4 z5 a6 a7 a8) S'/\Dr p S S':=by
 obtain⟨R,C,m,ex,A⟩:=J8 hA;have e1:noX zD [.d x] S= .ok (.d (.str (Xu R C m))) S:=by rw [ex];exact xG (vZ A)
 have gt:=zlf A;have hA':=hA;rw [ex] at hA';have tr:=zez hA';rw [<-ex] at tr;have e2:=xG ((zfW (by decide:(20:Nat)<=100000) gA S).1 hA R C m ex);have e3:=xG (zcI (n:=681) (by decide) (x:=.str (Xu R C m)) (λu hu=>by cases hu;exact gt) S);have r0:told (V8 (.str (Xu R C m)))= .tup [x,.str ""]:=by show told (vI (Xu R C m))=_;rw [tr];rfl
 rw [r0] at e3;obtain⟨a6,a7,a8,S1,f,d1⟩:=zhY (sc:=sc) (k:=k) (z3:=some (.d x)) (z4:=z4) (z5:=z5) (z7:=z7) (z8:=z8) h gt;obtain⟨a4,S2,b,d2⟩:=zjw (sc:=sc) (k:=k) (z4:=z4) (z5:=z5) (z6:=a6) (z7:=a7) (z8:=a8) d1.has hA gA;refine⟨a4,a6,a7,a8,S2,?_,d1.trans d2⟩;have k1:zh (noX zD) (za (zf 3) zo) (laF sc k p (some (.d x)) z4 z5 z6 z7 z8) S= .ok (.d (.str (Xu R C m))) S:=(qV (S1:=S) (w:=.d x) rfl).trans e1;have k2:zh (noX zW) (za (zi (.int 1)) (za (zf 3) zo)) (laF sc k p (some (.d x)) z4 z5 (some (.d (.str (Xu R C m)))) z7 z8) S= .ok (.d (.tup [.str (Xu R C m),.str ""])) S:=(call2 (S1:=S) (S2:=S) (w:=.d (.int 1)) (v:=.d x) rfl rfl).trans e2;have k3:zh (noX zW) (za (zi (.int 0)) (za (zf 6) zo)) (laF sc k p (some (.d x)) z4 z5 (some (.d (.str (Xu R C m)))) z7 z8) S= .ok (.d (.tup [x,.str ""])) S:=(call2 (S1:=S) (S2:=S) (w:=.d (.int 0)) (v:=.d (.str (Xu R C m))) rfl rfl).trans e3;have o1:=zgG gt.2 (by have:=gt.1;omega);have o2:okD (.tup [x,.str ""])=true:=by
  have g:Gd 20 4 (.tup [x,.str ""]):=.tup (by simp) λy hy=>by
   simp only [lu,lP,or_false] at hy;rcases hy with rfl|rfl
   ·exact gA
   ·exact .str (by decide+kernel) (by decide+kernel)
  exact g.okD (by decide)
 have q1:dT zng (laF sc k p (some (.d x)) z4 z5 (some (.d (.str (Xu R C m)))) z7 z8) S= .ok false S:=jl ((xr k2 (v:=.d (.tup [.str (Xu R C m),.str ""])) (S2:=S) rfl).trans (xU (d:=.tup [.str (Xu R C m),.str ""]) rfl rfl o1));have q0:dT zmT (laF sc k p (some (.d x)) z4 z5 (some (.d (.str (Xu R C m)))) z7 z8) S= .ok false S:=jl ((xr k3 (v:=.d (.tup [x,.str ""])) (S2:=S) rfl).trans (xU (d:=.tup [x,.str ""]) rfl rfl o2));have qq:qI (dT zng) (dT zmT) (laF sc k p (some (.d x)) z4 z5 (some (.d (.str (Xu R C m)))) z7 z8) S= .ok false S:=by refine(or_eq q1).trans ?_;rw [if_neg (by decide)];exact q0
 unfold blB;rw [qo k1 (t1:=laF sc k p (some (.d x)) z4 z5 (some (.d (.str (Xu R C m)))) z7 z8) rfl,QY qq,Za zoX f];exact b
theorem zmX{x:D}(hx:∀t,x= .str t->gT 1000 t)(hr:V8 x=none):thB (laF sc k p z3 z4 (some (.d x)) z6 z7 z8) S= .nx (laF sc k p z3 z4 (some (.d x)) z6 z7 z8) S:=by have e3:=xG (zcI (n:=1000) (by decide) hx S);rw [hr] at e3;have k3:zh (noX zW) (za (zi (.int 0)) (za (zf 5) zo)) (laF sc k p z3 z4 (some (.d x)) z6 z7 z8) S= .ok (.d (.tup [.non,.str "NoText+"])) S:=(call2 (S1:=S) (S2:=S) (w:=.d (.int 0)) (v:=.d x) rfl rfl).trans e3;have q:=jl ((xr k3 (v:=.d (.tup [.non,.str "NoText+"])) (S2:=S) (b:=qz (za (zi .non) (za (zi (.str "NoText+")) zo))) rfl).trans (xU (d:=.tup [.non,.str "NoText+"]) rfl rfl (by decide+kernel)));unfold thB;rw [QY q];rfl
theorem ziR:∀(l:List D) (z5:Option W),(∀x∈l,(∀t,x= .str t->gT 1000 t)/\V8 x=none)->∃a5,Vk (gN 5) thB l (laF sc k p z3 z4 z5 z6 z7 z8) S= .nx (laF sc k p z3 z4 a5 z6 z7 z8) S
 | [],z5,_=>⟨z5,rfl⟩
 |x::l,z5,h=>by
  have hx:=h x lC;obtain⟨a5,e⟩:=ziR l (some (.d x)) λy hy=>h y (lA _ hy)
  have b:=zmX (sc:=sc) (k:=k) (p:=p) (z3:=z3) (z4:=z4) (z6:=z6) (z7:=z7) (z8:=z8) (S:=S) hx.1 hx.2;generalize thB=B at b e⊢;exact⟨a5,(xy (t1:=laF sc k p z3 z4 (some (.d x)) z6 z7 z8) rfl b).trans e⟩
abbrev zhi:List D:=[.non,.int 7,.bl true,.str "",.str "  ",.lst [.str "a=1/1 b*1 1"],.str "a=1/1 b*1",.str "a=1/0 b*1 1",.str "a=1/1 b*1 1 "]
theorem zhy:∀x∈zhi++ [.str "a=1/1 b*0 1"],(∀t,x= .str t->gT 1000 t)/\V8 x=none:=λx hx=>by
 constructor
 ·intro t e;subst e;simp only [zhi,YT,yo,lu,lP,or_false,reduceCtorEq,false_or,D.str.injEq] at hx;rcases hx with rfl|rfl|rfl|rfl|rfl|rfl <;> exact⟨by decide+kernel,by decide+kernel⟩
 ·have:=yb.mp zoK _ (lL.mpr ⟨x,hx,rfl⟩);simpa using this
theorem zlQ:∃a4 a5,rdE (laF sc k p z3 z4 z5 z6 z7 z8) S= .nx (laF sc k p z3 a4 a5 z6 z7 z8) S:=by
 obtain⟨a5,e⟩:=ziR (sc:=sc) (k:=k) (p:=p) (z3:=z3) (z4:=some (.d (.lst zhi))) (z6:=z6) (z7:=z7) (z8:=z8) (S:=S) (zhi++ [.str "a=1/1 b*0 1"]) z5 zhy;refine⟨some (.d (.lst zhi)),a5,?_⟩;have k1:od1 (laF sc k p z3 z4 z5 z6 z7 z8) S= .ok (.d (.lst zhi)) S:=by kernel_rfl
 have k2:ql od2 (laF sc k p z3 (some (.d (.lst zhi))) z5 z6 z7 z8) S= .ok (zhi++ [.str "a=1/1 b*0 1"]) S:=qJ (by kernel_rfl);unfold rdE;rw [qo k1 (t1:=laF sc k p z3 (some (.d (.lst zhi))) z5 z6 z7 z8) rfl,Za k2 e];rfl
end
theorem zoj{a b:M}{t:DS}{S S1 S2:Sto}{x y:D}(h:a t S= .ok (.d x) S1)(h2:b t S1= .ok (.d y) S2):qh (za a (za b zo)) t S= .ok (.d (.lst [x,y])) S2:=by unfold qh za;rw [h,zB,h2];rfl
abbrev laT(ns:List Int)(z:DS):DS:=some (.fz (ns.map D.int))::z
abbrev laI(ns:List Int)(t:DS)(_:Sto):Prop:=∃z1 z2 z3 z4 z5 z6 z7 z8,t=laT ns [z1,z2,z3,z4,z5,z6,z7,z8]
theorem zg9{ns:List Int}{k:Int}{z2 z3 z4 z5 z6 z7 z8:Option W}{S:Sto}(k0:0<=k)(k1:k<=100):∃t2 S2,rdB (laT ns [some (.d (.int k)),z2,z3,z4,z5,z6,z7,z8]) S= .nx t2 S2/\laI ns t2 S2:=by
 obtain⟨w,S1,e1,a,b,rfl,rfl⟩:=zes (zgV (ns:=ns) (S:=S) k0 k1);have h1:JU S.length (S++ [.lst [.int a,.int b]]):=⟨a,b,by simp⟩;generalize hp:S.length=p at*;generalize hT:S++ [Cell.lst [D.int a,D.int b]]=S1 at*;obtain⟨w,S2,e2,rs,cs,m,rfl,hA,gA,d2⟩:=zes (zi9 h1);obtain⟨w,S3,e3,x,rfl,hA3,gA3,d3⟩:=zes (zjW d2.has);obtain⟨a4,a6,a7,a8,S4,f1,d4⟩:=zir (sc:=.fz (ns.map D.int)) (k:=.d (.int k)) (z4:=z4) (z5:=z5) (z6:=z6) (z7:=z7) (z8:=z8) d3.has hA gA;obtain⟨b4,b6,b7,b8,S5,f2,d5⟩:=zir (sc:=.fz (ns.map D.int)) (k:=.d (.int k)) (z4:=a4) (z5:=z5) (z6:=a6) (z7:=a7) (z8:=a8) d4.has hA3 gA3;obtain⟨c4,c5,r⟩:=zlQ (sc:=.fz (ns.map D.int)) (k:=.d (.int k)) (p:=p) (z3:=some (.d x)) (z4:=b4) (z5:=z5) (z6:=b6) (z7:=b7) (z8:=b8) (S:=S5);have q1:zh (noX kL) (za (zf 0) (za (zf 1) zo)) (laT ns [some (.d (.int k)),z2,z3,z4,z5,z6,z7,z8]) S= .ok (.ref p) S1:=(call2 (S1:=S) (S2:=S) (w:=.fz (ns.map D.int)) (v:=.d (.int k)) rfl rfl).trans e1;have q2:zh (noX qZ) (za (zf 2) (za (zz .Pow (zi (.int 10)) (zi (.int 9))) zo)) (laF (.fz (ns.map D.int)) (.d (.int k)) p z3 z4 z5 z6 z7 z8) S1= .ok (.d (.tup [.tup rs,.tup cs,m])) S2:=(call2 (S1:=S1) (S2:=S1) (w:=.ref p) (v:=.d (.int 1000000000)) rfl znZ).trans e2;have q3:zh (noX vq) (za (zf 2) zo) (laF (.fz (ns.map D.int)) (.d (.int k)) p z3 z4 z5 z6 z7 z8) S2= .ok (.d x) S3:=(qV (S1:=S2) (w:=.ref p) rfl).trans e3;have q4:ql rdL (laF (.fz (ns.map D.int)) (.d (.int k)) p z3 z4 z5 z6 z7 z8) S1= .ok [.tup [.tup rs,.tup cs,m],x] S3:=qJ (zoj q2 q3);have q5:Vk (gN 3) blB [.tup [.tup rs,.tup cs,m],x] (laF (.fz (ns.map D.int)) (.d (.int k)) p z3 z4 z5 z6 z7 z8) S3= .nx (laF (.fz (ns.map D.int)) (.d (.int k)) p (some (.d x)) b4 z5 b6 b7 b8) S5:=by generalize blB=B at f1 f2⊢;exact(xy (t1:=laF (.fz (ns.map D.int)) (.d (.int k)) p (some (.d (.tup [.tup rs,.tup cs,m]))) z4 z5 z6 z7 z8) rfl f1).trans ((xy (t1:=laF (.fz (ns.map D.int)) (.d (.int k)) p (some (.d x)) a4 z5 a6 a7 a8) rfl f2).trans rfl)
 refine⟨laF (.fz (ns.map D.int)) (.d (.int k)) p (some (.d x)) c4 c5 b6 b7 b8,S5,?_,⟨_,_,_,_,_,_,_,_,rfl⟩⟩;unfold rdB;rw [qo q1 (t1:=laF (.fz (ns.map D.int)) (.d (.int k)) p z3 z4 z5 z6 z7 z8) rfl,Za q4 q5];exact r
theorem zhR{B:MSt}{ns:List Int}{S:Sto}{I:DS->Sto->Prop}{t:DS}(hn:ns.length<=63){e:M}{z:DS}(ht:t=some (.fz (ns.map D.int))::z)(he:e=(zh zee (za (zi (.int 1)) (za (zh zdW (za (zi (.int 20)) (za (zh qg (za (zf 0) zo)) zo))) zo))))
 (hI:I t S) (hB:∀(k:Int) t S,0<=k->k<=100->I t S->∃t1,gN 1 (.d (.int k)) t=some t1/\∃t2 S2,B t1 S= .nx t2 S2/\I t2 S2):
 ∃S',zg (xl (kG e) (gN 1) B) (zg (zU (zi (.bl true))) zr) t S= .rt (.d (.bl true)) S':=by
 have hr:∃r:Int,1<=r/\r<=40/\e t S= .ok (.d (.int r)) S:=by
  subst ht he;refine⟨if (if (ns.length:Int)<20 then(ns.length:Int) else 20)>1 then(if (ns.length:Int)<20 then(ns.length:Int) else 20) else 1,?_,?_,Ql ?_⟩
  ·split <;> omega
  ·split
   ·split <;> omega
   ·omega
  ·simp [zh,za,zi,zf,zo,zee,zdW,qg,xM,zF]
 clear he;obtain⟨r,r1,r2,er⟩:=hr;have ei:kG e t S= .ok ((List.range r.toNat).map λi:Nat=>D.int (0+(i:Int))) S:=by unfold kG;rw [er,zB];dsimp only;rw [if_pos (by omega)]
 have go:∀(l:List Nat) t S,(∀i∈l,i<40)->I t S->∃t2 S2,Vk (gN 1) B (l.map λi:Nat=>D.int (0+(i:Int))) t S= .nx t2 S2/\I t2 S2:=by
  intro l;induction l with
  |nil=>intro t S _ h;exact⟨t,S,rfl,h⟩
  |cons i l ih=>
   intro t S hl h;have:=hl i lC;obtain⟨t1,g1,t2,S2,b1,h2⟩:=hB (0+(i:Int)) t S (by omega) (by omega) h;obtain⟨t3,S3,f3,h3⟩:=ih t2 S2 (λj hj=>hl j (lA _ hj)) h2;exact⟨t3,S3,(xy g1 b1).trans f3,h3⟩
 obtain⟨t2,S2,f2,_⟩:=go (List.range r.toNat) t S (λi hi=>by rw [LV] at hi;omega) hI;refine⟨S2,?_⟩;rw [Za ei f2];rfl
theorem maths:∀ns:List Int,ns.length<=63->∃S,K82.zcv [.fz (ns.map D.int)] []= .ok (.d (.bl true)) S:=by
 intro ns hn;obtain⟨S',e⟩:=zhR (B:=rdB) (ns:=ns) (S:=[]) (I:=laI ns) (t:=laT ns [none,none,none,none,none,none,none,none]) hn (e:=most) rfl rfl ⟨_,_,_,_,_,_,_,_,rfl⟩ λk t S k0 k1 h=>by obtain⟨z1,z2,z3,z4,z5,z6,z7,z8,rfl⟩:=h;exact⟨_,rfl,zg9 k0 k1⟩
 have f:=kD (n:=9) (m:=K82.zfD) (ws:=[.fz (ns.map D.int)]) (S:=[]) (S':=S') (t:=laT ns [none,none,none,none,none,none,none,none]) (x:=.bl true) rfl (by rw [zml];exact e);exact⟨_,by rw [ziS];exact f⟩
end K82
open PySem PySem.W PyProof.Rows
set_option maxRecDepth 100000 in
set_option maxHeartbeats 0 in
theorem PySem.Challenge.cw_crewpay_k82_articles_as_texts_holds : PySem.Challenge.rw_crewpay_k82_articles_as_texts.Holds := by
  refine ztp ?_
  k_fill
  refine K82.walk (l := PySem.Challenge.rw_crewpay_k82_articles_as_texts) K82.maths rfl rfl (fun w h Y => PySem.W.kIn_of Y) ?F
  case F =>
    intro w mg fa h KX G hmg
    refine' K82.all_mk KX G hmg ?a0 ?l0 ?c0 ?k0 ?a1 ?l1 ?c1 ?k1 ?a2 ?l2 ?c2 ?k2 ?a3 ?l3 ?c3 ?k3 ?a4 ?l4 ?c4 ?k4 ?a5 ?l5 ?c5 ?k5 ?a6 ?l6 ?c6 ?k6 ?a7 ?l7 ?c7 ?k7 ?a8 ?l8 ?c8 ?k8 ?a9 ?l9 ?c9 ?k9 ?a10 ?l10 ?c10 ?k10 ?a11 ?l11 ?c11 ?k11 ?a12 ?l12 ?c12 ?k12 ?a13 ?l13 ?c13 ?k13 ?a14 ?l14 ?c14 ?k14 ?a15 ?l15 ?c15 ?k15 ?a16 ?l16 ?c16 ?k16 ?a17 ?l17 ?c17 ?k17 ?a18 ?l18 ?c18 ?k18 ?a19 ?l19 ?c19 ?k19 ?a20 ?l20 ?c20 ?k20 ?a21 ?l21 ?c21 ?k21 ?a22 ?l22 ?c22 ?k22 ?a23 ?l23 ?c23 ?k23 ?a24 ?l24 ?c24 ?k24 ?a25 ?l25 ?c25 ?k25 ?a26 ?l26 ?c26 ?k26 ?a27 ?l27 ?c27 ?k27 ?a28 ?l28 ?c28 ?k28 ?a29 ?l29 ?c29 ?k29 ?a30 ?l30 ?c30 ?k30 ?a31 ?l31 ?c31 ?k31 ?a32 ?l32 ?c32 ?k32 ?a33 ?l33 ?c33 ?k33 ?a34 ?l34 ?c34 ?k34 ?z_all ?z_bool ?z_int ?z_isinstance ?z_len ?z_list ?z_max ?z_min ?z_range ?z_set ?z_sorted ?z_str ?z_tuple ?z_zip ?y_FIGURES ?y_MOST_CHESTS ?y_MOST_DAYS ?y_MOST_FIGURES ?y_MOST_LETTERS ?y_MOST_MONTH ?y_MOST_PART ?y_MOST_PENCE ?y_MOST_RANKS ?x_hn ?x_ht ?n_Faulty ?n_NoArticles ?n_NoMan ?n_NoPage ?n_NoPages ?n_NoRank ?n_NoRow ?n_NoSum ?n_NoText ?n_NotThere ?n_NothingLeft ?n_TooMany ?n_TooMuch ?n_Twice ?n_WageError ?xg_NoArticles ?xh_NoArticles ?xb_NoArticles ?xo_NoArticles ?xd_NoArticles ?xc_NoArticles ?xg_NoText ?xh_NoText ?xb_NoText ?xo_NoText ?xd_NoText ?xc_NoText ?e_NoArticles ?e_NoText ?i_NoArticles_Faulty ?i_NoText_Faulty ?i_NoArticles_NoArticles ?i_NoText_NoArticles ?i_NoArticles_NoMan ?i_NoText_NoMan ?i_NoArticles_NoPage ?i_NoText_NoPage ?i_NoArticles_NoPages ?i_NoText_NoPages ?i_NoArticles_NoRank ?i_NoText_NoRank ?i_NoArticles_NoRow ?i_NoText_NoRow ?i_NoArticles_NoSum ?i_NoText_NoSum ?i_NoArticles_NoText ?i_NoText_NoText ?i_NoArticles_NotThere ?i_NoText_NotThere ?i_NoArticles_NothingLeft ?i_NoText_NothingLeft ?i_NoArticles_TooMany ?i_NoText_TooMany ?i_NoArticles_TooMuch ?i_NoText_TooMuch ?i_NoArticles_Twice ?i_NoText_Twice ?n_ValueError ?i_NoArticles_ValueError ?i_NoText_ValueError ?t_NoArticles_WageError ?t_NoText_WageError
    (case a0|l0|c0|k0|a1|l1|c1|k1|a2|l2|c2|k2|a3|l3|c3|k3|a4|l4|c4|k4|a5|l5|c5|k5|a6|l6|c6|k6|a7|l7|c7|k7|a8|l8|c8|k8|a9|l9|c9|k9|a10|l10|c10|k10|a11|l11|c11|k11|a12|l12|c12|k12|a13|l13|c13|k13|a14|l14|c14|k14|a15|l15|c15|k15|a16|l16|c16|k16|a17|l17|c17|k17|a18|l18|c18|k18|a19|l19|c19|k19|a20|l20|c20|k20|a21|l21|c21|k21|a22|l22|c22|k22|a23|l23|c23|k23|a24|l24|c24|k24|a25|l25|c25|k25|a26|l26|c26|k26|a27|l27|c27|k27|a28|l28|c28|k28|a29|l29|c29|k29|a30|l30|c30|k30|a31|l31|c31|k31|a32|l32|c32|k32|a33|l33|c33|k33|a34|l34|c34|k34|z_all|z_bool|z_int|z_isinstance|z_len|z_list|z_max|z_min|z_range|z_set|z_sorted|z_str|z_tuple|z_zip|y_FIGURES|y_MOST_CHESTS|y_MOST_DAYS|y_MOST_FIGURES|y_MOST_LETTERS|y_MOST_MONTH|y_MOST_PART|y_MOST_PENCE|y_MOST_RANKS|x_hn|x_ht|n_Faulty|n_NoArticles|n_NoMan|n_NoPage|n_NoPages|n_NoRank|n_NoRow|n_NoSum|n_NoText|n_NotThere|n_NothingLeft|n_TooMany|n_TooMuch|n_Twice|n_WageError|xg_NoArticles|xh_NoArticles|xb_NoArticles|xo_NoArticles|xd_NoArticles|xc_NoArticles|xg_NoText|xh_NoText|xb_NoText|xo_NoText|xd_NoText|xc_NoText => k_is)
    (case e_NoArticles|e_NoText => k_exc)
    (case i_NoArticles_Faulty|i_NoText_Faulty|i_NoArticles_NoArticles|i_NoText_NoArticles|i_NoArticles_NoMan|i_NoText_NoMan|i_NoArticles_NoPage|i_NoText_NoPage|i_NoArticles_NoPages|i_NoText_NoPages|i_NoArticles_NoRank|i_NoText_NoRank|i_NoArticles_NoRow|i_NoText_NoRow|i_NoArticles_NoSum|i_NoText_NoSum|i_NoArticles_NoText|i_NoText_NoText|i_NoArticles_NotThere|i_NoText_NotThere|i_NoArticles_NothingLeft|i_NoText_NothingLeft|i_NoArticles_TooMany|i_NoText_TooMany|i_NoArticles_TooMuch|i_NoText_TooMuch|i_NoArticles_Twice|i_NoText_Twice => kit_is)
    (case n_ValueError => k_is)
    (case i_NoArticles_ValueError|i_NoText_ValueError => kit_is)
    (case t_NoArticles_WageError|t_NoText_WageError => kts_exm)
#print axioms PySem.Challenge.cw_crewpay_k82_articles_as_texts_holds
