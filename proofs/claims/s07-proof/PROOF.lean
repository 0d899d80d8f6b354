import PyProof.Rows.All
import Wide.All
import OpenK.AllK
import Wide.FinOn
import PyProof.EqAt
import PyProof.EqKinds
import PyProof.TupleCall
import KE.BitLaws
import KE.OsHead
import Open.SpecLaws
import KE.OsGo
import KE.SpHead
import KE.OsShapes
import PyProof.P3In
import PyProof.CollectIter
import PyProof.ListNew
import PyProof.Rows.SetFrom
import KE.KRevIter
import PyProof.Rows.SortShellAny
import PyProof.Rows.SeqGenD
import PySem.Challenge.RW_signsounds_s07_check
set_option Elab.async false
set_option linter.all false
set_option maxRecDepth 100000
set_option maxHeartbeats 4000000
open PySem.W (Frag nsIn findIn isFn keepIn makesIn codeIn fnOf mg_of mg_none_of kIn_of plainGet hasDictIn plainOver)
abbrev aa:=@PySem.wpAny_bind
abbrev ae:=@if_neg
abbrev af:=@List.length_map
abbrev ag:=@decide_eq_false
abbrev ah:=@if_pos
abbrev ai:=@decide_eq_true
abbrev aw:=@List.length_append
abbrev ax:=@PySem.Heap.get?_push_of_some
abbrev ay:=@PySem.wpAny_pure
abbrev az:=@List.append_assoc
abbrev aA:=@Nat.le_refl
abbrev aD:=@Nat.zero_le
abbrev aE:=@List.mem_singleton
abbrev aG:=@List.getElem?_eq_some_iff
abbrev aI:=@List.append_nil
abbrev aJ:=@List.length_cons
abbrev aK:=@List.map_cons
abbrev aL:=@List.mem_of_getElem?
abbrev aM:=@List.getElem?_map
abbrev aN:=@List.map_append
abbrev aP:=@List.mem_cons_of_mem
abbrev aQ:=@PySem.Heap.get?_push_size
abbrev aR:=@List.mem_cons_self
abbrev aS:=@Bool.and_eq_true
abbrev aT:=@Bool.false_ne_true
abbrev aW:=@PySem.Heap.lt_size
abbrev aX:=@Option.some.inj
abbrev aZ:=@List.getElem?_eq_getElem
abbrev ba:=@List.mem_cons
abbrev bb:=@congrArg
abbrev bc:=@PySem.Paired.length
abbrev be:=@List.all_cons
abbrev bg:=@Option.map_some
abbrev bh:=@List.length_take
abbrev bj:=@List.size_toArray
abbrev bp:=@PySem.F.plainAttrs_list
abbrev bq:=@PySem.F.type_list_append
abbrev bu:=@PySem.F.slot_list_append
abbrev bx:=@List.mem_append
abbrev bA:=@of_decide_eq_true
abbrev bE:=@List.nil_append
abbrev bH:=@Nat.ne_of_lt
abbrev bK:=@Nat.le_trans
abbrev bM:=@Nat.lt_of_lt_of_le
abbrev bN:=@List.take_add_one
abbrev bP:=@PySem.PassesOwn.never
abbrev bQ:=@List.takeWhile_cons
abbrev bT:=@PySem.mem_of_lookup
abbrev bU:=@List.all_eq_true
abbrev bY:=@decide_eq_true_iff
abbrev bZ:=@Bool.false_eq_true
abbrev b8:=@UInt8.toNat_inj
abbrev cc:=@beq_eq_false_iff_ne
abbrev cf:=@List.filterMap_cons
abbrev cj:=@List.cons_append
abbrev cv:=@Ne.symm
abbrev cw:=@PySem.Heap.get?_update_self
abbrev cx:=@Array.getElem?_eq_getElem
abbrev cz:=@List.nodup_cons
abbrev cA:=@List.length_drop
abbrev cC:=@List.map_map
abbrev cD:=@PySem.Around.under_plainId
abbrev cG:=@List.mem_append_right
abbrev cH:=@List.mem_map
abbrev cJ:=@List.length_nil
abbrev cK:=@beq_self_eq_true
abbrev cM:=@List.take_length
abbrev cS:=@List.filterMap_append
abbrev cU:=@PySem.wpAny_call_entry
abbrev c8:=@PySem.wpAny_newObj_type
abbrev c9:=@Nat.lt_irrefl
abbrev de:=@List.not_mem_nil
abbrev dk:=@PySem.wpAny_mono
abbrev dn:=@PySem.codeAny_builtin
abbrev dq:=@List.replicate_succ
abbrev dz:=@List.flatMap_cons
abbrev dA:=@PySem.Heap.get?_update_other
abbrev dE:=@Nat.zero_add
abbrev dF:=@List.cons.injEq
abbrev dM:=@PySem.wpAny_holding
abbrev dN:=@decide_eq_decide
abbrev dO:=@PySem.Heap.size_push
abbrev dS:=@PyProof.Rows.callWith_type1
abbrev dU:=@PySem.wpAny_specialOf
abbrev dW:=@List.findIdx?_eq_some_iff_getElem
abbrev d7:=@List.isPrefixOf_iff_prefix
abbrev d8:=@Bool.false_and
abbrev ej:=@List.dropWhile_cons
abbrev eF:=@PySem.plainId_quiet
abbrev eK:=@PySem.wpAny_truthy_bool
abbrev eP:=@PySem.Heap.SameBut.update
abbrev eQ:=@PySem.F.called_set
abbrev eR:=@Option.getD_none
abbrev eT:=@Bool.not_eq_true
abbrev eX:=@List.any_cons
abbrev fi:=@decide_eq_true_eq
abbrev fj:=@Nat.lt_succ_of_lt
abbrev fm:=@Int.toNat_natCast
abbrev fL:=@List.drop_eq_getElem?_toList_append
abbrev fM:=@Option.bind_some
abbrev fN:=@List.length_tail
abbrev fO:=@List.zip_cons_cons
abbrev fW:=@UInt8.lt_iff_toNat_lt
abbrev fX:=@List.length_singleton
abbrev fY:=@List.eq_nil_or_concat
abbrev fZ:=@List.concat_eq_append
abbrev f9:=@PySem.Calls.callWith_builtin
abbrev gp:=@List.find?_cons
abbrev gy:=@PySem.wpAny_Call_Name_kw
abbrev gz:=@bne_self_eq_false
abbrev gA:=@PySem.Calls.spliced_cons
abbrev gB:=@PySem.W.mg_none_of
abbrev gC:=@beq_iff_eq
abbrev gW:=@Nat.lt_succ_self
abbrev il:=@List.map_nil
abbrev iH:=@PySem.wpAny_callSpecial?_slot
abbrev iI:=@Bool.eq_iff_iff
abbrev iM:=@List.cons.inj
abbrev iN:=@Bool.true_and
abbrev iP:=@List.contains_iff_mem
abbrev jf:=@List.flatten_cons
abbrev jg:=@Decidable.not_not
abbrev jk:=@PySem.wpAny_passesOwn
abbrev jl:=@PySem.F.slot_NoneType_hash
abbrev jm:=@List.pairwise_append
abbrev jn:=@List.mem_append_left
abbrev jo:=@List.getLastD_concat
abbrev jq:=@List.getElem?_of_mem
abbrev jN:=@PySem.wpAny_callSpecialIfBoundUnlessNone?_slot
abbrev jO:=@List.isEmpty_iff
abbrev jP:=@List.filter_cons
abbrev j0:=@List.pairwise_iff_getElem
abbrev j1:=@List.getElem?_append_left
abbrev j3:=@List.drop_eq_getElem_cons
abbrev j4:=@PyProof.Rows.F.plain_set_update_loop
abbrev j5:=@List.length_reverse
abbrev kz:=@List.getElem?_take_of_lt
abbrev kC:=@PySem.Calls.evalArgs_plain
abbrev kM:=@List.all_append
abbrev kN:=@Bool.or_eq_true
abbrev lx:=@PySem.F.slot_tuple_hash
abbrev ly:=@List.length_eq_zero_iff
abbrev lC:=@PySem.MeetsSeq3.plain_eq_loop
abbrev lR:=@PySem.F.slot_bool_hash
abbrev lS:=@Option.isSome_map
abbrev lT:=@List.range_succ_eq_map
abbrev lU:=@List.nodup_nil
abbrev lV:=@List.ext_getElem?
abbrev lW:=@List.any_map
abbrev lX:=@Array.getElem?_eq_none
abbrev mE:=@PyProof.Rows.slot_tuple_getitem
abbrev mS:=@PySem.W.Codec.inInt_iff
abbrev mT:=@PySem.F.slot_list_getattribute
abbrev mU:=@List.mem_flatMap
abbrev nM:=@PySem.W.mg_of
abbrev nU:=@PySem.wpAny_setField
abbrev nV:=@Nat.le_succ
abbrev nW:=@List.getElem?_set_ne
abbrev nX:=@PySem.Calls.spliced_nil
abbrev oi:=@Option.map_none
abbrev pI:=@PySem.builtinLookup_eq_fast
abbrev pJ:=@List.map_congr_left
abbrev pK:=@List.getElem_of_mem
abbrev pL:=@List.flatMap_append
abbrev qf:=@Nat.ne_of_gt
abbrev qh:=@Nat.lt_or_ge
abbrev qE:=@PySem.wpAny_of_eq
abbrev qF:=@PySem.W.callWith_K
abbrev qG:=@Nat.pos_of_ne_zero
abbrev qH:=@List.pairwise_cons
abbrev qI:=@List.getD_eq_getElem?_getD
abbrev rW:=@List.findIdx?_eq_none_iff
abbrev ub:=@UInt8.ofNat_toNat
abbrev uc:=@List.pairwise_map
abbrev ug:=@PySem.wpAny_typeOf
abbrev uh:=@PySem.codeAny_mono
abbrev ui:=@Bool.false_or
abbrev vL:=@PySem.wpAny_seqItems
abbrev vM:=@PySem.wpAny_rule
abbrev vN:=@Option.getD_some
abbrev vO:=@List.getElem_mem
abbrev vP:=@List.drop_length
abbrev xn:=@Option.map_eq_some_iff
abbrev xo:=@Option.map_eq_none_iff
abbrev xp:=@Nat.le_of_succ_le_succ
abbrev xq:=@Nat.le_of_lt
abbrev xr:=@Nat.le_of_eq
abbrev xt:=@List.take_of_length_le
abbrev xu:=@List.dropWhile_sublist
abbrev zj:=@PySem.wpAny_pyIter_list
abbrev zk:=@PySem.fits_of_scanBound
abbrev zl:=@PySem.atKey_none_of_get
abbrev zm:=@Nat.min_eq_left
abbrev zw:=@List.take_append_drop
abbrev zx:=@List.length_filter_le
abbrev zy:=@List.getElem?_eq_none
abbrev Bw:=@PySem.wpAny_isInstance
abbrev Bx:=@PySem.wpAny_forIn_list
abbrev By:=@List.take_zero
abbrev Bz:=@List.mem_range
abbrev BA:=@List.getLast?_concat
abbrev BB:=@List.dropLast_concat
abbrev BC:=@List.Perm.refl
abbrev BD:=@Array.getElem_toList
abbrev Ed:=@PyProof.Rows.size_push'
abbrev Er:=@PySem.wpAny_pyNext_list_item
abbrev Es:=@PySem.richCompare_meets_room
abbrev Et:=@PySem.intKind_is
abbrev Eu:=@PySem.call_meets
abbrev Ew:=@PySem.W.plainGet_of
abbrev Ex:=@PyProof.Rows.F.entry_set_update_loop
abbrev Ey:=@List.map_eq_nil_iff
abbrev Hg:=@PySem.wpAny_execs_nil
abbrev Hh:=@PySem.typeLookup_type
abbrev Hi:=@PySem.pushCells_keeps
abbrev Hj:=@Bool.or_false
abbrev Hx:=@PySem.wpAny_pyNext_list_end
abbrev Hy:=@UInt8.toNat_ofNat'
abbrev Hz:=@List.findIdx?_cons
abbrev La:=@PySem.wpAny_fieldsOf
abbrev Lb:=@Option.some.injEq
abbrev Lc:=@Nat.lt_trans
abbrev Ld:=@Nat.le_of_succ_le
abbrev Le:=@List.reverse_cons
abbrev Lf:=@List.length_range
abbrev Lg:=@Array.toList_push
abbrev Nb:=@List.takeWhile_append_dropWhile
abbrev Np:=@List.zipIdx_cons
abbrev Nq:=@List.getElem_map
abbrev Nr:=@List.flatMap_nil
abbrev Nt:=@List.any_eq_true
abbrev Q8:=@PySem.wpAny_attempt
abbrev Rp:=@PySem.tupleKind_room_in1
abbrev Rq:=@PySem.W.length_le_weightAllW
abbrev Rr:=@PySem.F.slot_dict_setdefault
abbrev Rt:=@List.of_mem_zip
abbrev Ru:=@List.mem_filter
abbrev Rv:=@List.length_set
abbrev Rw:=@List.foldl_cons
abbrev T6:=@if_true
abbrev UU:=@or_false
abbrev UW:=@PySem.eqIsQuiet_byValue
abbrev UX:=@List.length_eraseIdx_of_lt
abbrev WS:=@PySem.F.slot_dict_getitem
abbrev WT:=@PySem.F.plain_extend_loop
abbrev Xv:=@PySem.wpAny_pyHash_int
abbrev Xw:=@PySem.wpAny_askSetting
abbrev Xx:=@PySem.beq_builtin_none
abbrev Xy:=@UInt8.toNat_ofNat_of_lt'
abbrev Xz:=@PySem.F.slot_tuple_index
abbrev XA:=@Prod.mk.injEq
abbrev XB:=@Option.isSome_iff_exists
abbrev XC:=@Nat.lt_succ_iff_lt_or_eq
abbrev XD:=@Nat.add_assoc
abbrev XE:=@List.map_take
abbrev XF:=@List.map_drop
abbrev XG:=@Bool.not_true
abbrev aaD:=@PySem.F.plain_list_iadd
abbrev aaE:=@PySem.F.plainAttrs_dict
abbrev aaF:=@List.pairwise_singleton
abbrev aaG:=@List.append_cancel_left
abbrev aaH:=@Int.eq_ofNat_of_zero_le
abbrev aaL:=@PySem.W.cellsFrom_some
abbrev aaM:=@List.pairwise_lt_range
abbrev aaN:=@List.getElem?_set_self
abbrev aaO:=@List.find?_cons_of_pos
abbrev aaP:=@List.find?_cons_of_neg
abbrev aaQ:=@List.drop_eq_nil_of_le
abbrev acX:=PySem.Value->PySem.Shared->Prop
abbrev acY:=List PySem.Value
abbrev acZ:=List Int
abbrev ac0:=PySem.Str->Option PySem.Value
abbrev ac1:=List PySem.Addr
abbrev ac2:=List Nat
abbrev ac3:=List Gh.Bytes
abbrev ac4:=Option PySem.Addr
abbrev ac5:=List PySem.Str
abbrev ac6:=Array PySem.Value
abbrev ac7:=PySem.Addr->Prop
abbrev ac8:=List PySem.Expr
abbrev ac9:=Array (Option PySem.Value)
abbrev ada:=List (PySem.Addr×PySem.Obj)
theorem uU{n:Nat}(h:Nat.blt n 1000=true):n<1000:=Nat.ble_eq.mp h
theorem F1{n:Nat}(h:Nat.ble n PySem.sizeLine=true):n<=PySem.sizeLine:=Nat.ble_eq.mp h
namespace L2
open PySem PySem.Spec PyProof.Rows
abbrev Key:=Sum Int Str
def Bc:Key->Value->Bool
 | .inl k,v=>Value.isInt k v
 | .inr x,v=>Value.isStrOf x v
def aby(w:World):Key->Int
 | .inl k=>hashInt k
 | .inr x=>hashStr w x
theorem fe:∀{k:Key} {v:Value},Bc k v=true->(∃i t,k=Sum.inl i/\v=Value.int i t)\/(∃x t,k=Sum.inr x/\v=Value.str x t)
 | .inl i,v,h=>by
  obtain⟨t,e⟩:=Value.isInt_shape (k:=i) (v:=v) h;exact .inl ⟨i,t,rfl,e⟩
 | .inr x,v,h=>by
  obtain⟨t,e⟩:=Value.isStrOf_shape (x:=x) (v:=v) h;exact .inr ⟨x,t,rfl,e⟩
theorem Mj(i:Int)(t:Tok):Bc (.inl i) (.int i t)=true:=by simp[Bc,Value.isInt]
theorem Mi(x:Str)(t:Tok):Bc (.inr x) (.str x t)=true:=by simp[Bc,Value.isStrOf]
theorem VN(a b:Int):decide ((Sum.inl a:Key)=Sum.inl b)=(a==b):=by
 grind
theorem VJ(a b:Str):decide ((Sum.inr a:Key)=Sum.inr b)=decide (a=b):=by
 grind
theorem VM(a:Int)(b:Str):decide ((Sum.inl a:Key)=Sum.inr b)=false:=ag nofun
theorem VL(a:Str)(b:Int):decide ((Sum.inr a:Key)=Sum.inl b)=false:=ag nofun
def gQ(prog:Program)(w:World):PySem.KeyKind prog w Key where
 is:=Bc
 hash:=aby w
 inj:=λv a b ha hb=>by
  rcases fe ha with ⟨i,t,rfl,rfl⟩|⟨x,t,rfl,rfl⟩
  ·rcases fe hb with ⟨j,u,rfl,e⟩|⟨y,u,rfl,e⟩
   ·injection e with e1 _;rw[e1]
   ·exact nomatch e
  ·rcases fe hb with ⟨j,u,rfl,e⟩|⟨y,u,rfl,e⟩
   ·exact nomatch e
   ·injection e with e1 _;rw[e1]
 byValue:=λk v h=>by
  rcases fe h with ⟨i,t,rfl,rfl⟩|⟨x,t,rfl,rfl⟩ <;> rfl
 pyHash:=λhv h=>by
  rcases fe hv with ⟨i,t,rfl,rfl⟩|⟨x,t,rfl,rfl⟩
  ·exact Xv h
  ·exact wpAny_pyHash_str h
 eqBool:=λhu hv h=>by
  rcases fe hu with ⟨i,t,rfl,rfl⟩|⟨x,t,rfl,rfl⟩
  ·rcases fe hv with ⟨j,u,rfl,rfl⟩|⟨y,u,rfl,rfl⟩
   ·rw[VN] at h;exact wpAny_eqBool_int h
   ·rw[VM] at h;exact SeqAt.EqAt.int_str i t y u _ _ _ _ h
  ·rcases fe hv with ⟨j,u,rfl,rfl⟩|⟨y,u,rfl,rfl⟩
   ·rw[VL] at h;exact SeqAt.EqAt.str_int x t j u _ _ _ _ h
   ·rw[VJ] at h;exact wpAny_eqBool_str h
 «strs»:=λk x t v h=>by
  rcases fe h with ⟨i,u,rfl,e⟩|⟨y,u,rfl,e⟩
  ·exact nomatch e
  ·injection e with e1 _;subst e1;cases v <;> rfl
theorem FP(prog:Program)(w:World)(i:Int)(t:Tok):(gQ prog w).is (.inl i) (.int i t)=true:=Mj i t
theorem FO(prog:Program)(w:World)(x:Str)(t:Tok):(gQ prog w).is (.inr x) (.str x t)=true:=Mi x t
end L2
namespace L2
open PySem PySem.Spec PyProof.Rows
inductive V where
 |eZ|bl (b:Bool)|int (i:Int)|str (x:Str)|Ht (b:Array UInt8)|flt (b:UInt64)|ref (a:Addr)|ty (n:String)
 deriving DecidableEq
def RelV:V->Value->Prop
 | .eZ,u=>u=Value.none
 | .bl b,u=>u=Value.bool b
 | .int i,u=>∃t,u=Value.int i t
 | .str x,u=>∃t,u=Value.str x t
 | .Ht b,u=>∃t,u=Value.bytes b t
 | .flt b,u=>∃t,u=Value.float b t
 | .ref a,u=>u=Value.ref a
 | .ty n,u=>u=Value.type n
abbrev cu:List V->List Value->Prop:=Paired RelV
theorem cu.length{xs:List V}{us:acY}(r:cu xs us):xs.length=us.length:=bc r
theorem cu.get:∀{xs:List V} {us:acY} {i:Nat} {x:V},cu xs us->xs[i]?=some x->∃u,us[i]?=some u/\RelV x u
 |_,_,_,_,.nil,e=>by simp at e
 |_,_,0,_,.cons r _,e=>by simp at e;subst e;exact⟨_,rfl,r⟩
 |_,_,i+1,x,.cons _ t,e=>by
  obtain⟨u,h1,h2⟩:=cu.get (i:=i) (x:=x) t (by simpa using e);exact⟨u,by simpa using h1,h2⟩
theorem cu.set{x:V}{u:Value}(r:RelV x u):∀{xs:List V} {us:acY} (i:Nat),cu xs us->cu (xs.set i x) (us.set i u)
 |_,_,_,.nil=>.nil
 |_,_,0,.cons _ t=>.cons r t
 |_,_,i+1,.cons q t=>.cons q (cu.set r i t)
theorem cu.append:∀{xs ys:List V} {us ws:acY},cu xs us->cu ys ws->cu (xs++ys) (us++ws)
 |_,_,_,_,.nil,s=>s
 |_,_,_,_,.cons r t,s=>.cons r (cu.append t s)
theorem cu.take:∀{xs:List V} {us:acY} (n:Nat),cu xs us->cu (xs.take n) (us.take n)
 |_,_,0,_=>.nil
 |_,_,_+1,.nil=>.nil
 |_,_,n+1,.cons r t=>.cons r (cu.take n t)
theorem cu.drop:∀{xs:List V} {us:acY} (n:Nat),cu xs us->cu (xs.drop n) (us.drop n)
 |_,_,0,r=>r
 |_,_,_+1,.nil=>.nil
 |_,_,n+1,.cons _ t=>cu.drop n t
def mv:Option V->Option Value->Prop
 |some v,some u=>RelV v u
 |none,none=>True
 |_,_=>False
def KV{κ:Type}:List (κ×V)->List (κ×Value)->Prop:=Paired λ(p:κ×V) (q:κ×Value)=>p.1=q.1/\RelV p.2 q.2
def kV:Key->V
 | .inl i=>.int i
 | .inr x=>.str x
inductive HO where
 |lst (xs:List V)
 |tup (xs:List V)
 |dK (kvs:List (Key×V))|dT (kvs:List (List Key×V))
 |set (S:Int->Bool) (n:Nat)
 |ins (C dx:Addr) (fs:List (Str×V))
 |own (x:Addr)
 |xd (fs:List (Str×V))
 |met (f x:Addr)
 |rng (lo hi:Int)
 |wu (o:Obj) (u:HO)
 |U0 (ps:ac6)
 |ext (φ:Heap->Prop)
abbrev Hp:=Addr->Option HO
def upd(H:Hp)(a:Addr)(o:HO):Hp:=λb=>if b=a then some o else H b
theorem ak{H:Hp}{a:Addr}{o:HO}:upd H a o a=some o:=by unfold upd;rw[ah rfl]
theorem aH{H:Hp}{a b:Addr}{o:HO}(h:b≠a):upd H a o b=H b:=by unfold upd;rw[ae h]
theorem bW{H:Hp}{a b:Addr}{o u:HO}(h:H a=some o)(h':H b=some u)(d:o≠u):a≠b:=by
 intro e;subst e;rw[h] at h';exact d (aX h')
theorem bo{H:Hp}{a b:Addr}{o:HO}(h:H a=some o)(h':H b=none):a≠b:=by
 intro e;subst e;rw[h] at h';cases h'
section
variable(P:Program)(w:World)
def fg(H:Hp)(h:Heap)(a:Addr):HO->Prop
 | .lst xs=>xs.length<=sizeLine/\∃(b6:acY) (n:Nat),cu xs b6/\h.get? a=some {cls:=.type "list",data:=.seq b6.toArray n}
 | .tup xs=>xs.length<=sizeLine/\∃b6:List Value,cu xs b6/\IsTup h a b6.toArray
 | .dK kvs=>kvs.length<=sizeLine/\(a==sysModules)=false/\∃vs,KV kvs vs/\h.DictOf (gQ P w) a vs
 | .dT kvs=>kvs.length<=sizeLine/\(a==sysModules)=false/\∃xs:List (List Key×Addr×Value),
   Paired (λ(p:List Key×V) (q:List Key×Addr×Value)=>p.1=q.1/\H q.2.1=some (.tup (p.1.map kV))/\RelV p.2 q.2.2) kvs xs/\
   ∃o es ep,h.get? a=some o/\o.ExactDict/\o.data=.dict es ep/\es.toList=xs.map (entryOfKey (tupleKind (gQ P w)))/\(xs.map (·.1)).Nodup
 | .set S n=>h.SetOf (intKind P w) a S n
 | .ins C dx fs=>H dx=some (.own a)/\fs.length<=1000/\dx≠a/\h.get? a=some (PySem.W.instObj C dx)/\
   ∃mA,h.Ns1 dx mA/\(∀f,mv (fs.lookup f) (mA f))/\PySem.Within mA (fs.map (·.1))
 | .own _=>∃o,h.get? a=some o
 | .xd fs=>∃mA,h.Ns1 a mA/\∀f,mv (fs.lookup f) (mA f)
 | .rng lo hi=>∃t u v,h.get? a=some {cls:=.type "range",data:=.fields #[.int lo t,.int hi u,.int 1 v]}
 | .wu o u=>h.get? a=some o/\fg H h a u
 | .U0 ps=>h.get? a=some {cls:=.none,data:=.fields ps}
 | .met f x=>h.get? a=some (PySem.W.methodObj (.ref f) (.ref x))
 | .ext φ=>φ h/\(∃o,h.get? a=some o)/\∀h1 h2:Heap,φ h1->(∀o,h1.get? a=some o->h2.get? a=some o)->φ h2
def pB(H:Hp)(h:Heap):Prop:=∀a o,H a=some o->fg P w H h a o
end
section
variable{P:Program}{w:World}{H H':Hp}{h h':Heap}{a:Addr}{o:HO}
theorem fg.lt(x:fg P w H h a o):a<h.objs.size:=by
 cases o with
 |lst xs=>obtain⟨_,_,_,_,e⟩:=x;exact aW e
 |tup xs=>obtain⟨_,_,_,p⟩:=x;exact p.lt
 |dK kvs=>obtain⟨_,_,_,_,o,_,_,e,_⟩:=x;exact aW e
 |dT kvs=>obtain⟨_,_,_,_,o,_,_,e,_⟩:=x;exact aW e
 |set S n=>obtain⟨o,_,_,_,e,_⟩:=x;exact aW e
 |ins C dx fs=>obtain⟨_,_,_,e,_⟩:=x;exact aW e
 |own y=>obtain⟨_,e⟩:=x;exact aW e
 |xd fs=>obtain⟨_,⟨_,_,_,e,_⟩,_⟩:=x;exact aW e
 |rng lo hi=>obtain⟨_,_,_,e⟩:=x;exact aW e
 |wu ob u=>obtain⟨e,_⟩:=x;exact aW e
 |U0 ps=>exact aW (show h.get? a=some _ from x)
 |met f y=>exact aW (show h.get? a=some _ from x)
 |ext φ=>obtain⟨_,⟨_,e⟩,_⟩:=x;exact aW e
theorem Paired.ee{α β:Type}{F G:α->β->Prop}:∀{kh:List α} {kJ:List β},Paired F kh kJ->(∀a b,F a b->G a b)->Paired G kh kJ
 |_,_,.nil,_=>.nil
 |_,_,.cons r t,f=>.cons (f _ _ r) (Paired.ee t f)
theorem fg.Lw(x:fg P w H h a o)(k:∀b u,(b=a\/H b=some (.own a))->h.get? b=some u->h'.get? b=some u) (ho:∀b,H b=some (.own a)->H' b=some (.own a)) (ht:∀b xs,H b=some (.tup xs)->H' b=some (.tup xs)):fg P w H' h' a o:=by
 induction o with
 |lst xs=>obtain⟨z,b6,n,r,e⟩:=x;exact⟨z,b6,n,r,k _ _ (.inl rfl) e⟩
 |tup xs=>obtain⟨z,b6,r,ob,e,c⟩:=x;exact⟨z,b6,r,ob,k _ _ (.inl rfl) e,c⟩
 |dK kvs=>obtain⟨z,y,vs,r,ob,es,ep,e,c⟩:=x;exact⟨z,y,vs,r,ob,es,ep,k _ _ (.inl rfl) e,c⟩
 |dT kvs=>
  obtain⟨z,y,xs,r,ob,es,ep,e,c⟩:=x;exact⟨z,y,xs,Paired.ee r λp q z=>⟨z.1,ht _ _ z.2.1,z.2.2⟩,ob,es,ep,k _ _ (.inl rfl) e,c⟩
 |set S n=>obtain⟨ob,es,ep,t,e,c⟩:=x;exact⟨ob,es,ep,t,k _ _ (.inl rfl) e,c⟩
 |ins C dx fs=>
  obtain⟨d,z,ne,e,mA,⟨od,es,ep,e2,c⟩,r⟩:=x;exact⟨ho _ d,z,ne,k _ _ (.inl rfl) e,mA,⟨od,es,ep,k _ _ (.inr d) e2,c⟩,r⟩
 |own y=>obtain⟨ob,e⟩:=x;exact⟨ob,k _ _ (.inl rfl) e⟩
 |xd fs=>obtain⟨mA,⟨od,es,ep,e,c⟩,r⟩:=x;exact⟨mA,⟨od,es,ep,k _ _ (.inl rfl) e,c⟩,r⟩
 |rng lo hi=>obtain⟨t,u,v,e⟩:=x;exact⟨t,u,v,k _ _ (.inl rfl) e⟩
 |wu ob u ih=>obtain⟨e,q⟩:=x;exact⟨k _ _ (.inl rfl) e,ih q⟩
 |U0 ps=>
  have e:h.get? a=some {cls:=.none,data:=.fields ps}:=x;show h'.get? a=some {cls:=.none,data:=.fields ps};exact k a _ (.inl rfl) e
 |met f y=>
  have e:h.get? a=some (PySem.W.methodObj (.ref f) (.ref y)):=x;show h'.get? a=some (PySem.W.methodObj (.ref f) (.ref y));exact k a _ (.inl rfl) e
 |ext φ=>obtain⟨p,⟨o,e⟩,st⟩:=x;exact⟨st _ _ p λo q=>k _ _ (.inl rfl) q,⟨o,k _ _ (.inl rfl) e⟩,st⟩
theorem pB.lt(x:pB P w H h)(e:H a=some o):a<h.objs.size:=(x a o e).lt
theorem pB.fresh(x:pB P w H h)(e:h.objs.size<=a):H a=none:=by
 cases q:H a with
 |none=>rfl
 |some u=>exact absurd (bM (x.lt q) e) (c9 _)
theorem pB.kept(x:pB P w H h)(k:∀b u,h.get? b=some u->h'.get? b=some u):pB P w H h':=λa o e=>
 (x a o e).Lw (λb u _ q=>k b u q) (λ_ q=>q) λ_ _ q=>q
theorem pB.laid(x:pB P w H h)(k:∀b u,h.get? b=some u->h'.get? b=some u)(hp:h.objs.size<=a)(new:fg P w (upd H a o) h' a o):pB P w (upd H a o) h':=λb u e=>by
 have hn:=x.fresh hp;by_cases hb:b=a
 ·subst hb;rw[ak] at e;cases e;exact new
 ·rw[aH hb] at e;exact(x b u e).Lw (λc v _ q=>k c v q) (λc q=>by rw[aH (bo q hn)];exact q) λc xs q=>by rw[aH (bo q hn)];exact q
end
def Rd(H:Hp)(a:Addr)(u:HO):Prop:=H a=some u\/∃o,H a=some (.wu o u)
theorem Rd.ok{P:Program}{w:World}{H:Hp}{h:Heap}{a:Addr}{u:HO}(r:Rd H a u)(x:pB P w H h):fg P w H h a u:=by
 rcases r with r|⟨o,r⟩
 ·exact x a u r
 ·obtain⟨_,q⟩:=x a _ r;exact q
def Mut:Option HO->Prop
 |some (.lst _)=>True
 |some (.dK _)=>True
 |some (.dT _)=>True
 |some (.set _ _)=>True
 |some (.ins _ _ _)=>True
 |some (.ext _)=>True
 |_=>False
section
variable{P:Program}{w:World}{H:Hp}{h h':Heap}{x e:Addr}{o':HO}
theorem pB.write(ok:pB P w H h)(mu:Mut (H x))(he:e=x\/H e=some (.own x))(k:∀b u,b≠e->h.get? b=some u->h'.get? b=some u)(ZO:∃u,h'.get? e=some u) (new:fg P w (upd H x o') h' x o'):pB P w (upd H x o') h':=λb u q=>by
 have abk:∀c y,H c=some (.own y)->c≠x:=λc y r z=>by subst z;rw[r] at mu;exact mu
 have abj:∀c xs,H c=some (.tup xs)->c≠x:=λc xs r z=>by subst z;rw[r] at mu;exact mu
 by_cases hb:b=x
 ·subst hb;rw[ak] at q;cases q;exact new
 ·rw[aH hb] at q;by_cases Nl:b=e
  ·have q':H b=some (.own x):=by
    grind
   rw[q] at q';cases q';obtain⟨v,hv⟩:=ZO;exact⟨v,by rw[Nl];exact hv⟩
  ·refine(ok b u q).Lw (λc v hc r=>k c v ?_ r) (λc r=>by rw[aH (abk c b r)];exact r) λc xs r=>by rw[aH (abj c xs r)];exact r
   grind
end
structure Un(fs ex:ac1)(H H':Hp)(h h':Heap):Prop where
 keep:∀b o,h.get? b=some o->H b=none->b∉fs->b∉ex->h'.get? b=some o
 slot:∀b o,h.get? b=some o->H b=none->b∈fs->b∉ex->∃sl,h'.get? b=some {o with slots:=sl}
 free:∀b o,h.get? b=some o->H b=none->b∉ex->H' b=none
 there:∀b o,h.get? b=some o->b∉ex->∃o',h'.get? b=some o'
 EF:∀b xs,H b=some (.tup xs)->H' b=some (.tup xs)
 DB:∀b o u,H b=some (.wu o u)->H' b=some (.wu o u)
 HI:∀b ps,H b=some (.U0 ps)->∃more,H' b=some (.U0 (ps++more))
section
variable{fs fs' ex ex':ac1}{H H1 H2:Hp}{h h1 h2 h':Heap}{a x e:Addr}{o:HO}
theorem Un.any(u:Un fs ex H H1 h h1){b:Addr}{ob:Obj}(q:h.get? b=some ob)(n:H b=none)(hx:b∉ex):∃sl,h1.get? b=some {ob with slots:=sl}:=by
 by_cases hb:b∈fs
 ·exact u.slot b ob q n hb hx
 ·exact⟨ob.slots,u.keep b ob q n hb hx⟩
theorem Un.kept(k:∀b u,h.get? b=some u->h'.get? b=some u):Un fs ex H H h h':=
 ⟨λb ob q _ _ _=>k b ob q,λb ob q _ _ _=>⟨ob.slots,k b ob q⟩,λ_ _ _ n _=>n,λb ob q _=>⟨ob,k b ob q⟩,λ_ _ q=>q,λ_ _ _ q=>q,λ_ ps q=>⟨#[],by rw[q];simp⟩⟩
theorem Un.refl:Un fs ex H H h h:=Un.kept λ_ _ q=>q
theorem Un.laid(k:∀b u,h.get? b=some u->h'.get? b=some u)(hp:h.objs.size<=a)(hn:H a=none):Un fs ex H (upd H a o) h h' where
 keep:=λb u q _ _ _=>k b u q
 slot:=λb u q _ _ _=>⟨u.slots,k b u q⟩
 free:=λb u q n _=>by rw[aH (bH (bM (aW q) hp))];exact n
 there:=λb u q _=>⟨u,k b u q⟩
 EF:=λb xs q=>by rw[aH (bo q hn)];exact q
 DB:=λb u xs q=>by rw[aH (bo q hn)];exact q
 HI:=λb ps q=>⟨#[],by rw[aH (bo q hn),q];simp⟩
theorem Un.write(mu:Mut (H x))(he:e=x\/H e=some (.own x))(k:∀b u,b≠e->h.get? b=some u->h'.get? b=some u)(ZO:∃u,h'.get? e=some u):Un fs ex H (upd H x o) h h':=by
 have hx:∀b,H b=none->b≠x:=λb n z=>by subst z;rw[n] at mu;exact mu
 have hb:∀b,H b=none->b≠e:=λb n z=>by
  grind
 have hm:∀b u,H b=some u->¬Mut (some u)->b≠x:=λb u q nm z=>by subst z;rw[q] at mu;exact nm mu
 refine⟨λb u q n _ _=>k b u (hb b n) q,λb u q n _ _=>⟨u.slots,k b u (hb b n) q⟩,λb u q n _=>by rw[aH (hx b n)];exact n,λb u q _=>?_,
  λb xs q=>by rw[aH (hm b _ q λz=>z)];exact q,λb u xs q=>by rw[aH (hm b _ q λz=>z)];exact q,λb ps q=>⟨#[],by rw[aH (hm b _ q λz=>z),q];simp⟩⟩
 grind
end
def trk(h:Heap)(H:Hp):List Addr:=(List.range h.objs.size).filter λa=>(H a).isSome
def Dh(h:Heap)(H:Hp):Heap:=PySem.W.hideAll h (trk h H)
theorem Mw(h:Heap)(H:Hp):(Dh h H).objs.size=h.objs.size:=PySem.W.hideAll_size _ _
theorem PU{h:Heap}{H:Hp}{b:Addr}{o:Obj}(e:h.get? b=some o)(n:H b=none):(Dh h H).get? b=some o:=
 PySem.W.hideAll_get _ e λhm=>by
  have q:(H b).isSome=true:=(Ru.mp hm).2;rw[n] at q;simp at q
theorem R9{h:Heap}{H:Hp}{b:Addr}{o:Obj}(e:(Dh h H).get? b=some o):h.get? b=some o/\H b=none:=by
 have e':h.get? b=some o:=PySem.W.of_hideAll (trk h H) e;refine⟨e',?_⟩;cases q:H b with
 |none=>rfl
 |some x=>
  have hm:b∈trk h H:=Ru.mpr ⟨Bz.mpr (aW e'),by simp[q]⟩;have z:(Dh h H).get? b=none:=PySem.W.hideAll_none (trk h H) hm;rw[z] at e;cases e
end L2
namespace L2
open PySem PySem.Spec PyProof.Rows
structure Mod(K:Frag)(mg:ac0)(base:Heap):Prop where
 W5:K.In base
 glob:base.Ns mainGlobals mg
 blt:∃mb,base.Ns builtinsNs mb/\∀x:Str,x≠"__name__"->mb x=bootBuiltins x
 nolimit:base.NoLimit
structure Cx where
 prog:Program
 w:World
 K:Frag
 mg:Str->Option Value
 base:Heap
 A:Around
 N:List Str
 AN:Shared
 H_0:Hp
 env:Env
 outer:List Env
 stack:List Env
 ex:List Addr
 fn:Str->Bool
 calm:Bool
 pn:List (Addr×Obj)
 xe:Value->Shared->Prop
def Qm(l:List Env):List Addr:=l.filterMap (·.frame)
abbrev Cx.fs(X:Cx):List Addr:=Qm X.outer
def Vis(sc:Scope)(x:Str):Prop:=sc.names.lookup x=some .local\/sc.names.lookup x=some .cell\/sc.names.lookup x=some .free
def Loc(sc:Scope)(x:Str):Prop:=sc.names.lookup x=some .local\/sc.names.lookup x=some .cell
def Look(env:Env)(h:Heap)(m:ac0)(x:Str)(u:Value):Prop:=
 (env.kindOf x=some .local/\m x=some u)\/((env.kindOf x=some .cell\/env.kindOf x=some .free)/\∃c,env.cells.lookup x=some c/\h.IsCell c (some u))
structure Cx.Ok(X:Cx):Prop where
 mod:Mod X.K X.mg X.base
 kind:X.env.scope.kind=.function
 glob:X.env.globals=mainGlobals
 blt:X.env.builtins=builtinsNs
 above:X.AN.heap.objs.size<=X.env.locals
 inj:∀x y c,X.env.cells.lookup x=some c->X.env.cells.lookup y=some c->x=y
 has:∀x,(X.env.kindOf x=some .cell\/X.env.kindOf x=some .free)->∃c,X.env.cells.lookup x=some c
 cab:∀x c,X.fn x=true->X.env.cells.lookup x=some c->X.AN.heap.objs.size<=c
 hd:X.calm=true->X.A.handled=none
 frames:X.A.frames=some X.stack
 stk:X.stack=X.outer\/(X.stack=X.env::X.outer/\X.env.frame=some X.env.locals)
 exf:∀b∈X.ex,b≠X.env.locals/\∀x c,X.env.cells.lookup x=some c->c≠b
 bs:∀b o,X.base.get? b=some o->X.AN.heap.get? b=some o/\X.H_0 b=none
 TK:X.base.objs.size<=X.AN.heap.objs.size
 ON:∀b o,X.base.get? b=some o->b∉X.ex
 Qw:∀b∈X.ex,b∉X.fs
 wt:X.AN.heap.FunFrames X.base X.outer
 Ws:∀b∈X.fs,X.H_0 b=none
structure Inv(X:Cx)(pins:ada)(σ:List (Option V))(H:Hp)(s:Shared):Prop where
 ok:X.Ok
 os:s.os=X.AN.os
 bare:AllBare s.gens
 base:Un X.fs X.ex X.H_0 H X.AN.heap s.heap
 loc:∃m,s.heap.Ns X.env.locals m/\∀(i:Nat) (x:Str) (v:V),X.N[i]?=some x->σ[i]?=some (some v)->Vis X.env.scope x->∃u,RelV v u/\Look X.env s.heap m x u
 cell:∀x c,X.env.cells.lookup x=some c->∃v,s.heap.IsCell c v
 free:H X.env.locals=none
 o6:∀x c,X.env.cells.lookup x=some c->H c=none
 pin:∀p∈X.pn++pins,s.heap.get? p.1=some p.2/\H p.1=none/\p.1≠X.env.locals/\p.1∉X.fs/\∀v,p.2.data≠.cell v
 cR:pB X.prog X.w H s.heap
 len:σ.length=X.N.length
section
variable{X:Cx}{pins:ada}{σ:List (Option V)}{H H':Hp}{s:Shared}{h':Heap}
theorem Cx.Ok.abm(ok:X.Ok){b:Addr}{o:Obj}(e:X.base.get? b=some o):b∉X.fs:=λhb=>by
 have:=(ok.wt.mem hb).1;rw[e] at this;cases this
theorem Inv.bs(I:Inv X pins σ H s):∀b o,X.base.get? b=some o->s.heap.get? b=some o/\H b=none:=λb o e=>
 ⟨I.base.keep b o (I.ok.bs b o e).1 (I.ok.bs b o e).2 (I.ok.abm e) (I.ok.ON b o e),I.base.free b o (I.ok.bs b o e).1 (I.ok.bs b o e).2 (I.ok.ON b o e)⟩
theorem Inv.bk(I:Inv X pins σ H s):∀b o,X.base.get? b=some o->s.heap.get? b=some o:=λb o e=>(I.bs b o e).1
theorem Inv.mod(I:Inv X pins σ H s):Mod X.K X.mg X.base:=I.ok.mod
theorem Inv.C0(I:Inv X pins σ H s):X.K.In s.heap:=I.ok.mod.W5.keeps I.bk
theorem Inv.lt(I:Inv X pins σ H s):X.env.locals<s.heap.objs.size:=let ⟨_,hn,_⟩:=I.loc;hn.lt
theorem Inv.sz(I:Inv X pins σ H s):X.AN.heap.objs.size<=s.heap.objs.size:=bK I.ok.above (xq I.lt)
theorem Inv.abl(I:Inv X pins σ H s){a:Addr}(h:s.heap.objs.size<=a):a∉X.fs:=λhb=>by
 obtain⟨_,o,ho,_⟩:=I.ok.wt.mem hb;exact absurd (bM (aW ho) (bK I.sz h)) (c9 _)
theorem Inv.WD(I:Inv X pins σ H s):∀x c,X.env.cells.lookup x=some c->c≠X.env.locals:=λx c e z=>by
 obtain⟨v,o,ho,hd⟩:=I.cell x c e;obtain⟨m,⟨o',es,ep,Kw,yM,_⟩,_⟩:=I.loc;rw[z,Kw] at ho;cases ho;rw[yM] at hd;cases hd
theorem Inv.wt(I:Inv X pins σ H s):s.heap.FunFrames X.base X.outer:=by
 have all:∀(l:List Env),(∀b∈Qm l,b∈X.fs)->X.AN.heap.FunFrames X.base l->s.heap.FunFrames X.base l:=by
  intro l
  induction l with
  |nil=>intro _ _;trivial
  |cons env r ih=>
   intro hs hl;obtain⟨hk,⟨L,o,hf,hn,ho,hd⟩,hr⟩:=hl;have hL:L∈X.fs:=hs L (by unfold Qm;rw[cf,hf];exact aR);obtain⟨sl,e⟩:=I.base.slot L o ho (I.ok.Ws L hL) hL λz=>I.ok.Qw L z hL
   exact⟨hk,⟨L,_,hf,hn,e,hd⟩,ih (λb hb=>hs b (by unfold Qm;rw[cf,hf];exact aP _ hb)) hr⟩
 exact all X.outer (λ_ hb=>hb) I.ok.wt
theorem Inv.stack(I:Inv X pins σ H s):s.heap.FunFrames X.base X.stack:=by
 rcases I.ok.stk with e|⟨e,hf⟩
 ·rw[e];exact I.wt
 ·rw[e];obtain⟨m,hn,_⟩:=I.loc;refine .cons (by rw[I.ok.kind];decide) hf hn ?_ I.wt;exact Heap.get?_none_of_le (bK I.ok.TK I.ok.above)
theorem Inv.HJ(I:Inv X pins σ H s):∀b∈Qm X.stack,b∈X.env.locals::X.fs:=λb hb=>by
 rcases I.ok.stk with e|⟨e,hf⟩
 ·rw[e] at hb;exact aP _ hb
 ·rw[e] at hb;unfold Qm at hb;rw[cf,hf] at hb;exact hb
theorem Inv.JH(I:Inv X pins σ H s):∀b∈Qm X.stack,H b=none:=λb hb=>by
 rcases ba.mp (I.HJ b hb) with e|hb
 ·rw[e];exact I.free
 ·obtain⟨_,o,ho,_⟩:=I.ok.wt.mem hb;exact I.base.free b o ho (I.ok.Ws b hb) λz=>I.ok.Qw b z hb
theorem Inv.step{g':Array GenState}{t':Nat}{d':Drawn}{ch:ac1}(I:Inv X pins σ H s) (S9:∀b∈ch,(b∈X.ex\/X.AN.heap.objs.size<=b)/\b≠X.env.locals/\(∀x c,X.env.cells.lookup x=some c->c≠b)/\∀p∈X.pn++pins,p.1≠b) (keep:∀b o,b≠X.env.locals->b∉X.fs->b∉ch->s.heap.get? b=some o->H b=none->h'.get? b=some o) (slot:∀b o,b≠X.env.locals->b∈X.fs->b∉ch->s.heap.get? b=some o->H b=none->∃sl,h'.get? b=some {o with slots:=sl}) (free:∀b o,b∉ch->s.heap.get? b=some o->H b=none->H' b=none) (there:∀b o,b∉ch->s.heap.get? b=some o->∃o',h'.get? b=some o') (EF:∀b xs,H b=some (.tup xs)->H' b=some (.tup xs)) (DB:∀b o u,H b=some (.wu o u)->H' b=some (.wu o u)) (HI:∀b ps,H b=some (.U0 ps)->∃more,H' b=some (.U0 (ps++more))) (ns:∀m,s.heap.Ns X.env.locals m->h'.Ns X.env.locals m) (cR:pB X.prog X.w H' h') (hg:AllBare g'): Inv X pins σ H' {s with heap:=h',gens:=g',drawn:=d',toks:=t'}:=by
 have neL:∀b o,X.AN.heap.get? b=some o->b≠X.env.locals:=λb o e=>bH (bM (aW e) I.ok.above)
 have neC:∀b o,X.AN.heap.get? b=some o->b∉X.ex->b∉ch:=λb o e hx hb=>by
  rcases(S9 b hb).1 with z|z
  ·exact hx z
  ·exact absurd (bM (aW e) z) (c9 _)
 have cellK:∀x c,X.env.cells.lookup x=some c->∀v,s.heap.IsCell c v->h'.IsCell c v:=λx c e v ⟨o,ho,hd⟩=>by
  have nch:c∉ch:=λz=>(S9 c z).2.2.1 x c e rfl
  by_cases hc:c∈X.fs
  ·obtain⟨sl,q⟩:=slot c o (I.WD x c e) hc nch ho (I.o6 x c e);exact⟨_,q,hd⟩
  ·exact⟨o,keep c o (I.WD x c e) hc nch ho (I.o6 x c e),hd⟩
 refine⟨I.ok,I.os,hg,⟨λb o e n hb hx=>?_,λb o e n hb hx=>?_,λb o e n hx=>?_,λb o e hx=>?_,λb xs e=>EF b xs (I.base.EF b xs e),λb o xs e=>DB b o xs (I.base.DB b o xs e),λb ps e=>?_⟩,?_,λx c e=>?_,?_,λx c e=>?_,λp hp=>?_,cR,I.len⟩
 ·exact keep b o (neL b o e) hb (neC b o e hx) (I.base.keep b o e n hb hx) (I.base.free b o e n hx)
 ·obtain⟨sl,e1⟩:=I.base.slot b o e n hb hx;obtain⟨sl',e2⟩:=slot b _ (neL b o e) hb (neC b o e hx) e1 (I.base.free b o e n hx);exact⟨sl',e2⟩
 ·obtain⟨o',e1⟩:=I.base.there b o e hx;exact free b o' (neC b o e hx) e1 (I.base.free b o e n hx)
 ·obtain⟨o',e1⟩:=I.base.there b o e hx;exact there b o' (neC b o e hx) e1
 ·obtain⟨m1,e1⟩:=I.base.HI b ps e
  grind
 ·obtain⟨m,hn,hl⟩:=I.loc;refine⟨m,ns m hn,λi x v e1 e2 e3=>?_⟩;obtain⟨u,r,l⟩:=hl i x v e1 e2 e3;refine⟨u,r,?_⟩;rcases l with l|⟨k,c,e,z⟩
  ·exact .inl l
  ·exact .inr ⟨k,c,e,cellK x c e _ z⟩
 ·obtain⟨v,z⟩:=I.cell x c e;exact⟨v,cellK x c e v z⟩
 ·obtain⟨m,⟨o,_,_,ho,_⟩,_⟩:=I.loc;exact free _ o (λz=>(S9 _ z).2.1 rfl) ho I.free
 ·obtain⟨v,o,ho,hd⟩:=I.cell x c e;exact free c o (λz=>(S9 c z).2.2.1 x c e rfl) ho (I.o6 x c e)
 ·obtain⟨e,n,ne,nf,d⟩:=I.pin p hp
  grind
theorem Inv.un{t':Nat}(I:Inv X pins σ H s)(u:Un X.fs [] H H' s.heap h')(cR:pB X.prog X.w H' h'):Inv X pins σ H' {s with heap:=h',toks:=t'}:=by
 obtain⟨m,⟨o,es,ep,ho,r⟩,_⟩:=id I.loc;obtain⟨sl,hL⟩:=u.any ho I.free (by simp)
 exact I.step (g':=s.gens) (d':=s.drawn) (ch:=[]) (λ_=>nofun) (λb o _ hb _ e n=>u.keep b o e n hb (by simp)) (λb o _ hb _ e n=>u.slot b o e n hb (by simp)) (λb o _ e n=>u.free b o e n (by simp)) (λb o _ e=>u.there b o e (by simp)) u.EF u.DB u.HI (λm' hm=>by
  obtain⟨o',wx,ep',Kw,r'⟩:=hm;rw[ho] at Kw;cases Kw
  exact⟨_,wx,ep',hL,r'⟩) cR I.bare
theorem Inv.call{g':Array GenState}{t':Nat}{d':Drawn}{ch:ac1}(I:Inv X pins σ H s)(u:Un (Qm X.stack) ch H H' s.heap h')(cR:pB X.prog X.w H' h')(hg:AllBare g') (S9:∀b∈ch,(b∈X.ex\/X.AN.heap.objs.size<=b)/\b≠X.env.locals/\(∀x c,X.env.cells.lookup x=some c->c≠b)/\∀p∈X.pn++pins,p.1≠b): Inv X pins σ H' {s with heap:=h',gens:=g',drawn:=d',toks:=t'}:=by
 obtain⟨m,⟨o,es,ep,ho,r⟩,_⟩:=id I.loc;obtain⟨sl,hL⟩:=u.any ho I.free λz=>(S9 _ z).2.1 rfl
 exact I.step (ch:=ch) S9 (λb o hL hb hc e n=>u.keep b o e n (λz=>(ba.mp (I.HJ b z)).elim hL hb) hc) (λb o _ _ hc e n=>u.any e n hc) (λb o hc e n=>u.free b o e n hc) (λb o hc e=>u.there b o e hc) u.EF u.DB u.HI (λm' hm=>by
  obtain⟨o',wx,ep',Kw,r'⟩:=hm;rw[ho] at Kw;cases Kw
  exact⟨_,wx,ep',hL,r'⟩) cR hg
theorem Inv.turned{t':Nat}{it:Addr}(I:Inv X pins σ H s)(k:∀b o,b≠it->s.heap.get? b=some o->h'.get? b=some o)(hn:H it=none)(hL:it≠X.env.locals) (h1:it∈X.ex\/X.AN.heap.objs.size<=it) (h2:∀x c,X.env.cells.lookup x=some c->c≠it) (h3:∀p∈X.pn++pins,p.1≠it):Inv X pins σ H {s with heap:=h',toks:=t'}:=by
 have nit:∀b u,H b=some u->b≠it:=λb u e z=>by rw[z,hn] at e;cases e
 refine I.step (g':=s.gens) (d':=s.drawn) (ch:=[it]) (λb hb=>?_) (λb o _ _ hc e _=>k b o (λz=>hc (by simp[z])) e) (λb o _ _ hc e _=>⟨o.slots,k b o (λz=>hc (by simp[z])) e⟩) (λ_ _ _ _ n=>n)
  (λb o hc e=>⟨o,k b o (λz=>hc (by simp[z])) e⟩) (λ_ _ e=>e) (λ_ _ _ e=>e) (λb ps e=>⟨#[],by rw[e];simp⟩) (λm hm=>?_) (λb u e=>?_) I.bare
 ·grind
 ·obtain⟨o,es,ep,ho,r⟩:=hm;exact⟨o,es,ep,k _ o (cv hL) ho,r⟩
 ·refine(I.cR b u e).Lw (λc v hc q=>k c v ?_ q) (λ_ q=>q) λ_ _ q=>q
  rcases hc with z|z
  ·rw[z];exact nit b u e
  ·exact nit c _ z
theorem Inv.tok(I:Inv X pins σ H s)(t:Nat):Inv X pins σ H {s with toks:=t}:=I.un (h':=s.heap) (t':=t) Un.refl I.cR
theorem Inv.kept{t':Nat}(I:Inv X pins σ H s)(k:∀b u,s.heap.get? b=some u->h'.get? b=some u):Inv X pins σ H {s with heap:=h',toks:=t'}:=I.un (Un.kept k) (I.cR.kept k)
theorem Inv.laid{a:Addr}{o:HO}{t':Nat}(I:Inv X pins σ H s)(k:∀b u,s.heap.get? b=some u->h'.get? b=some u)(hp:s.heap.objs.size<=a)(new:fg X.prog X.w (upd H a o) h' a o): Inv X pins σ (upd H a o) {s with heap:=h',toks:=t'}:=I.un (Un.laid k hp (I.cR.fresh hp)) (I.cR.laid k hp new)
theorem Inv.write{x e:Addr}{o:HO}{t':Nat}(I:Inv X pins σ H s)(mu:Mut (H x))(he:e=x\/H e=some (.own x))(k:∀b u,b≠e->s.heap.get? b=some u->h'.get? b=some u)(ZO:∃u,h'.get? e=some u) (new:fg X.prog X.w (upd H x o) h' x o):Inv X pins σ (upd H x o) {s with heap:=h',toks:=t'}:=I.un (Un.write mu he k ZO) (I.cR.write mu he k ZO new)
theorem Inv.weak{eU:List (Option V)}(I:Inv X pins σ H s)(hl:eU.length=σ.length)(w:∀(i:Nat) v,eU[i]?=some (some v)->σ[i]?=some (some v)):Inv X pins eU H s:=
 ⟨I.ok,I.os,I.bare,I.base,let ⟨m,hn,De⟩:=I.loc;⟨m,hn,λi x v e1 e2 e3=>De i x v e1 (w i v e2) e3⟩,I.cell,I.free,I.o6,I.pin,I.cR,hl.trans I.len⟩
theorem Inv.J5{Ur:ada}(I:Inv X pins σ H s)(h:∀p∈Ur,s.heap.get? p.1=some p.2/\H p.1=none/\p.1≠X.env.locals/\p.1∉X.fs/\∀v,p.2.data≠.cell v):Inv X Ur σ H s:=
 ⟨I.ok,I.os,I.bare,I.base,I.loc,I.cell,I.free,I.o6,λp hp=>(bx.mp hp).elim (λz=>I.pin p (jn _ z)) (h p),I.cR,I.len⟩
theorem yi{N:ac5}(hN:N.Nodup){i j:Nat}{x:Str}(a:N[i]?=some x)(b:N[j]?=some x):i=j:=by
 obtain⟨h1,e1⟩:=aG.mp a;obtain⟨h2,e2⟩:=aG.mp b;exact(List.getElem_inj hN).mp (e1.trans e2.symm)
theorem AD{M:Model}{A:Around}{E:acX}{i:Nat}{x:Str}{v:V}{u:Value}{Q:Unit->Shared->Prop}(I:Inv X pins σ H s)(hN:X.N.Nodup)(hi:X.N[i]?=some x)(hx:Loc X.env.scope x)(r:RelV v u) (h:∀s',Inv X pins (σ.set i (some v)) H s'->(∃a,Heap.SameBut a s.heap s'.heap/\(a=X.env.locals\/X.env.cells.lookup x=some a))->Q () s') (hf:X.fn x=true\/X.env.scope.names.lookup x=some .local:=by first |exact .inl rfl|exact .inr rfl|assumption):wpAny M A (storeName X.env x u) Q E s:=by
 obtain⟨m,hn,hl⟩:=id I.loc;have acn:(X.env.scope.kind==.class ||(X.env.scope.kind==.module&&X.env.locals !=X.env.globals))=false:=by rw[I.ok.kind];rfl
 have ZH:i<σ.length:=by rw[I.len];exact(aG.mp hi).1
 have WD:=I.WD;have tracked:∀{a:Addr} {h':Heap},(∃o,s.heap.get? a=some o/\H a=none)->Heap.SameBut a s.heap h'->pB X.prog X.w H h':=λ{a h'} ha hs b ob e=>by
  obtain⟨_,_,Kz⟩:=ha;refine(I.cR b ob e).Lw (λc w' hc q=>(hs.2 c ?_).trans q) (λ_ q=>q) λ_ _ q=>q
  grind
 rcases hx with hk|hk
 ·refine wpAny_storeName_local hk hn (λh' hn' hs=>?_) acn;obtain⟨oL,_,_,Zv,_⟩:=id hn;refine h _ ⟨I.ok,I.os,I.bare,⟨λb o e n hb hx=>?_,λb o e n hb hx=>?_,I.base.free,λb o e hx=>?_,I.base.EF,I.base.DB,I.base.HI⟩,⟨_,hn',λj y v' e1 e2 e3=>?_⟩,λy c e=>?_,I.free,I.o6,λp hp=>?_,tracked ⟨oL,Zv,I.free⟩ hs,by simpa using I.len⟩ ⟨_,hs,.inl rfl⟩
  ·exact(hs.2 b (bH (bM (aW e) I.ok.above))).trans (I.base.keep b o e n hb hx)
  ·obtain⟨sl,e1⟩:=I.base.slot b o e n hb hx;exact⟨sl,(hs.2 b (bH (bM (aW e) I.ok.above))).trans e1⟩
  ·obtain⟨o',e1⟩:=I.base.there b o e hx;exact⟨o',(hs.2 b (bH (bM (aW e) I.ok.above))).trans e1⟩
  ·by_cases hj:j=i
   ·subst hj;rw[hi] at e1;cases e1;rw[aaN ZH] at e2;cases e2;exact⟨u,r,.inl ⟨hk,by simp⟩⟩
   ·rw[nW (cv hj)] at e2;obtain⟨u',r',q⟩:=hl j y v' e1 e2 e3;refine⟨u',r',?_⟩;rcases q with ⟨k,e⟩|⟨k,c,e,z⟩
    ·refine .inl ⟨k,?_⟩;have:y≠x:=λe=>hj (yi hN e1 (e▸hi))
     simp[this,e]
    ·exact .inr ⟨k,c,e,z.sameBut hs (WD y c e)⟩
  ·obtain⟨w',z⟩:=I.cell y c e;exact⟨w',z.sameBut hs (WD y c e)⟩
  ·obtain⟨e,n,ne,nf,d⟩:=I.pin p hp;exact⟨(hs.2 p.1 ne).trans e,n,ne,nf,d⟩
 ·have hfn:X.fn x=true:=by
   rcases hf with z|z
   ·exact z
   ·rw[z] at hk;cases hk
  obtain⟨c,hc⟩:=I.ok.has x (.inl hk);obtain⟨w',z⟩:=I.cell x c hc;refine wpAny_storeName_cell I.ok.kind hk hc z (λh' UI hs=>?_);obtain⟨oc,hoc,acQ⟩:=id z;refine h {s with heap:=h'} ⟨I.ok,I.os,I.bare,⟨λb o e n hb hx=>?_,λb o e n hb hx=>?_,I.base.free,λb o e hx=>?_,I.base.EF,I.base.DB,I.base.HI⟩,⟨m,hn.sameBut hs (cv (WD x c hc)),λj y v' e1 e2 e3=>?_⟩,λy c' e=>?_,I.free,I.o6,λp hp=>?_,tracked ⟨oc,hoc,I.o6 x c hc⟩ hs,by simpa using I.len⟩ ⟨c,hs,.inr hc⟩
  ·exact(hs.2 b (bH (bM (aW e) (I.ok.cab x c hfn hc)))).trans (I.base.keep b o e n hb hx)
  ·obtain⟨sl,e1⟩:=I.base.slot b o e n hb hx;exact⟨sl,(hs.2 b (bH (bM (aW e) (I.ok.cab x c hfn hc)))).trans e1⟩
  ·obtain⟨o',e1⟩:=I.base.there b o e hx;exact⟨o',(hs.2 b (bH (bM (aW e) (I.ok.cab x c hfn hc)))).trans e1⟩
  ·by_cases hj:j=i
   ·subst hj;rw[hi] at e1;cases e1;rw[aaN ZH] at e2;cases e2;exact⟨u,r,.inr ⟨.inl hk,c,hc,UI⟩⟩
   ·rw[nW (cv hj)] at e2;obtain⟨u',r',q⟩:=hl j y v' e1 e2 e3;refine⟨u',r',?_⟩;rcases q with q|⟨k,c',e,z'⟩
    ·exact .inl q
    ·refine .inr ⟨k,c',e,z'.sameBut hs ?_⟩;rintro rfl;exact hj (yi hN e1 (I.ok.inj _ _ _ e hc▸hi))
  ·by_cases hcc:c'=c
   ·subst hcc;exact⟨_,UI⟩
   ·obtain⟨w2,z2⟩:=I.cell y c' e;exact⟨w2,z2.sameBut hs hcc⟩
  ·obtain⟨e,n,ne,nf,d⟩:=I.pin p hp;refine⟨(hs.2 p.1 ?_).trans e,n,ne,nf,d⟩
   grind
theorem EI{M:Model}{A:Around}{E:acX}{i:Nat}{x:Str}{v:V}{u:Value}{Q:Unit->Shared->Prop}(I:Inv X pins σ H s)(hN:X.N.Nodup)(hi:X.N[i]?=some x)(hx:Loc X.env.scope x)(r:RelV v u) (h:∀s',Inv X pins (σ.set i (some v)) H s'->Q () s') (hf:X.fn x=true\/X.env.scope.names.lookup x=some .local:=by first |exact .inl rfl|exact .inr rfl|assumption):wpAny M A (storeName X.env x u) Q E s:=
 AD I hN hi hx r (λs' I' _=>h s' I') hf
theorem Inv.aay{s':Shared}{ch:ac1}(I:Inv X pins σ H s)(ho:s'.os=s.os)(u:Un (Qm X.stack) ch H H' s.heap s'.heap)(cR:pB X.prog X.w H' s'.heap)(hg:AllBare s'.gens) (S9:∀b∈ch,(b∈X.ex\/X.AN.heap.objs.size<=b)/\b≠X.env.locals/\(∀x c,X.env.cells.lookup x=some c->c≠b)/\∀p∈X.pn++pins,p.1≠b):Inv X pins σ H' s':=by
 obtain⟨h',g',d',t',o'⟩:=s';have e:o'=s.os:=ho;subst e;exact I.call (g':=g') (t':=t') (d':=d') u cR hg S9
end
abbrev XK:=Value->Option Addr->Hp->Prop
abbrev St:=List (Option V)
abbrev VK:=V->Hp->Prop
abbrev TE:=St->Hp->VK->Prop
abbrev TT:=St->Hp->(Bool->Hp->Prop)->Prop
abbrev TA:=St->Hp->(List V->Hp->Prop)->Prop
structure Ends where
 nx:St->Hp->Prop
 rt:VK
 bk:St->Hp->Prop:=λ_ _=>False
 ct:St->Hp->Prop:=λ_ _=>False
abbrev TS:=Ends->St->Hp->Prop
def EP(X:Cx)(pins:ada)(σ:St)(Q:VK)(u:Value)(s':Shared):Prop:=∃v H',Inv X pins σ H' s'/\RelV v u/\Q v H'
def TP(X:Cx)(pins:ada)(σ:St)(Q:Bool->Hp->Prop)(b:Bool)(s':Shared):Prop:=∃H',Inv X pins σ H' s'/\Q b H'
def AP(X:Cx)(pins:ada)(σ:St)(Q:List V->Hp->Prop)(us:acY)(s':Shared):Prop:=∃vs H',Inv X pins σ H' s'/\cu vs us/\Q vs H'
def SP(X:Cx)(pins:ada)(D:Ends)(f:Flow)(s':Shared):Prop:=
 match f with
 | .next=>∃eU H',Inv X pins eU H' s'/\D.nx eU H'
 | .brk=>∃eU H',Inv X pins eU H' s'/\D.bk eU H'
 | .cont=>∃eU H',Inv X pins eU H' s'/\D.ct eU H'
 | .ret u=>∃v eU H',Inv X pins eU H' s'/\RelV v u/\D.rt v H'
def PE(X:Cx)(e:Expr)(t:TE):Prop:=
 ∀(pins:ada) (s:Shared) (σ:St) (H:Hp) (Q:VK),Inv X pins σ H s->t σ H Q->wpAny (model X.prog X.w) X.A (eval e X.env) (EP X pins σ Q) X.xe s
def PT(X:Cx)(e:Expr)(t:TT):Prop:=
 ∀(pins:ada) (s:Shared) (σ:St) (H:Hp) (Q:Bool->Hp->Prop),Inv X pins σ H s->t σ H Q->wpAny (model X.prog X.w) X.A (isTrue e X.env (eval e X.env)) (TP X pins σ Q) X.xe s
def PW(X:Cx)(e:Expr)(t:TT):Prop:=
 ∀(whole:Sem Value) (pins:ada) (s:Shared) (σ:St) (H:Hp) (Q:Bool->Hp->Prop),Inv X pins σ H s->t σ H Q->wpAny (model X.prog X.w) X.A (isTrue e X.env whole) (TP X pins σ Q) X.xe s
theorem PW.pt{X:Cx}{e:Expr}{t:TT}(h:PW X e t):PT X e t:=h _
def PA(X:Cx)(es:ac8)(t:TA):Prop:=
 ∀(pos:Pos) (pins:ada) (s:Shared) (σ:St) (H:Hp) (Q:List V->Hp->Prop),Inv X pins σ H s->t σ H Q->wpAny (model X.prog X.w) X.A (spliced (backTo pos (starEach es X.env))) (AP X pins σ Q) X.xe s
def PS(X:Cx)(st:Stmt)(t:TS):Prop:=
 ∀(pins:ada) (s:Shared) (σ:St) (H:Hp) (D:Ends),Inv X pins σ H s->t D σ H->wpAny (model X.prog X.w) X.A (exec st X.env) (SP X pins D) X.xe s
def Hw(X:Cx)(st:List Stmt)(t:TS):Prop:=
 ∀(pins:ada) (s:Shared) (σ:St) (H:Hp) (D:Ends),Inv X pins σ H s->t D σ H->wpAny (model X.prog X.w) X.A (execs st X.env) (SP X pins D) X.xe s
theorem d9{α:Type}{t:Sem α}{Q Q':α->Shared->Prop}{M:Model}{A:Around}{E:acX}{s:Shared}(h:wpAny M A t Q E s)(hQ:∀a s,Q a s->Q' a s):wpAny M A t Q' E s:=dk h hQ λ_ _ x=>x
end L2
namespace L2
open PySem PySem.Spec PyProof.Rows
section
variable{X:Cx}
def XI(i:Nat):TE:=λσ H Q=>∃v,σ[i]?=some (some v)/\Q v H
def tC(v:V):TE:=λ_ H Q=>Q v H
theorem Vk{i:Nat}{x:Str}{pos:Pos}(hN:X.N[i]?=some x)(hv:Vis X.env.scope x)(hd:(x==("__debug__":Str))=false:=by decide)(Ta:(x==("__classdict__":Str))=false:=by decide):PE X (.Name x pos) (XI i):=by
 intro pins s σ H Q I h;obtain⟨v,e,h⟩:=h;obtain⟨m,hn,hl⟩:=I.loc;obtain⟨u,r,l⟩:=hl i x v hN e hv;have fin:EP X pins σ Q u s:=⟨v,H,I,r,h⟩;rcases l with ⟨hk,hm⟩|⟨hk,c,hc,UH⟩
 ·exact wpAny_Name (wpAny_loadName_local I.ok.kind hk hn hm fin) hd
 ·rcases hk with hk|hk
  ·exact wpAny_Name (wpAny_loadName_cell I.ok.kind hk hc UH fin) hd
  ·exact wpAny_Name (wpAny_loadName_free I.ok.kind hk hc UH fin Ta) hd
theorem cF{i j pos}:PE X (.Constant (.int i) j pos) (tC (.int i)):=λ_ _ _ H _ I h=>wpAny_Constant_int ⟨.int i,H,I.tok _,⟨_,rfl⟩,h⟩
theorem fw{b j pos}:PE X (.Constant (.bool b) j pos) (tC (.bl b)):=λ_ _ _ H _ I h=>Constant_bool ⟨.bl b,H,I,rfl,h⟩
theorem cN{j pos}:PE X (.Constant .none j pos) (tC .eZ):=λ_ _ _ H _ I h=>Constant_none ⟨.eZ,H,I,rfl,h⟩
def Gl(X:Cx)(x:Str):Prop:=X.env.kindOf x=some .globalImplicit
theorem wX{E:acX}{pins:ada}{s:Shared}{σ:St}{H:Hp}{x:Str}{u:Value}{pos:Pos}{Q:acX}(I:Inv X pins σ H s)(hg:Gl X x)(hm:X.mg x=some u)(h:Q u s) (hd:(x==("__debug__":Str))=false:=by decide):wpAny (model X.prog X.w) X.A (eval (.Name x pos) X.env) Q E s:=
 Calls.Name_function_global I.ok.kind hg (Calls.loadGlobal_global (by rw[I.ok.glob];exact I.mod.glob.keeps I.bk) hm h) hd
theorem oX{E:acX}{pins:ada}{s:Shared}{σ:St}{H:Hp}{x:Str}{u:Value}{pos:Pos}{Q:acX}(I:Inv X pins σ H s)(hg:Gl X x)(hm:X.mg x=none)(hv:bootBuiltins x=some u)(h:Q u s) (hn:x≠"__name__":=by decide) (hd:(x==("__debug__":Str))=false:=by decide):wpAny (model X.prog X.w) X.A (eval (.Name x pos) X.env) Q E s:=by
 obtain⟨mb,h1,h2⟩:=I.mod.blt;exact Calls.Name_function_global I.ok.kind hg (Calls.loadGlobal_builtin (by rw[I.ok.glob];exact I.mod.glob.keeps I.bk) hm (by rw[I.ok.blt];exact h1.keeps I.bk) ((h2 x hn).trans hv) h) hd
theorem J7{x:Str}{v:V}{u:Value}{pos:Pos}(hg:Gl X x)(hm:X.mg x=some u)(r:RelV v u)(hd:(x==("__debug__":Str))=false:=by decide):PE X (.Name x pos) (tC v):=
 λ_ _ _ H _ I h=>wX I hg hm ⟨v,H,I,r,h⟩ hd
variable{a b:Expr}{ta tb:TE}{pos:Pos}
def PC(X:Cx)(op:CmpOp)(a b:Expr)(t:TE):Prop:=
 ∀(pins:ada) (s:Shared) (σ:St) (H:Hp) (Q:VK),Inv X pins σ H s->t σ H Q->
  wpAny (model X.prog X.w) X.A (eval a X.env) (λv dX=>wpAny (model X.prog X.w) X.A (eval b X.env) (λu kX=>wpAny (model X.prog X.w) X.A (compareOp op v u) (EP X pins σ Q) X.xe kX) X.xe dX) X.xe s
def tB(t:TE):TT:=λσ H Q=>t σ H λx H1=>∃c,x=.bl c/\Q c H1
theorem Vl{op:CmpOp}{t:TE}(h:PC X op a b t)(h1:behindInMarks op b=false:=by first |exact OO _ (by decide) (by decide)|rfl):PE X (.Compare a [op] [b] pos) t:=λpins s σ H Q I hw=>wpAny_Compare1 (h pins s σ H Q I hw) h1
theorem B9{op:CmpOp}{t:TE}(h:PC X op a b t)(h1:behindInMarks op b=false:=by first |exact OO _ (by decide) (by decide)|rfl):PT X (.Compare a [op] [b] pos) (tB t):=by
 intro pins s σ H Q I hw;refine wpAny_isTrue_Compare1 (d9 (h pins s σ H _ I hw) λv s1 h1=>d9 h1 λu s2 h2=>d9 h2 λc s3 ⟨x,H1,I1,r1,q1⟩=>?_) h1;obtain⟨d,rfl,q⟩:=q1;cases r1;exact eK ⟨H1,I1,q⟩
theorem cE{e:Expr}{t:TE}(h:PE X e t)(he:∀whole,isTrue e X.env whole=(do let v <-whole;standAt e.pos;holding [v] (truthy v)):=by intro _;rfl):PT X e (tB t):=by
 intro pins s σ H Q I hw;refine isTrue_plain (d9 (h pins s σ H _ I hw) λv s1 ⟨x,H1,I1,r1,q1⟩=>?_) (he _);obtain⟨d,rfl,q⟩:=q1;cases r1;exact eK ⟨H1,I1,q⟩
variable{tA tB':TT}{rest:ac8}
def aa3(t u:TT):TT:=λσ H Q=>t σ H λc H1=>if c=true then u σ H1 Q else Q false H1
def tOr(t u:TT):TT:=λσ H Q=>t σ H λc H1=>if c=true then Q true H1 else u σ H1 Q
def aaX(t:TT):TT:=λσ H Q=>t σ H λc H1=>Q (!c) H1
theorem wO(ha:PT X a tA):PW X (.BoolOp .And [a] pos) tA:=by
 intro wh pins s σ H Q I h;refine isTrue_and (d9 (ha pins s σ H Q I h) λc s1 e=>?_);cases c with
 |true=>exact isTrue_and_nil e
 |false=>exact e
theorem oN(ha:PT X a tA):PW X (.BoolOp .Or [a] pos) tA:=by
 intro wh pins s σ H Q I h;refine isTrue_or (d9 (ha pins s σ H Q I h) λc s1 e=>?_);cases c with
 |false=>exact isTrue_or_nil e
 |true=>exact e
theorem B7(ha:PT X a tA)(hb:PW X (.BoolOp .And (b::rest) pos) tB'):PW X (.BoolOp .And (a::b::rest) pos) (aa3 tA tB'):=by
 intro wh pins s σ H Q I h;refine isTrue_and (d9 (ha pins s σ H _ I h) λc s1 ⟨H1,I1,q1⟩=>?_);cases c with
 |true=>exact hb wh pins s1 σ H1 Q I1 q1
 |false=>exact⟨H1,I1,q1⟩
theorem qw(ha:PT X a tA)(hb:PW X (.BoolOp .Or (b::rest) pos) tB'):PW X (.BoolOp .Or (a::b::rest) pos) (tOr tA tB'):=by
 intro wh pins s σ H Q I h;refine isTrue_or (d9 (ha pins s σ H _ I h) λc s1 ⟨H1,I1,q1⟩=>?_);cases c with
 |true=>exact⟨H1,I1,q1⟩
 |false=>exact hb wh pins s1 σ H1 Q I1 q1
theorem fo(ha:PT X a tA):PT X (.UnaryOp .Not a pos) (aaX tA):=by
 intro pins s σ H Q I h;exact isTrue_not (ha pins s σ H (λc H1=>Q (!c) H1) I h)
def XT(ta tb:TE):TE:=λσ H Q=>ta σ H λx H1=>∃c,x=.bl c/\if c=true then tb σ H1 Q else Q (.bl false) H1
def aaW(ta tb:TE):TE:=λσ H Q=>ta σ H λx H1=>∃c,x=.bl c/\if c=true then Q (.bl true) H1 else tb σ H1 Q
theorem Ij{op}{t:TE}(h:PE X a t):PE X (.BoolOp op [a] pos) t:=λpins s σ H Q I hw=>BoolOp_one (h pins s σ H Q I hw)
theorem Vo(ha:PE X a ta)(hb:PE X (.BoolOp .And (b::rest) pos) tb):PE X (.BoolOp .And (a::b::rest) pos) (XT ta tb):=by
 intro pins s σ H Q I h;refine BoolOp_and (d9 (ha pins s σ H _ I h) λv s1 ⟨x,H1,I1,r1,q1⟩=>?_);obtain⟨c,rfl,q1⟩:=q1;cases r1;refine eK ?_;cases c with
 |true=>exact hb pins s1 σ H1 Q I1 q1
 |false=>exact⟨.bl false,H1,I1,rfl,q1⟩
theorem Us(ha:PE X a ta)(hb:PE X (.BoolOp .Or (b::rest) pos) tb):PE X (.BoolOp .Or (a::b::rest) pos) (aaW ta tb):=by
 intro pins s σ H Q I h;refine BoolOp_or (d9 (ha pins s σ H _ I h) λv s1 ⟨x,H1,I1,r1,q1⟩=>?_);obtain⟨c,rfl,q1⟩:=q1;cases r1;refine eK ?_;cases c with
 |false=>exact hb pins s1 σ H1 Q I1 q1
 |true=>exact⟨.bl true,H1,I1,rfl,q1⟩
def tIf(t:TT)(ta tb:TE):TE:=λσ H Q=>t σ H λc H1=>if c=true then ta σ H1 Q else tb σ H1 Q
theorem lb{c:Expr}(hc:PT X c tA)(ha:PE X a ta)(hb:PE X b tb):PE X (.IfExp c a b pos) (tIf tA ta tb):=by
 intro pins s σ H Q I h;refine wpAny_IfExp (d9 (hc pins s σ H _ I h) λd s1 ⟨H1,I1,q1⟩=>?_);cases d with
 |true=>exact ha pins s1 σ H1 Q I1 q1
 |false=>exact hb pins s1 σ H1 Q I1 q1
end
end L2
namespace L2
open PySem PySem.Spec PyProof.Rows
def cg(K:Frag)(H:Hp)(a:Addr)(xs:List V):Prop:=
 Rd H a (.lst xs)\/
  ∃(o:Obj) (b6:ac6) (n:Nat),K.lookup a=some o/\o.cls=.type "list"/\o.dict=none/\o.data=.seq b6 n/\b6.size<=sizeLine/\cu xs b6.toList
def dJ(K:Frag)(H:Hp)(a:Addr)(xs:List V):Prop:=
 Rd H a (.tup xs)\/
  ∃(o:Obj) (b6:ac6) (n:Nat),K.lookup a=some o/\o.cls=.type "tuple"/\o.data=.seq b6 n/\b6.size<=sizeLine/\cu xs b6.toList
def acK:Value->Option V
 | .none=>some .eZ
 | .bool b=>some (.bl b)
 | .int i _=>some (.int i)
 | .str x _=>some (.str x)
 | .bytes b _=>some (.Ht b)
 | .float b _=>some (.flt b)
 | .ref a=>some (.ref a)
 | .type n=>some (.ty n)
 |_=>none
theorem RelV.abs{x:V}{u:Value}(r:RelV x u):acK u=some x:=by
 cases x with
 |eZ=>cases r;rfl
 |bl _=>cases r;rfl
 |int _=>obtain⟨t,rfl⟩:=r;rfl
 |str _=>obtain⟨t,rfl⟩:=r;rfl
 |Ht _=>obtain⟨t,rfl⟩:=r;rfl
 |flt _=>obtain⟨t,rfl⟩:=r;rfl
 |ref _=>cases r;rfl
 |ty _=>cases r;rfl
theorem RelV.inj{x y:V}{u:Value}(r:RelV x u)(q:RelV y u):x=y:=aX (r.abs.symm.trans q.abs)
theorem cu.inj:∀{xs ys:List V} {us:acY},cu xs us->cu ys us->xs=ys
 |_,_,_,.nil,.nil=>rfl
 |_,_,_,.cons r t,.cons r' t'=>by rw[r.inj r',cu.inj t t']
section
variable{X:Cx}{pins:ada}{σ:St}{H:Hp}{s:Shared}{a:Addr}{xs ys:List V}
theorem cg.of{K:Frag}(h:H a=some (.lst xs)):cg K H a xs:=.inl (.inl h)
theorem dJ.of{K:Frag}(h:H a=some (.tup xs)):dJ K H a xs:=.inl (.inl h)
theorem Inv.list(I:Inv X pins σ H s)(h:cg X.K H a xs):∃b6:List Value,cu xs b6/\PlainL s.heap a b6.toArray/\xs.length<=sizeLine:=by
 rcases h with h|⟨o,b6,n,hk,hc,hd,hs,hz,r⟩
 ·obtain⟨z,b6,n,r,e⟩:=h.ok I.cR;exact⟨b6,r,⟨_,n,e,rfl,rfl,rfl⟩,z⟩
 ·refine⟨b6.toList,r,⟨o,n,I.C0 a o hk,hc,hd,by simpa using hs⟩,?_⟩;have e:=r.length;simp only[Array.length_toList] at e;omega
theorem Inv.tuple(I:Inv X pins σ H s)(h:dJ X.K H a xs):∃b6:List Value,cu xs b6/\IsTup s.heap a b6.toArray/\xs.length<=sizeLine:=by
 rcases h with h|⟨o,b6,n,hk,hc,hs,hz,r⟩
 ·obtain⟨z,b6,r,p⟩:=h.ok I.cR;exact⟨b6,r,p,z⟩
 ·refine⟨b6.toList,r,⟨o,I.C0 a o hk,hc,n,by simpa using hs⟩,?_⟩;have e:=r.length;simp only[Array.length_toList] at e;omega
theorem Inv.FY(I:Inv X pins σ H s)(h:cg X.K H a xs)(h':cg X.K H a ys):xs=ys:=by
 obtain⟨b6,r,⟨o,n,e,_,_,d⟩,_⟩:=I.list h;obtain⟨its',r',⟨o',n',e',_,_,d'⟩,_⟩:=I.list h';rw[e] at e';cases e';rw[d] at d';injection d' with d1 _;have:b6=its':=by simpa using bb Array.toList d1
 subst this;exact r.inj r'
theorem Inv.Lq(I:Inv X pins σ H s)(h:dJ X.K H a xs)(h':dJ X.K H a ys):xs=ys:=by
 obtain⟨b6,r,⟨o,e,_,n,d⟩,_⟩:=I.tuple h;obtain⟨its',r',⟨o',e',_,n',d'⟩,_⟩:=I.tuple h';rw[e] at e';cases e';rw[d] at d';injection d' with d1 _;have:b6=its':=by simpa using bb Array.toList d1
 subst this;exact r.inj r'
end
abbrev Cx.zA(X:Cx)(E:acX):Cx:={X with xe:=E}
abbrev Cx.Vy(X:Cx):Cx:=X.zA λ_ _=>False
theorem Cx.Ok.zA{X:Cx}(ok:X.Ok)(E:acX):(X.zA E).Ok:=
 ⟨ok.mod,ok.kind,ok.glob,ok.blt,ok.above,ok.inj,ok.has,ok.cab,ok.hd,ok.frames,ok.stk,ok.exf,ok.bs,ok.TK,ok.ON,ok.Qw,ok.wt,ok.Ws⟩
theorem Cx.Ok.oo{X:Cx}{E:acX}(ok:(X.zA E).Ok):X.Ok:=
 ⟨ok.mod,ok.kind,ok.glob,ok.blt,ok.above,ok.inj,ok.has,ok.cab,ok.hd,ok.frames,ok.stk,ok.exf,ok.bs,ok.TK,ok.ON,ok.Qw,ok.wt,ok.Ws⟩
section
variable{X:Cx}{pins:ada}{σ:St}{H:Hp}{s:Shared}{E:acX}
theorem Inv.zA(I:Inv X pins σ H s)(E:acX):Inv (X.zA E) pins σ H s:=⟨I.ok.zA E,I.os,I.bare,I.base,I.loc,I.cell,I.free,I.o6,I.pin,I.cR,I.len⟩
theorem Inv.oo(I:Inv (X.zA E) pins σ H s):Inv X pins σ H s:=⟨I.ok.oo,I.os,I.bare,I.base,I.loc,I.cell,I.free,I.o6,I.pin,I.cR,I.len⟩
theorem SP.oo{D:Ends}{f:Flow}{s':Shared}(h:SP (X.zA E) pins D f s'):SP X pins D f s':=by
 cases f with
 |next=>obtain⟨eU,H',I,q⟩:=h;exact⟨eU,H',I.oo,q⟩
 |brk=>obtain⟨eU,H',I,q⟩:=h;exact⟨eU,H',I.oo,q⟩
 |cont=>obtain⟨eU,H',I,q⟩:=h;exact⟨eU,H',I.oo,q⟩
 |ret u=>obtain⟨v,eU,H',I,r,q⟩:=h;exact⟨v,eU,H',I.oo,r,q⟩
theorem Hw.Vy{st:List Stmt}{t:TS}(h:Hw X.Vy st t):Hw X st t:=λpins s σ H D I hw=>
 dk (h pins s σ H D (I.zA _) hw) (λ_ _ q=>q.oo) λ_ _ z=>False.elim z
end
section
variable{X:Cx}{st:Stmt}{rest:List Stmt}{t u:TS}{e:Expr}{te:TE}{pos:Pos}
def XM:TS:=λD σ H=>D.nx σ H
def aaU(t u:TS):TS:=λD σ H=>t {D with nx:=u D} σ H
theorem bf:Hw X [] XM:=λ_ _ σ H _ I h=>Hg ⟨σ,H,I,h⟩
theorem aq(h1:PS X st t)(h2:Hw X rest u):Hw X (st::rest) (aaU t u):=by
 intro pins s σ H D I h;refine wpAny_execs_cons (d9 (h1 pins s σ H {D with nx:=u D} I h) λf s1 q=>?_);cases f with
 |next=>
  obtain⟨eU,H',I',q⟩:=q;exact h2 pins s1 eU H' D I' q
 |ret v=>exact q
 |brk=>exact q
 |cont=>exact q
theorem aC(h1:PS X st t):Hw X [st] t:=by
 intro pins s σ H D I h;refine wpAny_execs_cons (d9 (h1 pins s σ H D I h) λf s1 q=>?_);cases f with
 |next=>exact Hg q
 |ret v=>exact q
 |brk=>exact q
 |cont=>exact q
theorem Inv.quiet{pins:ada}{σ:St}{H:Hp}{s:Shared}(I:Inv X pins σ H s):interactive X.env=false:=by simp[interactive,I.ok.kind]
def XO(te:TE):TS:=λD σ H=>te σ H λ_ H1=>D.nx σ H1
theorem cY(he:PE X e te)(hs:swapsWith e none pos.line X.env=pure false:=by rfl):PS X (.Expr e pos) (XO te):=by
 intro pins s σ H D I h;exact wpAny_Expr_any (d9 (he pins s σ H _ I h) λv s1 ⟨x,H1,I1,r1,q1⟩=>⟨σ,H1,I1,q1⟩) I.quiet hs
def aaV(te:TE):TS:=λD σ H=>te σ H D.rt
theorem aV(he:PE X e te):PS X (.Return (some e) pos) (aaV te):=by
 intro pins s σ H D I h;exact wpAny_Return_some (d9 (he pins s σ H _ I h) λv s1 ⟨x,H1,I1,r1,q1⟩=>⟨x,σ,H1,I1,r1,q1⟩)
def aaZ(c:TT)(t u:TS):TS:=λD σ H=>c σ H λb H1=>if b=true then t D σ H1 else u D σ H1
theorem bR{c:Expr}{a b:List Stmt}{tc:TT}(hc:PT X c tc)(ha:Hw X a t)(hb:Hw X b u):PS X (.If c a b pos) (aaZ tc t u):=by
 intro pins s σ H D I h;refine wpAny_If (d9 (hc pins s σ H _ I h) λd s1 ⟨H1,I1,q1⟩=>?_);cases d with
 |true=>exact ha pins s1 σ H1 D I1 q1
 |false=>exact hb pins s1 σ H1 D I1 q1
end
abbrev TG:=V->St->Hp->(St->Hp->Prop)->Prop
abbrev US:=List V->St->Hp->(St->Hp->Prop)->Prop
def PG(X:Cx)(target:Expr)(t:TG):Prop:=
 ∀(pins:ada) (s:Shared) (σ:St) (H:Hp) (v:V) (u:Value) (Q:St->Hp->Prop),Inv X pins σ H s->RelV v u->t v σ H Q->
  wpAny (model X.prog X.w) X.A (assign target X.env u) (λ_ s'=>∃eU H',Inv X pins eU H' s'/\Q eU H') X.xe s
def PGs(X:Cx)(ts:ac8)(t:US):Prop:=
 ∀(pins:ada) (s:Shared) (σ:St) (H:Hp) (vs:List V) (us:acY) (Q:St->Hp->Prop),Inv X pins σ H s->cu vs us->t vs σ H Q->
  wpAny (model X.prog X.w) X.A (assignInOrder ((assignEach ts X.env).map (·.2)) us) (λ_ s'=>∃eU H',Inv X pins eU H' s'/\Q eU H') X.xe s
abbrev WO:=V->V->V->Hp->(Hp->Prop)->Prop
def aaC(X:Cx)(t:WO):Prop:=
 ∀(pins:ada) (s:Shared) (σ:St) (H:Hp) (o i v:V) (ov iv u:Value) (Q:Hp->Prop),Inv X pins σ H s->RelV o ov->RelV i iv->RelV v u->t o i v H Q->
  wpAny (model X.prog X.w) X.A (setItem ov iv u) (λ_ s'=>∃H',Inv X pins σ H' s'/\Q H') X.xe s
section
variable{X:Cx}{pos:Pos}
def Bi(i:Nat):TG:=λv σ H Q=>Q (σ.set i (some v)) H
theorem RR{i:Nat}{x:Str}(hN:X.N.Nodup)(hi:X.N[i]?=some x)(hx:Loc X.env.scope x)(hf:X.fn x=true\/X.env.scope.names.lookup x=some .local:=by first |exact .inl rfl|exact .inr rfl|assumption):PG X (.Name x pos) (Bi i):=by
 intro pins s σ H v u Q I r h;exact wpAny_assign_Name (EI I hN hi hx r (λs' I'=>⟨_,H,I',h⟩) hf)
def acA:US:=λvs σ H Q=>vs=[]/\Q σ H
def aan(t:TG)(u:US):US:=λvs σ H Q=>∃v r,vs=v::r/\t v σ H λeU H'=>u r eU H' Q
theorem lH:PGs X [] acA:=by
 intro pins s σ H vs us Q I r h;obtain⟨e,h⟩:=h;subst e;cases r;exact assignInOrder_nil ⟨σ,H,I,h⟩
theorem eB{e:Expr}{es:ac8}{t:TG}{u:US}(h1:PG X e t)(h2:PGs X es u) (hs:(assignEach (e::es) X.env).map (·.2)=assign e X.env::(assignEach es X.env).map (·.2):=by rfl):PGs X (e::es) (aan t u):=by
 intro pins s σ H vs us Q I r h;obtain⟨v,vr,e1,h⟩:=h;subst e1;cases r with
 |cons r rr=>
  rw[hs];refine assignInOrder_cons (d9 (h1 pins s σ H _ _ _ I r h) λ_ s1 ⟨WU,H1,I1,q1⟩=>?_);exact h2 pins s1 WU H1 _ _ Q I1 rr q1
def aam(K:Frag)(n:Nat)(t:US):TG:=λv σ H Q=>∃a xs,v=.ref a/\dJ K H a xs/\xs.length=n/\t xs σ H Q
theorem uG{es:ac8}{k:Nat}{t:US}{n:Nat}(hc:X.calm=true)(h:PGs X es t) (hn:(assignEach es X.env).length=n:=by rfl) (vZ:(assignEach es X.env).findIdx? (·.1)=none:=by rfl):PG X (.Tuple es k pos) (aam X.K n t):=by
 intro pins s σ H v u Q I r hw;obtain⟨a,xs,e1,hq,hl,hw⟩:=hw;subst e1;cases r;obtain⟨b6,rv,ht,hz⟩:=I.tuple hq;refine assign_Tuple_tuple (I.ok.hd hc) ht (by simp[hn,<-hl,rv.length]) vZ λh' hx=>?_
 have I1:Inv X pins σ H {s with heap:=h'}:=I.kept (t':=s.toks) λb o e=>hx b o (bH (aW e)) e
 exact h pins _ σ H xs _ Q I1 (by simpa using rv) hw
def acz(to ti:TE)(t:WO):TG:=λv σ H Q=>to σ H λo H1=>ti σ H1 λi H2=>t o i v H2 λH3=>Q σ H3
theorem Vj{o i:Expr}{to ti:TE}{t:WO}(ho:PE X o to)(hi:PE X i ti)(hs:aaC X t) (ha:∀v,assign (.Subscript o i pos) X.env v=(do let ov <-holding [v] (eval o X.env);let iv <-holding [v,ov] (eval i X.env);standAt pos;holding [v,ov,iv] (setItem ov iv v);release [v,ov,iv] []):=by intro _;rfl):PG X (.Subscript o i pos) (acz to ti t):=by
 intro pins s σ H v u Q I r h;rw[ha];refine aa (dM (d9 (ho pins s σ H _ I h) λov s1 ⟨x,H1,I1,r1,q1⟩=>?_));refine aa (dM (d9 (hi pins s1 σ H1 _ I1 q1) λiv s2 ⟨y,H2,I2,r2,q2⟩=>?_));refine aa (wpAny_standAt (aa (dM (d9 (hs pins s2 σ H2 x y v ov iv u _ I2 r1 r2 r q2) λ_ s3 ⟨H3,I3,q3⟩=>?_))));exact wpAny_release ⟨σ,H3,I3,q3⟩
def RD(te:TE)(g:TG):TS:=λD σ H=>te σ H λx H1=>g x σ H1 D.nx
theorem Vi{tg e:Expr}{te:TE}{g:TG}(he:PE X e te)(hg:PG X tg g)(hs:swapsWithSole [tg] e pos.line X.env=pure false:=by rfl)(hw:swappedStores [tg] e X.env=pure none:=by rfl)
  (h1:(assignEach [tg] X.env).map (·.2)=[assign tg X.env]:=by rfl):PS X (.Assign [tg] e pos) (RD te g):=by
 intro pins s σ H D I h;refine wpAny_Assign_stores (d9 (he pins s σ H _ I h) λv s1 ⟨x,H1,I1,r1,q1⟩=>?_) hs hw;rw[h1];exact d9 (hg pins s1 σ H1 x v _ I1 r1 q1) λ_ s2 q=>q
theorem Ie{i:Nat}{x:Str}{e:Expr}{te:TE}{pos':Pos}(hN:X.N.Nodup)(hi:X.N[i]?=some x)(hx:Loc X.env.scope x)(he:PE X e te)(hs:swapsWith e (some (.Name x pos')) pos.line X.env=pure false:=by rfl)(hf:X.fn x=true\/X.env.scope.names.lookup x=some .local:=by first |exact .inl rfl|exact .inr rfl|assumption):
  PS X (.Assign [.Name x pos'] e pos) (RD te (Bi i)):=by
 intro pins s σ H D I h;refine wpAny_Assign_Name (d9 (he pins s σ H _ I h) λv s1 ⟨y,H1,I1,r1,q1⟩=>?_) hs;exact EI I1 hN hi hx r1 (λs2 I2=>⟨_,H1,I2,q1⟩) hf
end
section
variable{X:Cx}{pos:Pos}
def U2(c:TT)(tb:TS):TS:=λD σ H=>∃W:Nat->St->Hp->Prop,(∃m,W m σ H)/\∀m σ H,W m σ H->
 c σ H λb H1=>if b=true then ∃N:St->Hp->Prop,(∀eU H',N eU H'->∃m',m'<m/\W m' eU H')/\tb {D with nx:=N,ct:=N,bk:=D.nx} σ H1 else D.nx σ H1
theorem jT{c:Expr}{body:List Stmt}{tc:TT}{tb:TS}(hp:PassesOwn (model X.prog X.w) X.A X.env X.xe)(hc:PT X c tc)(hb:Hw X body tb):PS X (.While c body [] pos) (U2 tc tb):=by
 intro pins s σ H D I h;obtain⟨W,⟨m0,w0⟩,turn⟩:=h;refine wpAny_While (codeAny_whileLoop (λn s'=>∃eU H',Inv X pins eU H' s'/\W n eU H') ?_ m0 ⟨σ,H,I,w0⟩);rintro n s1 ⟨WU,H1,I1,w1⟩;refine jk hp (d9 (hc pins s1 WU H1 _ I1 (turn n WU H1 w1)) λb s2 ⟨H2,I2,q2⟩=>?_);cases b with
 |true=>
  obtain⟨N,hN,q2⟩:=q2;rw[ah rfl];refine jk hp (d9 (hb pins s2 WU H2 _ I2 q2) λf s3 q3=>?_);cases f with
  |next=>
   obtain⟨UY,H3,I3,n3⟩:=q3
   grind
  |cont=>
   obtain⟨UY,H3,I3,n3⟩:=q3
   grind
  |brk=>exact q3
  |ret v=>exact q3
 |false=>
  rw[ae aT];exact Hg ⟨WU,H2,I2,q2⟩
end
structure It where
 go:Nat->Hp->Prop
 Nc:Nat->Hp->V->Hp->Prop
 stop:Nat->Hp->Prop
def zh(X:Cx)(pins:ada)(H:Hp)(b:Addr):Prop:=
 H b=none/\b≠X.env.locals/\b∉X.fs/\(b∈X.ex\/X.AN.heap.objs.size<=b)/\(∀x c,X.env.cells.lookup x=some c->c≠b)/\∀p∈X.pn++pins,p.1≠b
theorem Inv.Qn{X:Cx}{pins:ada}{σ:St}{H H':Hp}{s:Shared}{b:Addr}(I:Inv X pins σ H s)(hb:s.heap.objs.size<=b)(hn:H' b=none):zh X pins H' b:=by
 refine⟨hn,qf (bM I.lt hb),I.abl hb,.inr (bK I.sz hb),λx c e z=>?_,λp hp z=>?_⟩
 ·obtain⟨v,q⟩:=I.cell x c e;exact absurd (bM q.lt (by rw[z];exact hb)) (c9 _)
 ·exact absurd (bM (aW (I.pin p hp).1) (by rw[z];exact hb)) (c9 _)
structure Turn(P:Program)(w:World)(K:Frag)(tg:Expr)(J:It)(fp:ac1)(it:Addr)(tn:Nat->Heap->Prop):Prop where
 mem:it∈fp
 obj:∀i h,tn i h->∀b∈fp,∃o,h.get? b=some o/\∀v,o.data≠.cell v
 keep:∀i h h',tn i h->(∀b∈fp,∀o,h.get? b=some o->h'.get? b=some o)->tn i h'
 item:∀(X:Cx),X.prog=P->X.w=w->X.K=K->X.calm=true->∀(i:Nat) (pins:ada) (s:Shared) (σ:St) (H:Hp) (E:acX),Inv X pins σ H s->(∀b∈fp,zh X pins H b)->tn i s.heap->J.go i H->
  wpAny (model P w) X.A (pyNext (.ref it)) (λr s1=>∃u,r=some u/\
   wpAny (model P w) X.A (letOwnedTupleGo tg (.ref it) u) (λ_ s2=>∃x H',Inv X pins σ H' s2/\RelV x u/\J.Nc i H x H'/\tn (i+1) s2.heap/\∀b∈fp,H' b=none) E s1) E s
 done:∀(X:Cx),X.prog=P->X.w=w->X.K=K->X.calm=true->∀(i:Nat) (pins:ada) (s:Shared) (σ:St) (H:Hp) (E:acX),Inv X pins σ H s->(∀b∈fp,zh X pins H b)->tn i s.heap->J.stop i H->
  wpAny (model P w) X.A (pyNext (.ref it)) (λr s1=>r=none/\Inv X pins σ H s1) E s
 self:∀(A:Around) (i:Nat) (s:Shared) (Q:acX) (E:acX),tn i s.heap->Q (.ref it) s->wpAny (model P w) A (pyIter (.ref it)) Q E s
abbrev TI:=St->Hp->(It->Hp->Prop)->Prop
def PIE(X:Cx)(pins:ada)(σ:St)(tg:Expr)(R:It->Hp->Prop)(itv:Value)(s2:Shared):Prop:=
 ∃(it:Addr) (fp:ac1) (tn:Nat->Heap->Prop) (J:It) (H':Hp),itv=.ref it/\Inv X pins σ H' s2/\Turn X.prog X.w X.K tg J fp it tn/\tn 0 s2.heap/\(∀b∈fp,zh X pins H' b)/\R J H'
def PI(X:Cx)(tg iter:Expr)(wi:TI):Prop:=
 ∀(pins:ada) (s:Shared) (σ:St) (H:Hp) (R:It->Hp->Prop),Inv X pins σ H s->wi σ H R->
  wpAny (model X.prog X.w) X.A (eval iter X.env) (λv s1=>wpAny (model X.prog X.w) X.A (pyIter v) (PIE X pins σ tg R) X.xe s1) X.xe s
theorem Qh{M:Model}{A:Around}{E:acX}{s:Shared}{tg:Expr}{it:Addr}{u:Value}{o:Obj}{n:String}{vs:ac6}{Q:Unit->Shared->Prop}(ho:s.heap.get? it=some o)(hc:o.cls=.type n)(hd:o.data=.fields vs) (hn:["enumerate","zip","dict_itemiterator","dict_reverseitemiterator","odict_iterator","itertools.zip_longest","itertools.pairwise"].contains n=false) (hQ:Q () s):wpAny M A (letOwnedTupleGo tg (.ref it) u) Q E s:=by
 unfold letOwnedTupleGo;cases tg <;> first
  |exact ay hQ
  |(cases u <;> first
    |exact ay hQ
    |(refine aa (wpAny_load ho ?_)
      rw[hc,hd];show wpAny M A (if (["enumerate","zip","dict_itemiterator","dict_reverseitemiterator","odict_iterator","itertools.zip_longest","itertools.pairwise"].contains n&&vs[0]?==some (rawInt _))=true then _ else _) Q E s;rw[ae (by intro h;rw[hn,d8] at h;cases h)]
      exact ay hQ))
def Q2(K:Frag)(a:Addr):It:=
 ⟨λi H=>∃xs x,cg K H a xs/\xs[i]?=some x,λi H x H'=>H'=H/\∀xs,cg K H a xs->xs[i]?=some x,λi H=>∃xs,cg K H a xs/\xs.length<=i⟩
def Q1(K:Frag)(a:Addr):It:=
 ⟨λi H=>∃xs x,dJ K H a xs/\xs[i]?=some x,λi H x H'=>H'=H/\∀xs,dJ K H a xs->xs[i]?=some x,λi H=>∃xs,dJ K H a xs/\xs.length<=i⟩
def Xt(lo:Int)(n:Nat):It:=⟨λi _=>i<n,λi H x H'=>H'=H/\x=.int (lo+i),λi _=>n<=i⟩
theorem Ln{P:Program}{w:World}{K:Frag}{tg:Expr}(a it:Addr):Turn P w K tg (Q2 K a) [it] it (λi h=>h.IsListIter it a i) where
 mem:=by simp
 obj:=λi h st b hb=>by
  have e:b=it:=by simpa using hb
  subst e;obtain⟨o,e,c,d⟩:=st;exact⟨o,e,λv z=>by rw[d] at z;cases z⟩
 keep:=λi h h' st k=>st.at λo e=>k it (by simp) o e
 item:=by
  intro X hP hw hK hc i pins s σ H E I hf st hg;subst hP hw hK;obtain⟨xs,x,hq,hx⟩:=hg;obtain⟨b6,rv,p,hz⟩:=I.list hq;obtain⟨u,hu,ru⟩:=rv.get hx;obtain⟨f0,f1,f2,f3,f4,f5⟩:=hf it (by simp);refine Er st p.isList (x:=u) (by simpa using hu) λh' Ug sb=>?_
  have I1:Inv X pins σ H {s with heap:=h'}:=I.turned (t':=s.toks) (λb o hb e=>(sb.2 b hb).trans e) f0 f1 f3 f4 f5;obtain⟨o,e,c,d⟩:=id Ug;exact⟨u,rfl,Qh (s:={s with heap:=h'}) e c d (by decide) ⟨x,H,I1,ru,⟨rfl,λys hy=>by rw[I.FY hy hq];exact hx⟩,Ug,λb hb=>(hf b hb).1⟩⟩
 done:=by
  intro X hP hw hK hc i pins s σ H E I hf st hg;subst hP hw hK;obtain⟨xs,hq,hx⟩:=hg;obtain⟨b6,rv,p,hz⟩:=I.list hq;obtain⟨f0,f1,f2,f3,f4,f5⟩:=hf it (by simp);have hl:=rv.length;exact Hx (I.ok.hd hc) st p.isList (by simp;omega) λh' eb=>⟨rfl,I.turned (t':=s.toks) (λb o hb e=>eb b o hb e) f0 f1 f3 f4 f5⟩
 self:=λ_ _ _ _ _ st h=>wpAny_pyIter_listiter st h
theorem HG{P:Program}{w:World}{K:Frag}{tg:Expr}(a it:Addr):Turn P w K tg (Q1 K a) [it] it (λi h=>h.IsTupleIter it a i) where
 mem:=by simp
 obj:=λi h st b hb=>by
  have e:b=it:=by simpa using hb
  subst e;obtain⟨o,e,c,d⟩:=st;exact⟨o,e,λv z=>by rw[d] at z;cases z⟩
 keep:=λi h h' st k=>st.at λo e=>k it (by simp) o e
 item:=by
  intro X hP hw hK hc i pins s σ H E I hf st hg;subst hP hw hK;obtain⟨xs,x,hq,hx⟩:=hg;obtain⟨b6,rv,p,hz⟩:=I.tuple hq;obtain⟨u,hu,ru⟩:=rv.get hx;obtain⟨f0,f1,f2,f3,f4,f5⟩:=hf it (by simp);refine wpAny_pyNext_tuple_item st (show s.heap.IsTuple a b6.toArray from p) (x:=u) (by simpa using hu) λh' Ug sb=>?_
  have I1:Inv X pins σ H {s with heap:=h'}:=I.turned (t':=s.toks) (λb o hb e=>(sb.2 b hb).trans e) f0 f1 f3 f4 f5;obtain⟨o,e,c,d⟩:=id Ug;exact⟨u,rfl,Qh (s:={s with heap:=h'}) e c d (by decide) ⟨x,H,I1,ru,⟨rfl,λys hy=>by rw[I.Lq hy hq];exact hx⟩,Ug,λb hb=>(hf b hb).1⟩⟩
 done:=by
  intro X hP hw hK hc i pins s σ H E I hf st hg;subst hP hw hK;obtain⟨xs,hq,hx⟩:=hg;obtain⟨b6,rv,p,hz⟩:=I.tuple hq;obtain⟨f0,f1,f2,f3,f4,f5⟩:=hf it (by simp);have hl:=rv.length;exact wpAny_pyNext_tuple_end (I.ok.hd hc) st (show s.heap.IsTuple a b6.toArray from p) (by simp;omega) λh' eb=>⟨rfl,I.turned (t':=s.toks) (λb o hb e=>eb b o hb e) f0 f1 f3 f4 f5⟩
 self:=λ_ _ _ _ _ st h=>wpAny_pyIter_tupleiter st h
theorem HH{P:Program}{w:World}{K:Frag}{tg:Expr}(it:Addr)(lo:Int)(n:Nat):Turn P w K tg (Xt lo n) [it] it (λi h=>IsRangeIter h it (lo+(i:Nat)*1) ((n:Int) - (i:Nat)) 1) where
 mem:=by simp
 obj:=λi h st b hb=>by
  grind
 keep:=λi h h' st k=>k it (by simp) _ st
 item:=by
  intro X hP hw hK hc i pins s σ H E I hf st hg;subst hP hw hK;obtain⟨f0,f1,f2,f3,f4,f5⟩:=hf it (by simp);have W:=Walks.range (prog:=X.prog) (w:=X.w) (I.ok.hd hc) it lo 1 n;refine W.item i s _ _ hg st λv h' tk hv Ug kk=>?_
  obtain⟨t,rfl⟩:=hv;have I1:Inv X pins σ H {s with heap:=h',toks:=tk}:=I.turned (λb o hb e=>kk b o (by simpa using hb) e) f0 f1 f3 f4 f5;refine⟨_,rfl,Qh (s:={s with heap:=h',toks:=tk}) (n:="range_iterator") Ug rfl rfl (by decide) ⟨.int (lo+i),H,I1,⟨t,?_⟩,⟨rfl,rfl⟩,Ug,λb hb=>(hf b hb).1⟩⟩;rw[Int.mul_one]
 done:=by
  intro X hP hw hK hc i pins s σ H E I hf st hg;subst hP hw hK;obtain⟨f0,f1,f2,f3,f4,f5⟩:=hf it (by simp);exact wpAny_pyNext_range_end (I.ok.hd hc) st (by have:n<=i:=hg;omega) λh' eb=>⟨rfl,I.turned (t':=s.toks) (λb o hb e=>eb b o hb e) f0 f1 f3 f4 f5⟩
 self:=λ_ _ _ _ _ st h=>wpAny_pyIter_rangeiter st h
end L2
namespace L2
open PySem PySem.Spec PyProof.Rows
section
variable{X:Cx}{tg:Expr}
def Y5(K:Frag)(tl:TE):TI:=λσ H R=>tl σ H λx H1=>∃a,x=.ref a/\(∃xs,cg K H1 a xs)/\R (Q2 K a) H1
def abz(K:Frag)(tl:TE):TI:=λσ H R=>tl σ H λx H1=>∃a,x=.ref a/\(∃xs,dJ K H1 a xs)/\R (Q1 K a) H1
theorem lF{l:Expr}{tl:TE}(hl:PE X l tl):PI X tg l (Y5 X.K tl):=by
 intro pins s σ H R I h;refine d9 (hl pins s σ H _ I h) λv s1 ⟨x,H1,I1,r1,q1⟩=>?_
 obtain⟨a,e,⟨xs,hq⟩,q⟩:=q1;subst e;cases r1;obtain⟨b6,rv,p,hz⟩:=I1.list hq;refine zj p.isList ?_;refine⟨s1.heap.objs.size,[s1.heap.objs.size],_,_,H1,rfl,I1.kept (t':=s1.toks) λb o e=>ax _ e,Ln a _,⟨_,aQ _ rfl,rfl,rfl⟩,λb hb=>?_,q⟩;have e:b=s1.heap.objs.size:=by simpa using hb
 subst e;exact I1.Qn (aA _) (I1.cR.fresh (aA _))
theorem Ce{l:Expr}{tl:TE}(hl:PE X l tl):PI X tg l (abz X.K tl):=by
 intro pins s σ H R I h;refine d9 (hl pins s σ H _ I h) λv s1 ⟨x,H1,I1,r1,q1⟩=>?_
 obtain⟨a,e,⟨xs,hq⟩,q⟩:=q1;subst e;cases r1;obtain⟨b6,rv,p,hz⟩:=I1.tuple hq;refine wpAny_pyIter_tuple (show s1.heap.IsTuple a b6.toArray from p) ?_;refine⟨s1.heap.objs.size,[s1.heap.objs.size],_,_,H1,rfl,I1.kept (t':=s1.toks) λb o e=>ax _ e,HG a _,⟨_,aQ _ rfl,rfl,rfl⟩,λb hb=>?_,q⟩;have e:b=s1.heap.objs.size:=by simpa using hb
 subst e;exact I1.Qn (aA _) (I1.cR.fresh (aA _))
theorem Om{pins:ada}{σ:St}{H:Hp}{s:Shared}{R:It->Hp->Prop}{E:acX}{lo hi:Int}{t u v:Tok}{tk:Nat}(I:Inv X pins σ H s)(h1: -(2 ^ 62)<=lo)(h2:lo<2 ^ 62)(h3: -(2 ^ 62)<=hi)(h4:hi<2 ^ 62) (q:R (Xt lo (hi - lo).toNat) H):wpAny (model X.prog X.w) X.A (pyIter (.ref s.heap.objs.size)) (PIE X pins σ tg R) E {s with heap:=s.heap.push {cls:=.type "range",data:=.fields #[.int lo t,.int hi u,.int 1 v]},toks:=tk}:=by
 refine wpAny_pyIter_range (IsRange.new ..) (small_one h1 h2 h3 h4) ?_;have I1:Inv X pins σ H {s with heap:=s.heap.push {cls:=.type "range",data:=.fields #[.int lo t,.int hi u,.int 1 v]},toks:=tk}:=I.kept λb o e=>ax _ e
 refine⟨(s.heap.push {cls:=.type "range",data:=.fields #[.int lo t,.int hi u,.int 1 v]}).objs.size,[(s.heap.push {cls:=.type "range",data:=.fields #[.int lo t,.int hi u,.int 1 v]}).objs.size],_,_,H,rfl,
  I1.kept (t':=tk) λb o e=>ax _ e,HH _ lo (hi - lo).toNat,?_,λb hb=>?_,q⟩
 ·have e1:lo+(0:Int)*1=lo:=by simp
  have e2:(((hi - lo).toNat:Nat):Int) - (0:Int)=Builtin.Range.rangeSize lo hi 1:=by rw[rangeSize_one];split <;> omega
  show IsRangeIter _ _ (lo+(0:Int)*1) ((((hi - lo).toNat:Nat):Int) - (0:Int)) 1;rw[e1,e2];exact aQ _ rfl
 ·have e:b=(s.heap.push {cls:=.type "range",data:=.fields #[.int lo t,.int hi u,.int 1 v]}).objs.size:=by simpa using hb
  subst e;exact I1.Qn (aA _) (I1.cR.fresh (aA _))
def Y4(ta:TA):TI:=λσ H R=>ta σ H λvs H1=>∃j:Int,vs=[.int j]/\ -(2 ^ 62)<=j/\j<2 ^ 62/\R (Xt 0 j.toNat) H1
theorem pR{a:Expr}{ta:TA}{p pos:Pos}(hg:Gl X "range")(hm:X.mg "range"=none)(ha:PA X [a] ta)(hs:starEach [a] X.env=[(false,eval a X.env)]:=by rfl):PI X tg (.Call (.Name "range" p) [a] [] pos) (Y4 ta):=by
 intro pins s σ H R I h;refine Call_ (oX I hg hm boot_range (dS (d9 (ha pos pins s σ H _ I h) λus s1 ⟨vs,H1,I1,r1,q1⟩=>?_) hs rfl));obtain⟨j,e,q1,q2,q⟩:=q1;subst e;cases r1 with
 |cons r rr=>
  cases rr;obtain⟨t,rfl⟩:=r;exact call_range_1 (Om I1 (by omega) (by omega) q1 q2 (by simpa using q))
def aa0(wi:TI)(g:TG)(tb:TS):TS:=λD σ H=>wi σ H λJ H1=>∃W:Nat->Nat->St->Hp->Prop,(∃m,W 0 m σ H1)/\∀i m σ H,W i m σ H->
 (J.stop i H/\D.nx σ H)\/(J.go i H/\∃N:St->Hp->Prop,(∀eU H',N eU H'->∃m',m'<m/\W (i+1) m' eU H')/\∀x H',J.Nc i H x H'->g x σ H' λiJ H2=>tb {D with nx:=N,ct:=N,bk:=D.nx} iJ H2)
def xX(fp:ac1)(h:Heap):List (Addr×Obj):=fp.filterMap λb=>(h.get? b).map λo=>(b,o)
theorem rj{fp:ac1}{h:Heap}{b:Addr}{o:Obj}(hb:b∈fp)(e:h.get? b=some o):(b,o)∈xX fp h:=List.mem_filterMap.mpr ⟨b,hb,by rw[e];rfl⟩
theorem LU{fp:ac1}{h:Heap}{p:Addr×Obj}(hp:p∈xX fp h):p.1∈fp/\h.get? p.1=some p.2:=by
 obtain⟨b,hb,e⟩:=List.mem_filterMap.mp hp;cases q:h.get? b with
 |none=>rw[q] at e;cases e
 |some o=>
  grind
theorem Inv.pinned{pins:ada}{σ:St}{H:Hp}{s:Shared}{fp:ac1}(I:Inv X pins σ H s)(hf:∀b∈fp,zh X pins H b)(ho:∀b∈fp,∃o,s.heap.get? b=some o/\∀v,o.data≠.cell v):Inv X (pins++xX fp s.heap) σ H s:=
 I.J5 λp hp=>(bx.mp hp).elim (λz=>I.pin p (cG _ z)) λz=>by
  obtain⟨hb,e⟩:=LU z;obtain⟨f0,f1,f2,_⟩:=hf p.1 hb
  grind
theorem Inv.rY{pins pl:ada}{σ:St}{H:Hp}{s:Shared}(I:Inv X (pins++pl) σ H s):Inv X pins σ H s:=I.J5 λp hp=>I.pin p (cG _ (jn _ hp))
theorem iY{iter:Expr}{body:List Stmt}{wi:TI}{g:TG}{tb:TS}{pos:Pos}(hp:PassesOwn (model X.prog X.w) X.A X.env X.xe)(hc:X.calm=true)(hi:PI X tg iter wi)(hg:PG X tg g)(hb:Hw X body tb) (hs:∀x,foldedSetIterable iter X.env x=pure x:=by intro _;rfl):PS X (.For tg iter body [] pos) (aa0 wi g tb):=by
 intro pins s σ H D I h;refine wpAny_For (d9 (hi pins s σ H _ I h) λv s1 h1=>d9 h1 λitv s2 h2=>?_) hs;obtain⟨it,fp,tn,J,H2,e,I2,T,st2,f2,W,⟨m0,w0⟩,turn⟩:=h2;subst e;have HK:∀{H':Hp},(∀b∈fp,H' b=none)->∀b∈fp,zh X pins H' b:=λhn b hb=>⟨hn b hb,(f2 b hb).2⟩
 refine codeAny_forLoop_any (λn s'=>∃i eU H',Inv X pins eU H' s'/\tn i s'.heap/\(∀b∈fp,H' b=none)/\W i n eU H') ?_ m0 ⟨0,σ,H2,I2,st2,λb hb=>(f2 b hb).1,w0⟩;rintro n s3 ⟨i,UY,H3,I3,st3,fr3,w3⟩;rcases turn i n UY H3 w3 with ⟨stop,qn⟩|⟨go,N,hN,step⟩
 ·refine jk hp (d9 (T.done X rfl rfl rfl hc i pins s3 UY H3 X.xe I3 (HK fr3) st3 stop) λr s4 ⟨hr,I4⟩=>?_);subst hr;exact Hg ⟨UY,H3,I4,qn⟩
 ·refine jk hp (d9 (T.item X rfl rfl rfl hc i pins s3 UY H3 X.xe I3 (HK fr3) st3 go) λr s4 ⟨u,hr,h4⟩=>?_);subst hr;refine jk hp (d9 h4 λ_ s5 ⟨x,H5,I5,r5,y5,WW,fr5⟩=>?_);have I5':=I5.pinned (HK fr5) (T.obj _ _ WW);refine jk hp (d9 (hg _ s5 UY H5 x u _ I5' r5 (step x H5 y5)) λ_ s6 ⟨σ6,H6,I6,q6⟩=>?_);refine jk hp (d9 (hb _ s6 σ6 H6 _ I6 q6) λf s7 q7=>?_);have again:∀{Nu:St} {H7:Hp},Inv X (pins++xX fp s5.heap) Nu H7 s7->N Nu H7->∃m,m<n/\∃i eU H',Inv X pins eU H' s7/\tn i s7.heap/\(∀b∈fp,H' b=none)/\W i m eU H':=λ{Nu H7} I7 n7=>by
   obtain⟨m',hm,w7⟩:=hN Nu H7 n7;refine⟨m',hm,i+1,Nu,H7,I7.rY,T.keep _ _ _ WW λb hb o e=>(I7.pin (b,o) (cG _ (cG _ (rj hb e)))).1,λb hb=>?_,w7⟩;obtain⟨o,e,d⟩:=T.obj _ _ WW b hb;exact(I7.pin (b,o) (cG _ (cG _ (rj hb e)))).2.1
  cases f with
  |next=>obtain⟨Nu,H7,I7,n7⟩:=q7;exact again I7 n7
  |cont=>obtain⟨Nu,H7,I7,n7⟩:=q7;exact again I7 n7
  |brk=>obtain⟨Nu,H7,I7,q7⟩:=q7;exact⟨Nu,H7,I7.rY,q7⟩
  |ret v=>obtain⟨x7,Nu,H7,I7,r7,q7⟩:=q7;exact⟨x7,Nu,H7,I7.rY,r7,q7⟩
end
theorem GJ{K:Frag}{a:Addr}{xs:List V}{g:TG}{tb:TS}{D:Ends}{σ:St}{H:Hp}(Pv:Nat->St->Hp->Prop)(h0:Pv 0 σ H)(hl:∀i σ H,i<=xs.length->Pv i σ H->cg K H a xs) (hs:∀i x σ H,xs[i]?=some x->Pv i σ H->g x σ H λiJ H2=>tb {D with nx:=Pv (i+1),ct:=Pv (i+1),bk:=D.nx} iJ H2) (hd:∀σ H,Pv xs.length σ H->D.nx σ H): ∃W:Nat->Nat->St->Hp->Prop,(∃m,W 0 m σ H)/\∀i m σ H,W i m σ H-> ((Q2 K a).stop i H/\D.nx σ H)\/((Q2 K a).go i H/\∃N:St->Hp->Prop,(∀eU H',N eU H'->∃m',m'<m/\W (i+1) m' eU H')/\∀x H',(Q2 K a).Nc i H x H'->g x σ H' λiJ H2=>tb {D with nx:=N,ct:=N,bk:=D.nx} iJ H2):=by
 refine⟨λi m σ H=>m=xs.length - i/\i<=xs.length/\Pv i σ H,⟨xs.length,by simp,aD _,h0⟩,?_⟩;rintro i m σ H ⟨rfl,hi,p⟩;have q:=hl i σ H hi p;by_cases gV:i<xs.length
 ·refine .inr ⟨⟨xs,xs[i],q,by simp[gV]⟩,Pv (i+1),λeU H' p'=>⟨xs.length - (i+1),by omega,rfl,gV,p'⟩,λx H' y=>?_⟩;obtain⟨e,y⟩:=y;subst e;exact hs i x σ _ (y xs q) p
 ·have e:i=xs.length:=by omega
  subst e;exact .inl ⟨⟨xs,q,aA _⟩,hd σ H p⟩
theorem DC{K:Frag}{a:Addr}{xs:List V}{g:TG}{tb:TS}{D:Ends}{σ:St}{H:Hp}(Pv:Nat->St->Hp->Prop)(h0:Pv 0 σ H)(hl:∀i σ H,i<=xs.length->Pv i σ H->dJ K H a xs) (hs:∀i x σ H,xs[i]?=some x->Pv i σ H->g x σ H λiJ H2=>tb {D with nx:=Pv (i+1),ct:=Pv (i+1),bk:=D.nx} iJ H2) (hd:∀σ H,Pv xs.length σ H->D.nx σ H): ∃W:Nat->Nat->St->Hp->Prop,(∃m,W 0 m σ H)/\∀i m σ H,W i m σ H-> ((Q1 K a).stop i H/\D.nx σ H)\/((Q1 K a).go i H/\∃N:St->Hp->Prop,(∀eU H',N eU H'->∃m',m'<m/\W (i+1) m' eU H')/\∀x H',(Q1 K a).Nc i H x H'->g x σ H' λiJ H2=>tb {D with nx:=N,ct:=N,bk:=D.nx} iJ H2):=by
 refine⟨λi m σ H=>m=xs.length - i/\i<=xs.length/\Pv i σ H,⟨xs.length,by simp,aD _,h0⟩,?_⟩;rintro i m σ H ⟨rfl,hi,p⟩;have q:=hl i σ H hi p;by_cases gV:i<xs.length
 ·refine .inr ⟨⟨xs,xs[i],q,by simp[gV]⟩,Pv (i+1),λeU H' p'=>⟨xs.length - (i+1),by omega,rfl,gV,p'⟩,λx H' y=>?_⟩;obtain⟨e,y⟩:=y;subst e;exact hs i x σ _ (y xs q) p
 ·have e:i=xs.length:=by omega
  subst e;exact .inl ⟨⟨xs,q,aA _⟩,hd σ H p⟩
theorem pY{lo:Int}{n:Nat}{g:TG}{tb:TS}{D:Ends}{σ:St}{H:Hp}(Pv:Nat->St->Hp->Prop)(h0:Pv 0 σ H) (hs:∀i σ H,i<n->Pv i σ H->g (.int (lo+i)) σ H λiJ H2=>tb {D with nx:=Pv (i+1),ct:=Pv (i+1),bk:=D.nx} iJ H2) (hd:∀σ H,Pv n σ H->D.nx σ H): ∃W:Nat->Nat->St->Hp->Prop,(∃m,W 0 m σ H)/\∀i m σ H,W i m σ H-> ((Xt lo n).stop i H/\D.nx σ H)\/((Xt lo n).go i H/\∃N:St->Hp->Prop,(∀eU H',N eU H'->∃m',m'<m/\W (i+1) m' eU H')/\∀x H',(Xt lo n).Nc i H x H'->g x σ H' λiJ H2=>tb {D with nx:=N,ct:=N,bk:=D.nx} iJ H2):=by
 refine⟨λi m σ H=>m=n - i/\i<=n/\Pv i σ H,⟨n,by simp,aD _,h0⟩,?_⟩;rintro i m σ H ⟨rfl,hi,p⟩;by_cases gV:i<n
 ·refine .inr ⟨gV,Pv (i+1),λeU H' p'=>⟨n - (i+1),by omega,rfl,gV,p'⟩,λx H' y=>?_⟩;obtain⟨e,y⟩:=y;subst e y;exact hs i σ _ gV p
 ·have e:i=n:=by omega
  subst e;exact .inl ⟨aA _,hd σ H p⟩
end L2
namespace L2
open PySem PySem.Spec PyProof.Rows
abbrev R2:=V->V->Hp->VK->Prop
def qe(X:Cx)(f:Value->Value->Sem Value)(r:R2):Prop:=
 ∀(pins:ada) (s:Shared) (σ:St) (H:Hp) (x y:V) (v u:Value) (Q:VK),Inv X pins σ H s->RelV x v->RelV y u->r x y H Q->
  wpAny (model X.prog X.w) X.A (f v u) (EP X pins σ Q) X.xe s
def UnR(X:Cx)(f:Value->Sem Value)(r:V->Hp->VK->Prop):Prop:=
 ∀(pins:ada) (s:Shared) (σ:St) (H:Hp) (x:V) (v:Value) (Q:VK),Inv X pins σ H s->RelV x v->r x H Q->
  wpAny (model X.prog X.w) X.A (f v) (EP X pins σ Q) X.xe s
def pC(X:Cx)(f:Value)(r:List V->Hp->VK->Prop):Prop:=
 ∀(pins:ada) (s:Shared) (σ:St) (H:Hp) (xs:List V) (us:acY) (Q:VK),Inv X pins σ H s->cu xs us->r xs H Q->
  wpAny (model X.prog X.w) X.A (call f us) (EP X pins σ Q) X.xe s
def tOp(r:R2)(ta tb:TE):TE:=λσ H Q=>ta σ H λx H1=>tb σ H1 λy H2=>r x y H2 Q
def tUn(r:V->Hp->VK->Prop)(ta:TE):TE:=λσ H Q=>ta σ H λx H1=>r x H1 Q
def rI(C:Int->Int->Prop)(g:Int->Int->V):R2:=λx y H Q=>∃i j,x=.int i/\y=.int j/\C i j/\Q (g i j) H
def Uo(g:Int->Int->V):R2:=λx y H Q=>∃i j,x=.int i/\y=.int j/\Q (g i j) H
def rU(g:Int->V):V->Hp->VK->Prop:=λx H Q=>∃i,x=.int i/\Q (g i) H
section
variable{X:Cx}{a b c:Expr}{ta tb tc:TE}{pos:Pos}
theorem WK(ha:PE X a ta)(hb:PE X b tb){pins:ada}{s:Shared}{σ:St}{H:Hp}{R:V->V->Hp->Prop}(I:Inv X pins σ H s) (h:ta σ H λx H1=>tb σ H1 λy H2=>R x y H2) {Q:acX} {f:Value->Value->Sem Value} (hf:∀v u s2 x y H2,Inv X pins σ H2 s2->RelV x v->RelV y u->R x y H2->wpAny (model X.prog X.w) X.A (f v u) Q X.xe s2): wpAny (model X.prog X.w) X.A (eval a X.env) (λv dX=>wpAny (model X.prog X.w) X.A (eval b X.env) (λu kX=>wpAny (model X.prog X.w) X.A (f v u) Q X.xe kX) X.xe dX) X.xe s:=by
 refine d9 (ha pins s σ H _ I h) λv s1 ⟨x,H1,I1,r1,q1⟩=>?_
 refine d9 (hb pins s1 σ H1 _ I1 q1) λu s2 ⟨y,H2,I2,r2,q2⟩=>?_
 exact hf v u s2 x y H2 I2 r1 r2 q2
theorem ft{op:Operator}{r:R2}(ho:qe X (binaryOp op) r)(ha:PE X a ta)(hb:PE X b tb):PE X (.BinOp a op b pos) (tOp r ta tb):=by
 intro pins s σ H Q I h;exact wpAny_BinOp (WK ha hb I h λv u s2 x y H2 I2 rx ry q=>ho pins s2 σ H2 x y v u Q I2 rx ry q)
theorem J6{op:UnaryOp}{r:V->Hp->VK->Prop}(ho:UnR X (unaryOp op) r)(ha:PE X a ta):PE X (.UnaryOp op a pos) (tUn r ta):=by
 intro pins s σ H Q I h;exact UnaryOp_ (d9 (ha pins s σ H _ I h) λv s1 ⟨x,H1,I1,r1,q1⟩=>ho pins s1 σ H1 x v Q I1 r1 q1)
theorem opI{f:Value->Value->Sem Value}{C:Int->Int->Prop}{g:Int->Int->Int} (rule:∀(i j:Int) (t u:Tok) (s:Shared) (Q:acX) (E:acX),C i j->Q (.int (g i j) s.toks) {s with toks:=s.toks+1}->wpAny (model X.prog X.w) X.A (f (.int i t) (.int j u)) Q E s): qe X f (rI C λi j=>.int (g i j)):=by
 intro pins s σ H x y v u Q I rx ry h;obtain⟨i,j,rfl,rfl,hc,q⟩:=h;obtain⟨t,rfl⟩:=rx;obtain⟨t',rfl⟩:=ry;exact rule i j t t' s _ _ hc ⟨.int (g i j),H,I.tok _,⟨_,rfl⟩,q⟩
theorem YF{f:Value->Value->Sem Value}{g:Int->Int->Int} (rule:∀(i j:Int) (t u:Tok) (s:Shared) (Q:acX) (E:acX),Q (.int (g i j) s.toks) {s with toks:=s.toks+1}->wpAny (model X.prog X.w) X.A (f (.int i t) (.int j u)) Q E s): qe X f (Uo λi j=>.int (g i j)):=by
 intro pins s σ H x y v u Q I rx ry h;obtain⟨i,j,rfl,rfl,q⟩:=h;obtain⟨t,rfl⟩:=rx;obtain⟨t',rfl⟩:=ry;exact rule i j t t' s _ _ ⟨.int (g i j),H,I.tok _,⟨_,rfl⟩,q⟩
theorem R6{f:Value->Value->Sem Value}{g:Int->Int->Bool} (rule:∀(i j:Int) (t u:Tok) (s:Shared) (Q:acX) (E:acX),Q (.bool (g i j)) s->wpAny (model X.prog X.w) X.A (f (.int i t) (.int j u)) Q E s): qe X f (Uo λi j=>.bl (g i j)):=by
 intro pins s σ H x y v u Q I rx ry h;obtain⟨i,j,rfl,rfl,q⟩:=h;obtain⟨t,rfl⟩:=rx;obtain⟨t',rfl⟩:=ry;exact rule i j t t' s _ _ ⟨.bl (g i j),H,I,rfl,q⟩
def acL(i j:Int):Prop:=0<j/\j<1073741824
def WR(i j:Int):Prop:=(-(2 ^ 64)<i/\i<2 ^ 64)\/(-(2 ^ 64)<j/\j<2 ^ 64)
theorem WR.ok{i j:Int}(h:WR i j):IntMulOk i j:=by
 rcases h with ⟨h1,h2⟩|⟨h1,h2⟩
 ·exact .of_left (intBits_le_64 h1 h2)
 ·exact .of_right (intBits_le_64 h1 h2)
theorem lh:qe X (binaryOp .Add) (Uo λi j=>.int (i+j)):=YF λ_ _ _ _ _ _ _ q=>add_int q
theorem Il:qe X (binaryOp .Sub) (Uo λi j=>.int (i - j)):=YF λ_ _ _ _ _ _ _ q=>sub_int q
theorem uH:qe X (binaryOp .Mult) (rI WR λi j=>.int (i*j)):=opI λ_ _ _ _ _ _ _ hc q=>mul_int q hc.ok
theorem J9:qe X (binaryOp .FloorDiv) (rI acL λi j=>.int (i / j)):=opI λi j _ _ _ _ _ hc q=>by
 have h1:(0:Int)<j:=hc.1;have h2:j<1073741824:=hc.2;exact floordiv_int (by omega) (by rw[Int.fdiv_eq_ediv_of_nonneg i (by omega)];exact q) (.inl (PyProof.noPylong_small (by omega)))
theorem unI{f:Value->Sem Value}{g:Int->Int} (rule:∀(i:Int) (t:Tok) (s:Shared) (Q:acX) (E:acX),Q (.int (g i) s.toks) {s with toks:=s.toks+1}->wpAny (model X.prog X.w) X.A (f (.int i t)) Q E s): UnR X f (rU λi=>.int (g i)):=by
 intro pins s σ H x v Q I rx h;obtain⟨i,rfl,q⟩:=h;obtain⟨t,rfl⟩:=rx;exact rule i t s _ _ ⟨.int (g i),H,I.tok _,⟨_,rfl⟩,q⟩
theorem BG:UnR X (unaryOp .USub) (rU λi=>.int (-i)):=unI λ_ _ _ _ _ q=>neg_int q
end
def Yb:V->V->Bool
 | .eZ,.eZ=>true| .eZ,.int _=>true| .int _,.eZ=>true| .eZ,.bl _=>true| .bl _,.eZ=>true| .eZ,.str _=>true| .str _,.eZ=>true
 | .int _,.int _=>true| .bl _,.bl _=>true| .str _,.str _=>true| .Ht _,.Ht _=>true
 | .int _,.str _=>true| .str _,.int _=>true| .bl _,.str _=>true| .str _,.bl _=>true
 |_,_=>false
def rEq:R2:=λx y H Q=>Yb x y=true/\Q (.bl (decide (x=y))) H
def rNe:R2:=λx y H Q=>Yb x y=true/\Q (.bl (!decide (x=y))) H
theorem KZ{i j:Int}:decide (V.int i=V.int j)=(i==j):=by
 rw[iI];simp
theorem QD{i j:Bool}:decide (V.bl i=V.bl j)=(i==j):=by
 rw[iI];simp
theorem KY{i j:Str}:decide (V.str i=V.str j)=(i==j):=by
 rw[iI];simp
theorem K0{i j:Array UInt8}:decide (V.Ht i=V.Ht j)=(i.toList==j.toList):=by
 rw[iI];cases i;cases j;simp
section
variable{X:Cx}{a b c:Expr}{ta tb tc:TE}{pos:Pos}
theorem cX{pins:ada}{σ:St}{H:Hp}{s:Shared}{Q:VK}{k k':Bool}(I:Inv X pins σ H s)(q:Q (.bl k) H)(e:k=k'):EP X pins σ Q (.bool k') s:=by
 subst e;exact⟨.bl k,H,I,rfl,q⟩
theorem gI:qe X (compareOp .Eq) rEq:=by
 intro pins s σ H x y v u Q I rx ry h;obtain⟨hs,q⟩:=h;cases x with
 |eZ=>
  cases rx;cases y with
  |eZ=>cases ry;exact PySem.EqNone.eq_none_none (cX I q (by simp))
  |bl j=>cases ry;exact PySem.EqNone.eq_none_bool (cX I q (by simp))
  |int j=>obtain⟨t',rfl⟩:=ry;exact PySem.EqNone.eq_none_int (cX I q (by simp))
  |str j=>obtain⟨t',rfl⟩:=ry;exact PySem.EqNone.eq_none_str (cX I q (by simp))
  |_=>exact absurd (show false=true from hs) aT
 |bl i=>
  cases rx;cases y with
  |eZ=>cases ry;exact PySem.EqNone.eq_bool_none (cX I q (by simp))
  |bl j=>cases ry;exact eq_bool (cX I q QD)
  |str j=>obtain⟨t',rfl⟩:=ry;exact PySem.EqMixed.eq_bool_str (cX I q (by simp))
  |_=>exact absurd (show false=true from hs) aT
 |int i=>
  obtain⟨t,rfl⟩:=rx;cases y with
  |eZ=>cases ry;exact PySem.EqNone.eq_int_none (cX I q (by simp))
  |int j=>obtain⟨t',rfl⟩:=ry;exact eq_int (cX I q KZ)
  |str j=>obtain⟨t',rfl⟩:=ry;exact PySem.EqMixed.eq_int_str (cX I q (by simp))
  |_=>exact absurd (show false=true from hs) aT
 |str i=>
  obtain⟨t,rfl⟩:=rx;cases y with
  |eZ=>cases ry;exact PySem.EqNone.eq_str_none (cX I q (by simp))
  |bl j=>cases ry;exact PySem.EqMixed.eq_str_bool (cX I q (by simp))
  |int j=>obtain⟨t',rfl⟩:=ry;exact PySem.EqMixed.eq_str_int (cX I q (by simp))
  |str j=>obtain⟨t',rfl⟩:=ry;exact eq_str (cX I q KY)
  |_=>exact absurd (show false=true from hs) aT
 |Ht i=>
  obtain⟨t,rfl⟩:=rx;cases y with
  |Ht j=>obtain⟨t',rfl⟩:=ry;exact PySem.W.eq_bytes (cX I q K0)
  |_=>exact absurd (show false=true from hs) aT
 |_=>cases y <;> exact absurd (show false=true from hs) aT
theorem vn:qe X (compareOp .NotEq) rNe:=by
 intro pins s σ H x y v u Q I rx ry h;obtain⟨hs,q⟩:=h;cases x with
 |eZ=>
  cases rx;cases y with
  |eZ=>cases ry;exact PySem.EqNone.ne_none_none (cX I q (by simp))
  |bl j=>cases ry;exact PySem.EqNone.ne_none_bool (cX I q (by simp))
  |int j=>obtain⟨t',rfl⟩:=ry;exact PySem.EqNone.ne_none_int (cX I q (by simp))
  |str j=>obtain⟨t',rfl⟩:=ry;exact PySem.EqNone.ne_none_str (cX I q (by simp))
  |_=>exact absurd (show false=true from hs) aT
 |bl i=>
  cases rx;cases y with
  |eZ=>cases ry;exact PySem.EqNone.ne_bool_none (cX I q (by simp))
  |bl j=>cases ry;exact ne_bool (cX I q (bb not QD))
  |str j=>obtain⟨t',rfl⟩:=ry;exact PySem.EqMixed.ne_bool_str (cX I q (by simp))
  |_=>exact absurd (show false=true from hs) aT
 |int i=>
  obtain⟨t,rfl⟩:=rx;cases y with
  |eZ=>cases ry;exact PySem.EqNone.ne_int_none (cX I q (by simp))
  |int j=>obtain⟨t',rfl⟩:=ry;exact ne_int (cX I q (bb not KZ))
  |str j=>obtain⟨t',rfl⟩:=ry;exact PySem.EqMixed.ne_int_str (cX I q (by simp))
  |_=>exact absurd (show false=true from hs) aT
 |str i=>
  obtain⟨t,rfl⟩:=rx;cases y with
  |eZ=>cases ry;exact PySem.EqNone.ne_str_none (cX I q (by simp))
  |bl j=>cases ry;exact PySem.EqMixed.ne_str_bool (cX I q (by simp))
  |int j=>obtain⟨t',rfl⟩:=ry;exact PySem.EqMixed.ne_str_int (cX I q (by simp))
  |str j=>obtain⟨t',rfl⟩:=ry;exact ne_str (cX I q (bb not KY))
  |_=>exact absurd (show false=true from hs) aT
 |Ht i=>
  obtain⟨t,rfl⟩:=rx;cases y with
  |Ht j=>obtain⟨t',rfl⟩:=ry;exact PySem.W.ne_bytes (cX I q (bb not K0))
  |_=>exact absurd (show false=true from hs) aT
 |_=>cases y <;> exact absurd (show false=true from hs) aT
theorem Fk:qe X (compareOp .Lt) (Uo λi j=>.bl (decide (i<j))):=R6 λ_ _ _ _ _ _ _ q=>lt_int q
theorem kq:qe X (compareOp .LtE) (Uo λi j=>.bl (decide (i<=j))):=R6 λ_ _ _ _ _ _ _ q=>le_int q
theorem sI:qe X (compareOp .Gt) (Uo λi j=>.bl (decide (j<i))):=R6 λ_ _ _ _ _ _ _ q=>gt_int q
theorem YE:qe X (compareOp .GtE) (Uo λi j=>.bl (decide (j<=i))):=R6 λ_ _ _ _ _ _ _ q=>ge_int q
theorem lg:qe X (compareOp .Is) (λx y H Q=>y=.eZ/\Q (.bl (decide (x=.eZ))) H):=by
 intro pins s σ H x y v u Q I rx ry h;obtain⟨rfl,q⟩:=h;cases ry;refine is_none_gen (cX I q ?_);cases x <;> first
  |(cases rx;rfl)
  |(obtain⟨t,rfl⟩:=rx;rfl)
theorem RY:qe X (compareOp .IsNot) (λx y H Q=>y=.eZ/\Q (.bl (!decide (x=.eZ))) H):=by
 intro pins s σ H x y v u Q I rx ry h;obtain⟨rfl,q⟩:=h;cases ry;refine isnot_none_gen (cX I q ?_);cases x <;> first
  |(cases rx;rfl)
  |(obtain⟨t,rfl⟩:=rx;rfl)
theorem bL(b:Expr){op:CmpOp}(h:op≠.In:=by decide)(h2:op≠.NotIn:=by decide):behindInMarks op b=false:=by
 have e1:(op==CmpOp.In)=false:=by cases op <;> first |rfl|exact absurd rfl h
 have e2:(op==CmpOp.NotIn)=false:=by cases op <;> first |rfl|exact absurd rfl h2
 cases b <;> simp[behindInMarks,e1,e2]
theorem i5{op:CmpOp}{r:R2}(ho:qe X (compareOp op) r)(ha:PE X a ta)(hb:PE X b tb)(hm:behindInMarks op b=false):PE X (.Compare a [op] [b] pos) (tOp r ta tb):=by
 intro pins s σ H Q I h;exact wpAny_Compare1 (WK ha hb I h λv u s2 x y H2 I2 rx ry q=>ho pins s2 σ H2 x y v u Q I2 rx ry q) hm
def Ua(t:TE):TT:=λσ H Q=>t σ H λx H'=>∃k,x=.bl k/\Q k H'
theorem bC{op:CmpOp}{r:R2}(ho:qe X (compareOp op) r)(ha:PE X a ta)(hb:PE X b tb)(hm:behindInMarks op b=false):PT X (.Compare a [op] [b] pos) (Ua (tOp r ta tb)):=by
 intro pins s σ H Q I h
 refine wpAny_isTrue_Compare1 (d9 (ha pins s σ H _ I h) λv s1 ⟨x,H1,I1,r1,q1⟩=>d9 (hb pins s1 σ H1 _ I1 q1) λu s2 ⟨y,H2,I2,r2,q2⟩=>
  d9 (ho pins s2 σ H2 x y v u _ I2 r1 r2 q2) λc s3 ⟨z,H3,I3,r3,k,e,q3⟩=>?_) hm
 subst e;cases r3;exact eK ⟨H3,I3,q3⟩
def NU(r r':R2)(ta tb tc:TE):TE:=λσ H Q=>ta σ H λx H1=>tb σ H1 λy H2=>r x y H2 λz H3=>∃k,z=.bl k/\
 (if k=true then tc σ H3 λw' H4=>r' y w' H4 Q else Q (.bl false) H3)
theorem sE{op Vt:CmpOp}{r r':R2}(ho:qe X (compareOp op) r)(Kw:qe X (compareOp Vt) r')(ha:PE X a ta)(hb:PE X b tb)(hc:PE X c tc) (hm:lastMarks [op,Vt] [b,c]=false:=by with_unfolding_all rfl):PE X (.Compare a [op,Vt] [b,c] pos) (NU r r' ta tb tc):=by
 intro pins s σ H Q I h
 refine Compare_chain (d9 (ha pins s σ H _ I h) λv s1 ⟨x,H1,I1,r1,q1⟩=>chain_link (d9 (hb pins s1 σ H1 _ I1 q1) λu s2 ⟨y,H2,I2,r2,q2⟩=>
  d9 (ho pins s2 σ H2 x y v u _ I2 r1 r2 q2) λd s3 ⟨z,H3,I3,r3,k,e,q3⟩=>?_)) hm
 subst e;cases r3;refine eK ?_;cases k with
 |false=>exact ite_ff ⟨.bl false,H3,I3,rfl,q3⟩
 |true=>exact ite_tt (chain_last (d9 (hc pins s3 σ H3 _ I3 q3) λw' s4 ⟨z',H4,I4,r4,q4⟩=>Kw pins s4 σ H4 y z' u w' Q I4 r2 r4 q4))
theorem xV{op Vt:CmpOp}{r r':R2}(ho:qe X (compareOp op) r)(Kw:qe X (compareOp Vt) r')(ha:PE X a ta)(hb:PE X b tb)(hc:PE X c tc) (hm:lastMarks [op,Vt] [b,c]=false:=by with_unfolding_all rfl):PT X (.Compare a [op,Vt] [b,c] pos) (Ua (NU r r' ta tb tc)):=by
 intro pins s σ H Q I h
 refine isTrue_chain (d9 (ha pins s σ H _ I h) λv s1 ⟨x,H1,I1,r1,q1⟩=>test_link (d9 (hb pins s1 σ H1 _ I1 q1) λu s2 ⟨y,H2,I2,r2,q2⟩=>
  d9 (ho pins s2 σ H2 x y v u _ I2 r1 r2 q2) λd s3 ⟨z,H3,I3,r3,k,e,q3⟩=>?_)) hm
 subst e;cases r3;refine eK ?_;cases k with
 |false=>
  obtain⟨k',e',q'⟩:=q3;cases e';exact ite_ff ⟨H3,I3,q'⟩
 |true=>
  refine ite_tt (test_last (d9 (hc pins s3 σ H3 _ I3 q3) λw' s4 ⟨z',H4,I4,r4,q4⟩=>d9 (Kw pins s4 σ H4 y z' u w' _ I4 r2 r4 q4) λd' s5 ⟨z2,H5,I5,r5,k2,e2,q5⟩=>?_));subst e2;cases r5;exact eK ⟨H5,I5,q5⟩
theorem CQ:(sizeLine:Nat)<2 ^ 63:=by rw[sizeLine_eq];decide
theorem vals1{x:V}{us:acY}(r:cu [x] us):∃u,us=[u]/\RelV x u:=by
 cases r with
 |cons r1 r2=>cases r2;exact⟨_,rfl,r1⟩
theorem vals2{x y:V}{us:acY}(r:cu [x,y] us):∃u w',us=[u,w']/\RelV x u/\RelV y w':=by
 cases r with
 |cons r1 r2=>
  cases r2 with
  |cons r3 r4=>cases r4;exact⟨_,_,rfl,r1,r3⟩
theorem MW(hc:X.calm=true):pC X (.builtin "max") (λxs H Q=>∃i j,xs=[.int i,.int j]/\Q (.int (if j> i then j else i)) H):=by
 intro pins s σ H xs us Q I r h;obtain⟨i,j,rfl,q⟩:=h;obtain⟨u,w',rfl,⟨t,rfl⟩,⟨t',rfl⟩⟩:=vals2 r;refine max_two_ints (I.ok.hd hc) λh' tk k=>⟨_,H,I.kept k,?_,q⟩
 by_cases hj:j> i
 ·rw[ah hj,ah hj];exact⟨_,rfl⟩
 ·rw[ae hj,ae hj];exact⟨_,rfl⟩
theorem MV(hc:X.calm=true):pC X (.builtin "min") (λxs H Q=>∃i j,xs=[.int i,.int j]/\Q (.int (if j<i then j else i)) H):=by
 intro pins s σ H xs us Q I r h;obtain⟨i,j,rfl,q⟩:=h;obtain⟨u,w',rfl,⟨t,rfl⟩,⟨t',rfl⟩⟩:=vals2 r;refine min_two_ints (I.ok.hd hc) λh' tk k=>⟨_,H,I.kept k,?_,q⟩
 by_cases hj:j<i
 ·rw[ah hj,ah hj];exact⟨_,rfl⟩
 ·rw[ae hj,ae hj];exact⟨_,rfl⟩
end
end L2
namespace L2
open PySem PySem.Spec PyProof.Rows
structure Jw(h:Heap)(x dx C:Addr)(mA:ac0):Prop where
 obj:h.get? x=some (PySem.W.instObj C dx)
 ns:h.Ns1 dx mA
 ne:dx≠x
theorem Mc{h:Heap}{dx:Addr}{mA:ac0}(n:h.Ns1 dx mA):∃od,h.get? dx=some od/\∀name,PySem.W.lookIn name od=some (mA name):=by
 obtain⟨o,es,ep,ho,hd,hk,_,hm⟩:=n;refine⟨o,ho,λname=>?_⟩;have e:=hm name;unfold nsFind findBy at e;rw[<-Array.find?_toList] at e;unfold PySem.W.lookIn;rw[hd];dsimp only;split
 ·rename_i y q;rw[q] at e;exact bb some e
 ·rename_i q;rw[q] at e;have a:es.toList.any (·.refKey)=false:=by
   rw[List.any_eq_false];intro y hy;obtain⟨z,t,PR⟩:=hk y (Array.mem_toList_iff.mp hy);simp[DictEntry.refKey,PR]
  grind
theorem Jw.look{h:Heap}{x dx C:Addr}{mA:ac0}(I:Jw h x dx C mA):∃od,PySem.W.InstAt h x (PySem.W.instObj C dx) C (some od)/\∀name,PySem.W.lookIn name od=some (mA name):=
 let ⟨od,ho,hl⟩:=Mc I.ns
 ⟨od,⟨I.obj,rfl,rfl,ho⟩,hl⟩
section
variable{prog:Program}{w:World}{A:Around}{E:acX}{s:Shared}{K:Frag}{x dx C f:Addr}{mA:ac0}{name:Str}{v:Value}
theorem get_map{expr:Bool}{Q:acX}(X:K.In s.heap)(I:Jw s.heap x dx C mA)(hg:plainGet K C name=true)(hh:hasDictIn K C=true) (ha:findIn K (.ref C) name=some none) (hv:mA name=some v) (VR:PySem.W.handedIn v=true) (h:Q v {s with toks:=s.toks+1}): wpAny (model prog w) A (getAttr (.ref x) name expr) Q E s:=by
 obtain⟨od,J,hl⟩:=I.look;exact PySem.W.get_value X J (Ew hg).1 (PySem.W.findObj_own hh ha rfl (by rw[hl,hv])) VR h
theorem Qi{pl:Sem Bool}{Q:Value×List Value->Shared->Prop}(X:K.In s.heap)(I:Jw s.heap x dx C mA)(hg:plainGet K C name=true) (hf:findIn K (.ref C) name=some (some (.ref f))) (ht:isFn K (.ref f)=true) (hv:mA name=none) (h:Q (.ref f,[.ref x]) s): wpAny (model prog w) A (getMethod (.ref x) name pl) Q E s:=by
 obtain⟨od,J,hl⟩:=I.look;exact PySem.W.method_fn X J (Ew hg).1 (Ew hg).2 hf (gC.mp ht) (by show(PySem.W.lookIn name od).map (·.isSome)=some false;rw[hl,hv];rfl) h
theorem RG{ns:ac5}{Q:Unit->Shared->Prop}(X:K.In s.heap)(I:Jw s.heap x dx C mA) (hs:findIn K (.ref C) "__setattr__"=some (some (.builtin "object.__setattr__"))) (hp:plainOver K C=true) (ht:PySem.W.takerIn K C name=some none) (hh:hasDictIn K C=true) (hw:PySem.Within mA ns) (hsz:ns.length<=sizeLine) (h:∀h',Jw h' x dx C (λy=>if y=name then some v else mA y)->Heap.SameBut dx s.heap h'->Q () {s with heap:=h',toks:=s.toks+2}): wpAny (model prog w) A (setAttr (.ref x) name v) Q E s:=by
 obtain⟨od,J,hl⟩:=I.look;refine PySem.W.set_plain X J hs (PySem.W.osa_open (s:={s with toks:=s.toks+1}) (r:=none) X J hp ht λb=>?_);obtain⟨cd,hc,yM⟩:=PySem.W.any_some hh;have hx:s.heap.get? x=some ⟨.ref C,some dx,.plain,#[]⟩:=I.obj;refine aa (ay (aa (aa (wpAny_loadPart hx (aa (PySem.W.Looks.here (s:={s with toks:=s.toks+1}) (PySem.W.looks_clsIn X hc) ?_))))));rw[yM];refine ay (a:=some dx) (aa (ay (aa ?_)));refine wpAny_nsSet1 (s:={s with toks:=s.toks+1}) I.ns λh' hn2 tE=>?_
 obtain⟨oD,esD,epD,hoD,hdD,hcD⟩:=hn2.count (PySem.Within.cons name v hw);refine aa (wpAny_lookBehind hoD (by rw[hdD];exact pastItsLine_dict (bK hcD (by rw[aJ];omega))) ?_);exact ay (h _ ⟨(tE.2 _ (cv I.ne)).trans I.obj,hn2,I.ne⟩ tE)
theorem O7{R:Result->Shared->Prop}{vs:acY}{kw:List (Str×Value)}(X:K.In s.heap)(hm:makesIn K C=true) (hi:findIn K (.ref C) "__init__"=some (some (.ref f))) (hf:PySem.W.typeIn K (.ref f)=some (.type "function")) (h:codeAny (model prog w) (A.under (.builtin "type.__call__" ⟨.ref C::vs,kw⟩)) (.call (.ref f) ⟨.ref (s.heap.objs.size+1)::vs,kw⟩) (PySem.W.InitBack (s.heap.objs.size+1) R) {s with heap:=(s.heap.push PySem.W.emptyDict).push (PySem.W.instObj C s.heap.objs.size)}): codeAny (model prog w) A (.call (.ref C) ⟨vs,kw⟩) R s:=by
 obtain⟨hh,g,d,t,os⟩:=s;exact PySem.W.make_core (PySem.W.makes_of X hm) (PySem.W.looks_findIn X hi) (λself=>PySem.W.bind_fn X self hf) (.inl rfl) h
end
def qj(f:Str)(v:V):List (Str×V)->List (Str×V)
 | []=>[(f,v)]
 |(g,x)::r=>if g=f then(g,v)::r else(g,x)::qj f v r
theorem vx(f g:Str)(v:V):∀fs:List (Str×V),(qj f v fs).lookup g=if g=f then some v else fs.lookup g
 | []=>by
  show List.lookup g [(f,v)]=_
  grind
 |(k,x)::r=>by
  have ih:=vx f g v r;rw[show qj f v ((k,x)::r)=(if k=f then(k,v)::r else(k,x)::qj f v r) from rfl]
  grind
theorem uX(f:Str)(v:V):∀fs:List (Str×V),f∈(qj f v fs).map (·.1)/\∀g,g∈fs.map (·.1)->g∈(qj f v fs).map (·.1)
 | []=>⟨by simp[qj],λg h=>by simp at h⟩
 |(k,x)::r=>by
  obtain⟨i1,i2⟩:=uX f v r;rw[show qj f v ((k,x)::r)=(if k=f then(k,v)::r else(k,x)::qj f v r) from rfl]
  grind
theorem vz(f:Str)(v:V):∀fs:List (Str×V),(qj f v fs).length<=fs.length+1
 | []=>by simp[qj]
 |(k,x)::r=>by
  have ih:=vz f v r;rw[show qj f v ((k,x)::r)=(if k=f then(k,v)::r else(k,x)::qj f v r) from rfl]
  grind
theorem mv.some_of{v:V}{o:Option Value}(r:mv (some v) o):∃u,o=some u/\RelV v u:=by
 cases o with
 |none=>exact(show False from r).elim
 |some u=>exact⟨u,rfl,r⟩
theorem mv.none_of{o:Option Value}(r:mv none o):o=none:=by
 cases o with
 |none=>rfl
 |some u=>exact(show False from r).elim
theorem MF{v:V}{u:Value}(r:RelV v u):PySem.W.handedIn u=true:=by
 cases v with
 |eZ=>cases (show u=Value.none from r);rfl
 |bl b=>cases (show u=Value.bool b from r);rfl
 |int i=>obtain⟨t,e⟩:=(show ∃t,u=Value.int i t from r);cases e;rfl
 |str x=>obtain⟨t,e⟩:=(show ∃t,u=Value.str x t from r);cases e;rfl
 |Ht b=>obtain⟨t,e⟩:=(show ∃t,u=Value.bytes b t from r);cases e;rfl
 |flt b=>obtain⟨t,e⟩:=(show ∃t,u=Value.float b t from r);cases e;rfl
 |ref a=>cases (show u=Value.ref a from r);rfl
 |ty n=>cases (show u=Value.type n from r);rfl
section
variable{P:Program}{w:World}{H H':Hp}{h h':Heap}{a C dx:Addr}{fs fs':List (Str×V)}
theorem C6(cR:pB P w H h)(e:H a=some (.ins C dx fs)):∃mA,Jw h a dx C mA/\(∀f,mv (fs.lookup f) (mA f))/\PySem.Within mA (fs.map (·.1))/\fs.length<=1000/\H dx=some (.own a):=by
 obtain⟨d,z,ne,ob,mA,n,r,q⟩:=(show fg P w H h a (.ins C dx fs) from cR a _ e);exact⟨mA,⟨ob,n,ne⟩,r,q,z,d⟩
end
structure Bv(K:Frag)(C:Addr):Prop where
 pg:plainGet K C Str.empty=true
 hd:hasDictIn K C=true
 po:plainOver K C=true
 sa:findIn K (.ref C) "__setattr__"=some (some (.builtin "object.__setattr__"))
theorem Bv.get{K:Frag}{C:Addr}(c:Bv K C)(f:Str):plainGet K C f=true:=c.pg
def dj(K:Frag)(C:Addr)(f:Str):Prop:=findIn K (.ref C) f=some none
theorem dj.XH{K:Frag}{C:Addr}{f:Str}(n:dj K C f):PySem.W.takerIn K C f=some none:=by
 unfold PySem.W.takerIn;rw[show findIn K (.ref C) f=some none from n];rfl
structure QY(K:Frag)(C:Addr)(m:Str)(f:Addr):Prop where
 at_:findIn K (.ref C) m=some (some (.ref f))
 fn:isFn K (.ref f)=true
 kp:keepIn K (.ref f)=true
section
variable{X:Cx}{pins:ada}{σ:St}{H:Hp}{s:Shared}{a C dx:Addr}{fs:List (Str×V)}{f:Str}{v:V}{A:Around}{E:acX}
theorem IZ{b:Bool}{Q:acX}(I:Inv X pins σ H s)(e:H a=some (.ins C dx fs))(c:Bv X.K C)(n:dj X.K C f)(l:fs.lookup f=some v) (h:∀u s',Inv X pins σ H s'->RelV v u->Q u s'):wpAny (model X.prog X.w) A (getAttr (.ref a) f b) Q E s:=by
 obtain⟨mA,O,r,_,_,_⟩:=C6 I.cR e;obtain⟨u,hu,ru⟩:=mv.some_of (v:=v) (o:=mA f) (by rw[<-l];exact r f);exact get_map I.C0 O (c.get f) c.hd n hu (MF ru) (h u _ (I.tok _) ru)
theorem yO{m:Str}{g:Addr}{pl:Sem Bool}{Q:Value×List Value->Shared->Prop}(I:Inv X pins σ H s)(e:H a=some (.ins C dx fs))(c:Bv X.K C)(k:QY X.K C m g)(l:fs.lookup m=none) (h:Q (.ref g,[.ref a]) s):wpAny (model X.prog X.w) A (getMethod (.ref a) m pl) Q E s:=by
 obtain⟨mA,O,r,_,_,_⟩:=C6 I.cR e;have hn:mA m=none:=mv.none_of (by rw[<-l];exact r m);exact Qi I.C0 O (c.get m) k.at_ k.fn hn h
theorem HQ{y:V}{u:Value}{Q:Unit->Shared->Prop}(I:Inv X pins σ H s)(e:H a=some (.ins C dx fs))(c:Bv X.K C)(n:dj X.K C f)(hl:fs.length<1000)(ry:RelV y u) (h:∀s',Inv X pins σ (upd H a (.ins C dx (qj f y fs))) s'->Q () s'):wpAny (model X.prog X.w) A (setAttr (.ref a) f u) Q E s:=by
 obtain⟨mA,O,r,wi,_,ho⟩:=C6 I.cR e;have hz:(fs.map (·.1)).length<=sizeLine:=by rw[af,sizeLine_eq];omega
 refine RG I.C0 O c.sa c.po n.XH c.hd wi hz λh' O' sb=>h _ ?_
 have hd:∃o,h'.get? dx=some o:=let ⟨o,_,_,e',_⟩:=O'.ns;⟨o,e'⟩;refine I.write (x:=a) (e:=dx) (by rw[e];exact True.intro) (.inr ho) (λb q hb z=>(sb.2 b hb).trans z) hd ?_;refine⟨by rw[aH O.ne];exact ho,?_,O.ne,O'.obj,_,O'.ns,λg=>?_,λg hg=>?_⟩
 ·have:=vz f y fs;omega
 ·show mv ((qj f y fs).lookup g) (if g=f then some u else mA g);rw[vx];by_cases q:g=f
  ·rw[ah q,ah q];exact ry
  ·rw[ae q,ae q];exact r g
 ·by_cases q:g=f
  ·rw[q];exact(uX f y fs).1
  ·refine(uX f y fs).2 g (wi g λz=>hg ?_)
   grind
theorem Inv.made(I:Inv X pins σ H s):Inv X pins σ (upd (upd H s.heap.objs.size (.own (s.heap.objs.size+1))) (s.heap.objs.size+1) (.ins C s.heap.objs.size [])) {s with heap:=(s.heap.push PySem.W.emptyDict).push (PySem.W.instObj C s.heap.objs.size)}:=by
 have e1:(s.heap.push PySem.W.emptyDict).get? s.heap.objs.size=some PySem.W.emptyDict:=aQ s.heap rfl;have e2:((s.heap.push PySem.W.emptyDict).push (PySem.W.instObj C s.heap.objs.size)).get? (s.heap.objs.size+1)=some (PySem.W.instObj C s.heap.objs.size):=by
  have:=aQ (s.heap.push PySem.W.emptyDict) (o:=PySem.W.instObj C s.heap.objs.size) rfl;rwa[dO] at this
 have e3:(s.heap.push PySem.W.emptyDict).Ns s.heap.objs.size (λ_=>none):=⟨PySem.W.emptyDict,#[],_,e1,rfl,(λe he=>absurd he (by simp)),λ_=>rfl⟩;have I1:=I.laid (a:=s.heap.objs.size) (o:=.own (s.heap.objs.size+1)) (h':=s.heap.push PySem.W.emptyDict) (t':=s.toks) (λb u q=>ax _ q) (aA _) ⟨_,e1⟩;refine I1.laid (a:=s.heap.objs.size+1) (o:=.ins C s.heap.objs.size []) (t':=s.toks) (λb u q=>ax _ q) (xr (dO _ _)) ?_;have ne:s.heap.objs.size≠s.heap.objs.size+1:=bH (gW _);refine⟨by rw[aH ne,ak],aD _,ne,e2,λ_=>none,(Heap.Ns1.of_empty e3).at λo q=>ax _ q,λ_=>True.intro,λy hy=>absurd rfl hy⟩
theorem TN{prog:Program}{w:World}{env:Env}{e:Expr}{f:Str}{pos:Pos}{s:Shared}{Q:acX}(hb:attributeBase e f env (eval e env)=eval e env) (h:wpAny (model prog w) A (eval e env) (λo dX=>wpAny (model prog w) A (getAttr o f true) Q E dX) E s):wpAny (model prog w) A (eval (.Attribute e f pos) env) Q E s:=
 Attribute_any_ h (by rw[arm_eval_Attribute,hb])
end
def XN(K:Frag)(ta:TE)(f:Str):TE:=λσ H Q=>ta σ H λx H1=>∃a C dx fs v,x=.ref a/\H1 a=some (.ins C dx fs)/\Bv K C/\dj K C f/\fs.lookup f=some v/\Q v H1
def aa4(K:Frag)(ta tv:TE)(f:Str):TS:=λD σ H=>tv σ H λy H1=>ta σ H1 λx H2=>∃a C dx fs,x=.ref a/\H2 a=some (.ins C dx fs)/\Bv K C/\dj K C f/\fs.length<1000/\
 D.nx σ (upd H2 a (.ins C dx (qj f y fs)))
section
variable{X:Cx}{o e value:Expr}{f:Str}{pos pos' Lr:Pos}{ta tv:TE}
theorem bD(he:PE X e ta)(hb:attributeBase e f X.env (eval e X.env)=eval e X.env):PE X (.Attribute e f pos) (XN X.K ta f):=by
 intro pins s σ H Q I h;refine TN hb (d9 (he pins s σ H _ I h) λu s1 ⟨x,H1,I1,rx,a,C,dx,fs,v,ex,ea,c,n,l,q⟩=>?_);subst ex;obtain rfl:u=Value.ref a:=rx;exact IZ I1 ea c n l λu' s2 I2 ru=>⟨v,H1,I2,ru,q⟩
theorem dH(ha:PE X o ta)(hv:PE X value tv)(hs:swapsWith value (some (.Attribute o f pos')) pos.line X.env=pure false):PS X (.Assign [.Attribute o f pos'] value pos) (aa4 X.K ta tv f):=by
 intro pins s σ H D I h;refine plainObj_wpAny_Assign_Attribute (d9 (hv pins s σ H _ I h) λu s1 ⟨y,H1,I1,ry,q⟩=>d9 (ha pins s1 σ H1 _ I1 q) λov s2 ⟨x,H2,I2,rx,a,C,dx,fs,ex,ea,c,n,l,q2⟩=>?_) hs;subst ex;obtain rfl:ov=Value.ref a:=rx;exact HQ I2 ea c n l ry λs3 I3=>⟨σ,_,I3,q2⟩
end
end L2
namespace L2
open PySem PySem.Spec PyProof.Rows
structure dR(k:Nat)(A:Around):Prop where
 hd:A.handled=none
 dp:A.depth+3*k+5<recursionLimit
 un:A.units+16*k+200<cLine
theorem dR.mono{j k:Nat}{A:Around}(r:dR k A)(h:j<=k):dR j A:=⟨r.hd,by have:=r.dp;omega,by have:=r.un;omega⟩
theorem dR.deeper{k:Nat}{A:Around}(r:dR (k+1) A)(env:Env):dR k (A.deeper env):=
 ⟨r.hd,by have:=r.dp;show A.depth+1+3*k+5<_;omega,by have:=r.un;show A.units+3+16*k+200<_;omega⟩
theorem IC{A:Around}{C:Addr}{us:acY}{kw:List (Str×Value)}:(A.under (.builtin "type.__call__" ⟨.ref C::us,kw⟩)).depth=A.depth+1:=by
 first |rfl|simp[Around.under,Code.weight,Code.isCreation,Code.isGuard,Code.isCaller,Code.frames,Code.isFrame,guardIds]
theorem IB{A:Around}{C:Addr}{us:acY}{kw:List (Str×Value)}:(A.under (.builtin "type.__call__" ⟨.ref C::us,kw⟩)).units=A.units+1:=by
 first |rfl|simp[Around.under,Code.cUnits,Code.frames,Code.isFrame]
theorem dR.make{k:Nat}{A:Around}(r:dR (k+1) A)(C:Addr)(us:acY)(kw:List (Str×Value)):dR k (A.under (.builtin "type.__call__" ⟨.ref C::us,kw⟩)):=
 ⟨r.hd,by have:=r.dp;rw[IC];omega,by have:=r.un;rw[IB];omega⟩
theorem dR.depth{k:Nat}{A:Around}(r:dR k A):A.depth<recursionLimit:=by have:=r.dp;omega
theorem dR.units{k:Nat}{A:Around}(r:dR k A):A.units+64<cLine:=by have:=r.un;omega
theorem dR.HD{k:Nat}{A:Around}(r:dR k A):A.units<cLine:=by have:=r.un;omega
def NR:TA:=λ_ H Q=>Q [] H
def XS(ta:TE)(tr:TA):TA:=λσ H Q=>ta σ H λx H1=>tr σ H1 λxs H2=>Q (x::xs) H2
section
variable{X:Cx}{e:Expr}{es:ac8}{te:TE}{t:TA}{pos:Pos}
theorem aB:PA X [] NR:=λ_ _ _ _ H Q I h=>nX ⟨[],H,I,.nil,h⟩
theorem aj(ha:PE X e te)(hr:PA X es t)(hs:starEach (e::es) X.env=(false,eval e X.env)::starEach es X.env:=by rfl):PA X (e::es) (XS te t):=by
 intro pos pins s σ H Q I h;rw[hs];show wpAny _ _ (spliced ((false,eval e X.env)::backTo pos (starEach es X.env))) _ _ s;refine gA (d9 (ha pins s σ H _ I h) λu s1 ⟨x,H1,I1,r1,q1⟩=>?_);exact d9 (hr pos pins s1 σ H1 _ I1 q1) λus s2 ⟨xs,H2,I2,r2,q2⟩=>⟨x::xs,H2,I2,.cons r1 r2,q2⟩
def aaT(t:TA):TE:=λσ H Q=>t σ H λxs H1=>xs.length<=sizeLine/\∀p,H1 p=none->Q (.ref p) (upd H1 p (.tup xs))
def aaY(t:TA):TE:=λσ H Q=>t σ H λxs H1=>xs.length<=sizeLine/\∀p,H1 p=none->Q (.ref p) (upd H1 p (.lst xs))
theorem gH{x1}(h:PA X es t):PE X (.Tuple es x1 pos) (aaT t):=by
 intro pins s σ H Q I hq;refine wpAny_Tuple_spliced (d9 (h pos pins s σ H _ I hq) λus s1 ⟨xs,H1,I1,r,z,q⟩=>⟨by rw[<-r.length];exact z,?_⟩);have hf:H1 s1.heap.objs.size=none:=I1.cR.fresh (aA _);refine⟨.ref s1.heap.objs.size,upd H1 s1.heap.objs.size (.tup xs),I1.laid (t':=s1.toks) (λb u e=>ax _ e) (aA _) ?_,rfl,q _ hf⟩;exact⟨z,us,r,⟨_,aQ _ rfl,rfl,_,rfl⟩⟩
theorem dD(h:PA X es t):PE X (.List es pos) (aaY t):=by
 intro pins s σ H Q I hq;refine wpAny_List_spliced (d9 (h pos pins s σ H _ I hq) λus s1 ⟨xs,H1,I1,r,z,q⟩=>⟨by rw[<-r.length];exact z,?_⟩);have hf:H1 s1.heap.objs.size=none:=I1.cR.fresh (aA _);refine⟨.ref s1.heap.objs.size,upd H1 s1.heap.objs.size (.lst xs),I1.laid (t':=s1.toks) (λb u e=>ax _ e) (aA _) ?_,rfl,q _ hf⟩;exact⟨z,us,0,r,aQ _ rfl⟩
end
abbrev Sp:=List V->Hp->VK->XK->Prop
abbrev Q7:=List Env->Hp->Shared->XK->Value->Shared->Prop
structure Jy(P:Program)(w:World)(K:Frag)(mg:ac0)(base:Heap)(A:Around)(outer:List Env)(s:Shared)(H:Hp):Prop where
 frames:A.frames=some outer
 mod:Mod K mg base
 bs:∀b o,base.get? b=some o->s.heap.get? b=some o/\H b=none
 TK:base.objs.size<=s.heap.objs.size
 wt:s.heap.FunFrames base outer
 Ws:∀b∈Qm outer,H b=none
 cR:pB P w H s.heap
 bare:AllBare s.gens
def CE(outer:List Env)(P:Program)(w:World)(H:Hp)(s:Shared)(Q:VK)(u:Value)(s':Shared):Prop:=
 ∃v H',s'.os=s.os/\AllBare s'.gens/\Un (Qm outer) [] H H' s.heap s'.heap/\pB P w H' s'.heap/\RelV v u/\Q v H'
def CR(CX:Q7)(outer:List Env)(P:Program)(w:World)(H:Hp)(s:Shared)(Q:VK)(E:XK)(r:Result)(s':Shared):Prop:=
 match r with
 | .ok (.ret u)=>CE outer P w H s Q u s'
 | .ok _=>False
 | .error e=>CX outer H s E e s'
structure oe(P:Program)(w:World)(K:Frag)(mg:ac0)(base:Heap)(CX:Q7)(k:Nat)(f:Addr)(fd:FuncData)(ps:ac5)(sp:Sp):Prop where
 len:∀vs H Q E,sp vs H Q E->vs.length=ps.length
 run:∀(A:Around) (outer:List Env) (s:Shared) (H:Hp) (args:Args) (us:acY) (vs:List V) (Q:VK) (E:XK),dR k A->Jy P w K mg base A outer s H->BindsTo s fd args (ps.zip us)->cu vs us->sp vs H Q E->
  codeAny (model P w) A (.call (.ref f) args) (CR CX outer P w H s Q E) s
theorem Jy.make{P:Program}{w:World}{K:Frag}{mg:ac0}{base:Heap}{A:Around}{outer:List Env}{s:Shared}{H:Hp}(e:Jy P w K mg base A outer s H)(C:Addr)(us:acY)(kw:List (Str×Value)): Jy P w K mg base (A.under (.builtin "type.__call__" ⟨.ref C::us,kw⟩)) outer s H:=⟨by first |exact e.frames|(simpa [Around.under,Code.envs,Code.isFrame,pushEnvs] using e.frames),e.mod,e.bs,e.TK,e.wt,e.Ws,e.cR,e.bare⟩
section
variable{X:Cx}{pins:ada}{σ:St}{H:Hp}{s s':Shared}
theorem Inv.aaq(I:Inv X pins σ H s):Jy X.prog X.w X.K X.mg X.base X.A X.stack s H:=
 ⟨I.ok.frames,I.ok.mod,I.bs,bK I.ok.TK I.sz,I.stack,I.JH,I.cR,I.bare⟩
theorem Inv.after{Q:VK}{u:Value}(I:Inv X pins σ H s)(h:CE X.stack X.prog X.w H s Q u s'):EP X pins σ Q u s':=by
 obtain⟨v,H',os,bare,un,cR,r,q⟩:=h;obtain⟨hh,g,d,t,os'⟩:=s';obtain rfl:os'=s.os:=os;exact⟨v,H',I.call (h':=hh) (g':=g) (d':=d) (t':=t) (ch:=[]) un cR bare (λb z=>absurd z (by simp)),r,q⟩
end
def Ub(sp:Sp)(y0:List V)(E:XK)(t:TA):TE:=λσ H Q=>t σ H λvs H1=>sp (vs++y0) H1 Q E
def JD(C:Addr)(m:Str)(sp:Sp)(y0:List V)(E:XK)(ta:TE)(t:TA):TE:=λσ H Q=>ta σ H λx H1=>∃a dx fs,x=.ref a/\H1 a=some (.ins C dx fs)/\fs.lookup m=none/\
 t σ H1 λvs H2=>sp (x::(vs++y0)) H2 Q E
def JE(C:Addr)(sp:Sp)(y0:List V)(E:XK)(t:TA):TE:=λσ H Q=>t σ H λvs H1=>∀x dx,H1 x=none->H1 dx=none->dx≠x->
 sp (.ref x::(vs++y0)) (upd (upd H1 dx (.own x)) x (.ins C dx [])) (λv H2=>v=.eZ/\Q (.ref x) H2) E
def Binds(K:Frag)(fd:FuncData)(ps:ac5)(ds:acY):Prop:=
 ∀(s:Shared) (us:acY),K.In s.heap->(us++ds).length=ps.length->BindsTo s fd ⟨us,[]⟩ (ps.zip (us++ds))
theorem Binds.all{K:Frag}{fd:FuncData}{ps:ac5}(h:∀us:List Value,us.length=ps.length->bindArgs fd ⟨us,[]⟩=pure (ps.zip us)):Binds K fd ps []:=λs us _ hl=>by
 rw[aI] at hl ⊢;exact .of_eq (h us hl)
def pA(CX:Q7)(X:Cx)(E:XK):Prop:=∀(pins:ada) (σ:St) (H:Hp) (s:Shared) (e:Value) (s':Shared),Inv X pins σ H s->CX X.stack H s E e s'->X.xe e s'
section
variable{X:Cx}{CX:Q7}{k:Nat}{f C:Addr}{fd:FuncData}{ps:ac5}{sp:Sp}{y0:List V}{ds:acY}{E:XK}{x m:Str}{p pos apos:Pos}{e o:Expr}{es:ac8}{ta:TE}{t:TA}
theorem BZ{pins:ada}{σ:St}{H:Hp}{s:Shared}{Q:VK}{us:acY}{vs:List V}(F:oe X.prog X.w X.K X.mg X.base CX k f fd ps sp)(hr:dR k X.A)(hb:Binds X.K fd ps ds)(hd:cu y0 ds)(hx:pA CX X E) (I:Inv X pins σ H s) (r:cu vs us) (h:sp (vs++y0) H Q E):wpAny (model X.prog X.w) X.A (call (.ref f) us) (EP X pins σ Q) X.xe s:=by
 have r2:cu (vs++y0) (us++ds):=r.append hd;have hl:(us++ds).length=ps.length:=by rw[<-r2.length];exact F.len _ _ _ _ h
 refine wpAny_call (uh (F.run X.A X.stack s H ⟨us,[]⟩ (us++ds) (vs++y0) Q E hr I.aaq (hb s us I.C0 hl) r2 h) λr s' hq=>?_);cases r with
 |error e=>exact hx pins σ H s e s' I hq
 |ok fl=>
  cases fl with
  |ret u=>exact I.after hq
  |next=>exact False.elim hq
  |brk=>exact False.elim hq
  |cont=>exact False.elim hq
theorem RV(F:oe X.prog X.w X.K X.mg X.base CX k f fd ps sp)(hr:dR k X.A)(hg:Gl X x)(hm:X.mg x=some (.ref f))(hk:keepIn X.K (.ref f)=true)(hb:Binds X.K fd ps ds)(hd:cu y0 ds)(hx:pA CX X E) (ha:PA X (e::es) t) (Bh:(x==("__debug__":Str))=false:=by decide) (he:starEach (e::es) X.env=(false,eval e X.env)::starEach es X.env:=by rfl) (iK:(backTo pos (starEach es X.env)).any (·.1)=false:=by rfl):
  PE X (.Call (.Name x p) (e::es) [] pos) (Ub sp y0 E t):=by
 intro pins s σ H Q I h;refine gy (wX I hg hm ?_ Bh);refine qF (h₀:=X.base) I.ok.mod.W5 hk (d9 (ha pos pins s σ H _ I h) λus s1 ⟨vs,H1,I1,r,q⟩=>⟨I1.C0,?_⟩) he iK;exact BZ F hr hb hd hx I1 r q
theorem RT{pl:Sem Bool}(he:PE X o ta)(c:Bv X.K C)(hm:QY X.K C m f)(F:oe X.prog X.w X.K X.mg X.base CX k f fd ps sp)(hr:dR k X.A)(hb:Binds X.K fd ps ds)(hd:cu y0 ds)(hx:pA CX X E)(ha:PA X (e::es) t) (vZ:starEach (e::es) X.env=(false,eval e X.env)::starEach es X.env:=by rfl) (iK:(backTo pos (starEach es X.env)).any (·.1)=false:=by rfl)
  (ht:eval (.Call (.Attribute o m apos) (e::es) [] pos) X.env=(do
   let ov <-eval o X.env
   standAt apos.atName
   let (f,first) <-holding [ov] (getMethod ov m pl)
   callWith pos f first (backTo pos (starEach (e::es) X.env)) (backToKw pos (keywordEach [] X.env))):=by rfl):
  PE X (.Call (.Attribute o m apos) (e::es) [] pos) (JD C m sp y0 E ta t):=by
 intro pins s σ H Q I h;refine PySem.W.methodCall_KW (pl:=pl) (d9 (he pins s σ H _ I h) λu s1 ⟨x,H1,I1,rx,a,dx,fs,ex,ea,l,q⟩=>?_) ht;subst ex;obtain rfl:u=Value.ref a:=rx;refine yO I1 ea c hm l ?_;refine qF (first:=[.ref a]) (h₀:=X.base) I.ok.mod.W5 hm.kp (d9 (ha pos pins s1 σ H1 _ I1 q) λus s2 ⟨vs,H2,I2,r,q2⟩=>⟨I2.C0,?_⟩) vZ iK;exact BZ (us:=.ref a::us) (vs:=.ref a::vs) F hr hb hd hx I2 (.cons rfl r) q2
theorem OA{pl:Sem Bool}(he:PE X o ta)(c:Bv X.K C)(hm:QY X.K C m f)(F:oe X.prog X.w X.K X.mg X.base CX k f fd ps sp)(hr:dR k X.A)(hb:Binds X.K fd ps ds)(hd:cu y0 ds)(hx:pA CX X E) (ht:eval (.Call (.Attribute o m apos) [] [] pos) X.env=(do let ov <-eval o X.env;standAt apos.atName;let (f,first) <-holding [ov] (getMethod ov m pl);callWith pos f first (backTo pos (starEach [] X.env)) (backToKw pos (keywordEach [] X.env))):=by rfl):
  PE X (.Call (.Attribute o m apos) [] [] pos) (JD C m sp y0 E ta NR):=by
 intro pins s σ H Q I h;refine PySem.W.methodCall_KW (pl:=pl) (d9 (he pins s σ H _ I h) λu s1 ⟨x,H1,I1,rx,a,dx,fs,ex,ea,l,q⟩=>?_) ht;subst ex;obtain rfl:u=Value.ref a:=rx;refine yO I1 ea c hm l ?_;exact PySem.W.callWith_K0 (first:=[.ref a]) I1.C0 hm.kp (BZ (us:=[.ref a]) (vs:=[.ref a]) F hr hb hd hx I1 (.cons rfl .nil) q)
structure Mk(K:Frag)(C f:Addr):Prop where
 makes:makesIn K C=true
 init:findIn K (.ref C) "__init__"=some (some (.ref f))
 fn:isFn K (.ref f)=true
 kp:keepIn K (.ref C)=true
theorem E4{pins:ada}{σ:St}{H:Hp}{s:Shared}{Q:VK}{us:acY}{vs:List V}(M:Mk X.K C f)(F:oe X.prog X.w X.K X.mg X.base CX k f fd ps sp)(hr:dR (k+1) X.A)(hb:Binds X.K fd ps ds)(hd:cu y0 ds) (hx:pA CX X E) (I:Inv X pins σ H s) (r:cu vs us) (h:∀x dx,H x=none->H dx=none->dx≠x->sp (.ref x::(vs++y0)) (upd (upd H dx (.own x)) x (.ins C dx [])) (λv H2=>v=.eZ/\Q (.ref x) H2) E): wpAny (model X.prog X.w) X.A (call (.ref C) us) (EP X pins σ Q) X.xe s:=by
 have hq:=h (s.heap.objs.size+1) s.heap.objs.size (I.cR.fresh (nV _)) (I.cR.fresh (aA _)) (bH (gW _));have I2:=Inv.made (C:=C) I;have r2:cu (V.ref (s.heap.objs.size+1)::(vs++y0)) (Value.ref (s.heap.objs.size+1)::(us++ds)):=.cons rfl (r.append hd);have hl:(Value.ref (s.heap.objs.size+1)::us++ds).length=ps.length:=by
  have e:=r2.length;rw[F.len _ _ _ _ hq] at e;exact e.symm
 refine wpAny_call (O7 (f:=f) I.C0 M.makes M.init (gC.mp M.fn) (uh (F.run _ X.stack _ _ ⟨Value.ref (s.heap.objs.size+1)::us,[]⟩ (Value.ref (s.heap.objs.size+1)::(us++ds)) _ _ E (hr.make C us []) (I2.aaq.make C us []) (hb _ (Value.ref (s.heap.objs.size+1)::us) I2.C0 hl) r2 hq) λr s' Ni=>?_));cases r with
 |error e=>exact hx pins σ _ _ e s' I2 Ni
 |ok fl=>
  cases fl with
  |ret u=>
   obtain⟨v,H',I3,rv,ev,q3⟩:=I2.after Ni;subst ev;exact⟨rv,⟨V.ref (s.heap.objs.size+1),H',I3,rfl,q3⟩⟩
  |next=>exact False.elim Ni
  |brk=>exact False.elim Ni
  |cont=>exact False.elim Ni
theorem RU(M:Mk X.K C f)(F:oe X.prog X.w X.K X.mg X.base CX k f fd ps sp)(hr:dR (k+1) X.A)(hg:Gl X x)(hm:X.mg x=some (.ref C))(hb:Binds X.K fd ps ds)(hd:cu y0 ds)(hx:pA CX X E) (ha:PA X (e::es) t) (Bh:(x==("__debug__":Str))=false:=by decide) (he:starEach (e::es) X.env=(false,eval e X.env)::starEach es X.env:=by rfl) (iK:(backTo pos (starEach es X.env)).any (·.1)=false:=by rfl):
  PE X (.Call (.Name x p) (e::es) [] pos) (JE C sp y0 E t):=by
 intro pins s σ H Q I h;refine gy (wX I hg hm ?_ Bh);refine qF (h₀:=X.base) I.ok.mod.W5 M.kp (d9 (ha pos pins s σ H _ I h) λus s1 ⟨vs,H1,I1,r,q⟩=>⟨I1.C0,?_⟩) he iK;exact E4 M F hr hb hd hx I1 r q
theorem OB(M:Mk X.K C f)(F:oe X.prog X.w X.K X.mg X.base CX k f fd ps sp)(hr:dR (k+1) X.A)(hg:Gl X x)(hm:X.mg x=some (.ref C))(hb:Binds X.K fd ps ds)(hd:cu y0 ds)(hx:pA CX X E) (Bh:(x==("__debug__":Str))=false:=by decide):PE X (.Call (.Name x p) [] [] pos) (JE C sp y0 E NR):=by
 intro pins s σ H Q I h;refine gy (wX I hg hm ?_ Bh);exact PySem.W.callWith_K0 I.C0 M.kp (E4 (us:=[]) M F hr hb hd hx I .nil h)
end
structure bz(N P:ac5)(sc:Scope):Prop where
 kind:sc.kind=.function
 co:sc.isCoroutine=false
 gen:sc.isGenerator=false
 nd:N.Nodup
 pre:N.take P.length=P
 par:∀x∈P,sc.names.lookup x=some .local\/sc.names.lookup x=some .cell
 Vz:∀y∈sc.names,y.2≠.free
theorem Bp{kindOf:Str->Option NameKind}{x:Str}:∀{binds:List (Str×Value)} {m:ac0},(∀v,(x,v)∉binds)->bindL kindOf binds m x=m x
 | [],_,_=>rfl
 |(n,v)::r,m,h=>by
  unfold bindL;rw[Bp λw hw=>h w (aP _ hw)];split
  ·grind
  ·rfl
theorem Br{kindOf:Str->Option NameKind}{x:Str}:∀{binds:List (Str×Value)} {m:ac0},(∀v,(x,v)∉binds)->bindC kindOf binds m x=m x
 | [],_,_=>rfl
 |(n,v)::r,m,h=>by
  unfold bindC;rw[Br λw hw=>h w (aP _ hw)];split
  ·rfl
  ·grind
theorem Bq{kindOf:Str->Option NameKind}{x:Str}{v:Value}:∀{P:ac5} {vs:acY} {i:Nat} {m:ac0},P.Nodup->P[i]?=some x->vs[i]?=some v->kindOf x=some .local-> bindL kindOf (P.zip vs) m x=some v
 | [],_,_,_,_,h,_,_=>by simp at h
 |_::_,[],_,_,_,_,h,_=>by simp at h
 |p::P,w::vs,0,m,nd,h1,h2,hk=>by
  simp at h1 h2;subst h1;subst h2;show bindL kindOf ((p,w)::P.zip vs) m p=_;unfold bindL;rw[Bp λv hv=>(cz.mp nd).1 (Rt hv).1,ah hk];simp
 |p::P,w::vs,i+1,m,nd,h1,h2,hk=>by
  show bindL kindOf ((p,w)::P.zip vs) m x=_;unfold bindL;exact Bq (i:=i) (cz.mp nd).2 (by simpa using h1) (by simpa using h2) hk
theorem Bs{kindOf:Str->Option NameKind}{x:Str}{v:Value}:∀{P:ac5} {vs:acY} {i:Nat} {m:ac0},P.Nodup->P[i]?=some x->vs[i]?=some v->kindOf x≠some .local-> bindC kindOf (P.zip vs) m x=some v
 | [],_,_,_,_,h,_,_=>by simp at h
 |_::_,[],_,_,_,_,h,_=>by simp at h
 |p::P,w::vs,0,m,nd,h1,h2,hk=>by
  simp at h1 h2;subst h1;subst h2;show bindC kindOf ((p,w)::P.zip vs) m p=_;unfold bindC;rw[Br λv hv=>(cz.mp nd).1 (Rt hv).1,ae hk];simp
 |p::P,w::vs,i+1,m,nd,h1,h2,hk=>by
  show bindC kindOf ((p,w)::P.zip vs) m x=_;unfold bindC;exact Bs (i:=i) (cz.mp nd).2 (by simpa using h1) (by simpa using h2) hk
def start(N:ac5)(vs:List V):St:=vs.map some++List.replicate (N.length - vs.length) none
def DS(CX:Q7)(P:Program)(w:World)(K:Frag)(mg:ac0)(base:Heap)(N:ac5)(qual:Str)(scope:Scope)(f:Addr)(cd:Value)(A:Around)(outer:List Env)(s:Shared)(H:Hp)(E:XK):Cx where
 prog:=P
 w:=w
 K:=K
 mg:=mg
 base:=base
 A:=A.deeper (envOfC qual scope s.heap.objs.size f cd)
 N:=N
 AN:=s
 H_0:=H
 env:=envOfC qual scope s.heap.objs.size f cd
 outer:=outer
 stack:=envOfC qual scope s.heap.objs.size f cd::outer
 ex:=[]
 calm:=true
 fn:=λ_=>true
 pn:=[]
 xe:=λe s'=>wpAny (model P w) (A.deeper (envOfC qual scope s.heap.objs.size f cd)) (leaving (envOfC qual scope s.heap.objs.size f cd) e) (λ_ s''=>CX outer H s E e s'') (λe' s''=>CX outer H s E e' s'') s'
theorem G9{sc:Scope}{n:Nat}{x:Str}(h:sc.names.lookup x=some .cell):∃c,(cellsFrom n sc.names []).lookup x=some c:=by
 have q:=aaL sc.names n [] (.inl h);exact XB.mp q
theorem Mp{CX:Q7}{P:Program}{w:World}{K:Frag}{mg:ac0}{base:Heap}{N ps:ac5}{qual:Str}{scope:Scope}{f:Addr}{cd:Value}{A:Around}{outer:List Env}{s s1:Shared}{H:Hp}{E:XK}{us:acY}{vs:List V} (S:bz N ps scope) (hd:A.handled=none) (e0:Jy P w K mg base A outer s H) (hl:vs.length=ps.length) (r:cu vs us) (x:InCallC s s.heap.objs.size (bindL (envOfC qual scope s.heap.objs.size f cd).kindOf (ps.zip us) λ_=>none) (cellsFrom (s.heap.objs.size+1) scope.names []) (bindC (envOfC qual scope s.heap.objs.size f cd).kindOf (ps.zip us) λ_=>none) s1): Inv (DS CX P w K mg base N qual scope f cd A outer s H E) [] (start N vs) H s1:=by
 have iK:ps.length<=N.length:=by have:=bb List.length S.pre;rw[bh] at this;omega
 obtain⟨h1,tk,rfl,hk⟩:=x.done;have W0:∀b:Addr,b∉(DS CX P w K mg base N qual scope f cd A outer s H E).ex:=λb z=>absurd (show b∈([]:ac1) from z) (by simp)
 refine⟨⟨e0.mod,S.kind,rfl,rfl,aA _,λy z c h1 h2=>?_,λy hy=>?_,λy c _ h=>?_,λ_=>hd,Around.frames_deeper e0.frames,.inr ⟨rfl,rfl⟩,λb z=>absurd z (W0 b),e0.bs,e0.TK,λb _ _=>W0 b,λb z=>absurd z (W0 b),e0.wt,e0.Ws⟩,
  rfl,e0.bare,Un.kept hk,⟨_,x.toInCall.ns,λi y v h1 h2 h3=>?_⟩,λy c h=>⟨_,x.cell y c h⟩,e0.cR.fresh (aA _),λy c h=>?_,λp hp=>absurd (show p∈([]:ada) from hp) (by simp),e0.cR.kept hk,?_⟩
 ·exact name_of_addr x.apart (bT h1) (bT h2)
 ·have hy:scope.names.lookup y=some .cell\/scope.names.lookup y=some .free:=hy;rcases hy with hy|hy
  ·exact G9 hy
  ·exact absurd rfl (S.Vz _ (bT hy))
 ·exact xq (x.above y c (bT h))
 ·have hi:i<vs.length:=by
   unfold start at h2
   grind
  have ha:vs[i]?=some v:=by
   unfold start at h2;rw[j1 (by simpa using hi),aM] at h2;cases e:vs[i]? with
   |none=>rw[e] at h2;cases h2
   |some a=>rw[e] at h2;cases h2;rfl
  obtain⟨u,hu,rv⟩:=r.get ha;have hp:ps[i]?=some y:=by
   rw[<-S.pre,kz (by omega)];exact h1
  have ndP:ps.Nodup:=by rw[<-S.pre];exact S.nd.sublist (List.take_sublist _ _)
  refine⟨u,rv,?_⟩;rcases S.par y (aL hp) with k|k
  ·exact .inl ⟨k,Bq ndP hp hu k⟩
  ·obtain⟨c,e⟩:=G9 (n:=s.heap.objs.size+1) k;refine .inr ⟨.inl k,c,e,?_⟩;have q:=x.cell y c e;rw[Bs ndP hp hu (by show scope.names.lookup y≠_;rw[k];decide)] at q;exact q
 ·exact e0.cR.fresh (xq (x.above y c (bT h)))
 ·unfold start;show _=N.length;rw[aw,af,List.length_replicate];omega
theorem aao{CX:Q7}{P:Program}{w:World}{K:Frag}{mg:ac0}{base:Heap}{k:Nat}{f:Addr}{name qual:Str}{params:Arguments}{body:List Stmt}{scope:Scope}{dV kV doc pm dG ct oc:Value}{an od:ac4} {Cj:ac9} {N ps:ac5} {sp:Sp} (lk:K.lookup f=some ⟨oc,od,.func (fnOf name qual params body scope dV kV doc pm an dG ct),Cj⟩) (Ta:codeIn K dG qual=true) (S:bz N ps scope) (len:∀vs H Q E,sp vs H Q E->vs.length=ps.length) (tH:∀(A:Around) (outer:List Env) (s:Shared) (H:Hp) (vs:List V) (Q:VK) (E:XK),dR k (A.deeper (envOfC qual scope s.heap.objs.size f dG))->sp vs H Q E-> ∃t,Hw (DS CX P w K mg base N qual scope f dG A outer s H E) body t/\t {nx:=λ_ H'=>Q .eZ H',rt:=Q} (start N vs) H): oe P w K mg base CX (k+1) f (fnOf name qual params body scope dV kV doc pm an dG ct) ps sp:=by
 refine⟨len,λA outer s H args us vs Q E hr e0 hb r PF=>?_⟩;have hl:=len _ _ _ _ PF;have KX:K.In s.heap:=e0.mod.W5.keeps λb o e=>(e0.bs b o e).1
 have lim:s.heap.NoLimit:=e0.mod.nolimit.keeps λb o e=>(e0.bs b o e).1
 have ZF:∀y∈ps.zip us,scope.names.lookup y.1=some .local\/(scope.names.lookup y.1=some .cell/\((cellsFrom (s.heap.objs.size+1) scope.names []).lookup y.1).isSome=true):=λ⟨n,v⟩ hy=>by
  rcases S.par n (Rt hy).1 with q|q
  ·exact .inl q
  ·exact .inr ⟨q,aaL _ _ _ (.inl q)⟩
 refine codeAny_call_function hr.depth (KX _ _ lk) rfl S.co S.gen rfl (PySem.W.codeRec_of KX Ta) (hb _ _ _ _ ?_);refine wpAny_newFunctionEnv_cells S.kind ZF λenv he s1 x=>?_
 subst he;refine⟨lim.keeps x.toInCall.keep,codeAny_func ?_⟩;obtain⟨t,ht,hq⟩:=tH A outer s H vs Q E (hr.deeper _) PF;have I:Inv (DS CX P w K mg base N qual scope f dG A outer s H E) [] (start N vs) H s1:=Mp S hr.hd e0 hl r x;refine dk (ht [] s1 (start N vs) H _ I hq) (λfl s' hs=>?_) λe s' hs=>hs
 have fin:∀{eU:St} {H':Hp} {v:V} {u:Value},Inv (DS CX P w K mg base N qual scope f dG A outer s H E) [] eU H' s'->RelV v u->Q v H'->CE outer P w H s Q u s':=
  λ{eU H' v u} J rv q=>⟨v,H',J.os,J.bare,J.base,J.cR,rv,q⟩
 cases fl with
 |ret u=>
  obtain⟨v,eU,H',J,rv,q⟩:=hs;exact fin J rv q
 |next=>
  obtain⟨eU,H',J,q⟩:=hs;exact fin (v:=V.eZ) (u:=Value.none) J rfl q
 |brk=>
  obtain⟨_,_,_,q⟩:=hs;exact False.elim q
 |cont=>
  obtain⟨_,_,_,q⟩:=hs;exact False.elim q
end L2
namespace L2
open PySem PySem.Spec PyProof.Rows
section
variable{X:Cx}{x:Str}{p pos:Pos}{e:Expr}{es:ac8}{t:TA}{id T:String}{r:List V->Hp->VK->Prop}
def tCB(r:List V->Hp->VK->Prop)(t:TA):TE:=λσ H Q=>t σ H λvs H1=>r vs H1 Q
theorem bV(hc:pC X (.builtin id) r)(hg:Gl X x)(hm:X.mg x=none)(hv:bootBuiltins x=some (.builtin id))(ha:PA X (e::es) t)(hn:x≠"__name__":=by decide)(Bh:(x==("__debug__":Str))=false:=by decide)
  (he:starEach (e::es) X.env=(false,eval e X.env)::starEach es X.env:=by rfl) (iK:(backTo pos (starEach es X.env)).any (·.1)=false:=by rfl):PE X (.Call (.Name x p) (e::es) [] pos) (tCB r t):=by
 intro pins s σ H Q I h;refine gy (oX I hg hm hv ?_ hn Bh);exact PyProof.Rows.callWith_builtin1 (d9 (ha pos pins s σ H _ I h) λus s1 ⟨vs,H1,I1,r1,q1⟩=>hc pins s1 σ H1 vs us Q I1 r1 q1) he iK
theorem kR(hc:pC X (.type T) r)(hg:Gl X x)(hm:X.mg x=none)(hv:bootBuiltins x=some (.type T))(ha:PA X (e::es) t)(hn:x≠"__name__":=by decide)(Bh:(x==("__debug__":Str))=false:=by decide)
  (he:starEach (e::es) X.env=(false,eval e X.env)::starEach es X.env:=by rfl) (iK:(backTo pos (starEach es X.env)).any (·.1)=false:=by rfl):PE X (.Call (.Name x p) (e::es) [] pos) (tCB r t):=by
 intro pins s σ H Q I h;refine gy (oX I hg hm hv ?_ hn Bh);exact dS (d9 (ha pos pins s σ H _ I h) λus s1 ⟨vs,H1,I1,r1,q1⟩=>hc pins s1 σ H1 vs us Q I1 r1 q1) he iK
end
end L2
namespace HT
open PySem PyProof.Rows
theorem yX(A:Around)(s:Shared)(a:Int)(t:Tok)(c:Int)(u:Tok):∃e,SeqAt.EqAt A s (.int a t) (.int c u) e/\(e=true↔a=c):=
 ⟨(a==c),SeqAt.EqAt.int_int a t c u,by simp⟩
section
variable{prog:Program}{w:World}{A:Around}{E:acX}{s:Shared}
def ko(n d:Nat):Option Int->Nat
 |none=>d
 |some v=>if v<0 then(v+(n:Int)).toNat else min v.toNat n
theorem E3(n d:Nat):ko n d none=d:=rfl
theorem wN(n d k:Nat):ko n d (some (k:Int))=min k n:=by
 show(if (k:Int)<0 then((k:Int)+(n:Int)).toNat else min (k:Int).toNat n)=min k n;rw[ae (by omega),fm]
theorem Vf(n d:Nat)(hd:d<=n)(o:Option Int):ko n d o<=n:=by
 cases o with
 |none=>exact hd
 |some v=>
  show(if v<0 then(v+(n:Int)).toNat else min v.toNat n)<=n
  grind
theorem K1(v:Int)(n d:Nat):(if v<0 then max (v+(n:Int)) 0 else min v (n:Int))=((ko n d (some v):Nat):Int):=by
 show(if v<0 then max (v+(n:Int)) 0 else min v (n:Int))=(((if v<0 then(v+(n:Int)).toNat else min v.toNat n):Nat):Int)
 grind
theorem Ju(lo hi:Option Int)(n:Nat):Builtin.Slice.sliceAdjust lo hi 1 (n:Int)=(((ko n 0 lo:Nat):Int),((ko n n hi:Nat):Int)):=by
 have h1:¬((1:Int)<0):=by omega
 unfold Builtin.Slice.sliceAdjust;simp only[h1,if_false];refine Prod.ext ?_ ?_
 ·cases lo with
  |none=>rfl
  |some v=>exact K1 v n 0
 ·cases hi with
  |none=>rfl
  |some v=>exact K1 v n n
theorem Ig(i j:Nat):Builtin.Slice.slicePlaces (i:Int) (j:Int) 1=j - i:=by
 unfold Builtin.Slice.slicePlaces
 grind
theorem xH{v:Value}{o:Option Int}{Q:Option Int->Shared->Prop}(p:IsPart v o)(h:Q o s):wpAny (model prog w) A (Builtin.Slice.slicePartIndex v) Q E s:=by
 cases p with
 |none=>exact slicePart_none h
 |int i t=>exact slicePart_int h
theorem uw{sl:Addr}{vl vu:Value}{lo hi:Option Int}{n:Nat}{Q:Int×Int×Nat->Shared->Prop}(hs:s.heap.IsSliceOf sl vl vu .none)(pl:IsPart vl lo)(pu:IsPart vu hi) (h:Q (((ko n 0 lo:Nat):Int),1,ko n n hi - ko n 0 lo) s):wpAny (model prog w) A (Builtin.Slice.sliceApplied (.ref sl) (pure (n:Int))) Q E s:=by
 obtain⟨os,Zt,hcs,IU⟩:=id hs;unfold Builtin.Slice.sliceApplied Builtin.Slice.sliceFields;refine aa (aa (wpAny_field Zt IU (x:=vl) rfl (aa (wpAny_field Zt IU (x:=vu) rfl (aa (wpAny_field Zt IU (x:=.none) rfl (ay ?_)))))));refine aa (slicePart_none ?_);show wpAny _ _ (if ((1:Int)==0)=true then _ else _) _ _ s;rw[ae (by decide)];refine aa (xH pl (aa (xH pu (aa (ay ?_)))));show wpAny _ _ (match Builtin.Slice.sliceAdjust lo hi 1 (n:Int) with |(lo,hi)=>pure (lo,(1:Int),Builtin.Slice.slicePlaces lo hi 1)) _ _ s;rw[Ju lo hi n];show wpAny _ _ (pure (((ko n 0 lo:Nat):Int),(1:Int),Builtin.Slice.slicePlaces ((ko n 0 lo:Nat):Int) ((ko n n hi:Nat):Int) 1)) _ _ s;rw[Ig];exact ay h
theorem Oy(xs:ac6)(i k:Nat):((List.range k).filterMap λ(m:Nat)=>xs[((i:Int)+(m:Int)*1).toNat]?).toArray=((xs.toList.drop i).take k).toArray:=by
 have e:(λ(m:Nat)=>xs[((i:Int)+(m:Int)*1).toNat]?)=λm=>xs[i+m]?:=by
  grind
 rw[e];have:=pick_run xs i k;rw[List.filterMap_map] at this;have e2:((λx=>xs[x]?)∘λx=>i+x)=λm=>xs[i+m]?:=rfl
 rw[e2] at this;rw[this]
theorem tJ{t sl:Addr}{items:ac6}{vl vu:Value}{lo hi:Option Int}{Q:acX}(ht:IsTup s.heap t items)(hs:s.heap.IsSliceOf sl vl vu .none)(pl:IsPart vl lo)(pu:IsPart vu hi) (hw:¬(ko items.size 0 lo=0/\ko items.size items.size hi=items.size)) (h:Q (.ref s.heap.objs.size) {s with heap:=s.heap.push {cls:=.type "tuple",data:=.seq ((items.toList.drop (ko items.size 0 lo)).take (ko items.size items.size hi - ko items.size 0 lo)).toArray}}) (hsz:items.size<=sizeLine):wpAny (model prog w) A (getItem (.ref t) (.ref sl)) Q E s:=by
 have Kt:sizeOk (.seq ((items.toList.drop (ko items.size 0 lo)).take (ko items.size items.size hi - ko items.size 0 lo)).toArray):=by
  show((items.toList.drop (ko items.size 0 lo)).take (ko items.size items.size hi - ko items.size 0 lo)).toArray.size<=sizeLine
  grind
 have hj:ko items.size items.size hi<=items.size:=Vf _ _ (aA _) hi;obtain⟨os,Zt,hcs,IU⟩:=id hs;have hTs:s.TypeIs (.ref sl) "slice":=⟨os,Zt,hcs⟩;unfold getItem
 try with_reducible refine dM ?_
 first |refine aa (ay ?_)|skip
 refine aa (wpAny_sequenceKey ht.typeIs (by decide) ?_);refine aa (iH (name:=Str.ofString "__getitem__") ht.typeIs mE (cU mE ht.typeIs entry_tuple_getitem ?_ (args_tuple_getitem _ _)));show wpAny _ _ (Builtin.Tuple.tupleItemsOf (.ref t) >>=_) _ _ s;refine aa (tupleItemsOf_ ht ?_);refine aa (ug hTs ?_);rw[ah (by decide)];refine aa (uw hs pl pu ?_);have rS:¬((((ko items.size 0 lo:Nat):Int)==0&&(1:Int)==1&&(ko items.size items.size hi - ko items.size 0 lo)==items.size)=true):=by
  grind
 show wpAny _ _ (if (((ko items.size 0 lo:Nat):Int)==0&&(1:Int)==1&&(ko items.size items.size hi - ko items.size 0 lo)==items.size)=true then _ else _) _ _ s;rw[ae rS,Oy]
 first
  |exact aa (m:=Builtin.Tuple.tupleExact _) (c8 (ay ⟨_,rfl,ay h⟩) Kt)
  |exact aa (m:=Builtin.Tuple.tupleExact _) (c8 (aa (ay (ay ⟨_,rfl,ay h⟩))) Kt)
  |exact aa (aa (m:=Builtin.Tuple.tupleExact _) (c8 (ay (ay ⟨_,rfl,ay h⟩)) Kt))
  |exact aa (aa (m:=Builtin.Tuple.tupleExact _) (c8 (ay ⟨_,rfl,ay h⟩) Kt))
end
end HT
namespace L2
open PySem PySem.Spec PyProof.Rows
abbrev TO:=St->Hp->(Option Int->Hp->Prop)->Prop
def PO(X:Cx)(e:Option Expr)(t:TO):Prop:=
 ∀(pins:ada) (s:Shared) (σ:St) (H:Hp) (Q:Option Int->Hp->Prop),Inv X pins σ H s->t σ H Q->
  wpAny (model X.prog X.w) X.A (evalPart e X.env) (λu s'=>∃o H',Inv X pins σ H' s'/\IsPart u o/\Q o H') X.xe s
def RB:TO:=λ_ H Q=>Q none H
def XJ(t:TE):TO:=λσ H Q=>t σ H λx H1=>∃i,x=.int i/\Q (some i) H1
theorem intsAre_of{ns:acZ}:∀{us:acY},cu (ns.map V.int) us->IntsAre us ns:=by
 induction ns with
 |nil=>intro us r;rw[il] at r;cases r;exact .nil
 |cons n ns ih=>
  intro us r;rw[aK] at r;cases r with
  |cons r1 r2=>
   obtain⟨t,e⟩:=r1;subst e;exact .cons n t (ih r2)
section
variable{X:Cx}{e:Expr}{te:TE}{lo hi:Option Expr}{tl th:TO}{pos p2:Pos}
theorem Cc:PO X none RB:=by
 intro pins s σ H Q I h;rw[evalPart_none];exact ay ⟨none,H,I,.none,h⟩
theorem sx(h:PE X e te):PO X (some e) (XJ te):=by
 intro pins s σ H Q I hw;rw[evalPart_some];refine d9 (h pins s σ H _ I hw) λu s1 ⟨x,H1,I1,r1,q1⟩=>?_
 obtain⟨i,rfl,q⟩:=q1;obtain⟨t,rfl⟩:=r1;exact⟨some i,H1,I1,.int i t,q⟩
def SlR(X:Cx)(r:V->Option Int->Option Int->Hp->VK->Prop):Prop:=
 ∀(pins:ada) (s:Shared) (σ:St) (H:Hp) (x:V) (v vl vu:Value) (lo hi:Option Int) (sl:Addr) (Q:VK),Inv X pins σ H s->RelV x v->s.heap.IsSliceOf sl vl vu .none->IsPart vl lo->IsPart vu hi->r x lo hi H Q->
  ∃T id,typeLookup (.type T) "__getitem__"=pure (some (.builtin id))/\s.TypeIs v T/\wpAny (model X.prog X.w) X.A (getItem v (.ref sl)) (EP X pins σ Q) X.xe s
def tSl(r:V->Option Int->Option Int->Hp->VK->Prop)(te:TE)(tl th:TO):TE:=λσ H Q=>te σ H λx H1=>tl σ H1 λl H2=>th σ H2 λu H3=>r x l u H3 Q
theorem sC{r:V->Option Int->Option Int->Hp->VK->Prop}(hr:SlR X r)(he:PE X e te)(hl:PO X lo tl)(hu:PO X hi th):PE X (.Subscript e (.Slice lo hi none p2) pos) (tSl r te tl th):=by
 intro pins s σ H Q I h;refine Subscript_ (d9 (he pins s σ H _ I h) λv s1 ⟨x,H1,I1,r1,q1⟩=>?_);refine wpAny_Slice (d9 (hl pins s1 σ H1 _ I1 q1) λvl s2 ⟨l,H2,I2,pl,q2⟩=>d9 (hu pins s2 σ H2 _ I2 q2) λvu s3 ⟨u,H3,I3,pu,q3⟩=>?_);rw[evalPart_none];refine ay ?_;have I4:Inv X pins σ H3 {s3 with heap:=s3.heap.push {cls:=.type "slice",data:=.fields #[vl,vu,.none]}}:=I3.kept (t':=s3.toks) λb ob q=>ax _ q
 obtain⟨T,id,hT,ht,hg⟩:=hr pins {s3 with heap:=s3.heap.push {cls:=.type "slice",data:=.fields #[vl,vu,.none]}} σ H3 x v vl vu l u s3.heap.objs.size Q I4 r1 (Heap.IsSliceOf.new ..) pl pu q3;show wpAny (model X.prog X.w) X.A (subscriptTail e (.Slice lo hi none p2) v (.ref s3.heap.objs.size)) (EP X pins σ Q) X.xe {s3 with heap:=s3.heap.push {cls:=.type "slice",data:=.fields #[vl,vu,.none]}};exact tail_any (ops:=[.ref s3.heap.objs.size,v]) ht hT hg (by with_unfolding_all rfl)
def wF(xs:List V)(lo hi:Option Int):List V:=(xs.drop (HT.ko xs.length 0 lo)).take (HT.ko xs.length xs.length hi - HT.ko xs.length 0 lo)
theorem vF(xs:List V)(lo hi:Option Int):(wF xs lo hi).length<=xs.length:=by
 unfold wF;rw[bh,cA];omega
def aa7(K:Frag):V->Option Int->Option Int->Hp->VK->Prop:=λx lo hi H Q=>∃a xs,x=.ref a/\dJ K H a xs/\
 ¬(HT.ko xs.length 0 lo=0/\HT.ko xs.length xs.length hi=xs.length)/\∀p,H p=none->Q (.ref p) (upd H p (.tup (wF xs lo hi)))
theorem Va:SlR X (aa7 X.K):=by
 intro pins s σ H x v vl vu lo hi sl Q I rx hs pl pu h;obtain⟨a,xs,rfl,hx,hw,q⟩:=h;cases rx;obtain⟨b6,r,ht,hz⟩:=I.tuple hx;have hlen:b6.toArray.size=xs.length:=by rw[bj];exact r.length.symm
 refine⟨"tuple",_,mE.lookup,ht.typeIs,?_⟩;refine HT.tJ ht hs pl pu (by rw[hlen];exact hw) ?_ (by rw[hlen];exact hz);rw[hlen];refine⟨.ref s.heap.objs.size,_,I.laid (t':=s.toks) (o:=.tup (wF xs lo hi)) (λb ob q=>ax _ q) (aA _) ?_,rfl,q _ (I.cR.fresh (aA _))⟩;exact⟨bK (vF xs lo hi) hz,_,(r.drop (HT.ko xs.length 0 lo)).take (HT.ko xs.length xs.length hi - HT.ko xs.length 0 lo),IsTup.new _ _⟩
end
end L2
namespace L2
open PySem PySem.Spec PyProof.Rows
def Q9(n:Nat)(i:Int):Option Nat:=if 0<=i then(if i<n then some i.toNat else none) else if -(n:Int)<=i then some (i+n).toNat else none
def Em{α:Type}(xs:List α)(i:Int):Option α:=(Q9 xs.length i).bind λj=>xs[j]?
theorem Ko{n:Nat}{i:Int}{j:Nat}(h:Q9 n i=some j):seqIndex? i n=some j/\j<n/\ -(n:Int)<=i/\i<n:=by
 unfold Q9 at h;by_cases h0:0<=i
 ·rw[ah h0] at h;by_cases h1:i<n
  ·rw[ah h1] at h;have e:i.toNat=j:=aX h;exact⟨by rw[seqIndex_of h0 h1,e],by omega,by omega,h1⟩
  ·rw[ae h1] at h;cases h
 ·rw[ae h0] at h;by_cases h1: -(n:Int)<=i
  ·rw[ah h1] at h;have e:(i+n).toNat=j:=aX h;exact⟨by rw[seqIndex_neg (by omega) h1,e],by omega,h1,by omega⟩
  ·rw[ae h1] at h;cases h
theorem K6{α:Type}{xs:List α}{i:Int}{v:α}(h:Em xs i=some v):∃j,seqIndex? i xs.length=some j/\xs[j]?=some v/\j<xs.length/\ -(xs.length:Int)<=i/\i<xs.length:=by
 unfold Em at h;cases e:Q9 xs.length i with
 |none=>rw[e] at h;cases h
 |some j=>
  rw[e] at h;obtain⟨h1,h2,h3,h4⟩:=Ko e;exact⟨j,h1,h,h2,h3,h4⟩
theorem TU{α:Type}{xs:List α}{j:Nat}{v:α}(h:xs[j]?=some v):Em xs (j:Int)=some v:=by
 have hj:j<xs.length:=(aG.mp h).1;have e:Q9 xs.length (j:Int)=some j:=by
  unfold Q9;rw[ah (by omega),ah (by omega)];simp
 unfold Em;rw[e];exact h
theorem t7{α:Type}(xs:List α)(v:α):Em (xs++ [v]) (-1)=some v:=by
 have hl:(xs++ [v]).length=xs.length+1:=by simp
 have e:Q9 (xs++ [v]).length (-1)=some xs.length:=by
  unfold Q9;rw[hl,ae (by decide),ah (by omega)]
  congr 1
  omega
 unfold Em;rw[e];show(xs++ [v])[xs.length]?=some v;simp
def TY(b:Expr):Prop:=∀o i,subscripted b false o i=operate [o,i] (getItem o i)
def IxR(X:Cx)(r:R2):Prop:=
 ∀(value slice:Expr) (pins:ada) (s:Shared) (σ:St) (H:Hp) (x y:V) (v u:Value) (Q:VK),Inv X pins σ H s->RelV x v->RelV y u->r x y H Q->
  subscripted slice false v u=operate [v,u] (getItem v u)->wpAny (model X.prog X.w) X.A (subscriptTail value slice v u) (EP X pins σ Q) X.xe s
def MtR(X:Cx)(id:String)(r:V->List V->Hp->VK->Prop):Prop:=
 ∀(pins:ada) (s:Shared) (σ:St) (H:Hp) (x:V) (xs:List V) (v:Value) (us:acY) (Q:VK),Inv X pins σ H s->RelV x v->cu xs us->r x xs H Q->
  wpAny (model X.prog X.w) X.A (call (.builtin id) (v::us)) (EP X pins σ Q) X.xe s
section
variable{X:Cx}{a b:Expr}{ta tb:TE}{pos:Pos}
theorem fu{r:R2}(hr:IxR X r)(ha:PE X a ta)(hb:PE X b tb)(hs:TY b):PE X (.Subscript a b pos) (tOp r ta tb):=by
 intro pins s σ H Q I h;exact Subscript_ (WK ha hb I h λv u s2 x y H2 I2 rx ry q=>hr a b pins s2 σ H2 x y v u Q I2 rx ry q (hs _ _))
def Yk(K:Frag):R2:=λx y H Q=>∃p xs i v,x=.ref p/\y=.int i/\cg K H p xs/\Em xs i=some v/\Q v H
def abd(K:Frag):R2:=λx y H Q=>∃p xs i v,x=.ref p/\y=.int i/\dJ K H p xs/\Em xs i=some v/\Q v H
theorem d5:IxR X (Yk X.K):=by
 intro value slice pins s σ H x y v u Q I rx ry h hs;obtain⟨p,xs,i,z,rfl,rfl,hq,he,q⟩:=h;cases rx;obtain⟨t,rfl⟩:=ry;obtain⟨b6,r,pl,hz⟩:=I.list hq;obtain⟨j,h1,h2,h3,h4,h5⟩:=K6 he;obtain⟨w,ew,HW⟩:=r.get h2;have hl:=r.length;have hn:=CQ;have fin:EP X pins σ Q w s:=⟨z,H,I,HW,q⟩;by_cases h0:0<=i
 ·have hj:i.toNat=j:=by
   rw[seqIndex_of h0 h5] at h1;exact aX h1
  exact item_listR pl.isList h0 (by omega) (by rw[hj];simpa using ew) fin hs
 ·have hj:(i+(b6.toArray.size:Int)).toNat=j:=by
   rw[seqIndex_neg (by omega) h4] at h1;rw[bj,<-hl];exact aX h1
  exact subscriptTail_builtinR (x:=w) pl.isList.typeIs slot_list_getitem.lookup
   (wpAny_getItem_list_neg (Q:=λr s'=>r=w/\EP X pins σ Q r s') pl.isList (by omega) (by rw[bj] <;> omega) (by omega) (by rw[hj];simpa using ew) ⟨rfl,fin⟩) hs
theorem uY:IxR X (abd X.K):=by
 intro value slice pins s σ H x y v u Q I rx ry h hs;obtain⟨p,xs,i,z,rfl,rfl,hq,he,q⟩:=h;cases rx;obtain⟨t,rfl⟩:=ry;obtain⟨b6,r,pl,hz⟩:=I.tuple hq;obtain⟨j,h1,h2,h3,h4,h5⟩:=K6 he;obtain⟨w,ew,HW⟩:=r.get h2;have hl:=r.length;have hn:=CQ;have fin:EP X pins σ Q w s:=⟨z,H,I,HW,q⟩;exact subscriptTail_builtinR (x:=w) pl.typeIs slot_tuple_getitem.lookup
  (getItem_tuple (j:=j) (Q:=λr s'=>r=w/\EP X pins σ Q r s') pl (by omega) (by omega) (by rw[bj,<-hl];exact h1) (by simpa using ew) ⟨rfl,fin⟩) hs
theorem IA(b6:acY)(n j:Nat)(u:Value):Obj.mapSeq (·.setIfInBounds j u) {cls:=.type "list",data:=.seq b6.toArray n}={cls:=.type "list",data:=.seq (b6.set j u).toArray n}:=by
 simp[Obj.mapSeq]
theorem Inv.lst{pins:ada}{σ:St}{H:Hp}{s:Shared}{p:Addr}{xs:List V}(I:Inv X pins σ H s)(h:H p=some (.lst xs)): ∃(b6:acY) (n:Nat),cu xs b6/\s.heap.get? p=some {cls:=.type "list",data:=.seq b6.toArray n}/\xs.length<=sizeLine:=by
 obtain⟨z,b6,n,r,e⟩:=I.cR p _ h;exact⟨b6,n,r,e,z⟩
theorem Inv.VE{pins:ada}{σ:St}{H:Hp}{s:Shared}{p:Addr}{xs ys:List V}{b6 its':acY}{n n':Nat}{f:Obj->Obj}(I:Inv X pins σ H s)(h:H p=some (.lst xs)) (ho:s.heap.get? p=some {cls:=.type "list",data:=.seq b6.toArray n}) (hf:f {cls:=.type "list",data:=.seq b6.toArray n}={cls:=.type "list",data:=.seq its'.toArray n'}) (r:cu ys its') (hz:ys.length<=sizeLine) (t:Nat): Inv X pins σ (upd H p (.lst ys)) {s with heap:=s.heap.update p f,toks:=t}:=by
 have e:(s.heap.update p f).get? p=some {cls:=.type "list",data:=.seq its'.toArray n'}:=by
  rw[cw f ho (by rw[hf] <;> rfl),hf]
 refine I.write (x:=p) (e:=p) (by rw[h];trivial) (.inl rfl) (λb u hb q=>(dA _ _ (cv hb)).trans q) ⟨_,e⟩ ?_;exact⟨hz,its',n',r,e⟩
def Yi:V->V->V->Hp->(Hp->Prop)->Prop:=λo i v H Q=>∃p xs k j,o=.ref p/\i=.int k/\H p=some (.lst xs)/\Q9 xs.length k=some j/\Q (upd H p (.lst (xs.set j v)))
theorem set_list:aaC X Yi:=by
 intro pins s σ H o i v ov iv u Q I ro ri rv h;obtain⟨p,xs,k,j,rfl,rfl,hp,hj,q⟩:=h;cases ro;obtain⟨t,rfl⟩:=ri;obtain⟨b6,n,r,ho,hz⟩:=I.lst hp;obtain⟨h1,h2,h3,h4⟩:=Ko hj;have hl:=r.length;have hn:=CQ;have I':Inv X pins σ (upd H p (.lst (xs.set j v))) {s with heap:=s.heap.update p (Obj.mapSeq (·.setIfInBounds j u))}:=
  I.VE hp ho (IA b6 n j u) (r.set rv j) (by rw[Rv];exact hz) s.toks
 by_cases h0:0<=k
 ·have hk:k.toNat=j:=by
   rw[seqIndex_of h0 h4] at h1;exact aX h1
  exact PySem.W.ki_setAt ho h0 (by omega) (by rw[bj,<-hl];exact h4) (by rw[hk];exact⟨_,I',q⟩)
 ·have hk:(k+(b6.toArray.size:Int)).toNat=j:=by
   rw[seqIndex_neg (by omega) h3] at h1;rw[bj,<-hl];exact aX h1
  exact PySem.W.ki_setBack ho (by omega) (by rw[bj,<-hl];exact h3) (by omega) (by rw[hk];exact⟨_,I',q⟩)
theorem BN(lo hi:Option Int)(n:Nat):(sliceBounds lo hi none n).1=((HT.ko n 0 lo:Nat):Int)/\(sliceBounds lo hi none n).2.1=((HT.ko n n hi:Nat):Int)/\(sliceBounds lo hi none n).2.2=1:=by
 refine⟨?_,?_,rfl⟩
 ·cases lo with
  |none=>simp[sliceBounds,HT.ko]
  |some i=>
   simp only[sliceBounds,HT.ko,eR,show(1:Int)> 0 by decide,T6]
   grind
 ·cases hi with
  |none=>simp[sliceBounds,HT.ko]
  |some i=>
   simp only[sliceBounds,HT.ko,eR,show(1:Int)> 0 by decide,T6]
   grind
theorem zE(b6:acY)(lo hi:Option Int):slicePick b6.toArray lo hi none=((b6.drop (HT.ko b6.length 0 lo)).take (HT.ko b6.length b6.length hi - HT.ko b6.length 0 lo)).toArray:=by
 obtain⟨h1,h2,h3⟩:=BN lo hi b6.toArray.size;unfold slicePick;rw[h1,h2,h3];simp only[sliceRange_one,pick_run,bj] <;> rfl
def aa8(K:Frag):V->Option Int->Option Int->Hp->VK->Prop:=λx lo hi H Q=>∃a xs,x=.ref a/\cg K H a xs/\∀p,H p=none->Q (.ref p) (upd H p (.lst (wF xs lo hi)))
theorem BO:SlR X (aa8 X.K):=by
 intro pins s σ H x v vl vu lo hi sl Q I rx hs pl pu h;obtain⟨a,xs,rfl,hx,q⟩:=h;cases rx;obtain⟨b6,r,ht,hz⟩:=I.list hx;have hlen:=r.length;refine⟨"list",_,slot_list_getitem.lookup,ht.isList.typeIs,?_⟩;refine wpAny_getItem_list_slice ht.isList hs pl pu .none (by simp) ?_ (by rw[bj] <;> omega);rw[zE,<-hlen];refine⟨.ref s.heap.objs.size,_,I.laid (t':=s.toks) (o:=.lst (wF xs lo hi)) (λb ob q=>ax _ q) (aA _) ?_,rfl,q _ (I.cR.fresh (aA _))⟩;exact⟨bK (vF xs lo hi) hz,_,0,(r.drop (HT.ko xs.length 0 lo)).take (HT.ko xs.length xs.length hi - HT.ko xs.length 0 lo),aQ _ rfl⟩
def lM:V->Bool
 | .eZ=>true
 | .bl _=>true
 | .int _=>true
 | .str _=>true
 |_=>false
def Qx:V->V->Bool
 | .eZ,.eZ=>true
 | .bl a,.bl b=>a==b
 | .bl a,.int b=>(if a then 1 else 0)==b
 | .int a,.bl b=>a==(if b then 1 else 0)
 | .int a,.int b=>a==b
 | .str a,.str b=>a==b
 |_,_=>false
theorem Wx{A:Around}{s:Shared}{y x:V}{u v:Value}(ry:RelV y u)(rx:RelV x v)(fy:lM y=true)(fx:lM x=true):SeqAt.EqAt A s u v (Qx y x):=by
 cases y with
 |eZ=>
  cases ry;cases x with
  |eZ=>cases rx;exact SeqAt.EqAt.same _
  |bl b=>cases rx;exact SeqAt.EqAt.none_bool b
  |int b=>obtain⟨t,rfl⟩:=rx;exact SeqAt.EqAt.none_int b t
  |str b=>obtain⟨t,rfl⟩:=rx;exact SeqAt.EqAt.none_str b t
  |_=>exact absurd (show false=true from fx) aT
 |bl a=>
  cases ry;cases x with
  |eZ=>cases rx;exact SeqAt.EqAt.bool_none a
  |bl b=>cases rx;exact SeqAt.EqAt.bool_bool a b
  |int b=>obtain⟨t,rfl⟩:=rx;exact SeqAt.EqAt.bool_int a b t
  |str b=>obtain⟨t,rfl⟩:=rx;exact SeqAt.EqAt.bool_str a b t
  |_=>exact absurd (show false=true from fx) aT
 |int a=>
  obtain⟨t',rfl⟩:=ry;cases x with
  |eZ=>cases rx;exact SeqAt.EqAt.int_none a t'
  |bl b=>cases rx;exact SeqAt.EqAt.int_bool a t' b
  |int b=>obtain⟨t,rfl⟩:=rx;exact SeqAt.EqAt.int_int a t' b t
  |str b=>obtain⟨t,rfl⟩:=rx;exact SeqAt.EqAt.int_str a t' b t
  |_=>exact absurd (show false=true from fx) aT
 |str a=>
  obtain⟨t',rfl⟩:=ry;cases x with
  |eZ=>cases rx;exact SeqAt.EqAt.str_none a t'
  |bl b=>cases rx;exact SeqAt.EqAt.str_bool a t' b
  |int b=>obtain⟨t,rfl⟩:=rx;exact SeqAt.EqAt.str_int a t' b t
  |str b=>obtain⟨t,rfl⟩:=rx;exact SeqAt.EqAt.str_str a t' b t
  |_=>exact absurd (show false=true from fx) aT
 |_=>exact absurd (show false=true from fy) aT
def Hr(x:V)(u:Value):Bool:=match u with
 | .none=>Qx .eZ x
 | .bool b=>Qx (.bl b) x
 | .int i _=>Qx (.int i) x
 | .str z _=>Qx (.str z) x
 |_=>false
theorem DE{x y:V}{u:Value}(r:RelV y u)(f:lM y=true):Hr x u=Qx y x:=by
 cases y with
 |eZ=>cases r;rfl
 |bl b=>cases r;rfl
 |int i=>obtain⟨t,rfl⟩:=r;rfl
 |str z=>obtain⟨t,rfl⟩:=r;rfl
 |_=>exact absurd (show false=true from f) aT
theorem t9{x:V}:∀{xs:List V} {us:acY},cu xs us->xs.all lM=true->us.any (Hr x)=xs.any λy=>Qx y x
 |_,_,.nil,_=>rfl
 |y::xs,u::us,.cons r t,f=>by
  rw[be,aS] at f;rw[eX,eX,DE r f.1,t9 t f.2]
theorem mL{A:Around}{s:Shared}{x:V}{v:Value}(rx:RelV x v)(fx:lM x=true):∀{xs:List V} {us:acY},cu xs us->xs.all lM=true->∀u∈us,SeqAt.EqAt A s u v (Hr x u)
 |_,_,.nil,_=>λu hu=>by cases hu
 |y::xs,u::us,.cons r t,f=>λu' hu=>by
  rw[be,aS] at f;rcases ba.mp hu with rfl|hu
  ·rw[DE r f.1];exact Wx r rx f.1 fx
  ·exact mL rx fx t f.2 u' hu
def rR(x:V)(xs:List V):Bool:=xs.any λy=>Qx y x
def rIn(K:Frag)(neg:Bool):R2:=λx y H Q=>∃p xs,y=.ref p/\(cg K H p xs\/dJ K H p xs)/\lM x=true/\xs.all lM=true/\Q (.bl (if neg then !rR x xs else rR x xs)) H
theorem uI:qe X (compareOp .In) (rIn X.K false):=by
 intro pins s σ H x y v u Q I rx ry h;obtain⟨p,xs,rfl,hq,fx,fs,q⟩:=h;cases ry;rcases hq with hq|hq
 ·obtain⟨b6,r,pl,hz⟩:=I.list hq;refine SeqAt.in_listAt (Hr x) pl.isList (λw hw=>mL rx fx r fs w (by simpa using hw)) ⟨.bl _,H,I,rfl,?_⟩;rw[show b6.toArray.any (Hr x)=b6.any (Hr x) by simp,t9 r fs];exact q
 ·obtain⟨b6,r,pl,hz⟩:=I.tuple hq;refine SeqAt.in_tupleAt (Hr x) pl (λw hw=>mL rx fx r fs w (by simpa using hw)) ⟨.bl _,H,I,rfl,?_⟩;rw[show b6.toArray.any (Hr x)=b6.any (Hr x) by simp,t9 r fs];exact q
theorem Ck:qe X (compareOp .NotIn) (rIn X.K true):=by
 intro pins s σ H x y v u Q I rx ry h;obtain⟨p,xs,rfl,hq,fx,fs,q⟩:=h;cases ry;rcases hq with hq|hq
 ·obtain⟨b6,r,pl,hz⟩:=I.list hq;refine SeqAt.notIn_listAt (Hr x) pl.isList (λw hw=>mL rx fx r fs w (by simpa using hw)) ⟨.bl _,H,I,rfl,?_⟩;rw[show b6.toArray.any (Hr x)=b6.any (Hr x) by simp,t9 r fs];exact q
 ·obtain⟨b6,r,pl,hz⟩:=I.tuple hq;refine SeqAt.notIn_tupleAt (Hr x) pl (λw hw=>mL rx fx r fs w (by simpa using hw)) ⟨.bl _,H,I,rfl,?_⟩;rw[show b6.toArray.any (Hr x)=b6.any (Hr x) by simp,t9 r fs];exact q
theorem bG:pC X (.builtin "len") (λxs H Q=>∃p ys,xs=[.ref p]/\(cg X.K H p ys\/dJ X.K H p ys)/\Q (.int ys.length) H):=by
 intro pins s σ H xs us Q I r h;obtain⟨p,ys,rfl,hq,q⟩:=h;obtain⟨u,rfl,rx⟩:=vals1 r;cases rx;have hn:=CQ;rcases hq with hq|hq
 ·obtain⟨b6,r',pl,hz⟩:=I.list hq;have hlen:=r'.length;exact Calls.call_len_list pl.isList (by simp only[bj] <;> omega) ⟨.int ys.length,H,I.tok _,⟨s.toks+1,by rw[bj,hlen]⟩,q⟩
 ·obtain⟨b6,r',pl,hz⟩:=I.tuple hq;have hlen:=r'.length;exact len_tuple pl (by simp only[bj] <;> omega) ⟨.int ys.length,H,I.tok _,⟨s.toks+1,by rw[bj,hlen]⟩,q⟩
theorem jM:pC X (.type "tuple") (λxs H Q=>∃p ys,xs=[.ref p]/\((cg X.K H p ys/\∀l,H l=none->Q (.ref l) (upd H l (.tup ys)))\/(dJ X.K H p ys/\Q (.ref p) H))):=by
 intro pins s σ H xs us Q I r h;obtain⟨p,ys,rfl,h⟩:=h;obtain⟨u,rfl,rx⟩:=vals1 r;cases rx;rcases h with ⟨hq,q⟩|⟨hq,q⟩
 ·obtain⟨b6,r',pl,hz⟩:=I.list hq;have hlen:=r'.length;refine call_tuple_list pl.isList (λh' kp=>?_) (by simp only[bj] <;> omega);have I1:Inv X pins σ H {s with heap:=h'}:=I.kept (t':=s.toks) kp;have I2:Inv X pins σ (upd H h'.objs.size (.tup ys)) {s with heap:=h'.push {cls:=.type "tuple",data:=.seq b6.toArray}}:=
   I1.laid (t':=s.toks) (λb o e=>ax _ e) (aA _) (show fg X.prog X.w _ _ _ (.tup ys) from⟨hz,b6,r',IsTup.new _ _⟩)
  exact⟨.ref h'.objs.size,_,I2,rfl,q _ (I1.cR.fresh (aA _))⟩
 ·obtain⟨b6,r',pl,hz⟩:=I.tuple hq;exact call_tuple_same pl ⟨.ref p,H,I,rfl,q⟩
def tyV(K:Frag)(T:String)(x:V)(H:Hp):Prop:=match x with
 | .str _=>T="str"
 | .int _=>T="int"
 | .ref p=>(T="list"/\∃xs,cg K H p xs)\/(T="tuple"/\∃o,K.lookup p=some o/\o.cls=.type "tuple"/\o.dict=none)\/
   (T="dict"/\((∃kvs,H p=some (.dK kvs))\/∃kvs,H p=some (.dT kvs)))\/(T="set"/\∃S n,H p=some (.set S n))
 |_=>False
theorem NB{pins:ada}{σ:St}{H:Hp}{s:Shared}{T:String}{x:V}{v:Value}(I:Inv X pins σ H s)(r:RelV x v)(ty:tyV X.K T x H): s.TypeIs v T/\∀a,v=.ref a->∃ob,s.heap.get? a=some ob/\ob.dict=none:=by
 cases x with
 |str z=>
  obtain⟨t,rfl⟩:=r;cases (show T="str" from ty);exact⟨typeIs_str s z t,λ_=>nofun⟩
 |int i=>
  obtain⟨t,rfl⟩:=r;cases (show T="int" from ty);exact⟨typeIs_int s i t,λ_=>nofun⟩
 |ref p=>
  cases r;rcases ty with ⟨rfl,xs,hq⟩|⟨rfl,o,hk,hc,hd⟩|⟨rfl,hk⟩|⟨rfl,S,n,hk⟩
  ·obtain⟨b6,_,pl,_⟩:=I.list hq;refine⟨pl.isList.typeIs,λa e=>?_⟩;cases e;obtain⟨o,n,e,c,hd,_⟩:=pl;exact⟨o,e,hd⟩
  ·refine⟨⟨o,I.C0 p o hk,hc⟩,λa e=>?_⟩;cases e;exact⟨o,I.C0 _ o hk,hd⟩
  ·have z:∃o,s.heap.get? p=some o/\o.ExactDict:=by
    rcases hk with ⟨kvs,hk⟩|⟨kvs,hk⟩
    ·obtain⟨_,_,_,_,o,_,_,e,ex,_⟩:=I.cR p _ hk;exact⟨o,e,ex⟩
    ·obtain⟨_,_,_,_,o,_,_,e,ex,_⟩:=I.cR p _ hk;exact⟨o,e,ex⟩
   obtain⟨o,e,ex⟩:=z;refine⟨⟨o,e,ex.1⟩,λa e2=>?_⟩;cases e2;exact⟨o,e,ex.2.1⟩
  ·obtain⟨o,_,_,_,e,ex,_⟩:=I.cR p _ hk;refine⟨⟨o,e,ex.1⟩,λa e2=>?_⟩;cases e2;exact⟨o,e,ex.2.1⟩
 |_=>exact False.elim ty
def aa2(K:Frag)(T:String)(r:V->List V->Hp->VK->Prop)(to:TE):TE:=λσ H Q=>to σ H λx H1=>tyV K T x H1/\r x [] H1 Q
def tBM(K:Frag)(T:String)(r:V->List V->Hp->VK->Prop)(to:TE)(t:TA):TE:=λσ H Q=>to σ H λx H1=>tyV K T x H1/\t σ H1 λxs H2=>r x xs H2 Q
variable{o e:Expr}{es:ac8}{to:TE}{t:TA}{name:Str}{apos ji:Pos}{T id:String}{r:V->List V->Hp->VK->Prop}
theorem Vn(pa:PlainAttrs T)(slot:Slot T name id)(Zb:typeOf (.builtin id)=pure (.type "method_descriptor"))(hm:MtR X id r)(ho:PE X o to) (Gu:attributeBase o name X.env (eval o X.env)=eval o X.env:=by rfl) (Gn:(apos.endLine==ji.line)=true:=by rfl):PE X (.Call (.Attribute o name apos) [] [] ji) (aa2 X.K T r to):=by
 intro pins s σ H Q I h;refine wpAny_Call_method0_late Gu Gn (d9 (ho pins s σ H _ I h) λv s1 ⟨x,H1,I1,r1,ty,q1⟩=>?_);obtain⟨h1,h2⟩:=NB I1 r1 ty;exact⟨T,id,pa,slot,Zb,h1,h2,f9 rfl (PySem.evalArgs_none (hm pins s1 σ H1 x [] v [] Q I1 r1 .nil q1))⟩
theorem jU(pa:PlainAttrs T)(slot:Slot T name id)(Zb:typeOf (.builtin id)=pure (.type "method_descriptor"))(hm:MtR X id r)(ho:PE X o to)(ha:PA X (e::es) t) (Gu:attributeBase o name X.env (eval o X.env)=eval o X.env:=by rfl)
  (Wd:((backTo ji (starEach (e::es) X.env)).all (λx=>!x.1)&&(backToKw ji (keywordEach [] X.env)).all (λx=>x.1.isSome)
   &&decide ((e::es).length+([]:List Keyword).length+(if ([]:List Keyword).isEmpty then 0 else 1)<30))=true:=by rfl)
  (Gn:(apos.endLine==ji.line)=true:=by rfl) (hs:starEach (e::es) X.env=(false,eval e X.env)::starEach es X.env:=by rfl) (IJ:(backTo ji (starEach es X.env)).any (·.1)=false:=by rfl):
  PE X (.Call (.Attribute o name apos) (e::es) [] ji) (tBM X.K T r to t):=by
 intro pins s σ H Q I h;refine wpAny_Call_method_late Gu Wd Gn rfl (d9 (ho pins s σ H _ I h) λv s1 ⟨x,H1,I1,r1,ty,q1⟩=>?_);obtain⟨h1,h2⟩:=NB I1 r1 ty;refine⟨T,id,pa,slot,Zb,h1,h2,?_⟩;have hA:=ha ji pins s1 σ H1 _ I1 q1;rw[hs] at hA ⊢;refine f9 (by show(false ||(backTo ji (starEach es X.env)).any (·.1))=false;rw[IJ] <;> rfl) (kC ?_);exact d9 hA λus s2 ⟨vs,H2,I2,r2,q2⟩=>hm pins s2 σ H2 x vs v us Q I2 r1 r2 q2
end
end L2
namespace L2
open PySem PySem.Spec PyProof.Rows
def MtM(X:Cx)(id:String)(r:V->List V->Hp->VK->Prop):Prop:=
 ∀(pins:ada) (s:Shared) (σ:St) (H:Hp) (x:V) (xs:List V) (v:Value) (us:acY) (Q:VK),Inv X pins σ H s->RelV x v->cu xs us->r x xs H Q->
  wpAny (model X.prog X.w) X.A (call (.builtin id) (v::us)) (EP X pins σ Q) X.xe s
theorem cu.one:∀{x:V} {us:acY},cu [x] us->∃u,us=[u]/\RelV x u
 |_,_,.cons r .nil=>⟨_,rfl,r⟩
theorem cu.zero:∀{us:acY},cu [] us->us=[]
 |_,.nil=>rfl
theorem cu.dropLast{xs:List V}{us:acY}(h:cu xs us):cu xs.dropLast us.dropLast:=by
 induction h with
 |nil=>exact .nil
 |cons r t ih=>
  cases t with
  |nil=>exact .nil
  |cons q t'=>exact .cons r ih
theorem cu.rep{xs:List V}{us:acY}(h:cu xs us):∀k:Nat,cu (List.replicate k xs).flatten (List.replicate k us).flatten
 |0=>.nil
 |k+1=>by
  rw[dq,dq,jf,jf];exact cu.append h (cu.rep h k)
theorem Ww{α:Type}(l:List α):l.eraseIdx (l.length - 1)=l.dropLast:=by
 induction l with
 |nil=>rfl
 |cons a r ih=>
  cases r with
  |nil=>rfl
  |cons b r=>
   grind
theorem foldl_rep(b6:acY):∀(k:Nat) (acc:acY), List.foldl (λx1 x2=>x1++x2) acc.toArray (List.replicate k b6.toArray)=(acc++(List.replicate k b6).flatten).toArray
 |0,acc=>by simp
 |k+1,acc=>by
  have e:acc.toArray++b6.toArray=(acc++b6).toArray:=by simp
  have e2:(acc++b6)++(List.replicate k b6).flatten=acc++(List.replicate (k+1) b6).flatten:=by
   rw[dq,jf,az]
  rw[<-e2,<-foldl_rep b6 k (acc++b6),<-e,dq,Rw]
section
variable{X:Cx}{pins:ada}{σ:St}{H:Hp}{s:Shared}{l b:Addr}{xs ys zs:List V}
theorem Inv.YW{b6 its':acY}{n:Nat}{f:Array Value->Array Value}{t':Nat}(I:Inv X pins σ H s)(hH:H l=some (.lst xs)) (e:s.heap.get? l=some {cls:=.type "list",data:=.seq b6.toArray n}) (hf:f b6.toArray=its'.toArray) (hv:cu ys its') (hz:ys.length<=sizeLine): Inv X pins σ (upd H l (.lst ys)) {s with heap:=s.heap.update l (Obj.mapSeq f),toks:=t'}:=by
 have q:=PySem.IsL.update e f;rw[hf] at q;refine I.write (x:=l) (e:=l) (by rw[hH];exact trivial) (.inl rfl) (λb' u hb hu=>(dA s.heap (Obj.mapSeq f) (cv hb)).trans hu) ⟨_,q⟩ ?_;exact⟨hz,its',_,hv,q⟩
theorem Inv.YX{b6:acY}{t':Nat}(I:Inv X pins σ H s)(hv:cu ys b6)(hz:ys.length<=sizeLine): Inv X pins σ (upd H s.heap.objs.size (.lst ys)) {s with heap:=s.heap.push {cls:=.type "list",data:=.seq b6.toArray},toks:=t'}:=
 I.laid (λ_ _ q=>ax _ q) (aA _) ⟨hz,b6,0,hv,aQ _ rfl⟩
theorem Inv.fresh(I:Inv X pins σ H s):H s.heap.objs.size=none:=I.cR.fresh (aA _)
theorem Inv.Pc(I:Inv X pins σ H s)(hH:H l=some (.lst xs)):xs.length<=sizeLine/\∃(b6:acY) (n:Nat),cu xs b6/\xs.length=b6.length/\s.heap.get? l=some {cls:=.type "list",data:=.seq b6.toArray n}:=by
 obtain⟨z,b6,n,r,e⟩:=I.cR l _ hH;exact⟨z,b6,n,r,r.length,e⟩
theorem OL{n:Nat}(h:n<=sizeLine):Builtin.List.listTooLong n=false:=by
 unfold Builtin.List.listTooLong;exact ag (by omega)
end
section
variable{X:Cx}
def RK:V->List V->Hp->VK->Prop:=λx vs H Q=>∃l xs y,x=.ref l/\vs=[y]/\H l=some (.lst xs)/\xs.length<sizeLine/\Q .eZ (upd H l (.lst (xs++ [y])))
theorem dc:MtM X "list.append" RK:=by
 intro pins s σ H x vs v us Q I rx rv h;obtain⟨l,xs,y,rfl,rfl,hH,hz,q⟩:=h;cases rx;obtain⟨u,rfl,ru⟩:=rv.one;obtain⟨z,b6,n,r,hl,e⟩:=I.Pc hH;refine Eu F.slot_list_append ⟨_,e,rfl⟩ F.entry_list_append (F.args_list_append_2 _ _) (PySem.list_append l b6.toArray n u (by rw[bj];omega)) ⟨e,?_⟩;refine⟨.eZ,_,I.YW (its':=b6++ [u]) hH e (by simp) (r.append (.cons ru .nil)) ?_,rfl,q⟩;rw[aw,fX];omega
def aba:V->List V->Hp->VK->Prop:=λx vs H Q=>∃l xs y,x=.ref l/\vs=[]/\H l=some (.lst xs)/\xs[xs.length - 1]?=some y/\Q y (upd H l (.lst xs.dropLast))
theorem VB:MtM X "list.pop" aba:=by
 intro pins s σ H x vs v us Q I rx rv h;obtain⟨l,xs,y,rfl,rfl,hH,hy,q⟩:=h;cases rx;have hus:=rv.zero;subst hus;obtain⟨z,b6,n,r,hl,e⟩:=I.Pc hH;obtain⟨u,hu,ru⟩:=r.get hy;have Y9:b6.toArray[b6.toArray.size - 1]?=some u:=by
  grind
 refine Eu F.slot_list_pop ⟨_,e,rfl⟩ F.entry_list_pop (F.args_list_pop_1 _) (MeetsSeq.list_pop_last l b6.toArray n u Y9 (by rw[bj];omega)) ⟨e,?_⟩;refine⟨y,_,I.YW (its':=b6.dropLast) hH e ?_ r.dropLast ?_,ru,q⟩
 ·grind
 ·rw[List.length_dropLast];omega
def abg:R2:=λx y H Q=>∃l b xs zs,x=.ref l/\y=.ref b/\H l=some (.lst xs)/\H b=some (.lst zs)/\xs.length+zs.length<=sizeLine/\∀p,H p=none->Q (.ref p) (upd H p (.lst (xs++zs)))
theorem Cm:qe X (binaryOp .Add) abg:=by
 intro pins s σ H x y v u Q I rx ry h;obtain⟨l,b,xs,zs,rfl,rfl,hH,hB,hz,q⟩:=h;cases rx;cases ry;obtain⟨z,b6,n,r,hl,e⟩:=I.Pc hH;obtain⟨z2,F7,n2,r2,zv,e2⟩:=I.Pc hB;refine PySem.P.add_list e e2 ?_ (by rw[bj,bj];omega);have ea:b6.toArray++F7.toArray=(b6++F7).toArray:=by simp
 rw[ea];exact⟨.ref _,_,I.YX (t':=s.toks) (r.append r2) (by rw[aw];omega),rfl,q _ I.fresh⟩
def aa9:R2:=λx y H Q=>∃l k xs,x=.ref l/\y=.int k/\H l=some (.lst xs)/\ -(2 ^ 63)<=k/\k<2 ^ 63/\xs.length*k.toNat<=sizeLine/\
 ∀p,H p=none->Q (.ref p) (upd H p (.lst (List.replicate k.toNat xs).flatten))
theorem len_rep{α:Type}(xs:List α)(k:Nat):(List.replicate k xs).flatten.length=k*xs.length:=by
 induction k with
 |zero=>simp
 |succ k ih=>rw[dq,jf,aw,ih,Nat.succ_mul,Nat.add_comm]
theorem OE:qe X (binaryOp .Mult) aa9:=by
 intro pins s σ H x y v u Q I rx ry h;obtain⟨l,k,xs,rfl,rfl,hH,h1,h2,hz,q⟩:=h;cases rx;obtain⟨t,rfl⟩:=ry;obtain⟨z,b6,n,r,hl,e⟩:=I.Pc hH;have hlen:b6.toArray.size*k.toNat<=sizeLine:=by rw[bj,<-hl];exact hz
 have aco:¬b6.toArray.size*k.toNat> (2 ^ 63 - 1) / 8:=by
  have:(sizeLine:Nat)<=(2 ^ 63 - 1) / 8:=by decide
  omega
 have ace:¬(!Builtin.List.listFitsIndex k)=true:=by
  rw[fitsIndex_both h1 h2];exact aT
 have ZC:¬Builtin.List.listTooLong (b6.toArray.size*k.toNat)=true:=by
  rw[OL hlen];exact aT
 have IM:List.foldl (λx1 x2=>x1++x2) #[] (List.replicate (if b6.toArray.isEmpty=true then 0 else k.toNat) b6.toArray)=(List.replicate k.toNat b6).flatten.toArray:=by
  have f0:∀m:Nat,List.foldl (λx1 x2=>x1++x2) #[] (List.replicate m b6.toArray)=(List.replicate m b6).flatten.toArray:=λm=>by
   have:=foldl_rep b6 m [];rw[bE] at this;exact this
  rw[f0];cases b6 with
  |nil=>simp
  |cons a r'=>rw[ae (by simp)]
 refine wpAny_binaryOp_repeat_ref (T:="list") (U:="int") (by decide) ⟨_,e,rfl⟩ (λs'=>typeIs_int s' k t) noFill_list_mul F.fills_int_mul F.slot_int_rmul repeat_list F.slot_int_index.lookup
  (Eu F.slot_int_rmul (typeIs_int s k t) F.entry_int_rmul (F.args_int_rmul_2 _ _) (int___rmul___int_list k t l b6.toArray n)
   ⟨e,rfl,⟨_,e,rfl⟩,Eu F.slot_list_mul ⟨_,e,rfl⟩ F.entry_list_mul (F.args_list_mul_2 _ _) (AutoListH.list___mul___list_int_3 l b6.toArray n k t ace aco ZC) ⟨e,?_⟩⟩)
 rw[IM];exact⟨.ref _,_,I.YX (t':=s.toks) (r.rep k.toNat) (by rw[len_rep,Nat.mul_comm];exact hz),rfl,q _ I.fresh⟩
end
end L2
namespace L2
open PySem PySem.Spec PyProof.Rows
theorem rX:∀{us:acY} {ns:acZ},IntsAre us ns->cu (ns.map V.int) us
 |_,_,.nil=>by rw[il];exact Paired.nil
 |_,_,.cons n t h=>by rw[aK];exact Paired.cons (show RelV (V.int n) (Value.int n t) from⟨t,rfl⟩) (rX h)
theorem cu.bls:∀{bs:List Bool} {us:acY},cu (bs.map V.bl) us->us=bs.map Value.bool
 | [],us,h=>by
  rw[il] at h;cases h;rfl
 |b::bs,us,h=>by
  rw[aK] at h;cases h with
  |cons r t=>
   cases r;rw[cu.bls t,aK]
theorem cu.Yh{a:Addr}{us:acY}(r:cu [V.ref a] us):us=[Value.ref a]:=by
 cases r with
 |cons r t=>
  cases t;cases r;rfl
section
variable{X:Cx}
theorem KI{ys:List V}(f:ys.all lM=true){j:Nat}{z:V}(h:ys[j]?=some z):lM z=true:=bU.mp f z (aL h)
end
theorem F8{prog:Program}{w:World}{A:Around}{E:acX}{s:Shared}{l:Addr}{items:ac6}{Q:acX}(hl:s.heap.IsList l items) (h:∀kX:Shared,kX={s with heap:=s.heap.push {cls:=.type "list_iterator",data:=.fields #[.ref l,.int 0 0]}}-> (kX.heap.IsListIter s.heap.objs.size l 0/\kX.heap.IsList l items)->l≠s.heap.objs.size->Q (.ref s.heap.objs.size) kX):wpAny (model prog w) A (pyIter (.ref l)) Q E s:=by
 have gV:l<s.heap.objs.size:=by obtain⟨_,e,_⟩:=hl;exact aW e
 exact zj hl (h _ rfl ⟨⟨_,aQ _ rfl,rfl,rfl⟩,hl.push _⟩ (bH gV))
theorem vj{prog:Program}{w:World}{A:Around}{bs:List Bool}{b6:acY}(e:b6=bs.map Value.bool): TruthOf prog w A (λi v=>b6.toArray[i]?=some v) (λi=>bs.getD i false):=λi v s Q E hv hq=>by
 have VR:b6[i]?=some v:=by simpa using hv
 rw[e,aM] at VR;obtain⟨b,hb,rfl⟩:=xn.mp VR;have hg:bs.getD i false=b:=by rw[qI,hb] <;> rfl
 have Ni:Q (bs.getD i false) s:=hq;rw[hg] at Ni;exact eK Ni
theorem any_range:∀bs:List Bool,(List.range bs.length).any (λi=>bs.getD i false)=bs.any id
 | []=>rfl
 |b::bs=>by
  rw[aJ,lT,eX,lW,eX,<-any_range bs]
  all_goals rfl
theorem all_range:∀bs:List Bool,(List.range bs.length).all (λi=>bs.getD i false)=bs.all id
 | []=>rfl
 |b::bs=>by
  rw[aJ,lT,be,List.all_map,be,<-all_range bs]
  all_goals rfl
section
variable{X:Cx}
def abh(K:Frag):List V->Hp->VK->Prop:=λvs H Q=>∃(a:Addr) (bs:List Bool),vs=[V.ref a]/\cg K H a (bs.map V.bl)/\Q (.bl (bs.any id)) H
def abi(K:Frag):List V->Hp->VK->Prop:=λvs H Q=>∃(a:Addr) (bs:List Bool),vs=[V.ref a]/\cg K H a (bs.map V.bl)/\Q (.bl (bs.all id)) H
theorem QG(hc:X.calm=true):pC X (.builtin "any") (abh X.K):=by
 intro pins s σ H vs us Q I r h;obtain⟨a,bs,rfl,hs,q⟩:=h;obtain⟨b6,rv,hl,_⟩:=I.list hs;rw[cu.Yh r];have hb:=rv.bls;refine call_any_walk (F8 hl.isList λkX e2 st gT=>?_);subst e2;refine⟨_,_,_,_,_,_,_,rfl,Walks.list (A:=X.A.in1) (I.ok.hd hc) _ a gT b6.toArray,st,vj hb,λh' tk hk=>?_⟩;refine⟨.bl _,H,I.kept λb o eo=>hk b o (λDc=>?_) (ax _ eo),?_,q⟩
 ·rcases ba.mp Dc with e1|Dc
  ·exact absurd (e1▸aW eo) (c9 _)
  ·cases Dc
 ·show Value.bool _=Value.bool _;rw[<-any_range,hb,bj,af]
theorem QH(hc:X.calm=true):pC X (.builtin "all") (abi X.K):=by
 intro pins s σ H vs us Q I r h;obtain⟨a,bs,rfl,hs,q⟩:=h;obtain⟨b6,rv,hl,_⟩:=I.list hs;rw[cu.Yh r];have hb:=rv.bls;refine call_all_walk (F8 hl.isList λkX e2 st gT=>?_);subst e2;refine⟨_,_,_,_,_,_,_,rfl,Walks.list (A:=X.A.in1) (I.ok.hd hc) _ a gT b6.toArray,st,vj hb,λh' tk hk=>?_⟩;refine⟨.bl _,H,I.kept λb o eo=>hk b o (λDc=>?_) (ax _ eo),?_,q⟩
 ·rcases ba.mp Dc with e1|Dc
  ·exact absurd (e1▸aW eo) (c9 _)
  ·cases Dc
 ·show Value.bool _=Value.bool _;rw[<-all_range,hb,bj,af]
end
mutual
inductive Dp(K:Frag)(H:Hp):V->PyData->Prop
 |eZ:Dp K H .eZ .none
 |bl (b:Bool):Dp K H (.bl b) (.bool b)
 |int (i:Int):Dp K H (.int i) (.int i)
 |str (x:Str):Dp K H (.str x) (.str x)
 |lst {a:Addr} {xs:List V} {ds:List PyData}:cg K H a xs->nS K H xs ds->Dp K H (.ref a) (.list ds)
 |tup {a:Addr} {xs:List V} {ds:List PyData}:dJ K H a xs->nS K H xs ds->Dp K H (.ref a) (.tuple ds)
inductive nS(K:Frag)(H:Hp):List V->List PyData->Prop
 |nil:nS K H [] []
 |cons {v:V} {vs:List V} {d:PyData} {ds:List PyData}:Dp K H v d->nS K H vs ds->nS K H (v::vs) (d::ds)
end
section
variable{X:Cx}{pins:ada}{σ:St}{H:Hp}{s:Shared}
mutual
theorem Dp.reads(I:Inv X pins σ H s):∀(d:PyData) (v:V) (u:Value),Dp X.K H v d->RelV v u->∃as,Reads s.heap u d as
 | .none,_,_,h,r=>by
  cases h;cases r;exact⟨_,Reads.none⟩
 | .bool b,_,_,h,r=>by
  cases h;cases r;exact⟨_,Reads.bool b⟩
 | .int i,_,_,h,r=>by
  cases h;obtain⟨t,rfl⟩:=r;exact⟨_,Reads.int i t⟩
 | .str x,_,_,h,r=>by
  cases h;obtain⟨t,rfl⟩:=r;exact⟨_,Reads.str x t⟩
 | .list ds,_,_,h,r=>by
  cases h with
  |lst hs ha=>
   cases r;obtain⟨b6,rv,⟨o,n,ho,hc,_,hd⟩,_⟩:=I.list hs;obtain⟨as,hr⟩:=Dp.readsAll I ds _ b6 ha rv;exact⟨_,Reads.list ho hc hd hr⟩
 | .tuple ds,_,_,h,r=>by
  cases h with
  |tup hs ha=>
   cases r;obtain⟨b6,rv,⟨o,ho,hc,n,hd⟩,_⟩:=I.tuple hs;obtain⟨as,hr⟩:=Dp.readsAll I ds _ b6 ha rv;exact⟨_,Reads.tuple ho hc hd hr⟩
 | .dict _,_,_,h,_=>by cases h
theorem Dp.readsAll(I:Inv X pins σ H s):∀(ds:List PyData) (vs:List V) (us:acY),nS X.K H vs ds->cu vs us->∃as,ReadsAll s.heap us ds as
 | [],_,_,h,r=>by
  cases h;cases r;exact⟨_,ReadsAll.nil⟩
 |d::ds,_,_,h,r=>by
  cases h with
  |cons h1 h2=>
   cases r with
   |cons r1 r2=>
    obtain⟨as,q1⟩:=Dp.reads I d _ _ h1 r1;obtain⟨bs,q2⟩:=Dp.readsAll I ds _ _ h2 r2;exact⟨_,ReadsAll.cons q1 q2⟩
end
end
section
variable{X:Cx}
def Yl(K:Frag):R2:=λx y H Q=>∃d e,Dp K H x d/\Dp K H y e/\SeqAt.shaped d=true/\SeqAt.shaped e=true/\Q (.bl (PyData.eqv d e)) H
def abb(K:Frag):R2:=λx y H Q=>∃d e,Dp K H x d/\Dp K H y e/\SeqAt.shaped d=true/\SeqAt.shaped e=true/\Q (.bl (!PyData.eqv d e)) H
theorem OF(hu:X.A.units+64<cLine):qe X (compareOp .Eq) (Yl X.K):=by
 intro pins s σ H x y v u Q I rx ry h;obtain⟨d,e,hd,he,sd,se,q⟩:=h;obtain⟨as,r1⟩:=Dp.reads I d x v hd rx;obtain⟨bs,r2⟩:=Dp.reads I e y u he ry;exact SeqAt.compareEq_shaped r1 r2 sd se hu ⟨.bl _,H,I,rfl,q⟩
theorem Vp(hu:X.A.units+64<cLine):qe X (compareOp .NotEq) (abb X.K):=by
 intro pins s σ H x y v u Q I rx ry h;obtain⟨d,e,hd,he,sd,se,q⟩:=h;obtain⟨as,r1⟩:=Dp.reads I d x v hd rx;obtain⟨bs,r2⟩:=Dp.reads I e y u he ry;exact SeqAt.compareNe_shaped r1 r2 sd se hu ⟨.bl _,H,I,rfl,q⟩
end
end L2
namespace L2
open PySem PySem.Spec PyProof.Rows
abbrev Q6(h:Heap)(c:Addr)(v:Option Value):Prop:=h.IsCell c v
def aa6(scope sc:Scope):Scope:=
 {scope with names:=scope.names.map λ(n,k)=>if (k==.free&&sc.kind==.function&&sc.names.lookup n==some .cell) then(n,.cell) else(n,k)}
def dQ(cells:List (Str×Addr)):List (Str×NameKind)->List (Str×Addr)->List (Str×Addr)
 | [],acc=>acc
 |(n,k)::r,acc=>if k==.free then dQ cells r ((n,(cells.lookup n).getD 0)::acc) else dQ cells r acc
theorem tW(env:Env)(f:Str×NameKind->List (Str×Addr)->Sem (ForInStep (List (Str×Addr)))) (hf:∀n k c,f (n,k) c=if k==.free then(do let a <-cellOf env n;pure (.yield ((n,a)::c))) else pure (.yield c)): ∀(names:List (Str×NameKind)) (acc:List (Str×Addr)),(∀y∈names,y.2=.free->∃c,env.cells.lookup y.1=some c)->forIn names acc f=pure (dQ env.cells names acc)
 | [],acc,_=>by rw[List.forIn_nil];rfl
 |(n,k)::r,acc,h=>by
  rw[List.forIn_cons,hf];have ih:=λacc=>tW env f hf r acc λy hy=>h y (aP _ hy)
  unfold dQ;by_cases hk:(k==NameKind.free)=true
  ·rw[ah hk,ah hk];obtain⟨c,hc⟩:=h (n,k) aR (by simpa using hk);have e:cellOf env n=pure c:=by unfold cellOf;rw[hc]
   grind
  ·rw[ae hk,ae hk];exact ih _
theorem Jl{scope:Scope}{env:Env}(h:∀y∈scope.names,y.2=.free->∃c,env.cells.lookup y.1=some c):closureFor scope env=pure (dQ env.cells scope.names []):=by
 simp only[closureFor];rw[tW env _ (λn k c=>rfl) scope.names [] h];rfl
theorem mem_lookup{α:Type}:∀{l:List (Str×α)} {n:Str} {c:α},(n,c)∈l->∃c',l.lookup n=some c'
 |(k,v)::r,n,c,h=>by
  rw[List.lookup_cons];cases hb:n==k with
  |true=>exact⟨_,rfl⟩
  |false=>
   rcases ba.mp h with e|h
   ·cases e;simp at hb
   ·exact mem_lookup h
theorem lN{cells:List (Str×Addr)}:∀{names:List (Str×NameKind)} {acc:List (Str×Addr)} {n:Str} {c:Addr},(n,c)∈dQ cells names acc->(n,c)∈acc\/((n,.free)∈names/\c=(cells.lookup n).getD 0)
 | [],_,_,_,h=>.inl h
 |(m,k)::r,acc,n,c,h=>by
  unfold dQ at h;split at h
  ·rename_i hk;have hk:k=.free:=by simpa using hk
   rcases lN h with h|⟨h1,h2⟩
   ·grind
   ·exact .inr ⟨aP _ h1,h2⟩
  ·rcases lN h with h|⟨h1,h2⟩
   ·exact .inl h
   ·exact .inr ⟨aP _ h1,h2⟩
theorem pk{cells:List (Str×Addr)}:∀{names:List (Str×NameKind)} {acc:List (Str×Addr)} {p:Str×Addr},p∈acc->p∈dQ cells names acc
 | [],_,_,h=>h
 |(m,k)::r,acc,p,h=>by
  unfold dQ;split
  ·exact pk (aP _ h)
  ·exact pk h
theorem pj{cells:List (Str×Addr)}:∀{names:List (Str×NameKind)} {acc:List (Str×Addr)} {n:Str},(n,.free)∈names->(n,(cells.lookup n).getD 0)∈dQ cells names acc
 |(m,k)::r,acc,n,h=>by
  unfold dQ;rcases ba.mp h with e|h
  ·cases e;exact pk aR
  ·split
   ·exact pj h
   ·exact pj h
theorem mP:∀{names:List (Str×NameKind)} {h:Heap} {acc:List (Str×Addr)} {x:Str} {c:Addr},(x,c)∈cellsFrom h.objs.size names acc-> (x,c)∈acc\/((x,.cell)∈names/\h.objs.size<=c/\Q6 (pushCells h names) c none)
 | [],_,_,_,_,h=>.inl h
 |(n,k)::r,h,acc,x,c,hm=>by
  unfold cellsFrom at hm;unfold pushCells;split at hm
  ·rename_i hk;rw[ah hk];have hk:k=.cell:=by simpa using hk
   rw[<-dO h {cls:=.type "cell",data:=.cell none}] at hm;rcases mP hm with hm|⟨h1,h2,h3⟩
   ·rcases ba.mp hm with e|hm
    ·cases e;exact .inr ⟨hk▸aR,aA _,_,Hi r _ _ _ (aQ _ rfl),rfl⟩
    ·exact .inl hm
   ·rw[dO] at h2;exact .inr ⟨aP _ h1,Ld h2,h3⟩
  ·rename_i hk;rw[ae hk];rcases mP hm with hm|⟨h1,h2,h3⟩
   ·exact .inl hm
   ·exact .inr ⟨aP _ h1,h2,h3⟩
theorem p9:∀{names:List (Str×NameKind)} {n:Nat} {acc:List (Str×Addr)} {p:Str×Addr},p∈acc->p∈cellsFrom n names acc
 | [],_,_,_,h=>h
 |(m,k)::r,n,acc,p,h=>by
  unfold cellsFrom;split
  ·exact p9 (aP _ h)
  ·exact p9 h
theorem vf:∀{names:List (Str×NameKind)} {n:Nat} {acc:List (Str×Addr)} {x:Str},(x,.cell)∈names->∃c,(x,c)∈cellsFrom n names acc
 |(m,k)::r,n,acc,x,h=>by
  unfold cellsFrom;rcases ba.mp h with e|h
  ·cases e;exact⟨n,p9 aR⟩
  ·split
   ·exact vf h
   ·exact vf h
theorem ve:∀{names:List (Str×NameKind)} {h:Heap} {acc:List (Str×Addr)} {x y:Str} {c:Addr},(∀p∈acc,p.2<h.objs.size)->(∀x y c,(x,c)∈acc->(y,c)∈acc->x=y)-> (x,c)∈cellsFrom h.objs.size names acc->(y,c)∈cellsFrom h.objs.size names acc->x=y
 | [],_,_,_,_,_,_,hi,h1,h2=>hi _ _ _ h1 h2
 |(n,k)::r,h,acc,x,y,c,hl,hi,h1,h2=>by
  unfold cellsFrom at h1 h2;split at h1
  ·rename_i hk;rw[ah hk] at h2;rw[<-dO h {cls:=.type "cell",data:=.cell none}] at h1 h2;refine ve (h:=h.push _) (λp hp=>?_) (λx y c a b=>?_) h1 h2
   ·rw[dO]
    grind
   ·grind
  ·rename_i hk;rw[ae hk] at h2;exact ve hl hi h1 h2
theorem Fy{M:Model}{A:Around}{E:acX}{s:Shared}{scope:Scope}{globals:Addr}{closure:List (Str×Addr)}{qual:Str}{func:ac4}{code:Value}{around:Env}{builtins:Addr}{Q:Env->Shared->Prop} (h:Q (newEnv scope s.heap.objs.size globals (cellsFrom (s.heap.objs.size+1) scope.names closure) qual func code (some around) builtins) {s with heap:=pushCells (s.heap.push {cls:=.type "dict",data:=.dict #[]}) scope.names}): wpAny M A (newFunctionEnv scope globals closure [] qual func code (some around) builtins) Q E s:=by
 simp only[newFunctionEnv,Option.isSome_some,T6];refine aa (wpAny_alloc ?_);refine aa (wpAny_layCells _ (λn k c=>rfl) scope.names closure _ _ ?_);rw[show({s with heap:=s.heap.push {cls:=.type "dict",data:=.dict #[]}}:Shared).heap.objs.size=s.heap.objs.size+1 from dO ..];rw[List.forIn_nil];exact aa (ay (ay h))
theorem oW{sc:Scope}:∀{names:List (Str×NameKind)} {x:Str} {k:NameKind}, (names.map λ(n,k)=>if (k==NameKind.free&&sc.kind==.function&&sc.names.lookup n==some .cell) then(n,NameKind.cell) else(n,k)).lookup x=some k-> ∃k',names.lookup x=some k'/\(k=k'\/(k'=.free/\k=.cell))
 | [],_,_,h=>by simp at h
 |(n,YZ)::r,x,k,h=>by
  have ih:=@oW sc r x k;have h':List.lookup x ((if (YZ==NameKind.free&&sc.kind==.function&&sc.names.lookup n==some .cell)=true then(n,NameKind.cell) else(n,YZ))::(r.map _))=some k:=h;cases hx:x==n with
  |true=>
   grind
  |false=>
   grind
structure Hf(N:ac5)(sc scope:Scope)(own:List (Str×Nat)):Prop where
 kind:scope.kind=.function
 uniq:∀y∈scope.names,scope.names.lookup y.1=some y.2
 ix:∀p∈own,N[p.2]?=some p.1
 free:∀y∈scope.names,y.2=.free->sc.names.lookup y.1=some .cell\/sc.names.lookup y.1=some .free
 own:∀y∈scope.names,y.2=.local\/y.2=.cell->y.1∈own.map (·.1)\/y.1∉N
def wipe(σ:St):List Nat->St
 | []=>σ
 |v::vs=>(wipe σ vs).set v none
theorem oj(σ:St):∀vs:List Nat,(wipe σ vs).length=σ.length
 | []=>rfl
 |v::vs=>by unfold wipe;rw[Rv,oj σ vs]
theorem uk{σ:St}{i:Nat}{x:V}:∀{vs:ac2},(wipe σ vs)[i]?=some (some x)->σ[i]?=some (some x)/\i∉vs
 | [],h=>⟨h,by simp⟩
 |v::vs,h=>by
  unfold wipe at h;by_cases hi:v=i
  ·grind
  ·rw[nW hi] at h;obtain⟨h1,h2⟩:=uk h
   grind
abbrev Cx.DZ(X:Cx)(s:Shared)(H:Hp)(scope:Scope)(iL:Env)(fp:ac1):Cx:={X with AN:=s,H_0:=H,env:=iL,outer:=X.stack,ex:=fp,fn:=λx=>scope.names.lookup x==some .cell,pn:=[],xe:=λ_ _=>False}
section
variable{X:Cx}{pins:ada}{σ:St}{H:Hp}{s:Shared}
theorem Ha{scope:Scope}{own:List (Str×Nat)}{fp:ac1}(I:Inv X pins σ H s)(ok:Hf X.N X.env.scope scope own)(hN:X.N.Nodup)(My:∀b∈fp,zh X pins H b/\b<s.heap.objs.size): Inv (X.DZ s H scope (compEnvC scope (cellsFrom (s.heap.objs.size+1) scope.names (dQ X.env.cells scope.names [])) s.heap.objs.size X.env) fp) [] (wipe σ (own.map (·.2))) H {s with heap:=pushCells (s.heap.push {cls:=.type "dict",data:=.dict #[]}) scope.names}:=by
 have Kz:∀y∈scope.names,y.2=.free->∃c,X.env.cells.lookup y.1=some c:=λy hy e=>by
  rcases ok.free y hy e with k|k
  ·exact I.ok.has _ (.inl k)
  ·exact I.ok.has _ (.inr k)
 generalize Gs:compEnvC scope (cellsFrom (s.heap.objs.size+1) scope.names (dQ X.env.cells scope.names [])) s.heap.objs.size X.env=iL;have kp:∀b o,s.heap.get? b=some o->(pushCells (s.heap.push {cls:=.type "dict",data:=.dict #[]}) scope.names).get? b=some o:=λb o e=>Hi _ _ _ _ (ax _ e)
 have hL:iL.locals=s.heap.objs.size:=by rw[<-Gs];rfl
 have yN:iL.cells=cellsFrom (s.heap.objs.size+1) scope.names (dQ X.env.cells scope.names []):=by rw[<-Gs];rfl
 have hsc:iL.scope=aa6 scope X.env.scope:=by rw[<-Gs];rfl
 rw[<-dO s.heap {cls:=.type "dict",data:=.dict #[]}] at yN;have cm:∀{y c},(y,c)∈dQ X.env.cells scope.names []->X.env.cells.lookup y=some c/\c<s.heap.objs.size:=λ{y c} hm=>by
  rcases lN hm with hm|⟨h1,rfl⟩
  ·cases hm
  ·obtain⟨c,hc⟩:=Kz _ h1 rfl;rw[hc];obtain⟨w,z⟩:=I.cell _ _ hc;exact⟨rfl,z.lt⟩
 have mem:∀{y c},iL.cells.lookup y=some c->(X.env.cells.lookup y=some c/\c<s.heap.objs.size)\/(s.heap.objs.size+1<=c/\Q6 (pushCells (s.heap.push {cls:=.type "dict",data:=.dict #[]}) scope.names) c none):=λ{y c} e=>by
  rw[yN] at e;rcases mP (bT e) with hm|⟨_,h2,h3⟩
  ·exact .inl (cm hm)
  ·rw[dO] at h2;exact .inr ⟨h2,h3⟩
 have look:∀{y},scope.names.lookup y=some .free->∃c,iL.cells.lookup y=some c/\X.env.cells.lookup y=some c:=λ{y} hl=>by
  have hy:(y,NameKind.free)∈scope.names:=bT hl;obtain⟨c',e'⟩:=mem_lookup (p9 (names:=scope.names) (n:=(s.heap.push {cls:=.type "dict",data:=.dict #[]}).objs.size) (pj (cells:=X.env.cells) (acc:=[]) hy));rw[<-yN] at e';refine⟨c',e',?_⟩;rw[yN] at e';rcases mP (bT e') with hm|⟨h1,_,_⟩
  ·exact(cm hm).1
  ·have:=ok.uniq _ h1;rw[hl] at this;cases this
 have okB:(X.DZ s H scope iL fp).Ok:=by
  refine⟨I.ok.mod,by show iL.scope.kind=_;rw[hsc];exact ok.kind,by show iL.globals=_;rw[<-Gs];exact I.ok.glob,by show iL.builtins=_;rw[<-Gs];exact I.ok.blt,by show s.heap.objs.size<=iL.locals;rw[hL];exact aA _,
   λy z c e1 e2=>?_,λy hy=>?_,λy c z e=>?_,I.ok.hd,I.ok.frames,.inl rfl,λb hb=>⟨?_,λy c e z=>?_⟩,I.bs,bK I.ok.TK I.sz,λb o e hb=>?_,λb hb z=>?_,I.stack,I.JH⟩
  ·have e1:iL.cells.lookup y=some c:=e1;have e2:iL.cells.lookup z=some c:=e2;rw[yN] at e1 e2;refine ve (λp hp=>?_) (λy z c a b=>I.ok.inj y z c (cm a).1 (cm b).1) (bT e1) (bT e2);rw[dO];exact fj (cm (y:=p.1) (c:=p.2) hp).2
  ·show ∃c,iL.cells.lookup y=some c;have key:∀k,iL.kindOf y=some k->(k=.cell\/k=.free)->∃c,iL.cells.lookup y=some c:=λk hk Mv=>by
    unfold Env.kindOf at hk;rw[hsc] at hk;obtain⟨k',e,r⟩:=oW hk;have:k'=.cell\/k'=.free:=by
     grind
    rcases this with rfl|rfl
    ·obtain⟨c,hm⟩:=vf (n:=(s.heap.push {cls:=.type "dict",data:=.dict #[]}).objs.size) (acc:=dQ X.env.cells scope.names []) (bT e);obtain⟨c',e'⟩:=mem_lookup hm;exact⟨c',by rw[yN];exact e'⟩
    ·obtain⟨c,h1,_⟩:=look e;exact⟨c,h1⟩
   grind
  ·have z:(scope.names.lookup y==some NameKind.cell)=true:=z;have z:scope.names.lookup y=some .cell:=by simpa using z
   have e:iL.cells.lookup y=some c:=e;rw[yN] at e;rcases mP (bT e) with hm|⟨_,h2,_⟩
   ·rcases lN hm with hm|⟨h1,_⟩
    ·cases hm
    ·have q:=ok.uniq _ h1;rw[z] at q;cases q
   ·rw[dO] at h2;exact Ld h2
  ·show b≠iL.locals;rw[hL];exact bH (My b hb).2
  ·have e:iL.cells.lookup y=some c:=e;rcases mem e with ⟨h1,_⟩|⟨h1,_⟩
   ·exact(My b hb).1.2.2.2.2.1 y c h1 z
   ·grind
  ·rcases(My b hb).1.2.2.2.1 with z|z
   ·exact I.ok.ON b o e z
   ·exact absurd (bM (aW e) (bK I.ok.TK z)) (c9 _)
  ·rcases ba.mp (I.HJ b z) with z|z
   ·exact(My b hb).1.2.1 z
   ·exact(My b hb).1.2.2.1 z
 refine⟨okB,rfl,I.bare,Un.kept kp,⟨λ_=>none,?_,λi y av e1 e2 e3=>?_⟩,λy c e=>?_,?_,λy c e=>?_,λp hp=>?_,I.cR.kept kp,by rw[oj];exact I.len⟩
 ·show Heap.Ns _ iL.locals _;rw[hL];exact Heap.Ns.keeps (Heap.Ns.new ..) λb o e=>Hi _ _ _ _ e
 ·obtain⟨e2,gT⟩:=uk e2;have Ei:scope.names.lookup y=some .free/\(iL.kindOf y=some .cell\/iL.kindOf y=some .free):=by
   have key:∀k,iL.scope.names.lookup y=some k->k=.local\/k=.cell\/k=.free->scope.names.lookup y=some .free/\(iL.kindOf y=some .cell\/iL.kindOf y=some .free):=λk hk Mv=>by
    have hk0:=hk;rw[hsc] at hk;obtain⟨k',e,r⟩:=oW hk;have no:¬(k'=.local\/k'=.cell):=λhh=>by
     rcases ok.own _ (bT e) hh with e'|e'
     ·obtain⟨p,hp,hpy⟩:=cH.mp e';have e3:=ok.ix p hp;have:p.1=y:=hpy;rw[this] at e3;exact gT (cH.mpr ⟨p,hp,yi hN e3 e1⟩)
     ·exact e' (aL e1)
    rcases r with rfl|⟨rfl,rfl⟩
    ·rcases Mv with rfl|rfl|rfl
     ·exact absurd (.inl rfl) no
     ·exact absurd (.inr rfl) no
     ·exact⟨e,.inr hk0⟩
    ·exact⟨e,.inl hk0⟩
   have e3:Vis iL.scope y:=e3;rcases e3 with e3|e3|e3
   ·exact key _ e3 (.inl rfl)
   ·exact key _ e3 (.inr (.inl rfl))
   ·exact key _ e3 (.inr (.inr rfl))
  obtain⟨m,hn,hl⟩:=I.loc;have abE:Vis X.env.scope y:=(ok.free _ (bT Ei.1) rfl).elim (λk=>.inr (.inl k)) (λk=>.inr (.inr k));obtain⟨w,r,q⟩:=hl i y av e1 e2 abE;refine⟨w,r,.inr ⟨Ei.2,?_⟩⟩;obtain⟨c,h1,h2⟩:=look Ei.1;rcases q with ⟨k,_⟩|⟨_,c',e',z⟩
  ·have k:X.env.scope.names.lookup y=some .local:=k;rcases ok.free _ (bT Ei.1) rfl with k'|k' <;> rw[show X.env.scope.names.lookup y=_ from k'] at k <;> cases k
  ·rw[h2] at e';cases e';exact⟨c,h1,z.keeps kp⟩
 ·have e:iL.cells.lookup y=some c:=e;rcases mem e with ⟨h1,_⟩|⟨_,z⟩
  ·obtain⟨w,z⟩:=I.cell y c h1;exact⟨w,z.keeps kp⟩
  ·exact⟨_,z⟩
 ·show H iL.locals=none;rw[hL];exact I.cR.fresh (aA _)
 ·have e:iL.cells.lookup y=some c:=e;rcases mem e with ⟨h1,_⟩|⟨h1,_⟩
  ·exact I.o6 y c h1
  ·exact I.cR.fresh (Ld h1)
 ·grind
theorem WN{E:acX}{D:Addr}{xs:List V}{y:V}{v:Value}{Q:acX}(I:Inv X pins σ H s)(hD:H D=some (.lst xs))(hz:xs.length<sizeLine)(r:RelV y v) (h:∀s',Inv X pins σ (upd H D (.lst (xs++ [y]))) s'->Q .none s'):wpAny (model X.prog X.w) X.A (call (.builtin "list.append") [.ref D,v]) Q E s:=by
 obtain⟨hz',b6,n,ri,e⟩:=I.cR D _ hD;have hl:=ri.length;refine append_at (hsz:=by rw[bj];omega) e λh' sb Kw=>?_
 refine h {s with heap:=h'} (I.write (t':=s.toks) (by rw[hD];trivial) (.inl rfl) (λb u hb q=>(sb.2 b hb).trans q) ⟨_,Kw⟩ ⟨by rw[aw];exact hz,b6++ [v],n+1,ri.append (.cons r .nil),?_⟩);rw[Kw];simp
def PTs(X:Cx)(ifs:ac8)(t:TT):Prop:=
 ∀(pins:ada) (s:Shared) (σ:St) (H:Hp) (Q:Bool->Hp->Prop),Inv X pins σ H s->t σ H Q->
  wpAny (model X.prog X.w) X.A (forIn ifs true λc r=>if r=true then do let ok <-isTrue c X.env (eval c X.env);pure (ForInStep.yield ok) else pure (ForInStep.yield r)) (TP X pins σ Q) X.xe s
def aaS:TT:=λ_ H Q=>Q true H
theorem lE:PTs X [] aaS:=λ_ _ _ H _ I h=>wpAny_tests_nil ⟨H,I,h⟩
theorem JZ{c:Expr}{t:TT}(h:PT X c t):PTs X [c] t:=λpins s σ H Q I hw=>wpAny_tests_one (h pins s σ H Q I hw)
end
theorem Ls{α:Type}{t:Sem α}{Q Q':α->Shared->Prop}{M:Model}{A:Around}{E:acX}{s:Shared}(h:wpAny M A t Q (λ_ _=>False) s)(hQ:∀a s,Q a s->Q' a s):wpAny M A t Q' E s:=dk h hQ λ_ _ z=>False.elim z
theorem DW{prog:Program}{w:World}{A:Around}{R:Result->Shared->Prop}{s:Shared}{elt target iter:Expr}{ifs:ac8}{scope:Scope}{pos:Pos}{it acc:Value}{env:Env}(I:Nat->Shared->Prop) (turn:∀n s,I n s->wpAny (model prog w) A (pyNext it) (λr dX=>match r with
   |none=>R (.ok .next) dX
   |some v=>wpAny (model prog w) A (letOwnedTupleGo target it v) (λ_ Uc=>wpAny (model prog w) A (assign target env v) (λ_ kX=>
     wpAny (model prog w) A (forIn ifs true λc r=>if r=true then do let ok <-isTrue c env (eval c env);pure (ForInStep.yield ok) else pure (ForInStep.yield r)) (λok Lu=>
      if ok=true then wpAny (model prog w) A (eval elt env) (λx XW=>
       wpAny (model prog w) A (call (.builtin "list.append") [acc,x]) (λ_ XU=>∃m,m<n/\I m XU) (notedBy (model prog w) A env λe s'=>R (.error e) s') XW) (notedBy (model prog w) A env λe s'=>R (.error e) s') Lu
      else ∃m,m<n/\I m Lu) (notedBy (model prog w) A env λe s'=>R (.error e) s') kX) (notedBy (model prog w) A env λe s'=>R (.error e) s') Uc) (notedBy (model prog w) A env λe s'=>R (.error e) s') dX) (notedBy (model prog w) A env λe s'=>R (.error e) s') s)
  (n:Nat) (h:I n s):
  codeAny (model prog w) A (.compLoop (.ListComp elt [⟨target,iter,ifs,0⟩] scope pos) 0 it acc env) R s:=by
 refine codeAny_loop rfl I (λn s hI=>?_) n h;show wpAny _ A ((compTurn (.ListComp elt [⟨target,iter,ifs,0⟩] scope pos) 0 it acc env).onRaise (λx=>do noteFrame x env;theTreesLotGoes x)) _ _ s;refine wpAny_noted ?_;rw[compTurn_list];refine aa (wpAny_standAt (aa (dk (turn n s hI) (λr dX Mq=>?_) λ_ _ h'=>h')));cases r with
 |none=>exact ay Mq
 |some v=>
  refine aa (dk Mq (λ_ Uc Y7=>?_) λ_ _ h'=>h');refine aa (dk Y7 (λ_ kX Pz=>aa (dk Pz (λok Lu SG=>?_) λ_ _ h'=>h')) λ_ _ h'=>h');cases ok with
  |false=>exact ay ⟨rfl,SG⟩
  |true=>
   exact aa (aa (dk SG (λx XW abB=>aa (dk abB (λ_ XU abA=>ay (ay ⟨rfl,abA⟩)) λ_ _ h'=>h')) λ_ _ h'=>h'))
section
variable{X:Cx}
def tLc(wi:TI)(g:TG)(tt:TT)(te:TE)(vs:ac2):TE:=λσ H Q=>wi σ H λJ H1=>∀D,H1 D=none->∃W:Nat->Nat->Hp->Prop,(∃m,W 0 m (upd H1 D (.lst [])))/\∀i m H,W i m H->
 (J.stop i H/\Q (.ref D) H)\/(J.go i H/\∃Nx:Hp->Prop,(∀H',Nx H'->∃m',m'<m/\W (i+1) m' H')/\∀x H',J.Nc i H x H'->g x (wipe σ vs) H' λiJ H2=>wipe iJ vs=wipe σ vs/\tt iJ H2 λb H3=>
  if b=true then te iJ H3 λy H4=>∃acc,H4 D=some (.lst acc)/\acc.length<sizeLine/\Nx (upd H4 D (.lst (acc++ [y]))) else Nx H3)
theorem Kl{pins:ada}{s:Shared}{σ:St}{H:Hp}{Q:VK}{elt tg iter:Expr}{ifs:ac8}{scope:Scope}{own:List (Str×Nat)}{pos pos':Pos}{wi:TI}{g:TG}{tt:TT}{te:TE}{use:Option (Value->Sem Unit)}{Qf:acX} (hc:X.calm=true) (hN:X.N.Nodup) (I:Inv X pins σ H s) (hi:PI X tg iter wi) (ok:Hf X.N X.env.scope scope own) (hg:∀(s:Shared) (H:Hp) (C:Addr) (cl:List (Str×Addr)) (fp:ac1),PG (X.DZ s H scope (compEnvC scope cl C X.env) fp) tg g) (ht:∀(s:Shared) (H:Hp) (C:Addr) (cl:List (Str×Addr)) (fp:ac1),PTs (X.DZ s H scope (compEnvC scope cl C X.env) fp) ifs tt) (he:∀(s:Shared) (H:Hp) (C:Addr) (cl:List (Str×Addr)) (fp:ac1),PE (X.DZ s H scope (compEnvC scope cl C X.env) fp) elt te) (hs:∀x,foldedSetIterable iter X.env x=pure x) (h:tLc wi g tt te (own.map (·.2)) σ H Q) (hRR:∀D C s' m H',Inv X pins σ H' s'->Q (.ref D) H'->s'.heap.Ns C m->zh X pins H' C->compPost (model X.prog X.w) X.A X.xe use Qf (.ref D) C (.ok .next) s'): wpAny (model X.prog X.w) X.A (comprehension (.ListComp elt [⟨tg,iter,ifs,0⟩] scope pos) scope X.env pos' (newList []) false (eval iter X.env) use) Qf X.xe s:=by
 have Kz:∀y∈scope.names,y.2=.free->∃c,X.env.cells.lookup y.1=some c:=λy hy e=>by
  rcases ok.free y hy e with k|k
  ·exact I.ok.has _ (.inl k)
  ·exact I.ok.has _ (.inr k)
 refine wpAny_comprehension_free (use:=use) rfl hs (Jl Kz) ok.kind (λy hy e=>by rw[ok.uniq y hy,e])
  (d9 (hi pins s σ H _ I h) λxv s1 hx=>d9 hx λitv s2 h2=>?_)
 obtain⟨it,fp,tn,J,H2,e,I2,T,st2,f2,q⟩:=h2;subst e;refine c8 (Fy ?_) (F1 rfl);generalize hD:s2.heap.objs.size=D;have hDn:H2 D=none:=I2.cR.fresh (xr hD);obtain⟨W,⟨m0,w0⟩,turn⟩:=q D hDn;generalize W8:({s2 with heap:=s2.heap.push {cls:=.type "list",data:=.seq ([]:acY).toArray}}:Shared)=s3;have I3:Inv X pins σ (upd H2 D (.lst [])) s3:=by
  rw[<-W8];refine I2.laid (t':=s2.toks) (λb o e=>ax _ e) (xr hD) ⟨aD _,[],0,.nil,?_⟩;rw[<-hD];exact aQ _ rfl
 have h3:s3.heap=s2.heap.push {cls:=.type "list",data:=.seq ([]:acY).toArray}:=by rw[<-W8]
 have sz:∀b∈fp,b<s2.heap.objs.size:=λb hb=>by
  obtain⟨o,e,_⟩:=T.obj _ _ st2 b hb;exact aW e
 have f3:∀b∈fp,zh X pins (upd H2 D (.lst [])) b/\b<s3.heap.objs.size:=λb hb=>by
  have gV:=sz b hb;refine⟨⟨?_,(f2 b hb).2⟩,by rw[h3,dO];exact fj gV⟩;rw[aH (by rw[<-hD];exact bH gV)];exact(f2 b hb).1
 have st3:tn 0 s3.heap:=T.keep _ _ _ st2 λb _ o e=>by rw[h3];exact ax _ e
 have I4:=Ha I3 ok hN f3;have pg:=hg s3 (upd H2 D (.lst [])) s3.heap.objs.size (cellsFrom (s3.heap.objs.size+1) scope.names (dQ X.env.cells scope.names [])) fp;have pt:=ht s3 (upd H2 D (.lst [])) s3.heap.objs.size (cellsFrom (s3.heap.objs.size+1) scope.names (dQ X.env.cells scope.names [])) fp;have pe:=he s3 (upd H2 D (.lst [])) s3.heap.objs.size (cellsFrom (s3.heap.objs.size+1) scope.names (dQ X.env.cells scope.names [])) fp;show codeAny _ _ (.compStart (.ListComp elt [⟨tg,iter,ifs,0⟩] scope pos) 0 (.ref it) (.ref D) (compEnvC scope (cellsFrom (s3.heap.objs.size+1) scope.names (dQ X.env.cells scope.names [])) s3.heap.objs.size X.env)) (compPost (model X.prog X.w) X.A X.xe use Qf (.ref D) s3.heap.objs.size) {s3 with heap:=pushCells (s3.heap.push {cls:=.type "dict",data:=.dict #[]}) scope.names};have nfp:∀b∈fp,(upd H2 D (.lst [])) b=none:=λb hb=>(f3 b hb).1.1
 generalize hce:compEnvC scope (cellsFrom (s3.heap.objs.size+1) scope.names (dQ X.env.cells scope.names [])) s3.heap.objs.size X.env=ce at I4 pg pt pe ⊢;have cL:ce.locals=s3.heap.objs.size:=by subst hce;rfl
 generalize hH3:upd H2 D (.lst [])=H3 at I3 I4 pg pt pe w0 nfp f3;generalize Zi:({s3 with heap:=pushCells (s3.heap.push {cls:=.type "dict",data:=.dict #[]}) scope.names}:Shared)=s4 at I4 ⊢;have st4:tn 0 s4.heap:=T.keep _ _ _ st3 λb _ o e=>by rw[<-Zi];exact Hi _ _ _ _ (ax _ e)
 have HK:∀{eU:St} {H':Hp} {s':Shared},Inv (X.DZ s3 H3 scope ce fp) [] eU H' s'->(∀b∈fp,H' b=none)->∀b∈fp,zh (X.DZ s3 H3 scope ce fp) [] H' b:=λ{eU H' s'} I' hn b hb=>
  ⟨hn b hb,(I'.ok.exf b hb).1,I'.ok.Qw b hb,.inl hb,λx c e=>(I'.ok.exf b hb).2 x c e,λp hp=>absurd (show p∈([]:ada)++ [] from hp) (by simp)⟩
 have loop:codeAny (model X.prog X.w) X.A (.compLoop (.ListComp elt [⟨tg,iter,ifs,0⟩] scope pos) 0 (.ref it) (.ref D) ce) (compPost (model X.prog X.w) X.A X.xe use Qf (.ref D) s3.heap.objs.size) s4:=by
  refine DW (λn s'=>∃i H',Inv (X.DZ s3 H3 scope ce fp) [] (wipe σ (own.map (·.2))) H' s'/\tn i s'.heap/\(∀b∈fp,H' b=none)/\W i n H') ?_ m0 ⟨0,H3,I4,st4,nfp,w0⟩;rintro n s5 ⟨i,H5,I5,WW,n5,w5⟩;rcases turn i n H5 w5 with ⟨stop,qq⟩|⟨go,Nx,hNx,step⟩
  ·have td:=T.done (X.DZ s3 H3 scope ce fp) rfl rfl rfl hc i [] s5 _ H5 (λ_ _=>False) I5 (HK I5 n5) WW stop;refine Ls td λr s6 ⟨hr,I6⟩=>?_
   subst hr;have I7:Inv X pins σ H5 s6:=I3.aay (ch:=fp) I6.os I6.base I6.cR I6.bare λb hb=>⟨(f3 b hb).1.2.2.2.1,(f3 b hb).1.2.1,(f3 b hb).1.2.2.2.2.1,(f3 b hb).1.2.2.2.2.2⟩
   have nC:H5 s3.heap.objs.size=none:=by
    have z:H5 ce.locals=none:=I6.free;rw[cL] at z;exact z
   obtain⟨m,hn,_⟩:=I6.loc;have hn:s6.heap.Ns ce.locals m:=hn;rw[cL] at hn;exact hRR D s3.heap.objs.size s6 m H5 I7 qq hn (I3.Qn (aA _) nC)
  ·have ti:=T.item (X.DZ s3 H3 scope ce fp) rfl rfl rfl hc i [] s5 _ H5 (λ_ _=>False) I5 (HK I5 n5) WW go;refine Ls ti λr s6 ⟨u,hr,h6⟩=>?_
   subst hr;refine Ls h6 λ_ s7 ⟨x,H7,I7,r7,y7,st7,n7⟩=>?_
   have I7':=I7.pinned (HK I7 n7) (T.obj _ _ st7);refine Ls (pg _ s7 _ H7 x u _ I7' r7 (step x H7 y7)) λ_ s8 ⟨σ8,H8,I8,hw8,q8⟩=>?_
   refine Ls (pt _ s8 σ8 H8 _ I8 q8) λb s9 ⟨H9,I9,q9⟩=>?_
   have fin:∀{s':Shared} {H':Hp},Inv (X.DZ s3 H3 scope ce fp) ([]++xX fp s7.heap) σ8 H' s'->Nx H'->∃m,m<n/\∃i H',Inv (X.DZ s3 H3 scope ce fp) [] (wipe σ (own.map (·.2))) H' s'/\tn i s'.heap/\(∀b∈fp,H' b=none)/\W i m H':=λ{s' H'} I' nx=>by
    obtain⟨m',hm,w'⟩:=hNx H' nx;have YC:∀b∈fp,∀o,s7.heap.get? b=some o->s'.heap.get? b=some o/\H' b=none:=λb hb o e=>
     let z:=I'.pin (b,o) (cG _ (cG _ (rj hb e)))
     ⟨z.1,z.2.1⟩
    have hl:(wipe σ (own.map (·.2))).length=σ8.length:=by rw[<-hw8,oj]
    refine⟨m',hm,i+1,H',(I'.rY (pins:=[])).weak hl (λj v e=>?_),T.keep _ _ _ st7 λb hb o e=>(YC b hb o e).1,λb hb=>?_,w'⟩
    ·rw[<-hw8] at e;exact(uk e).1
    ·obtain⟨o,e,_⟩:=T.obj _ _ st7 b hb;exact(YC b hb o e).2
   cases b with
   |false=>
    grind
   |true=>
    simp only[T6] at q9 ⊢;refine Ls (pe _ s9 σ8 H9 _ I9 q9) λz WZ ⟨yv,Xu,I10,r10,acc,MH,abC,nx⟩=>?_
    exact WN (X:=X.DZ s3 H3 scope ce fp) I10 MH abC r10 λYf I11=>fin I11 nx
 exact codeAny_compStart_list loop (T.self X.A 0 _ _ _ st4 loop)
theorem sD{elt tg iter:Expr}{ifs:ac8}{scope:Scope}{own:List (Str×Nat)}{pos:Pos}{wi:TI}{g:TG}{tt:TT}{te:TE}(hc:X.calm=true)(hN:X.N.Nodup)(hi:PI X tg iter wi)(ok:Hf X.N X.env.scope scope own) (hg:∀(s:Shared) (H:Hp) (C:Addr) (cl:List (Str×Addr)) (fp:ac1),PG (X.DZ s H scope (compEnvC scope cl C X.env) fp) tg g) (ht:∀(s:Shared) (H:Hp) (C:Addr) (cl:List (Str×Addr)) (fp:ac1),PTs (X.DZ s H scope (compEnvC scope cl C X.env) fp) ifs tt) (he:∀(s:Shared) (H:Hp) (C:Addr) (cl:List (Str×Addr)) (fp:ac1),PE (X.DZ s H scope (compEnvC scope cl C X.env) fp) elt te) (hs:∀x,foldedSetIterable iter X.env x=pure x:=by intro _;rfl):
  PE X (.ListComp elt [⟨tg,iter,ifs,0⟩] scope pos) (tLc wi g tt te (own.map (·.2))):=by
 intro pins s σ H Q I h;rw[eval_ListComp];refine Kl hc hN I hi ok hg ht he hs h λD C s' m H' I' q hn f=>⟨m,hn,λh'' sb=>?_⟩
 obtain⟨f0,f1,f2,f3,f4,f5⟩:=f;exact⟨.ref D,H',I'.turned (t':=s'.toks) (λb o hb e=>(sb.2 b hb).trans e) f0 f1 f3 f4 f5,rfl,q⟩
theorem Ov{i:Nat}{y:Str}{py:Pos}{elt tg iter:Expr}{ifs:ac8}{scope:Scope}{own:List (Str×Nat)}{pos XX:Pos}{wi:TI}{g:TG}{tt:TT}{te:TE}(hc:X.calm=true)(hN:X.N.Nodup)(hy:X.N[i]?=some y)(W6:X.env.scope.names.lookup y=some .local) (hsw:swapsWith (.ListComp elt [⟨tg,iter,ifs,0⟩] scope pos) (some (.Name y py)) XX.line X.env=pure true) (hi:PI X tg iter wi) (ok:Hf X.N X.env.scope scope own) (hg:∀(s:Shared) (H:Hp) (C:Addr) (cl:List (Str×Addr)) (fp:ac1),PG (X.DZ s H scope (compEnvC scope cl C X.env) fp) tg g) (ht:∀(s:Shared) (H:Hp) (C:Addr) (cl:List (Str×Addr)) (fp:ac1),PTs (X.DZ s H scope (compEnvC scope cl C X.env) fp) ifs tt) (he:∀(s:Shared) (H:Hp) (C:Addr) (cl:List (Str×Addr)) (fp:ac1),PE (X.DZ s H scope (compEnvC scope cl C X.env) fp) elt te) (hs:∀x,foldedSetIterable iter X.env x=pure x:=by intro _;rfl):
  PS X (.Assign [.Name y py] (.ListComp elt [⟨tg,iter,ifs,0⟩] scope pos) XX) (RD (tLc wi g tt te (own.map (·.2))) (Bi i)):=by
 intro pins s σ H D I h;rw[exec_Assign_Name_used _ _ _ _ hsw];refine aa (wpAny_standAt (aa ?_));show wpAny _ X.A (do let _ <-comprehension (.ListComp elt [⟨tg,iter,ifs,0⟩] scope pos) scope X.env (firstIterPos [⟨tg,iter,ifs,0⟩] pos) (newList []) false (eval iter X.env) (some (assign (.Name y py) X.env))) _ _ s;have h:tLc wi g tt te (own.map (·.2)) σ H (λx H1=>Bi i x σ H1 D.nx):=h;refine aa (d9 (Kl (Qf:=λ_ s'=>SP X pins D .next s') hc hN I hi ok hg ht he hs h λL C s' m H' I' q hn f=>?_) λ_ s' hq=>ay (ay hq));show wpAny _ _ (assign (.Name y py) X.env (.ref L)) _ _ _;refine wpAny_assign_Name (AD (v:=V.ref L) I' hN hy (.inl W6) rfl (λs2 I2 ⟨a,sb,ha⟩=>?_) (.inr W6));obtain⟨f0,f1,f2,f3,f4,f5⟩:=f;have haC:C≠a:=by
  grind
 refine⟨m,hn.sameBut sb haC,λh3 sb3=>?_⟩;exact⟨_,H',I2.turned (t':=s2.toks) (λb o hb e=>(sb3.2 b hb).trans e) f0 f1 f3 f4 f5,q⟩
theorem RE{elt:Expr}{gs:List Comprehension}{scope:Scope}{pos py:Pos}{y:Str}{l:Nat}{env:Env}(hk:env.scope.kind=.function)(hy:env.scope.names.lookup y=some .local)(hl:(py.line==pos.line)=true) (ha:(scope.names.any λ(n,k)=>n==y&&(k==.local ||k==.cell))=false):swapsWith (.ListComp elt gs scope pos) (some (.Name y py)) l env=pure true:=by
 have ky:env.kindOf y=some .local:=hy;have hb:env.blockKind=.function:=by unfold Env.blockKind;rw[hk];rfl
 unfold swapsWith;simp only[hb,ky,ha,Expr.pos,hl];rfl
end
theorem wY{K:Frag}{a:Addr}{xs:List V}{g:TG}{tt:TT}{te:TE}{vs:ac2}{σ:St}{H1:Hp}{D:Addr}{Qd:Hp->Prop}(Pv:Nat->Hp->Prop)(h0:Pv 0 (upd H1 D (.lst [])))(hl:∀i H,i<=xs.length->Pv i H->cg K H a xs) (hs:∀i x H,xs[i]?=some x->Pv i H->g x (wipe σ vs) H λiJ H2=>wipe iJ vs=wipe σ vs/\tt iJ H2 λb H3=>
   if b=true then te iJ H3 λy H4=>∃acc,H4 D=some (.lst acc)/\acc.length<sizeLine/\Pv (i+1) (upd H4 D (.lst (acc++ [y]))) else Pv (i+1) H3) (hd:∀H,Pv xs.length H->Qd H):
  ∃W:Nat->Nat->Hp->Prop,(∃m,W 0 m (upd H1 D (.lst [])))/\∀i m H,W i m H->
   ((Q2 K a).stop i H/\Qd H)\/((Q2 K a).go i H/\∃Nx:Hp->Prop,(∀H',Nx H'->∃m',m'<m/\W (i+1) m' H')/\∀x H',(Q2 K a).Nc i H x H'->g x (wipe σ vs) H' λiJ H2=>wipe iJ vs=wipe σ vs/\tt iJ H2 λb H3=>
    if b=true then te iJ H3 λy H4=>∃acc,H4 D=some (.lst acc)/\acc.length<sizeLine/\Nx (upd H4 D (.lst (acc++ [y]))) else Nx H3):=by
 refine⟨λi m H=>m=xs.length - i/\i<=xs.length/\Pv i H,⟨xs.length,by simp,aD _,h0⟩,?_⟩;rintro i m H ⟨rfl,hi,p⟩;have q:=hl i H hi p;by_cases gV:i<xs.length
 ·refine .inr ⟨⟨xs,xs[i],q,by simp[gV]⟩,Pv (i+1),λH' p'=>⟨xs.length - (i+1),by omega,rfl,gV,p'⟩,λx H' y=>?_⟩;obtain⟨e,y⟩:=y;subst e;exact hs i x _ (y xs q) p
 ·have e:i=xs.length:=by omega
  subst e;exact .inl ⟨⟨xs,q,aA _⟩,hd H p⟩
theorem VG{K:Frag}{a:Addr}{xs:List V}{g:TG}{tt:TT}{te:TE}{vs:ac2}{σ:St}{H1:Hp}{D:Addr}{Qd:Hp->Prop}(Pv:Nat->Hp->Prop)(h0:Pv 0 (upd H1 D (.lst [])))(hl:∀i H,i<=xs.length->Pv i H->dJ K H a xs) (hs:∀i x H,xs[i]?=some x->Pv i H->g x (wipe σ vs) H λiJ H2=>wipe iJ vs=wipe σ vs/\tt iJ H2 λb H3=>
   if b=true then te iJ H3 λy H4=>∃acc,H4 D=some (.lst acc)/\acc.length<sizeLine/\Pv (i+1) (upd H4 D (.lst (acc++ [y]))) else Pv (i+1) H3) (hd:∀H,Pv xs.length H->Qd H):
  ∃W:Nat->Nat->Hp->Prop,(∃m,W 0 m (upd H1 D (.lst [])))/\∀i m H,W i m H->
   ((Q1 K a).stop i H/\Qd H)\/((Q1 K a).go i H/\∃Nx:Hp->Prop,(∀H',Nx H'->∃m',m'<m/\W (i+1) m' H')/\∀x H',(Q1 K a).Nc i H x H'->g x (wipe σ vs) H' λiJ H2=>wipe iJ vs=wipe σ vs/\tt iJ H2 λb H3=>
    if b=true then te iJ H3 λy H4=>∃acc,H4 D=some (.lst acc)/\acc.length<sizeLine/\Nx (upd H4 D (.lst (acc++ [y]))) else Nx H3):=by
 refine⟨λi m H=>m=xs.length - i/\i<=xs.length/\Pv i H,⟨xs.length,by simp,aD _,h0⟩,?_⟩;rintro i m H ⟨rfl,hi,p⟩;have q:=hl i H hi p;by_cases gV:i<xs.length
 ·refine .inr ⟨⟨xs,xs[i],q,by simp[gV]⟩,Pv (i+1),λH' p'=>⟨xs.length - (i+1),by omega,rfl,gV,p'⟩,λx H' y=>?_⟩;obtain⟨e,y⟩:=y;subst e;exact hs i x _ (y xs q) p
 ·have e:i=xs.length:=by omega
  subst e;exact .inl ⟨⟨xs,q,aA _⟩,hd H p⟩
def wH(N:ac5)(sc scope:Scope)(own:List (Str×Nat)):Bool:=
 (match scope.kind with | .function=>true|_=>false)&&(scope.names.all λy=>decide (scope.names.lookup y.1=some y.2))&&(own.all λp=>decide (N[p.2]?=some p.1))&&
  (scope.names.all λy=>match y.2 with
   | .free=>(match sc.names.lookup y.1 with |some .cell=>true|some .free=>true|_=>false)
   | .local=>decide (y.1∈own.map (·.1)) ||decide (y.1∉N)
   | .cell=>decide (y.1∈own.map (·.1)) ||decide (y.1∉N)
   |_=>true)
theorem g9{N:ac5}{sc scope:Scope}{own:List (Str×Nat)}(h:wH N sc scope own=true):Hf N sc scope own:=by
 unfold wH at h;simp only[aS,bU,fi] at h;obtain⟨⟨⟨h1,h2⟩,h3⟩,h4⟩:=h;refine⟨?_,h2,h3,λy hy e=>?_,λy hy e=>?_⟩
 ·split at h1
  ·assumption
  ·cases h1
 ·grind
 ·grind
end L2
namespace L2
open PySem PySem.Spec PyProof.Rows
section
variable{κ:Type}[DecidableEq κ]
def dB(kvs:List (κ×V))(k:κ):Option V:=(kvs.find? λkv=>decide (kv.1=k)).map (·.2)
def putK(kvs:List (κ×V))(k:κ)(v:V):List (κ×V):=
 if (kvs.any λkv=>decide (kv.1=k))=true then kvs.map (λkv=>if kv.1=k then(kv.1,v) else kv) else kvs++ [(k,v)]
theorem fF{p:κ×V}{r:List (κ×V)}{k:κ}(e:p.1=k):dB (p::r) k=some p.2:=by simp[dB,gp,e]
theorem fb{p:κ×V}{r:List (κ×V)}{k:κ}(e:¬p.1=k):dB (p::r) k=dB r k:=by simp[dB,gp,e]
theorem om(k:κ):∀kvs:List (κ×V),(kvs.any λkv=>decide (kv.1=k))=(dB kvs k).isSome
 | []=>rfl
 |p::r=>by
  rw[eX];by_cases e:p.1=k
  ·simp only[fF e,ai e,Bool.true_or,Option.isSome_some]
  ·rw[fb e,ag e,ui];exact om k r
theorem EB(k j:κ)(y:V):∀kvs:List (κ×V),dB (kvs.map λkv=>if kv.1=k then(kv.1,y) else kv) j=(dB kvs j).map λx=>if j=k then y else x
 | []=>rfl
 |p::r=>by
  have ih:=EB k j y r;rw[aK];by_cases h:p.1=k
  ·rw[ah h];by_cases e:p.1=j
   ·rw[fF (p:=(p.1,y)) e,fF e,bg,ah (e.symm.trans h)]
   ·rw[fb (p:=(p.1,y)) e,fb e,ih]
  ·rw[ae h];by_cases e:p.1=j
   ·rw[fF (p:=p) e,fF e,bg,ae (λz=>h (e.trans z))]
   ·rw[fb (p:=p) e,fb e,ih]
theorem AA(k j:κ)(y:V):∀kvs:List (κ×V),dB kvs k=none->dB (kvs++ [(k,y)]) j=if j=k then some y else dB kvs j
 | [],_=>by
  by_cases e:k=j
  ·rw[ah e.symm];exact fF (p:=(k,y)) e
  ·rw[ae (λz=>e z.symm)];exact fb (p:=(k,y)) e
 |p::r,hn=>by
  rw[cj];have hk:¬p.1=k:=λz=>by rw[fF z] at hn;cases hn
  rw[fb hk] at hn;have ih:=AA k j y r hn;by_cases e:p.1=j
  ·rw[fF e,fF e,ae (λz=>hk (e.trans z))]
  ·rw[fb e,fb e,ih]
theorem iQ(kvs:List (κ×V))(k j:κ)(y:V):dB (putK kvs k y) j=if j=k then some y else dB kvs j:=by
 unfold putK;by_cases a:(kvs.any λkv=>decide (kv.1=k))=true
 ·rw[ah a,EB];rw[om] at a;by_cases e:j=k
  ·obtain⟨x,hx⟩:=XB.mp a;rw[ah e,e,hx,bg,ah rfl]
  ·rw[ae e];cases dB kvs j with
   |none=>rfl
   |some x=>rw[bg,ae e]
 ·rw[ae a];refine AA k j y kvs ?_;rw[om] at a;cases q:dB kvs k with
  |none=>rfl
  |some x=>rw[q] at a;exact(a rfl).elim
theorem lI(kvs:List (κ×V))(k:κ)(v:V):(putK kvs k v).length<=kvs.length+1:=by
 unfold putK
 grind
theorem mv.kT{o:Option V}{u:Option Value}(r:mv o u):o.isSome=u.isSome:=by
 cases o with
 |none=>cases u with
  |none=>rfl
  |some _=>exact(show False from r).elim
 |some _=>cases u with
  |none=>exact(show False from r).elim
  |some _=>rfl
theorem mv.getD{o:Option V}{u:Option Value}{d:V}{d':Value}(r:mv o u)(rd:RelV d d'):RelV (o.getD d) (u.getD d'):=by
 cases o with
 |none=>cases u with
  |none=>exact rd
  |some _=>exact(show False from r).elim
 |some _=>cases u with
  |none=>exact(show False from r).elim
  |some _=>exact r
theorem KV.val{kvs:List (κ×V)}{vs:List (κ×Value)}(r:KV kvs vs)(k:κ):mv (dB kvs k) (valueAt vs k):=by
 unfold KV at r
 induction r with
 |nil=>exact True.intro
 |@cons p q ps qs h t ih=>
  obtain⟨h1,h2⟩:=h;by_cases e:p.1=k
  ·have e':q.1=k:=h1.symm.trans e;have b:valueAt (q::qs) k=some q.2:=by simp[valueAt,gp,e']
   rw[fF e,b];exact h2
  ·have e':¬q.1=k:=λz=>e (h1.trans z)
   have b:valueAt (q::qs) k=valueAt qs k:=by simp[valueAt,gp,e']
   rw[fb e,b];exact ih
theorem KV.any{kvs:List (κ×V)}{vs:List (κ×Value)}(r:KV kvs vs)(k:κ):(kvs.any λkv=>decide (kv.1=k))=vs.any λkv=>decide (kv.1=k):=by
 unfold KV at r
 induction r with
 |nil=>rfl
 |cons h t ih=>rw[eX,eX,ih,h.1]
theorem KV.Og{kvs:List (κ×V)}{vs:List (κ×Value)}(r:KV kvs vs)(k:κ){y:V}{u:Value}(ry:RelV y u): KV (kvs.map λkv=>if kv.1=k then(kv.1,y) else kv) (vs.map λkv=>if kv.1=k then(kv.1,u) else kv):=by
 unfold KV at r ⊢
 induction r with
 |nil=>exact .nil
 |@cons p q ps qs h t ih=>
  rw[aK,aK];refine .cons ?_ ih
  grind
theorem KV.put{kvs:List (κ×V)}{vs:List (κ×Value)}(r:KV kvs vs)(k:κ){y:V}{u:Value}(ry:RelV y u):KV (putK kvs k y) (stored vs k u):=by
 unfold putK stored;rw[r.any k];by_cases e:(vs.any λkv=>decide (kv.1=k))=true
 ·rw[ah e,ah e];exact r.Og k ry
 ·rw[ae e,ae e];exact Paired.snoc r ⟨rfl,ry⟩
theorem KV.length{kvs:List (κ×V)}{vs:List (κ×Value)}(r:KV kvs vs):kvs.length=vs.length:=bc r
end
theorem Kn{P:Program}{w:World}{k:Key}{u:Value}(r:RelV (kV k) u):(gQ P w).is k u=true:=by
 cases k with
 |inl i=>obtain⟨t,e⟩:=(show ∃t,u=Value.int i t from r);subst e;exact FP P w i t
 |inr x=>obtain⟨t,e⟩:=(show ∃t,u=Value.str x t from r);subst e;exact FO P w x t
theorem Bd{P:Program}{w:World}:∀{ks:List Key} {us:acY},cu (ks.map kV) us->ItemsAre (gQ P w) ks us
 | [],_,r=>by rw[il] at r;cases r;exact .nil
 |k::ks,_,r=>by
  rw[aK] at r;cases r with
  |cons h t=>exact .cons (Kn h) (Bd t)
abbrev KT(H:Hp):List (List Key×V)->List (List Key×Addr×Value)->Prop:=Paired λp q=>p.1=q.1/\H q.2.1=some (.tup (p.1.map kV))/\RelV p.2 q.2.2
theorem KT.val{H:Hp}{kvs:List (List Key×V)}{xs:List (List Key×Addr×Value)}(r:KT H kvs xs)(k:List Key):mv (dB kvs k) ((atKey xs k).map (·.2)):=by
 induction r with
 |nil=>exact True.intro
 |@cons p q ps qs h t ih=>
  obtain⟨h1,_,h2⟩:=h;by_cases e:p.1=k
  ·have e':q.1=k:=h1.symm.trans e;have b:atKey (q::qs) k=some q.2:=by simp[atKey,gp,e']
   rw[fF e,b];exact h2
  ·have e':¬q.1=k:=λz=>e (h1.trans z)
   have b:atKey (q::qs) k=atKey qs k:=by simp[atKey,gp,e']
   rw[fb e,b];exact ih
theorem KT.Og{H:Hp}{kvs:List (List Key×V)}{xs:List (List Key×Addr×Value)}(r:KT H kvs xs)(k:List Key){y:V}{u:Value}(ry:RelV y u): KT H (kvs.map λkv=>if kv.1=k then(kv.1,y) else kv) (xs.map (putAt k u)):=by
 induction r with
 |nil=>exact .nil
 |@cons p q ps qs h t ih=>
  rw[aK,aK];refine .cons ?_ ih;obtain⟨h1,h2,h3⟩:=h;unfold putAt
  grind
theorem KT.put{H:Hp}{kvs:List (List Key×V)}{xs:List (List Key×Addr×Value)}(r:KT H kvs xs)(k:List Key){b:Addr}{y:V}{u:Value}(hb:H b=some (.tup (k.map kV)))(ry:RelV y u): KT H (putK kvs k y) (storedH xs k b u):=by
 have e:(kvs.any λkv=>decide (kv.1=k))=(atKey xs k).isSome:=by
  rw[om,(r.val k).kT,lS]
 unfold putK storedH;rw[e];by_cases q:(atKey xs k).isSome=true
 ·rw[ah q,ah q];exact r.Og k ry
 ·rw[ae q,ae q];exact Paired.snoc r ⟨rfl,hb,ry⟩
theorem KT.keeps{H H':Hp}{kvs:List (List Key×V)}{xs:List (List Key×Addr×Value)}(r:KT H kvs xs)(ht:∀b ys,H b=some (.tup ys)->H' b=some (.tup ys)):KT H' kvs xs:=
 Paired.ee r λ_ _ z=>⟨z.1,ht _ _ z.2.1,z.2.2⟩
section
variable{P:Program}{w:World}{H:Hp}{h:Heap}{a:Addr}
theorem Um{u:HO}(ok:pB P w H h)(e:Rd H a u):fg P w H h a u:=e.ok ok
theorem KW{kvs:List (Key×V)}(ok:pB P w H h)(e:Rd H a (.dK kvs)):kvs.length<=sizeLine/\(a==sysModules)=false/\∃vs,KV kvs vs/\h.DictOf (gQ P w) a vs:=
 show fg P w H h a (.dK kvs) from Um ok e
theorem aau{kvs:List (Key×V)}(ok:pB P w H h)(e:H a=some (.dK kvs)):kvs.length<=sizeLine/\(a==sysModules)=false/\∃vs,KV kvs vs/\h.DictOf (gQ P w) a vs:=KW ok (.inl e)
theorem CY{ks:List Key}(ok:pB P w H h)(e:H a=some (.tup (ks.map kV))):(tupleKind (gQ P w)).is h ks a:=by
 obtain⟨_,b6,r,o,h1,h2,n,h3⟩:=(show fg P w H h a (.tup (ks.map kV)) from ok a _ e);exact⟨o,b6.toArray,n,h1,h2,h3,by simpa using Bd r⟩
theorem KP{kvs:List (List Key×V)}(ok:pB P w H h)(e:Rd H a (.dT kvs)):kvs.length<=sizeLine/\(a==sysModules)=false/\ ∃xs,KT H kvs xs/\h.DictOfH (tupleKind (gQ P w)) a xs:=by
 obtain⟨z,y,xs,r,o,es,ep,h1,h2,h3,h4,h5⟩:=(show fg P w H h a (.dT kvs) from Um ok e);refine⟨z,y,xs,r,o,es,ep,h1,h2,h3,h4,λx hx=>?_,h5⟩;have all:∀{l:List (List Key×V)} {m:List (List Key×Addr×Value)},KT H l m->∀x∈m,(tupleKind (gQ P w)).is h x.1 x.2.1:=by
  intro l m q
  induction q with
  |nil=>intro x hx;exact nomatch hx
  |@cons p q ps qs hq t ih=>
   intro x hx;rcases ba.mp hx with e|hx
   ·subst e;exact CY ok (by rw[<-hq.1];exact hq.2.1)
   ·exact ih x hx
 exact all r x hx
theorem aar{kvs:List (List Key×V)}(ok:pB P w H h)(e:H a=some (.dT kvs)):kvs.length<=sizeLine/\(a==sysModules)=false/\ ∃xs,KT H kvs xs/\h.DictOfH (tupleKind (gQ P w)) a xs:=KP ok (.inl e)
end
def wJ(H:Hp)(a:Addr)(y:V)(r:Option V):Prop:=
 (∃kvs k,Rd H a (.dK kvs)/\y=kV k/\r=dB kvs k)\/∃kvs k b,Rd H a (.dT kvs)/\y=.ref b/\H b=some (.tup (k.map kV))/\r=dB kvs k
def Q5(H:Hp)(a:Addr)(y v:V)(H':Hp):Prop:=
 (∃kvs k,H a=some (.dK kvs)/\y=kV k/\kvs.length<sizeLine/\H'=upd H a (.dK (putK kvs k v)))\/
 ∃kvs k b,H a=some (.dT kvs)/\y=.ref b/\H b=some (.tup (k.map kV))/\kvs.length<sizeLine/\H'=upd H a (.dT (putK kvs k v))
theorem wJ.k{H:Hp}{a:Addr}{kvs:List (Key×V)}{k:Key}(e:H a=some (.dK kvs)):wJ H a (kV k) (dB kvs k):=.inl ⟨kvs,k,.inl e,rfl,rfl⟩
theorem Q5.k{H:Hp}{a:Addr}{kvs:List (Key×V)}{k:Key}{v:V}(e:H a=some (.dK kvs))(hl:kvs.length<sizeLine):Q5 H a (kV k) v (upd H a (.dK (putK kvs k v))):=.inl ⟨kvs,k,e,rfl,hl,rfl⟩
section
variable{X:Cx}{pins:ada}{σ:St}{H:Hp}{s:Shared}{a:Addr}{y v:V}{u r:Value}{o:Option V}{A:Around}{E:acX}
theorem Inv.big(I:Inv X pins σ H s):sysModules<s.heap.objs.size:=by
 have h:mainGlobals<s.heap.objs.size:=(I.mod.glob.keeps I.bk).lt;exact Lc (by decide) h
theorem MS{Q:acX}(hu:A.units+1<cLine)(I:Inv X pins σ H s)(g:wJ H a y (some v))(ry:RelV y u)(h:∀w' s',Inv X pins σ H s'->RelV v w'->Q w' s'): wpAny (model X.prog X.w) A (getItem (.ref a) u) Q E s:=by
 rcases g with ⟨kvs,k,e,ey,l⟩|⟨kvs,k,b,e,ey,eb,l⟩
 ·subst ey;obtain⟨z,hd,vs,rel,dd⟩:=KW I.cR e;obtain⟨w',hw,HW⟩:=mv.some_of (v:=v) (o:=valueAt vs k) (by rw[l];exact rel.val k);exact wpAny_getItem_of (Kn ry) dd.mapOf hw (h w' _ (I.tok _) HW)
 ·subst ey;cases (show u=Value.ref b from ry);obtain⟨z,hd,xs,rel,dd⟩:=KP I.cR e;obtain⟨w',hw,HW⟩:=mv.some_of (v:=v) (o:=(atKey xs k).map (·.2)) (by rw[l];exact rel.val k);obtain⟨p,hp,wb⟩:=xn.mp hw;refine wpAny_getItem_heap (Rp hu) (CY I.cR eb) dd hp ?_;rw[wb];exact h w' _ (I.tok _) HW
theorem Tw{Q:acX}(hu:A.units+1<cLine)(I:Inv X pins σ H s)(g:wJ H a y o)(ry:RelV y u)(h:∀s',Inv X pins σ H s'->Q (.bool (!o.isSome)) s'): wpAny (model X.prog X.w) A (compareOp .NotIn u (.ref a)) Q E s:=by
 rcases g with ⟨kvs,k,e,ey,l⟩|⟨kvs,k,b,e,ey,eb,l⟩
 ·subst ey;obtain⟨z,hd,vs,rel,dd⟩:=KW I.cR e;refine wpAny_notIn_of (Kn ry) hd dd.mapOf ?_;rw[<-(rel.val k).kT,<-l];exact h _ (I.tok _)
 ·subst ey;cases (show u=Value.ref b from ry);obtain⟨z,hd,xs,rel,dd⟩:=KP I.cR e;refine wpAny_notIn_heap (Rp hu) (CY I.cR eb) hd dd ?_;have q:=(rel.val k).kT;rw[lS] at q;rw[<-q,<-l];exact h _ (I.tok _)
theorem DL{h':Heap}{t':Nat}{ob:HO}(I:Inv X pins σ H s)(mu:Mut (H a))(hs:Heap.SameBut a s.heap h')(he:∃q,h'.get? a=some q)(new:fg X.prog X.w (upd H a ob) h' a ob): Inv X pins σ (upd H a ob) {s with heap:=h',toks:=t'}:=
 I.write (x:=a) (e:=a) mu (.inl rfl) (λb q hb z=>(hs.2 b hb).trans z) he new
theorem WA{P:Program}{w:World}{H':Hp}{h':Heap}{kvs:List (Key×V)}{vs:List (Key×Value)}(z:kvs.length<=sizeLine)(hd:(a==sysModules)=false)(rel:KV kvs vs)(dd:h'.DictOf (gQ P w) a vs): fg P w H' h' a (.dK kvs):=⟨z,hd,vs,rel,dd⟩
theorem MO{H':Hp}{Q:Unit->Shared->Prop}(hu:A.units+1<cLine)(I:Inv X pins σ H s)(g:Q5 H a y v H')(ry:RelV y u)(rv:RelV v r)(h:∀s',Inv X pins σ H' s'->Q () s'): wpAny (model X.prog X.w) A (setItem (.ref a) u r) Q E s:=by
 rcases g with ⟨kvs,k,e,ey,l,eH⟩|⟨kvs,k,b,e,ey,eb,l,eH⟩
 ·subst ey eH;obtain⟨z,hd,vs,rel,dd⟩:=aau I.cR e;have hz:vs.length<=sizeLine:=by rw[<-rel.length];exact z
  have hl:(putK kvs k v).length<=sizeLine:=by have:=lI kvs k v;omega
  refine wpAny_setItem_pairs (hsz:=hz) (Kn ry) dd λh' UP hs=>h _ ?_
  have he:∃q,h'.get? a=some q:=let ⟨q,_,_,hq,_⟩:=UP;⟨q,hq⟩;exact DL I (by rw[e];exact True.intro) hs he (WA hl hd (rel.put k rv) UP)
 ·subst ey eH;cases (show u=Value.ref b from ry);obtain⟨z,hd,xs,rel,dd⟩:=aar I.cR e;have hz:xs.length<=sizeLine:=by rw[<-bc rel];exact z
  have hl:(putK kvs k v).length<=sizeLine:=by have:=lI kvs k v;omega
  refine wpAny_setItem_heap (hsz:=hz) (Rp hu) (CY I.cR eb) dd λh' UP hs=>h _ ?_
  obtain⟨q,es,ep,hq,h2,h3,h4,_,h5⟩:=UP;refine DL I (by rw[e];exact True.intro) hs ⟨q,hq⟩ ⟨hl,hd,_,(rel.put k eb rv).keeps λc ys ec=>?_,q,es,ep,hq,h2,h3,h4,h5⟩;rw[aH (bW ec e nofun)];exact ec
end
def WQ(i:Expr):Prop:=∀ov iv,subscripted i false ov iv=operate [ov,iv] (getItem ov iv)
theorem JF{prog:Program}{w:World}{A:Around}{E:acX}{s:Shared}{env:Env}{value slice:Expr}{pos:Pos}{T id:String}{Q:acX} (hl:typeLookup (.type T) "__getitem__"=pure (some (.builtin id))) (hs:WQ slice) (h:wpAny (model prog w) A (eval value env) (λo dX=>wpAny (model prog w) A (eval slice env) (λi kX=>kX.TypeIs o T/\wpAny (model prog w) A (getItem o i) Q E kX) E dX) E s): wpAny (model prog w) A (eval (.Subscript value slice pos) env) Q E s:=by
 refine Subscript_ (dk h (λo dX Mq=>dk Mq (λi kX Pz=>?_) λ_ _ x=>x) λ_ _ x=>x);obtain⟨hT,Pz⟩:=Pz;unfold subscriptTail;refine aa ?_;rw[getitemInPython_of_ne hT.not_modules];refine aa (dU hT hl ?_);have fin:wpAny (model prog w) A (subscripted slice false o i) (λr Lu=>wpAny (model prog w) A (letTemporaryGo value o r >>=λ_=>pure r) Q E Lu) E kX:=by
  rw[hs o i];exact wpAny_operating (dk Pz (λr Lu SG=>aa (wpAny_letTemporaryGo (ay SG))) λ_ _ x=>x)
 first
  |exact ay (aa fin)
  |exact aa (ay (aa fin))
  |exact aa fin
theorem GS{X:Cx}{pins:ada}{σ:St}{H:Hp}{s:Shared}{a:Addr}{y:V}{o:Option V}(I:Inv X pins σ H s)(g:wJ H a y o):s.TypeIs (.ref a) "dict":=by
 rcases g with ⟨kvs,k,e,_,_⟩|⟨kvs,k,b,e,_,_,_⟩
 ·obtain⟨_,_,vs,_,dd⟩:=KW I.cR e;exact dd.typeIs
 ·obtain⟨_,_,xs,_,dd⟩:=KP I.cR e;exact dd.typeIs
def XR(td ty:TE):TE:=λσ H Q=>td σ H λx H1=>ty σ H1 λy H2=>∃a v,x=.ref a/\wJ H2 a y (some v)/\Q v H2
def RC(ty td:TE):TE:=λσ H Q=>ty σ H λy H1=>td σ H1 λx H2=>∃a o,x=.ref a/\wJ H2 a y o/\Q (.bl (!o.isSome)) H2
def Yc(td ty tv:TE):TS:=λD σ H=>tv σ H λv H1=>td σ H1 λx H2=>ty σ H2 λy H3=>∃a H4,x=.ref a/\Q5 H3 a y v H4/\D.nx σ H4
section
variable{X:Cx}{o i e value:Expr}{pos pos' Lr:Pos}{td ty tv:TE}
theorem J8(hu:X.A.units+1<cLine)(ho:PE X o td)(hi:PE X i ty)(hs:WQ i):PE X (.Subscript o i pos) (XR td ty):=by
 intro pins s σ H Q I h;refine JF WS.lookup hs (d9 (ho pins s σ H _ I h) λu s1 ⟨x,H1,I1,rx,q1⟩=>d9 (hi pins s1 σ H1 _ I1 q1) λiv s2 ⟨y,H2,I2,ry,a,v,ex,g,q2⟩=>?_);subst ex;obtain rfl:u=Value.ref a:=rx;exact⟨GS I2 g,MS hu I2 g ry λw' s3 I3 HW=>⟨v,H2,I3,HW,q2⟩⟩
theorem AW(hu:X.A.units+1<cLine)(hi:PE X i ty)(ho:PE X o td):PC X .NotIn i o (RC ty td):=by
 intro pins s σ H Q I h;refine d9 (hi pins s σ H _ I h) λiv s1 ⟨y,H1,I1,ry,q1⟩=>d9 (ho pins s1 σ H1 _ I1 q1) λu s2 ⟨x,H2,I2,rx,a,ov,ex,g,q2⟩=>?_
 subst ex;obtain rfl:u=Value.ref a:=rx;exact Tw hu I2 g ry λs3 I3=>⟨.bl (!ov.isSome),H2,I3,rfl,q2⟩
theorem RM(hu:X.A.units+1<cLine)(ho:PE X o td)(hi:PE X i ty)(hv:PE X value tv)(hs:swapsWith value (some (.Subscript o i pos')) pos.line X.env=pure false): PS X (.Assign [.Subscript o i pos'] value pos) (Yc td ty tv):=by
 intro pins s σ H D I h;refine wpAny_Assign_Subscript (d9 (hv pins s σ H _ I h) λr s1 ⟨v,H1,I1,rv,q1⟩=>d9 (ho pins s1 σ H1 _ I1 q1) λu s2 ⟨x,H2,I2,rx,q2⟩=>d9 (hi pins s2 σ H2 _ I2 q2) λiv s3 ⟨y,H3,I3,ry,a,H4,ex,g,q3⟩=>?_) hs;subst ex;obtain rfl:u=Value.ref a:=rx;exact MO hu I3 g ry rv λs4 I4=>⟨σ,H4,I4,q3⟩
end
theorem QC{P:Program}{w:World}{H:Hp}(h:Heap)(hb:sysModules<h.objs.size):fg P w H (h.push {cls:=.type "dict",data:=.dict #[]}) h.objs.size (.dK []):=
 ⟨aD _,cc.mpr (cv (bH hb)),[],.nil,Heap.DictOf.new h⟩
def U4:TE:=λ_ H Q=>∀p,H p=none->Q (.ref p) (upd H p (.dK []))
section
variable{X:Cx}{pos:Pos}
theorem Fg:PE X (.Dict [] [] pos) U4:=λpins s σ H Q I h=>
 wpAny_Dict_empty ⟨.ref s.heap.objs.size,_,I.laid (a:=s.heap.objs.size) (o:=.dK []) (t':=s.toks) (λ_ _ q=>ax _ q) (aA _) (QC s.heap I.big),rfl,h _ (I.cR.fresh (aA _))⟩
end
structure M2(X:Cx)(o:Expr)(m:Str)(apos:Pos)(e f:Expr)(ji:Pos):Prop where
 base:attributeBase o m X.env (eval o X.env)=eval o X.env
 few:((backTo ji (starEach [e,f] X.env)).all (λx=>!x.1)&&(backToKw ji (keywordEach [] X.env)).all (λx=>x.1.isSome)
  &&decide (([e,f]:ac8).length+([]:List Keyword).length+(if ([]:List Keyword).isEmpty then 0 else 1)<30))=true
 line:(apos.endLine==ji.line)=true
 trees:backTo ji (starEach [e,f] X.env)=[(false,eval e X.env),(false,eval f X.env)]
end L2
namespace L2
open PySem PySem.Spec PyProof.Rows
theorem yw:typeLookup (.type "list") "keys"=pure none:=am_miss_of_fast (by first |decide +kernel|rfl)
theorem EE:entryFor table "dict.update.loop"=some Builtin.«dict.update.loop»:=entryFor_of_tree (by kernel_rfl)
theorem oq:plainId "dict.update.loop"=true:=by decide +kernel
section
variable{prog:Program}{w:World}{A:Around}{E:acX}
theorem L8{s:Shared}{a:Addr}{o:Obj}{xs:ac6}{k:Nat}{Q:Option Value->Shared->Prop}(hx:s.heap.get? a=some o)(hc:o.cls=.type "list")(Di:o.data=.seq xs k)(hd:o.dict=none)(hA:A.handled=none) (h:∀h' tk,(∀b ob,s.heap.get? b=some ob->h'.get? b=some ob)->Q none {s with heap:=h',toks:=tk}):wpAny (model prog w) A (getAttr? (.ref a) "keys") Q E s:=by
 obtain⟨c,dct,dat,sl⟩:=o;simp only at hc Di hd;subst hc Di hd;obtain⟨hp,g,d,tk,os⟩:=s;have hT:∀tk',(⟨hp,g,d,tk',os⟩:Shared).TypeIs (.ref a) "list":=λ_=>⟨_,hx,rfl⟩
 have Zz:=yw;have Zy:(["__module__","__name__","__qualname__","__doc__","__annotations__"]:ac5).contains "keys"=false:=by decide +kernel
 have hsz:("keys":Str).length+100<=sizeLine:=by first |size_fits|decide +kernel
 have f1:=sub_AttributeError;have f3:=mT.lookup;have f4:=mT.bind (.ref a);have f5:=am_list_getattr_none;unfold getAttr? getAttrBy? getAttrBy
 repeat (any_goals (first |assumption|exact hT _|((with_reducible show wpAny _ _ (call (Value.builtin "list.__getattribute__") _ _) _ _ _);refine Eu mT (hT _) am_entry_list_getattribute (PySem.F.args_list_getattribute_2 _ _) (meets_getattribute_miss_list a xs k sl "keys" _ Zz Zy hsz) ⟨hx,hA,λh' tk' e Rb=>?_⟩)|wp_step))
 obtain⟨t',u',he⟩:=Rb.there;show wpAny _ _ (getattributeRaised _ _ _ _ _ _ _) _ _ _;unfold getattributeRaised
 repeat (any_goals (first |assumption|wp_step))
 all_goals first |exact h _ _ Rb.keeps|(dsimp only;repeat (any_goals (first |assumption|exact h _ _ Rb.keeps|wp_step)))
end
section
variable{X:Cx}
theorem JX:∀{ps:ac1} {us:acY},cu (ps.map V.ref) us->us=ps.map Value.ref
 | [],us,r=>by
  rw[il] at r;cases r;rfl
 |p::ps,us,r=>by
  rw[aK] at r;cases r with
  |cons h t=>
   cases h;rw[aK,<-JX t]
end
end L2
namespace L2
open PySem PySem.Spec PyProof.Rows
theorem y9:bootBuiltins "reversed"=some (.type "reversed"):=by decide +kernel
section
variable{X:Cx}{pins:ada}{σ:St}{H:Hp}{s:Shared}{h':Heap}
theorem Inv.Lm{t':Nat}{ch:ac1}{T:Addr}{ob:HO}(I:Inv X pins σ H s)(k:∀b o,b∉ch->s.heap.get? b=some o->h'.get? b=some o)(hf:∀b∈ch,zh X pins H b)(hT:s.heap.objs.size<=T) (new:fg X.prog X.w (upd H T ob) h' T ob):Inv X pins σ (upd H T ob) {s with heap:=h',toks:=t'}:=by
 have hn:H T=none:=I.cR.fresh hT;have nit:∀b u,H b=some u->b∉ch:=λb u e z=>by
  have q:=(hf b z).1;rw[q] at e;cases e
 refine I.step (g':=s.gens) (d':=s.drawn) (ch:=ch) (λb hb=>⟨(hf b hb).2.2.2.1,(hf b hb).2.1,(hf b hb).2.2.2.2.1,(hf b hb).2.2.2.2.2⟩) (λb o _ _ hc e _=>k b o hc e) (λb o _ _ hc e _=>⟨o.slots,k b o hc e⟩)
  (λb o _ e n=>?_) (λb o hc e=>⟨o,k b o hc e⟩) (λb xs e=>?_) (λb o u e=>?_) (λb ps e=>⟨#[],?_⟩) (λm hm=>?_) (λb u e=>?_) I.bare
 ·rw[aH (bH (bM (aW e) hT))];exact n
 ·rw[aH (bo e hn)];exact e
 ·rw[aH (bo e hn)];exact e
 ·rw[aH (bo e hn),e];simp
 ·obtain⟨o,es,ep,ho,r⟩:=hm;exact⟨o,es,ep,k _ o (λz=>(hf _ z).2.1 rfl) ho,r⟩
 ·by_cases hb:b=T
  ·subst hb;rw[ak] at e;cases e;exact new
  ·rw[aH hb] at e;refine(I.cR b u e).Lw (λc v hc q=>k c v ?_ q) (λc q=>by rw[aH (bo q hn)];exact q) λc xs q=>by rw[aH (bo q hn)];exact q
   grind
end
def UT(K:Frag)(a:Addr):It:=
 ⟨λi H=>∃(xs:List V) (x:V),cg K H a xs/\xs[i]?=some x,λi H v H'=>∃T x,v=.ref T/\H T=none/\H'=upd H T (.tup [.int i,x])/\∀xs,cg K H a xs->xs[i]?=some x,λi H=>∃xs:List V,cg K H a xs/\xs.length<=i⟩
theorem Lo{P:Program}{w:World}{K:Frag}{elts:ac8}{kk:Nat}{Lr:Pos}(a e it:Addr): Turn P w K (.Tuple elts kk Lr) (UT K a) [e,it] e (λi h=>(∃old,IsEnum h e it (i:Int) old)/\h.IsListIter it a i/\e≠it) where
 mem:=by simp
 obj:=λi h st b hb=>by
  obtain⟨⟨old,he⟩,⟨o,ho,hc,hd⟩,_⟩:=st
  grind
 keep:=λi h h' st k=>let ⟨⟨old,he⟩,hi,gT⟩:=st;⟨⟨old,k e (by simp) _ he⟩,hi.at λo q=>k it (by simp) o q,gT⟩
 item:=by
  intro X hP hw hK hc i pins s σ H E I hf st hg;subst hP hw hK;obtain⟨⟨old,he⟩,hit,gT⟩:=st;obtain⟨xs,x,hq,hx⟩:=hg;obtain⟨b6,rv,p,hz⟩:=I.list hq;obtain⟨u,hu,ru⟩:=rv.get hx;have UE:e<s.heap.objs.size:=aW he;have Nk:it<s.heap.objs.size:=by obtain⟨_,q,_⟩:=hit;exact aW q
  refine wpAny_pyNext_enum_item he hit p.isList (x:=u) (by simpa using hu) gT λh' ho IS hT hsz hk=>?_
  refine⟨_,rfl,wpAny_letOwnedTupleGo_enum (s:={s with heap:=h',toks:=s.toks+1}) ho λh'' he' sb=>?_⟩;have hT2:h''.get? s.heap.objs.size=some {cls:=.type "tuple",data:=.seq #[.int i s.toks,u]}:=(sb.2 _ (qf UE)).trans hT;have new:fg X.prog X.w (upd H s.heap.objs.size (.tup [.int i,x])) h'' s.heap.objs.size (.tup [.int i,x]):=
   ⟨by show 2<=sizeLine;decide,[.int i s.toks,u],.cons ⟨_,rfl⟩ (.cons ru .nil),⟨_,hT2,rfl,_,rfl⟩⟩
  have I1:Inv X pins σ (upd H s.heap.objs.size (.tup [.int i,x])) {s with heap:=h'',toks:=s.toks+1}:=
   I.Lm (ch:=[e,it]) (λb ob hb q=>(sb.2 b (λz=>hb (by simp[z]))).trans (hk b ob (λz=>hb (by simp[z])) (λz=>hb (by simp[z])) q)) hf (aA _) new
  refine⟨.ref s.heap.objs.size,_,I1,rfl,⟨_,x,rfl,I.cR.fresh (aA _),rfl,λys hy=>by rw[I.FY hy hq];exact hx⟩,⟨⟨u,?_⟩,IS.at λo q=>(sb.2 it (cv gT)).trans q,gT⟩,λb hb=>?_⟩
  ·grind
  ·have P7:b<s.heap.objs.size:=by
    grind
   rw[aH (bH P7)];exact(hf b hb).1
 done:=by
  intro X hP hw hK hc i pins s σ H E I hf st hg;subst hP hw hK;obtain⟨⟨old,he⟩,hit,gT⟩:=st;obtain⟨xs,hq,hx⟩:=hg;obtain⟨b6,rv,p,hz⟩:=I.list hq;obtain⟨f0,f1,f2,f3,f4,f5⟩:=hf it (by simp);have hl:=rv.length;exact wpAny_pyNext_enum_end (I.ok.hd hc) he hit p.isList (by simp;omega) λh' eb=>⟨rfl,I.turned (t':=s.toks) (λb o hb q=>eb b o hb q) f0 f1 f3 f4 f5⟩
 self:=λA i s Q E st h=>let ⟨⟨_,he⟩,_⟩:=st;wpAny_pyIter_enum he h
def Y6(K:Frag)(ta:TA):TI:=λσ H R=>ta σ H λvs H1=>∃a xs,vs=[.ref a]/\cg K H1 a xs/\R (UT K a) H1
theorem lG{X:Cx}{e:Expr}{ta:TA}{p pos Lr:Pos}{elts:ac8}{kk:Nat}(hg:Gl X "enumerate")(hm:X.mg "enumerate"=none)(ha:PA X [e] ta)(hs:starEach [e] X.env=[(false,eval e X.env)]:=by rfl):
  PI X (.Tuple elts kk Lr) (.Call (.Name "enumerate" p) [e] [] pos) (Y6 X.K ta):=by
 intro pins s σ H R I h;refine Call_ (oX I hg hm boot_enumerate (dS (d9 (ha pos pins s σ H _ I h) λus s1 ⟨vs,H1,I1,r1,q1⟩=>?_) hs rfl));obtain⟨a,xs,ex,hq,q⟩:=q1;subst ex;cases r1 with
 |cons r rr=>
  cases rr;cases r;obtain⟨b6,rv,p',hz⟩:=I1.list hq;refine call_enumerate_list p'.isList λh' he hit hsz hk=>wpAny_pyIter_enum he ?_
  have I2:Inv X pins σ H1 {s1 with heap:=h'}:=I1.kept (t':=s1.toks) hk;refine⟨s1.heap.objs.size+1,[s1.heap.objs.size+1,s1.heap.objs.size],_,_,H1,rfl,I2,Lo a (s1.heap.objs.size+1) s1.heap.objs.size,⟨⟨.none,he⟩,hit,Nat.succ_ne_self _⟩,λb hb=>?_,q⟩;have e':b=s1.heap.objs.size+1\/b=s1.heap.objs.size:=by simpa using hb
  have hle:s1.heap.objs.size<=b:=by
   grind
  exact I1.Qn hle (I1.cR.fresh hle)
end L2
namespace L2
open PySem PySem.Spec PyProof.Rows
def inClass(s:Stmt)(j:Nat):Stmt:=match s with
 | .ClassDef _ _ _ body _ _ _ _ _ _ _=>body.getD j (.Pass ⟨0,0,0,0⟩)
 |_=>.Pass ⟨0,0,0,0⟩
def ij(s:Stmt):Arguments:=match s with
 | .FunctionDef _ a _ _ _ _ _ _ _ _=>a
 |_=>{posonlyargs:=[],args:=[],vararg:=none,kwonlyargs:=[],kw_defaults:=[],kwarg:=none,defaults:=[]}
def fE(s:Stmt):List Stmt:=match s with
 | .FunctionDef _ _ b _ _ _ _ _ _ _=>b
 |_=>[]
def aO(s:Stmt):Scope:=match s with
 | .FunctionDef _ _ _ _ _ _ sc _ _ _=>sc
 |_=>{kind:=.function,names:=[],isGenerator:=false,isCoroutine:=false}
abbrev Na:Q7:=λ_ _ _ _ _ _=>False
abbrev E0:XK:=λ_ _ _=>False
theorem AX{X:Cx}:pA Na X E0:=λ_ _ _ _ _ _ _ h=>h.elim
structure Q3(K:Frag)(x qual:Str)(st:Stmt)(f:Addr)(fd:FuncData):Prop where
 ex:∃(oc:Value) (od:ac4) (kV doc pm:Value) (an:ac4) (dG ct:Value) (Cj:ac9),
  fd=fnOf x qual (ij st) (fE st) (aO st) .none kV doc pm an dG ct/\K.lookup f=some ⟨oc,od,.func fd,Cj⟩/\codeIn K dG qual=true
 kp:keepIn K (.ref f)=true
section
variable{P:Program}{w:World}{K:Frag}{mg:ac0}{base:Heap}
theorem Q3.ok{x qual:Str}{st:Stmt}{f:Addr}{fd:FuncData}{N ps:ac5}{k:Nat}{sp:Sp}(F:Q3 K x qual st f fd)(S:bz N ps (aO st))(len:∀vs H Q E,sp vs H Q E->vs.length=ps.length) (tH:∀(dG:Value) (A:Around) (outer:List Env) (s:Shared) (H:Hp) (vs:List V) (Q:VK) (E:XK),dR k (A.deeper (envOfC qual (aO st) s.heap.objs.size f dG))->sp vs H Q E-> ∃t,Hw (DS Na P w K mg base N qual (aO st) f dG A outer s H E).Vy (fE st) t/\t {nx:=λ_ H'=>Q .eZ H',rt:=Q} (start N vs) H):oe P w K mg base Na (k+1) f fd ps sp:=by
 obtain⟨oc,od,kV,doc,pm,an,dG,ct,Cj,rfl,lk,Ta⟩:=F.ex;refine aao lk Ta S len λA outer s H vs Q E hr PF=>?_
 obtain⟨t,h,q⟩:=tH dG A outer s H vs Q E hr PF;exact⟨t,h.Vy,q⟩
theorem Q3.binds{x qual:Str}{st:Stmt}{f:Addr}{fd:FuncData}{ps:ac5}(F:Q3 K x qual st f fd) (h:∀(kV doc pm:Value) (an:ac4) (dG ct:Value) (us:acY),us.length=ps.length->bindArgs (fnOf x qual (ij st) (fE st) (aO st) .none kV doc pm an dG ct) ⟨us,[]⟩=pure (ps.zip us)):Binds K fd ps []:=by
 obtain⟨oc,od,kV,doc,pm,an,dG,ct,Cj,rfl,lk,Ta⟩:=F.ex;exact .all (h kV doc pm an dG ct)
theorem Jb{x qual:Str}{st:Stmt}{f:Addr}{oc:Value}{od an:ac4}{Cj:ac9}{kV doc pm dG ct:Value}(l:K.lookup f=some ⟨oc,od,.func (fnOf x qual (ij st) (fE st) (aO st) .none kV doc pm an dG ct),Cj⟩) (c:codeIn K dG qual=true) (k:keepIn K (.ref f)=true):Q3 K x qual st f (fnOf x qual (ij st) (fE st) (aO st) .none kV doc pm an dG ct):=⟨⟨oc,od,kV,doc,pm,an,dG,ct,Cj,rfl,l,c⟩,k⟩
end
theorem Gf{A:Around}{k:Nat}(hr:dR k A):A.units+1<cLine:=Nat.lt_of_le_of_lt (Nat.add_le_add_left (by decide:1<=64) _) hr.units
section
variable{X:Cx}
theorem pv(i:Nat){x:Str}{pos:Pos}(hN:X.N[i]?=some x:=by rfl)(hv:Vis X.env.scope x:=by first |exact Or.inl rfl|exact Or.inr (Or.inl rfl)|exact Or.inr (Or.inr rfl))(hd:(x==("__debug__":Str))=false:=by decide)
  (Ta:(x==("__classdict__":Str))=false:=by decide):PE X (.Name x pos) (XI i):=Vk hN hv hd Ta
end
theorem bO{A B:Prop}(h:B):if false=true then A else B:=by
 rw[ae aT];exact h
theorem bI{A B:Prop}(h:A):if true=true then A else B:=by
 rw[ah rfl];exact h
theorem Mn{c A B:Prop}[Decidable c](h1:c->A)(h2:¬c->B):if c then A else B:=by
 grind
theorem Y1{c A B:Prop}[Decidable c](hc:c)(h:B):if (!decide c)=true then A else B:=by
 rw[ai hc];exact bO h
def bJ(H H':Hp):Prop:=∀b o,H b=some o->H' b=some o
theorem bJ.refl(H:Hp):bJ H H:=λ_ _ h=>h
theorem bJ.trans{H H1 H2:Hp}(a:bJ H H1)(b:bJ H1 H2):bJ H H2:=λc o h=>b c o (a c o h)
theorem bJ.free{H H':Hp}(e:bJ H H'){l:Addr}(h:H' l=.none):H l=.none:=by
 cases q:H l with
 |none=>rfl
 |some o=>
  rw[e l o q] at h;cases h
theorem bJ.seq{K:Frag}{H H':Hp}{a:Addr}{xs:List V}(e:bJ H H')(h:cg K H a xs):cg K H' a xs:=by
 rcases h with (h|⟨o,h⟩)|h
 ·exact .inl (.inl (e _ _ h))
 ·exact .inl (.inr ⟨o,e _ _ h⟩)
 ·exact .inr h
theorem at_of{xs:List V}{z:Int}{j:Nat}{v:V}(e:z=(j:Int))(h:xs[j]?=some v):Em xs z=some v:=by
 rw[e];exact TU h
end L2
namespace LC
open PySem PySem.Spec PyProof.Rows L2
open PySem.SeqAt
open PySem.AutoSeq1 (wpAny_loadPart')
open PySem.MeetsSeq PySem.MeetsSeq2 PySem.MeetsSeq3
def rF(p:Int->Int->Bool)(q:Nat->Nat->Bool):List Int->List Int->Bool
 |x::xs,y::ys=>if x=y then rF p q xs ys else p x y
 |xs,ys=>q xs.length ys.length
theorem w9{vs:acY}{ns:acZ}(h:IntsAre vs ns){i:Nat}(hi:i<vs.length):∃a t,vs[i]?=some (Value.int a t)/\ns.drop i=a::ns.drop (i+1):=by
 have hl:=h.length;have hn:i<ns.length:=by omega
 obtain⟨t,e⟩:=h.get i (ns[i]) (aZ hn);exact⟨ns[i],t,e,j3 hn⟩
theorem Ud{A B:acZ}{i x y:Nat}(h1:x=A.length)(h2:y=B.length)(hx:i<=x)(hy:i<=y)(h:x<=i\/y<=i):rF (λa c=>decide (a<=c)) (λm n=>decide (m<=n)) (A.drop i) (B.drop i)=decide (x<=y):=by
 subst h1 h2;have e1:(A.drop i).length=A.length - i:=cA;have e2:(B.drop i).length=B.length - i:=cA;generalize A.drop i=C at e1 ⊢;generalize B.drop i=D at e2 ⊢;cases C with
 |nil=>
  show decide (([]:acZ).length<=D.length)=_;rw[e1,e2];exact dN.mpr (by omega)
 |cons c C=>
  cases D with
  |nil=>
   show decide ((c::C).length<=([]:acZ).length)=_;rw[e1,e2];exact dN.mpr (by omega)
  |cons d D=>
   rw[aJ] at e1 e2;omega
theorem Sq(l b:Addr)(items cQ:ac6)(n n2:Nat)(dd GV:ac4)(sl EW:ac9)(ns ms:acZ)(hi:IntsAre items.toList ns)(hj:IntsAre cQ.toList ms)(k:Nat): ∀i:Nat,items.size - i=k->i<=items.size->i<=cQ.size->Meets (Builtin.«list.__eq__.loop» ⟨[.ref l,.ref b,rawInt i,rawInt 1],[]⟩) (λA R s=>s.heap.get? l=some {cls:=.type "list",dict:=dd,data:=.seq items n,slots:=sl}/\s.heap.get? b=some {cls:=.type "list",dict:=GV,data:=.seq cQ n2,slots:=EW}/\ R (.ok (.ret (.bool (rF (λa c=>decide (a<=c)) (λm n=>decide (m<=n)) (ns.drop i) (ms.drop i))))) s):=by
 have z1:items.size=ns.length:=by rw[<-hi.length];simp
 have z2:cQ.size=ms.length:=by rw[<-hj.length];simp
 induction k with
 |zero=>
  intro i hk IQ we prog w A R s h;obtain⟨hp,g,d,tk,os⟩:=s;obtain⟨hl,hb,h⟩:=h
  wp_walk using wpAny_loadPart' hl,wpAny_loadPart' hb
  have Mx:items[(i:Int).toNat]?=none:=by simp;omega
  rw[Ud z1 z2 IQ we (.inl (by omega))] at h;rw[Mx]
  wp_walk using wpAny_loadPart' hl,wpAny_loadPart' hb
  show R (.ok (.ret (.bool (decide (items.size<=cQ.size))))) _;exact h
 |succ k ih=>
  intro i hk IQ we prog w A R s h;obtain⟨hp,g,d,tk,os⟩:=s;obtain⟨hl,hb,h⟩:=h
  wp_walk using wpAny_loadPart' hl,wpAny_loadPart' hb
  have gV:i<items.size:=by omega
  obtain⟨x,t,ex,dx⟩:=w9 hi (i:=i) (by simpa using gV);have Mx:items[(i:Int).toNat]?=some (Value.int x t):=by simpa using ex
  by_cases V4:i<cQ.size
  ·obtain⟨y,u,ey,dy⟩:=w9 hj (i:=i) (by simpa using V4);have PV:cQ[(i:Int).toNat]?=some (Value.int y u):=by simpa using ey
   have hc:((i:Int)+1)=((i+1:Nat):Int):=by push_cast;rfl
   rw[dx,dy] at h;have hR:R (.ok (.ret (.bool (if x=y then rF (λa c=>decide (a<=c)) (λm n=>decide (m<=n)) (ns.drop (i+1)) (ms.drop (i+1)) else(λa c=>decide (a<=c)) x y)))) ⟨hp,g,d,tk,os⟩:=h;rw[Mx,PV];obtain⟨e,he,Gp⟩:=HT.yX A.in1 ⟨hp,g,d,tk,os⟩ x t y u;refine aa (he prog w _ _ ?_);cases e with
   |true=>
    rw[ah (Gp.mp rfl)] at hR
    wp_walk
    rw[hc]
    exact⟨eF lC _,dn entry_eq_loop (by
     rw[cD lC _]
     exact ih (i+1) (by omega) (by omega) (by omega) prog w A R _ ⟨hl,hb,hR⟩)⟩
   |false=>
    rw[ae (λq=>absurd (Gp.mpr q) aT)] at hR
    wp_walk using wpAny_loadPart' hl,wpAny_loadPart' hb
    rw[Mx,PV];refine aa (m:=richCompare .LtE (.int x t) (.int y u)) ?_;refine(PyProof.Rows.le_int ?_:wpAny (model prog w) A.in1 (compareOp .LtE (.int x t) (.int y u)) _ _ _)
    wp_walk
    exact hR
  ·have PV:cQ[(i:Int).toNat]?=none:=by simp;omega
   rw[Ud z1 z2 IQ we (.inr (by omega))] at h;rw[Mx,PV]
   wp_walk using wpAny_loadPart' hl,wpAny_loadPart' hb
   show R (.ok (.ret (.bool (decide (items.size<=cQ.size))))) _;exact h
theorem O3(l b:Addr)(items cQ:ac6)(n n2:Nat)(dd GV:ac4)(sl EW:ac9)(ns ms:acZ)(hi:IntsAre items.toList ns)(hj:IntsAre cQ.toList ms): Meets (Builtin.«list.__le__» ⟨[.ref l,.ref b],[]⟩) (λA R s=>s.heap.get? l=some {cls:=.type "list",dict:=dd,data:=.seq items n,slots:=sl}/\s.heap.get? b=some {cls:=.type "list",dict:=GV,data:=.seq cQ n2,slots:=EW}/\ R (.ok (.ret (.bool (rF (λa c=>decide (a<=c)) (λm n=>decide (m<=n)) ns ms)))) s):=by
 intro prog w A R s h;obtain⟨hp,g,d,tk,os⟩:=s;obtain⟨hl,hb,h⟩:=h;have f3:=AutoSeq1.sub_list_list
 wp_walk using wpAny_loadPart' hl,wpAny_loadPart' hb
 exact⟨eF lC _,dn entry_eq_loop (by
  rw[cD lC _]
  exact Sq l b items cQ n n2 dd GV sl EW ns ms hi hj _ 0 rfl (aD _) (aD _) prog w A R _ ⟨hl,hb,h⟩)⟩
def Yj(K:Frag):R2:=λx y H Q=>∃a b ns ms,x=.ref a/\y=.ref b/\cg K H a (ns.map V.int)/\cg K H b (ms.map V.int)/\Q (.bl (rF (λa c=>decide (a<=c)) (λm n=>decide (m<=n)) ns ms)) H
theorem Vr{X:Cx}(hu:X.A.units<cLine):qe X (compareOp .LtE) (Yj X.K):=by
 intro pins s σ H x y v u Q I rx ry h;obtain⟨a,b,ns,ms,rfl,rfl,ha,hb,q⟩:=h;cases rx;cases ry;obtain⟨b6,r1,p1,_⟩:=I.list ha;obtain⟨F7,r2,p2,_⟩:=I.list hb;have i1:IntsAre b6.toArray.toList ns:=intsAre_of r1;have i2:IntsAre F7.toArray.toList ms:=intsAre_of r2;obtain⟨⟨cls,dd,data,sl⟩,n,ho,hc,S7,hd⟩:=p1;obtain⟨⟨aaw,GV,data2,EW⟩,n2,UA,Rh,acm,hd2⟩:=p2;simp only at hc hd Rh hd2;subst hc hd Rh hd2;exact Es (op:=.LtE) ⟨_,ho,rfl⟩ ⟨_,UA,rfl⟩ PySem.F.slot_list_le PySem.F.entry_list_le (PySem.F.args_list_le_2 _ _) (O3 a b _ _ n n2 dd GV sl EW ns ms i1 i2)
  ⟨ho,UA,⟨nofun,⟨.bl _,H,I,rfl,q⟩⟩⟩ hu
theorem Ue{A B:acZ}{i x y:Nat}(h1:x=A.length)(h2:y=B.length)(hx:i<=x)(hy:i<=y)(h:x<=i\/y<=i):rF (λa c=>decide (c<a)) (λm n=>decide (n<m)) (A.drop i) (B.drop i)=decide (y<x):=by
 subst h1 h2;have e1:(A.drop i).length=A.length - i:=cA;have e2:(B.drop i).length=B.length - i:=cA;generalize A.drop i=C at e1 ⊢;generalize B.drop i=D at e2 ⊢;cases C with
 |nil=>
  show decide (D.length<([]:acZ).length)=_;rw[e1,e2];exact dN.mpr (by omega)
 |cons c C=>
  cases D with
  |nil=>
   show decide (([]:acZ).length<(c::C).length)=_;rw[e1,e2];exact dN.mpr (by omega)
  |cons d D=>
   rw[aJ] at e1 e2;omega
theorem Sr(l b:Addr)(items cQ:ac6)(n n2:Nat)(dd GV:ac4)(sl EW:ac9)(ns ms:acZ)(hi:IntsAre items.toList ns)(hj:IntsAre cQ.toList ms)(k:Nat): ∀i:Nat,items.size - i=k->i<=items.size->i<=cQ.size->Meets (Builtin.«list.__eq__.loop» ⟨[.ref l,.ref b,rawInt i,rawInt 4],[]⟩) (λA R s=>s.heap.get? l=some {cls:=.type "list",dict:=dd,data:=.seq items n,slots:=sl}/\s.heap.get? b=some {cls:=.type "list",dict:=GV,data:=.seq cQ n2,slots:=EW}/\ R (.ok (.ret (.bool (rF (λa c=>decide (c<a)) (λm n=>decide (n<m)) (ns.drop i) (ms.drop i))))) s):=by
 have z1:items.size=ns.length:=by rw[<-hi.length];simp
 have z2:cQ.size=ms.length:=by rw[<-hj.length];simp
 induction k with
 |zero=>
  intro i hk IQ we prog w A R s h;obtain⟨hp,g,d,tk,os⟩:=s;obtain⟨hl,hb,h⟩:=h
  wp_walk using wpAny_loadPart' hl,wpAny_loadPart' hb
  have Mx:items[(i:Int).toNat]?=none:=by simp;omega
  rw[Ue z1 z2 IQ we (.inl (by omega))] at h;rw[Mx]
  wp_walk using wpAny_loadPart' hl,wpAny_loadPart' hb
  show R (.ok (.ret (.bool (decide (items.size> cQ.size))))) _;exact h
 |succ k ih=>
  intro i hk IQ we prog w A R s h;obtain⟨hp,g,d,tk,os⟩:=s;obtain⟨hl,hb,h⟩:=h
  wp_walk using wpAny_loadPart' hl,wpAny_loadPart' hb
  have gV:i<items.size:=by omega
  obtain⟨x,t,ex,dx⟩:=w9 hi (i:=i) (by simpa using gV);have Mx:items[(i:Int).toNat]?=some (Value.int x t):=by simpa using ex
  by_cases V4:i<cQ.size
  ·obtain⟨y,u,ey,dy⟩:=w9 hj (i:=i) (by simpa using V4);have PV:cQ[(i:Int).toNat]?=some (Value.int y u):=by simpa using ey
   have hc:((i:Int)+1)=((i+1:Nat):Int):=by push_cast;rfl
   rw[dx,dy] at h;have hR:R (.ok (.ret (.bool (if x=y then rF (λa c=>decide (c<a)) (λm n=>decide (n<m)) (ns.drop (i+1)) (ms.drop (i+1)) else(λa c=>decide (c<a)) x y)))) ⟨hp,g,d,tk,os⟩:=h;rw[Mx,PV];obtain⟨e,he,Gp⟩:=HT.yX A.in1 ⟨hp,g,d,tk,os⟩ x t y u;refine aa (he prog w _ _ ?_);cases e with
   |true=>
    rw[ah (Gp.mp rfl)] at hR
    wp_walk
    rw[hc]
    exact⟨eF lC _,dn entry_eq_loop (by
     rw[cD lC _]
     exact ih (i+1) (by omega) (by omega) (by omega) prog w A R _ ⟨hl,hb,hR⟩)⟩
   |false=>
    rw[ae (λq=>absurd (Gp.mpr q) aT)] at hR
    wp_walk using wpAny_loadPart' hl,wpAny_loadPart' hb
    rw[Mx,PV];refine aa (m:=richCompare .Gt (.int x t) (.int y u)) ?_;refine(PyProof.Rows.gt_int ?_:wpAny (model prog w) A.in1 (compareOp .Gt (.int x t) (.int y u)) _ _ _)
    wp_walk
    exact hR
  ·have PV:cQ[(i:Int).toNat]?=none:=by simp;omega
   rw[Ue z1 z2 IQ we (.inr (by omega))] at h;rw[Mx,PV]
   wp_walk using wpAny_loadPart' hl,wpAny_loadPart' hb
   show R (.ok (.ret (.bool (decide (items.size> cQ.size))))) _;exact h
theorem O4(l b:Addr)(items cQ:ac6)(n n2:Nat)(dd GV:ac4)(sl EW:ac9)(ns ms:acZ)(hi:IntsAre items.toList ns)(hj:IntsAre cQ.toList ms): Meets (Builtin.«list.__gt__» ⟨[.ref l,.ref b],[]⟩) (λA R s=>s.heap.get? l=some {cls:=.type "list",dict:=dd,data:=.seq items n,slots:=sl}/\s.heap.get? b=some {cls:=.type "list",dict:=GV,data:=.seq cQ n2,slots:=EW}/\ R (.ok (.ret (.bool (rF (λa c=>decide (c<a)) (λm n=>decide (n<m)) ns ms)))) s):=by
 intro prog w A R s h;obtain⟨hp,g,d,tk,os⟩:=s;obtain⟨hl,hb,h⟩:=h;have f3:=AutoSeq1.sub_list_list
 wp_walk using wpAny_loadPart' hl,wpAny_loadPart' hb
 exact⟨eF lC _,dn entry_eq_loop (by
  rw[cD lC _]
  exact Sr l b items cQ n n2 dd GV sl EW ns ms hi hj _ 0 rfl (aD _) (aD _) prog w A R _ ⟨hl,hb,h⟩)⟩
def abf(K:Frag):R2:=λx y H Q=>∃a b ns ms,x=.ref a/\y=.ref b/\cg K H a (ns.map V.int)/\cg K H b (ms.map V.int)/\Q (.bl (rF (λa c=>decide (c<a)) (λm n=>decide (n<m)) ns ms)) H
theorem Vs{X:Cx}(hu:X.A.units<cLine):qe X (compareOp .Gt) (abf X.K):=by
 intro pins s σ H x y v u Q I rx ry h;obtain⟨a,b,ns,ms,rfl,rfl,ha,hb,q⟩:=h;cases rx;cases ry;obtain⟨b6,r1,p1,_⟩:=I.list ha;obtain⟨F7,r2,p2,_⟩:=I.list hb;have i1:IntsAre b6.toArray.toList ns:=intsAre_of r1;have i2:IntsAre F7.toArray.toList ms:=intsAre_of r2;obtain⟨⟨cls,dd,data,sl⟩,n,ho,hc,S7,hd⟩:=p1;obtain⟨⟨aaw,GV,data2,EW⟩,n2,UA,Rh,acm,hd2⟩:=p2;simp only at hc hd Rh hd2;subst hc hd Rh hd2;exact Es (op:=.Gt) ⟨_,ho,rfl⟩ ⟨_,UA,rfl⟩ PySem.F.slot_list_gt PySem.F.entry_list_gt (PySem.F.args_list_gt_2 _ _) (O4 a b _ _ n n2 dd GV sl EW ns ms i1 i2)
  ⟨ho,UA,⟨nofun,⟨.bl _,H,I,rfl,q⟩⟩⟩ hu
end LC
namespace L2
open PySem PySem.Spec PyProof.Rows
open PySem.W (WData Codec OpenSpec Well WellAll ReadsW ReadsAllW)
mutual
inductive Dw(K:Frag)(H:Hp):V->WData->Prop
 |eZ:Dw K H .eZ .none
 |bl (b:Bool):Dw K H (.bl b) (.bool b)
 |int (i:Int):Dw K H (.int i) (.int i)
 |str (x:Str):Dw K H (.str x) (.str x)
 |Ht (b:Array UInt8):Dw K H (.Ht b) (.bytes b.toList)
 |lst {a:Addr} {xs:List V} {ds:List WData}:cg K H a xs->nR K H xs ds->Dw K H (.ref a) (.list ds)
 |tup {a:Addr} {xs:List V} {ds:List WData}:dJ K H a xs->nR K H xs ds->Dw K H (.ref a) (.tuple ds)
inductive nR(K:Frag)(H:Hp):List V->List WData->Prop
 |nil:nR K H [] []
 |cons {v:V} {vs:List V} {d:WData} {ds:List WData}:Dw K H v d->nR K H vs ds->nR K H (v::vs) (d::ds)
end
theorem KO{K:Frag}{H:Hp}:∀ns:List Int,nR K H (ns.map V.int) (ns.map WData.int)
 | []=>.nil
 |n::r=>.cons (.int n) (KO r)
theorem tw{K:Frag}{H:Hp}:∀(ns:acZ) (xs:List V),nR K H xs (ns.map WData.int)->xs=ns.map V.int
 | [],xs,h=>by
  cases h;rfl
 |n::r,xs,h=>by
  cases h with
  |cons h1 h2=>
   cases h1;rw[tw r _ h2] <;> rfl
section
variable{P:Program}{w:World}{K:Frag}{H:Hp}{h:Heap}{R:PySem.W.WRecords}{cl:Str->Option Addr}
theorem U9{a:Addr}{xs:List V}(cR:pB P w H h)(KX:K.In h)(q:cg K H a xs):∃(b6:acY) (o:Obj) (n:Nat),cu xs b6/\h.get? a=some o/\o.cls=.type "list"/\o.data=.seq b6.toArray n:=by
 rcases q with q|⟨o,b6,n,e,hc,_,hd,_,hv⟩
 ·obtain⟨_,b6,n,hv,e⟩:=(show fg P w H h a (.lst xs) from q.ok cR);exact⟨b6,_,n,hv,e,rfl,rfl⟩
 ·exact⟨b6.toList,o,n,hv,KX _ _ e,hc,by simp[hd]⟩
theorem U8{a:Addr}{xs:List V}(cR:pB P w H h)(KX:K.In h)(q:dJ K H a xs):∃(b6:acY) (o:Obj) (n:Nat),cu xs b6/\h.get? a=some o/\o.cls=.type "tuple"/\o.data=.seq b6.toArray n:=by
 rcases q with q|⟨o,b6,n,e,hc,hd,_,hv⟩
 ·obtain⟨_,b6,hv,o,e,hc,n,hd⟩:=(show fg P w H h a (.tup xs) from q.ok cR);exact⟨b6,o,n,hv,e,hc,hd⟩
 ·exact⟨b6.toList,o,n,hv,KX _ _ e,hc,by simp[hd]⟩
mutual
theorem Dw.reads(cR:pB P w H h)(KX:K.In h):∀(d:WData) (v:V) (u:Value),Dw K H v d->RelV v u->∃as,ReadsW R cl h u d as
 | .none,_,_,x,r=>by
  cases x;cases r;exact⟨_,ReadsW.none⟩
 | .bool b,_,_,x,r=>by
  cases x;cases r;exact⟨_,ReadsW.bool b⟩
 | .int i,_,_,x,r=>by
  cases x;obtain⟨t,rfl⟩:=r;exact⟨_,ReadsW.int i t⟩
 | .str s,_,_,x,r=>by
  cases x;obtain⟨t,rfl⟩:=r;exact⟨_,ReadsW.str s t⟩
 | .bytes b,_,_,x,r=>by
  cases x;obtain⟨t,rfl⟩:=r;exact⟨_,ReadsW.bytes _ t⟩
 | .list ds,_,_,x,r=>by
  cases x with
  |lst hs ha=>
   cases r;obtain⟨b6,o,n,rv,ho,hc,hd⟩:=U9 cR KX hs;obtain⟨as,hr⟩:=Dw.readsAll cR KX ds _ b6 ha rv;exact⟨_,ReadsW.list ho hc hd hr⟩
 | .tuple ds,_,_,x,r=>by
  cases x with
  |tup hs ha=>
   cases r;obtain⟨b6,o,n,rv,ho,hc,hd⟩:=U8 cR KX hs;obtain⟨as,hr⟩:=Dw.readsAll cR KX ds _ b6 ha rv;exact⟨_,ReadsW.tuple ho hc hd hr⟩
 | .float _,_,_,x,_=>by cases x
 | .dict _,_,_,x,_=>by cases x
 | .bytearray _,_,_,x,_=>by cases x
 | .set _,_,_,x,_=>by cases x
 | .frozenset _,_,_,x,_=>by cases x
 | .obj _ _,_,_,x,_=>by cases x
theorem Dw.readsAll(cR:pB P w H h)(KX:K.In h):∀(ds:List WData) (vs:List V) (us:acY),nR K H vs ds->cu vs us->∃as,ReadsAllW R cl h us ds as
 | [],_,_,x,r=>by
  cases x;cases r;exact⟨_,ReadsAllW.nil⟩
 |d::ds,_,_,x,r=>by
  cases x with
  |cons h1 h2=>
   cases r with
   |cons r1 r2=>
    obtain⟨as,q1⟩:=Dw.reads cR KX d _ _ h1 r1;obtain⟨bs,q2⟩:=Dw.readsAll cR KX ds _ _ h2 r2;exact⟨_,ReadsAllW.cons q1 q2⟩
end
end
mutual
def J4:WData->Bool
 | .none=>true
 | .bool _=>true
 | .int _=>true
 | .str _=>true
 | .bytes _=>true
 | .list xs=>vS xs
 | .tuple xs=>vS xs
 |_=>false
def vS:List WData->Bool
 | []=>true
 |x::r=>J4 x&&vS r
end
theorem Ff{α:Type}{f:α->WData}(h:∀a,J4 (f a)=true):∀l:List α,vS (l.map f)=true
 | []=>rfl
 |x::r=>by
  show(J4 (f x)&&vS (r.map f))=true;rw[h x,Ff h r] <;> rfl
theorem oP:∀(c:Codec) (a:c.denote),J4 (c.enc a)=true
 | .unit,_=>rfl
 | .bool,_=>rfl
 | .int _ _,_=>rfl
 | .nat _ _,_=>rfl
 | .u8,_=>rfl
 | .bytes _ _,_=>rfl
 | .text _ _ _ _,_=>rfl
 | .list _ _ c,a=>Ff (λx=>oP c x) a
 | .pair c d,a=>by
  show(J4 (c.enc a.1)&&(J4 (d.enc a.2)&&true))=true;rw[oP c a.1,oP d a.2] <;> rfl
 | .triple c d e,a=>by
  show(J4 (c.enc a.1)&&(J4 (d.enc a.2.1)&&(J4 (e.enc a.2.2)&&true)))=true;rw[oP c a.1,oP d a.2.1,oP e a.2.2] <;> rfl
 | .option c,none=>rfl
 | .option c,some x=>oP c x
theorem AS:∀(cs:List Codec) (a:Codec.denoteAll cs),vS (Codec.encAll cs a)=true
 | [],_=>rfl
 |c::cs,a=>by
  show(J4 (c.enc a.1)&&vS (Codec.encAll cs a.2))=true;rw[oP c a.1,AS cs a.2] <;> rfl
theorem qJ:∀{xs:List WData} {d:WData},d∈xs->d.weight<=WData.weightAll xs
 | [],d,h=>absurd h (by simp)
 |x::r,d,h=>by
  show d.weight<=x.weight+1+WData.weightAll r;rcases ba.mp h with e|m
  ·rw[e];omega
  ·have z:=qJ m;omega
def toV:Value->V
 | .none=>.eZ
 | .bool b=>.bl b
 | .int i _=>.int i
 | .str x _=>.str x
 | .bytes b _=>.Ht b
 | .ref a=>.ref a
 |_=>.eZ
def M8(A:ac1):Value->Prop
 | .none=>True
 | .bool _=>True
 | .int _ _=>True
 | .str _ _=>True
 | .bytes _ _=>True
 | .ref a=>a∈A
 |_=>False
theorem M8.mono{A B:ac1}(h:∀a∈A,a∈B):∀{u:Value},M8 A u->M8 B u:=λ{u} x=>by
 cases u with
 |ref a=>exact h a x
 |none=>trivial
 |bool b=>trivial
 |int i t=>trivial
 |str s t=>trivial
 |bytes b t=>trivial
 |_=>exact False.elim x
theorem Oi{A:ac1}{u:Value}(x:M8 A u):RelV (toV u) u:=by
 cases u with
 |ref a=>rfl
 |none=>rfl
 |bool b=>rfl
 |int i t=>exact⟨t,rfl⟩
 |str s t=>exact⟨t,rfl⟩
 |bytes b t=>exact⟨t,rfl⟩
 |_=>exact False.elim x
theorem mF{A:ac1}:∀{vs:acY},(∀u∈vs,M8 A u)->cu (vs.map toV) vs
 | [],_=>.nil
 |u::r,h=>.cons (Oi (h u (aR ..))) (mF λx hx=>h x (aP _ hx))
def nT(h:Heap)(A:ac1)(a:Addr):Prop:=∃vs:List Value,vs.length<=sizeLine/\(∀u∈vs,M8 A u)/\
 (h.get? a=some {cls:=.type "list",data:=.seq vs.toArray}\/h.get? a=some {cls:=.type "tuple",data:=.seq vs.toArray})
theorem nT.mono{h:Heap}{A B:ac1}{a:Addr}(k:∀a∈A,a∈B)(x:nT h A a):nT h B a:=by
 obtain⟨vs,h1,h2,h3⟩:=x;exact⟨vs,h1,λu hu=>(h2 u hu).mono k,h3⟩
theorem lD{P:Params}{h:Heap}:∀{vs:acY} {ds:List WData},WellAll P h vs ds->vs.length=ds.length
 |_,_,.nil=>rfl
 |_,_,.cons _ b=>by
  show _+1=_+1;rw[lD b]
theorem Ay{P:Params}{h:Heap}{v:Value}{ds:List WData}(x:Well P h v (.list ds)):∃(a:Addr) (vs:acY),v=.ref a/\h.get? a=some {cls:=.type "list",data:=.seq vs.toArray}/\WellAll P h vs ds:=by
 cases x with
 |list ho i9=>exact⟨_,_,rfl,ho,i9⟩
theorem xx{P:Params}{h:Heap}{v:Value}{ds:List WData}(x:Well P h v (.tuple ds)):∃(a:Addr) (vs:acY),v=.ref a/\h.get? a=some {cls:=.type "tuple",data:=.seq vs.toArray}/\WellAll P h vs ds:=by
 cases x with
 |tuple ho i9=>exact⟨_,_,rfl,ho,i9⟩
theorem Az{P:Params}{h:Heap}{us:acY}{d:WData}{ds:List WData}(x:WellAll P h us (d::ds)):∃(v:Value) (vs:acY),us=v::vs/\Well P h v d/\WellAll P h vs ds:=by
 cases x with
 |cons a b=>exact⟨_,_,rfl,a,b⟩
theorem Kj{n:Nat}(h:n<=1048576):n<=sizeLine:=bK h (by decide)
section
variable{P:Params}{h:Heap}
mutual
theorem QU:∀(d:WData) (v:Value),Well P h v d->J4 d=true->d.weight<=1048576->∃A:List Addr,M8 A v/\∀a∈A,nT h A a
 | .none,_,x,_,_=>by
  cases x;exact⟨[],trivial,λa m=>absurd m (by simp)⟩
 | .bool b,_,x,_,_=>by
  cases x;exact⟨[],trivial,λa m=>absurd m (by simp)⟩
 | .int i,_,x,_,_=>by
  cases x;exact⟨[],trivial,λa m=>absurd m (by simp)⟩
 | .str s,_,x,_,_=>by
  cases x;exact⟨[],trivial,λa m=>absurd m (by simp)⟩
 | .bytes b,_,x,_,_=>by
  cases x;exact⟨[],trivial,λa m=>absurd m (by simp)⟩
 | .list ds,_,x,p,z=>by
  obtain⟨a,vs,rfl,ho,i9⟩:=Ay x;have z2:WData.weightAll ds<=1048576:=z;obtain⟨A,h1,h2⟩:=t8 ds _ i9 p λd hd=>bK (qJ hd) z2
  have k:∀b∈A,b∈a::A:=λb hb=>aP _ hb
  refine⟨a::A,aR ..,λb hb=>?_⟩;rcases ba.mp hb with e|m
  ·rw[e];exact⟨vs,Kj (by rw[lD i9];exact bK (Rq ds) z2),λu hu=>(h1 u hu).mono k,.inl ho⟩
  ·exact(h2 b m).mono k
 | .tuple ds,_,x,p,z=>by
  obtain⟨a,vs,rfl,ho,i9⟩:=xx x;have z2:WData.weightAll ds<=1048576:=z;obtain⟨A,h1,h2⟩:=t8 ds _ i9 p λd hd=>bK (qJ hd) z2
  have k:∀b∈A,b∈a::A:=λb hb=>aP _ hb
  refine⟨a::A,aR ..,λb hb=>?_⟩;rcases ba.mp hb with e|m
  ·rw[e];exact⟨vs,Kj (by rw[lD i9];exact bK (Rq ds) z2),λu hu=>(h1 u hu).mono k,.inr ho⟩
  ·exact(h2 b m).mono k
 | .float _,_,_,p,_=>Bool.noConfusion (show false=true from p)
 | .dict _,_,_,p,_=>Bool.noConfusion (show false=true from p)
 | .bytearray _,_,_,p,_=>Bool.noConfusion (show false=true from p)
 | .set _,_,_,p,_=>Bool.noConfusion (show false=true from p)
 | .frozenset _,_,_,p,_=>Bool.noConfusion (show false=true from p)
 | .obj _ _,_,_,p,_=>Bool.noConfusion (show false=true from p)
theorem t8:∀(ds:List WData) (vs:acY),WellAll P h vs ds->vS ds=true->(∀d∈ds,d.weight<=1048576)->∃A:List Addr,(∀u∈vs,M8 A u)/\∀a∈A,nT h A a
 | [],_,x,_,_=>by
  cases x;exact⟨[],λu m=>absurd m (by simp),λa m=>absurd m (by simp)⟩
 |d::ds,_,x,p,z=>by
  obtain⟨v,vs,rfl,x1,x2⟩:=Az x;have q:J4 d=true/\vS ds=true:=Bool.and_eq_true_iff.mp p;obtain⟨A,a1,a2⟩:=QU d v x1 q.1 (z d (aR ..));obtain⟨B,b1,b2⟩:=t8 ds vs x2 q.2 λe he=>z e (aP _ he)
  have kA:∀b∈A,b∈A++B:=λb hb=>bx.mpr (.inl hb)
  have kB:∀b∈B,b∈A++B:=λb hb=>bx.mpr (.inr hb)
  refine⟨A++B,λu hu=>?_,λb hb=>?_⟩
  ·rcases ba.mp hu with e|m
   ·rw[e];exact a1.mono kA
   ·exact(b1 u m).mono kB
  ·rcases bx.mp hb with m|m
   ·exact(a2 b m).mono kA
   ·exact(b2 b m).mono kB
end
end
def SV(o:Obj):Option HO:=match o.data with
 | .seq vs _=>if (o.cls==Value.type "list")=true then some (.wu o (.lst (vs.toList.map toV))) else some (.wu o (.tup (vs.toList.map toV)))
 |_=>none
def nE(K:Frag)(h:Heap)(A:ac1):Hp:=λb=>if b∈A then(if (K.lookup b).isNone=true then(h.get? b).bind SV else none) else none
def He(H:Hp):Prop:=∀b,H b=none\/∃o u,H b=some (.wu o u)
theorem Gm(vs:acY):SV {cls:=.type "list",data:=.seq vs.toArray}=some (.wu {cls:=.type "list",data:=.seq vs.toArray} (.lst (vs.map toV))):=by
 show(if (Value.type "list"==Value.type "list")=true then some (HO.wu {cls:=.type "list",data:=.seq vs.toArray} (.lst (vs.toArray.toList.map toV))) else some (HO.wu {cls:=.type "list",data:=.seq vs.toArray} (.tup (vs.toArray.toList.map toV))))=_;rw[ah (cK _)]
theorem Gk(vs:acY):SV {cls:=.type "tuple",data:=.seq vs.toArray}=some (.wu {cls:=.type "tuple",data:=.seq vs.toArray} (.tup (vs.map toV))):=by
 show(if (Value.type "tuple"==Value.type "list")=true then some (HO.wu {cls:=.type "tuple",data:=.seq vs.toArray} (.lst (vs.toArray.toList.map toV))) else some (HO.wu {cls:=.type "tuple",data:=.seq vs.toArray} (.tup (vs.toArray.toList.map toV))))=_;rw[ae (by decide)]
section
variable{P:Program}{w:World}{K:Frag}{h:Heap}{A:ac1}
theorem xh{b:Addr}{o:Obj}(hb:b∈A)(hk:K.lookup b=none)(e:h.get? b=some o):nE K h A b=SV o:=by
 unfold nE;rw[ah hb,hk,ah (show(none:Option Obj).isNone=true from rfl),e] <;> rfl
theorem Sa{b:Addr}{u:HO}(q:nE K h A b=some u):b∈A/\K.lookup b=none:=by
 unfold nE at q;by_cases hb:b∈A
 ·rw[ah hb] at q;cases hk:K.lookup b with
  |none=>exact⟨hb,rfl⟩
  |some o=>
   rw[hk,ae (by simp)] at q;cases q
 ·rw[ae hb] at q;cases q
theorem xg(ar:∀a∈A,nT h A a){b:Addr}{u:HO}(q:nE K h A b=some u):K.lookup b=none/\∃vs:List Value,vs.length<=sizeLine/\(∀u∈vs,M8 A u)/\ ((h.get? b=some {cls:=.type "list",data:=.seq vs.toArray}/\u=.wu {cls:=.type "list",data:=.seq vs.toArray} (.lst (vs.map toV)))\/ (h.get? b=some {cls:=.type "tuple",data:=.seq vs.toArray}/\u=.wu {cls:=.type "tuple",data:=.seq vs.toArray} (.tup (vs.map toV)))):=by
 obtain⟨hb,hk⟩:=Sa q;obtain⟨vs,h1,h2,h3⟩:=ar b hb;refine⟨hk,vs,h1,h2,?_⟩;rcases h3 with e|e
 ·rw[xh hb hk e,Gm] at q;exact .inl ⟨e,(aX q).symm⟩
 ·rw[xh hb hk e,Gk] at q;exact .inr ⟨e,(aX q).symm⟩
theorem MZ(ar:∀a∈A,nT h A a):He (nE K h A):=λb=>by
 cases q:nE K h A b with
 |none=>exact .inl rfl
 |some u=>
  obtain⟨_,vs,_,_,⟨_,e⟩|⟨_,e⟩⟩:=xg ar q
  ·exact .inr ⟨_,_,by rw[e]⟩
  ·exact .inr ⟨_,_,by rw[e]⟩
theorem TV(ar:∀a∈A,nT h A a):pB P w (nE K h A) h:=λb u q=>by
 obtain⟨_,vs,h1,h2,⟨e,rfl⟩|⟨e,rfl⟩⟩:=xg ar q
 ·exact⟨e,by rw[af];exact h1,vs,_,mF h2,e⟩
 ·exact⟨e,by rw[af];exact h1,vs,mF h2,_,e,rfl,_,rfl⟩
theorem wM{c c':Value}{vs us:acY}(e:(some {cls:=c,data:=.seq vs.toArray}:Option Obj)=some {cls:=c',data:=.seq us.toArray}):c=c'/\vs=us:=by
 have e1:=aX e;have e2:c=c':=bb Obj.cls e1;have e3:Data.seq vs.toArray=Data.seq us.toArray:=bb Obj.data e1;injection e3 with e4;refine⟨e2,?_⟩;have e5:=bb Array.toList e4
 simpa using e5
theorem acJ(KX:K.In h)(ar:∀a∈A,nT h A a){a:Addr}{vs:acY}(ha:a∈A)(e:h.get? a=some {cls:=.type "list",data:=.seq vs.toArray}):(∀u∈vs,M8 A u)/\cg K (nE K h A) a (vs.map toV):=by
 obtain⟨us,h1,h2,h3⟩:=ar a ha;have hu:us=vs:=by
  rcases h3 with q|q
  ·rw[e] at q;exact(wM q).2.symm
  ·rw[e] at q;exact absurd (Value.type.inj (wM q).1) (by decide)
 subst hu;refine⟨h2,?_⟩;cases hk:K.lookup a with
 |none=>exact .inl (.inr ⟨_,by rw[xh ha hk e,Gm]⟩)
 |some o=>
  have e2:=KX a o hk;rw[e] at e2;obtain rfl:=aX e2;exact .inr ⟨_,us.toArray,_,hk,rfl,rfl,rfl,by rw[bj];exact h1,by simpa using mF h2⟩
theorem acI(KX:K.In h)(ar:∀a∈A,nT h A a){a:Addr}{vs:acY}(ha:a∈A)(e:h.get? a=some {cls:=.type "tuple",data:=.seq vs.toArray}):(∀u∈vs,M8 A u)/\dJ K (nE K h A) a (vs.map toV):=by
 obtain⟨us,h1,h2,h3⟩:=ar a ha;have hu:us=vs:=by
  rcases h3 with q|q
  ·rw[e] at q;exact absurd (Value.type.inj (wM q).1) (by decide)
  ·rw[e] at q;exact(wM q).2.symm
 subst hu;refine⟨h2,?_⟩;cases hk:K.lookup a with
 |none=>exact .inl (.inr ⟨_,by rw[xh ha hk e,Gk]⟩)
 |some o=>
  have e2:=KX a o hk;rw[e] at e2;obtain rfl:=aX e2;exact .inr ⟨_,us.toArray,_,hk,rfl,rfl,by rw[bj];exact h1,by simpa using mF h2⟩
mutual
theorem Wz{Pm:Params}(KX:K.In h)(ar:∀a∈A,nT h A a):∀(d:WData) (v:Value),Well Pm h v d->J4 d=true->M8 A v->Dw K (nE K h A) (toV v) d
 | .none,_,x,_,_=>by
  cases x;exact .eZ
 | .bool b,_,x,_,_=>by
  cases x;exact .bl b
 | .int i,_,x,_,_=>by
  cases x;exact .int i
 | .str s,_,x,_,_=>by
  cases x;exact .str s
 | .bytes b,_,x,_,_=>by
  cases x;have z:=Dw.Ht (K:=K) (H:=nE K h A) b.toArray;exact z
 | .list ds,_,x,p,hu=>by
  obtain⟨a,vs,rfl,ho,i9⟩:=Ay x;obtain⟨h2,hs⟩:=acJ KX ar hu ho;exact .lst hs (DF KX ar ds _ i9 p h2)
 | .tuple ds,_,x,p,hu=>by
  obtain⟨a,vs,rfl,ho,i9⟩:=xx x;obtain⟨h2,hs⟩:=acI KX ar hu ho;exact .tup hs (DF KX ar ds _ i9 p h2)
 | .float _,_,_,p,_=>Bool.noConfusion (show false=true from p)
 | .dict _,_,_,p,_=>Bool.noConfusion (show false=true from p)
 | .bytearray _,_,_,p,_=>Bool.noConfusion (show false=true from p)
 | .set _,_,_,p,_=>Bool.noConfusion (show false=true from p)
 | .frozenset _,_,_,p,_=>Bool.noConfusion (show false=true from p)
 | .obj _ _,_,_,p,_=>Bool.noConfusion (show false=true from p)
theorem DF{Pm:Params}(KX:K.In h)(ar:∀a∈A,nT h A a):∀(ds:List WData) (vs:acY),WellAll Pm h vs ds->vS ds=true->(∀u∈vs,M8 A u)->nR K (nE K h A) (vs.map toV) ds
 | [],_,x,_,_=>by
  cases x;exact .nil
 |d::ds,_,x,p,hu=>by
  obtain⟨v,vs,rfl,x1,x2⟩:=Az x;have q:J4 d=true/\vS ds=true:=Bool.and_eq_true_iff.mp p;exact .cons (Wz KX ar d v x1 q.1 (hu _ (aR ..))) (DF KX ar ds vs x2 q.2 λu m=>hu u (aP _ m))
end
end
theorem Ly{P:Program}{w:World}{K:Frag}{mg mb:ac0}{CX:Q7}{k:Nat}{fa:Addr}{fd:FuncData}{ps:ac5}{sp:Sp}{dX:Shared}{vals:acY}{ds:List WData}{R:PySem.W.WRecords}{cl:Str->Option Addr}{d0:WData} (KX:K.In dX.heap) (hns:dX.heap.Ns mainGlobals mg) (hb:dX.heap.Ns builtinsNs mb) (hbb:∀x:Str,x≠"__name__"->mb x=bootBuiltins x) (ab2:dX.heap.NoLimit) (hg:dX.gens=#[]) (Nh:WellAll w.params dX.heap vals ds) (iK:vS ds=true) (hwt:∀d∈ds,d.weight<=1048576) (hr:dR k callerA) (F:∀base:Heap,K.In base->base.Ns mainGlobals mg->oe P w K mg base CX k fa fd ps sp) (Z2:∀(s:Shared) (us:acY),us.length=ps.length->BindsTo s fd ⟨us,[]⟩ (ps.zip us)) (hlen:ds.length=ps.length) (PF:∀(H:Hp) (xs:List V),He H->nR K H xs ds->sp xs H (λv H'=>Dw K H' v d0) λ_ _ _=>False) (hCX:∀H e s',CX [] H dX (λ_ _ _=>False) e s'->False): codeAny (model P w) callerA (.call (.ref fa) ⟨vals,[]⟩) (λr s'=>∃u as,r=.ok (.ret u)/\ReadsW R cl s'.heap u d0 as/\OldK dX.heap s'.heap/\s'.os=dX.os/\AllBare s'.gens) dX:=by
 obtain⟨A,ho,ar⟩:=t8 ds vals Nh iK hwt;have hO:He (nE K dX.heap A):=MZ ar;have cR:pB P w (nE K dX.heap A) dX.heap:=TV ar;have hS:=DF KX ar ds vals Nh iK ho;have hV:=mF ho;have hK:∀b u,nE K dX.heap A b=some u->K.lookup b=none:=λb u q=>(xg ar q).1
 have W0:∀{b:Addr} {o:Obj} {es:Array DictEntry} {ep:Nat},dX.heap.get? b=some o->o.data=.dict es ep->nE K dX.heap A b=none:=λ{b o es ep} e d=>by
  cases q:nE K dX.heap A b with
  |none=>rfl
  |some u=>
   obtain⟨_,vs,_,_,⟨e2,_⟩|⟨e2,_⟩⟩:=xg ar q
   ·rw[e2] at e;cases e;have d':Data.seq vs.toArray _=Data.dict es ep:=d;cases d'
   ·rw[e2] at e;cases e;have d':Data.seq vs.toArray _=Data.dict es ep:=d;cases d'
 generalize nE K dX.heap A=H at hO cR hS hK W0;have K3:∀{b:Addr} {o:Obj},dX.heap.get? b=some o->H b=none->(Dh dX.heap H).get? b=some o:=λe n=>PU e n
 have nsK:∀{b:Addr} {m:ac0},dX.heap.Ns b m->(Dh dX.heap H).Ns b m:=λ{b m} ⟨o,es,ep,e,d,r⟩=>⟨o,es,ep,K3 e (W0 e d),d,r⟩
 have nK:∀b o,K.lookup b=some o->H b=none:=λb o e=>by
  cases q:H b with
  |none=>rfl
  |some u=>
   rw[hK b u q] at e;cases e
 have hKb:K.In (Dh dX.heap H):=λb o e=>K3 (KX b o e) (nK b o e)
 have hM:Mod K mg (Dh dX.heap H):=⟨hKb,nsK hns,⟨mb,nsK hb,hbb⟩,let ⟨mc,h1,h2⟩:=ab2;⟨mc,nsK h1,h2⟩⟩;have e0:Jy P w K mg (Dh dX.heap H) callerA [] dX H:=⟨rfl,hM,λb o e=>R9 e,xr (Mw _ _),trivial,λb hb=>absurd (show b∈([]:ac1) from hb) (by simp),cR,.of_eq hg⟩;have hl:vals.length=ps.length:=by rw[lD Nh];exact hlen
 refine uh ((F _ hKb (nsK hns)).run callerA [] dX H ⟨vals,[]⟩ vals (vals.map toV) _ _ hr e0 (Z2 dX vals hl) hV (PF H _ hO hS)) λr s' x=>?_
 cases r with
 |error e=>exact(hCX H e s' x).elim
 |ok fl=>
  cases fl with
  |next=>exact False.elim x
  |brk=>exact False.elim x
  |cont=>exact False.elim x
  |ret u=>
   obtain⟨v,H',os,bare,un,Zu,r',q⟩:=x;have kept:∀b o,dX.heap.get? b=some o->s'.heap.get? b=some o:=λb o e=>by
    cases q2:H b with
    |none=>exact un.keep b o e q2 (by intro z;exact absurd (show b∈([]:ac1) from z) (by simp)) (by simp)
    |some u2=>
     rcases hO b with z|⟨ob,u3,z⟩
     ·rw[q2] at z;cases z
     ·have z2:=un.DB b ob _ z;obtain⟨e1,_⟩:=cR b _ z;obtain⟨e2,_⟩:=Zu b _ z2;rw[e] at e1;cases e1;exact e2
   have KX':K.In s'.heap:=λb o e=>kept b o (KX b o e)
   obtain⟨as,vB⟩:=Dw.reads (R:=R) (cl:=cl) Zu KX' d0 v u q r';exact⟨u,as,rfl,vB,OldK.of_keep kept,os,bare⟩
theorem yE{ds:List WData}(h:WData.layableAll ds=true):∀d∈ds,d.weight<=1048576:=λd hd=>
 (PySem.W.layableW_iff.mp (bU.mp h d hd)).2.2
theorem yZ:∀(cs:List Codec) (a:Codec.denoteAll cs),(Codec.encAll cs a).length=cs.length
 | [],_=>rfl
 |c::cs,a=>by
  show(Codec.encAll cs a.2).length+1=cs.length+1;rw[yZ cs a.2]
theorem Lj{r:OpenSpec}{k:Nat}{q:Program}{loose:ac5}{XP:(Str->Option Value)->Heap->Prop}{YP:World->Heap->Prop}{d:DefRec}{K:Params->Frag}{CX:World->Q7}{ps:ac5}{sp:World->Sp} (PB:r.wellSaid=true) (hdf:d.params.defaults=[]) (hlen:r.args.length=ps.length) (hr:dR k callerA) (hY:∀(w:World) (h:Heap),YP w h->(K w.params).In h) (F:∀(w:World) (mg:ac0) (fa:Addr) (h:Heap),YP w h->(K w.params).In h->h.Ns mainGlobals mg->mg d.name=some (.ref fa)-> ∃fd:FuncData,(∀(s:Shared) (us:acY),us.length=ps.length->BindsTo s fd ⟨us,[]⟩ (ps.zip us))/\ ∀base:Heap,(K w.params).In base->base.Ns mainGlobals mg->oe r.prog w (K w.params) mg base (CX w) k fa fd ps (sp w)) (PF:∀(w:World) (H:Hp) (xs:List V) (a:Codec.denoteAll r.args),He H->Codec.withinAll r.args a=true->Codec.app r.args r.asked a=true->nR (K w.params) H xs (Codec.encAll r.args a)-> sp w xs H (λv H'=>Dw (K w.params) H' v (r.ret.enc (Codec.app r.args r.f a))) λ_ _ _=>False) (hCX:∀(w:World) (H:Hp) (s:Shared) (e:Value) (s':Shared),CX w [] H s (λ_ _ _=>False) e s'->False): PySem.W.WalkOS q loose XP YP r d [] (λf vs=>PySem.call f vs):=by
 intro w AN dX mg mb G Y fa o pm cd doc dV kV ho hd Ta hD hmg hg args vals as abQ ab4 vB Nh hlo;obtain⟨a,e1,e2⟩:=PySem.W.os_pre_some abQ;obtain⟨e3,Hm⟩:=Codec.encAll_of_decAll r.args args a e1;subst e3;have KX:=hY w _ Y;obtain⟨fd,hb,hF⟩:=F w mg fa _ Y KX G.T.g hmg;refine PySem.W.enter_call (uh (Ly (R:=[]) (cl:=classAt AN.heap) (d0:=r.ret.enc (Codec.app r.args r.f a)) KX G.T.g G.T.b G.T.builtins G.T.nolimit hg Nh (AS _ _) (yE ab4) hr hF hb (by rw[yZ];exact hlen) (λH xs hO hS=>PF w H xs a hO Hm e2 hS) λH e s'=>hCX w H dX e s') λr' s' hq=>?_);obtain⟨u,En,rfl,h1,h2,h3,h4⟩:=hq;exact⟨.inl ⟨u,_,En,rfl,λ_=>rfl,h1,(OpenSpec.post_iff PB Hm _ _).mpr rfl,λz=>Bool.noConfusion (show false=true from z)⟩,h2,h3,h4⟩
theorem HC{r:OpenSpec}{k:Nat}{q:Program}{loose:ac5}{XP:(Str->Option Value)->Heap->Prop}{YP:World->Heap->Prop}{d:DefRec}{K:Params->Frag}{CX:Q7}{ps:ac5}{sp:Frag->Sp} (PB:r.wellSaid=true) (hdf:d.params.defaults=[]) (hlen:r.args.length=ps.length) (hr:dR k callerA) (hY:∀(w:World) (h:Heap),YP w h->(K w.params).In h) (F:∀(w:World) (mg:ac0) (fa:Addr) (h:Heap),YP w h->(K w.params).In h->h.Ns mainGlobals mg->mg d.name=some (.ref fa)-> ∃fd:FuncData,(∀(s:Shared) (us:acY),us.length=ps.length->BindsTo s fd ⟨us,[]⟩ (ps.zip us))/\ ∀base:Heap,(K w.params).In base->base.Ns mainGlobals mg->oe r.prog w (K w.params) mg base CX k fa fd ps (sp (K w.params))) (PF:∀(K:Frag) (H:Hp) (xs:List V) (a:Codec.denoteAll r.args),He H->Codec.withinAll r.args a=true->Codec.app r.args r.asked a=true->nR K H xs (Codec.encAll r.args a)-> sp K xs H (λv H'=>Dw K H' v (r.ret.enc (Codec.app r.args r.f a))) λ_ _ _=>False) (hCX:∀(H:Hp) (s:Shared) (e:Value) (s':Shared),CX [] H s (λ_ _ _=>False) e s'->False): PySem.W.WalkOS q loose XP YP r d [] (λf vs=>PySem.call f vs):=
 Lj (K:=K) (CX:=λ_=>CX) (sp:=λw=>sp (K w.params)) PB hdf hlen hr hY F (λw H xs a h1 h2 h3 h4=>PF (K w.params) H xs a h1 h2 h3 h4) λ_ H s e s'=>hCX H s e s'
end L2
namespace B
open PySem PySem.Spec PyProof.Rows L2
theorem o7{K:Frag}{a:Addr}{xs:List V}{g:TG}{tb:TS}{D:Ends}{σ:L2.St}{H:Hp}(Pv:Nat->L2.St->Hp->Prop)(h0:Pv 0 σ H)(hl:∀i σ H,i<=xs.length->Pv i σ H->cg K H a xs) (hs:∀i x σ H T,xs[i]?=some x->Pv i σ H->H T=none->g (.ref T) σ (upd H T (.tup [.int i,x])) λiJ H2=>tb {D with nx:=Pv (i+1),ct:=Pv (i+1),bk:=D.nx} iJ H2) (hd:∀σ H,Pv xs.length σ H->D.nx σ H): ∃W:Nat->Nat->L2.St->Hp->Prop,(∃m,W 0 m σ H)/\∀i m σ H,W i m σ H-> ((UT K a).stop i H/\D.nx σ H)\/((UT K a).go i H/\∃N:L2.St->Hp->Prop,(∀eU H',N eU H'->∃m',m'<m/\W (i+1) m' eU H')/\∀x H',(UT K a).Nc i H x H'->g x σ H' λiJ H2=>tb {D with nx:=N,ct:=N,bk:=D.nx} iJ H2):=by
 refine⟨λi m σ H=>m=xs.length - i/\i<=xs.length/\Pv i σ H,⟨xs.length,by simp,aD _,h0⟩,?_⟩;rintro i m σ H ⟨rfl,hi,p⟩;have q:=hl i σ H hi p;by_cases gV:i<xs.length
 ·refine .inr ⟨⟨xs,xs[i],q,by simp[gV]⟩,Pv (i+1),λeU H' p'=>⟨xs.length - (i+1),by omega,rfl,gV,p'⟩,λx H' y=>?_⟩;obtain⟨T,x,rfl,hT,rfl,y⟩:=y;exact hs i x σ _ T (y xs q) p hT
 ·have e:i=xs.length:=by omega
  subst e;exact .inl ⟨⟨xs,q,aA _⟩,hd σ H p⟩
theorem dP{X:Cx}{x:Str}{n:Int}{pos:Pos}(hg:Gl X x)(h:∃t,X.mg x=some (.int n t))(hd:(x==("__debug__":Str))=false:=by decide):PE X (.Name x pos) (tC (.int n)):=by
 obtain⟨t,h⟩:=h;exact J7 hg h ⟨_,rfl⟩ hd
def Df(K:Frag)(mg:ac0)(x:Str)(st:Stmt):Prop:=∃f fd,Q3 K x x st f fd/\mg x=some (.ref f)
def e7(P:Program)(w:World)(K:Frag)(mg:ac0)(base:Heap)(x:Str)(k:Nat)(ps:ac5)(sp:Sp):Prop:=
 ∃f fd,oe P w K mg base Na k f fd ps sp/\Binds K fd ps []/\keepIn K (.ref f)=true/\mg x=some (.ref f)
theorem Df.iO{P:Program}{w:World}{K:Frag}{mg:ac0}{base:Heap}{x:Str}{st:Stmt}{N ps:ac5}{k:Nat}{sp:Sp}(D:Df K mg x st)(S:bz N ps (aO st)) (hb:∀(kV doc pm:Value) (an:ac4) (dG ct:Value) (us:acY),us.length=ps.length->bindArgs (fnOf x x (ij st) (fE st) (aO st) .none kV doc pm an dG ct) ⟨us,[]⟩=pure (ps.zip us)) (len:∀vs H Q E,sp vs H Q E->vs.length=ps.length) (tH:∀(f:Addr) (dG:Value) (A:Around) (outer:List Env) (s:Shared) (H:Hp) (vs:List V) (Q:VK) (E:XK),dR k (A.deeper (envOfC x (aO st) s.heap.objs.size f dG))->sp vs H Q E-> ∃t,Hw (DS Na P w K mg base N x (aO st) f dG A outer s H E).Vy (fE st) t/\t {nx:=λ_ H'=>Q .eZ H',rt:=Q} (start N vs) H):e7 P w K mg base x (k+1) ps sp:=by
 obtain⟨f,fd,F,m⟩:=D;exact⟨f,fd,F.ok S len (tH f),F.binds hb,F.kp,m⟩
theorem bB{X:Cx}{x:Str}{k:Nat}{ps:ac5}{sp:Sp}{e:Expr}{es:ac8}{t:TA}{p pos:Pos}(C:e7 X.prog X.w X.K X.mg X.base x k ps sp)(hr:dR k X.A)(hg:Gl X x) (ha:PA X (e::es) t) (Bh:(x==("__debug__":Str))=false:=by decide) (he:starEach (e::es) X.env=(false,eval e X.env)::starEach es X.env:=by rfl) (iK:(backTo pos (starEach es X.env)).any (·.1)=false:=by rfl):
  PE X (.Call (.Name x p) (e::es) [] pos) (Ub sp [] E0 t):=by
 obtain⟨f,fd,G,b,kp,m⟩:=C;exact RV G hr hg m kp b .nil AX ha Bh he iK
theorem aF{H:Hp}{p:Addr}{o:HO}(h:H p=.none):bJ H (upd H p o):=λb u e=>by
 rw[aH (bo e h)];exact e
theorem BX{H H':Hp}{p:Addr}{o:HO}(s:bJ H H')(h:H p=.none):bJ H (upd H' p o):=λb u e=>by
 rw[aH (bo e h)];exact s b u e
def IL(H:Hp)(a:Addr)(ns:acZ):Prop:=H a=some (.lst (ns.map V.int))
theorem IL.same{H H':Hp}{a:Addr}{ns:acZ}(h:IL H a ns)(s:bJ H H'):IL H' a ns:=s _ _ h
theorem IL.sq{K:Frag}{H:Hp}{a:Addr}{ns:acZ}(h:IL H a ns):cg K H a (ns.map V.int):=cg.of h
structure LL(H:Hp)(a:Addr)(rs:ac1)(JA:List (List Int)):Prop where
 lst:H a=some (.lst (rs.map V.ref))
 at_:Paired (λr ns=>IL H r ns) rs JA
theorem fG{α β:Type}{F:α->β->Prop}:∀{kh:List α} {kJ:List β} {a:α} {b:β},Paired F kh kJ->F a b->Paired F (kh++ [a]) (kJ++ [b])
 |_,_,_,_,.nil,h=>.cons h .nil
 |_,_,_,_,.cons r t,h=>.cons r (fG t h)
theorem mJ{α β:Type}{F G:α->β->Prop}:∀{kh:List α} {kJ:List β},Paired F kh kJ->(∀a b,a∈kh->F a b->G a b)->Paired G kh kJ
 |_,_,.nil,_=>.nil
 |_,_,.cons r t,h=>.cons (h _ _ (aR ..) r) (mJ t λa b m=>h a b (aP _ m))
theorem kf{α β:Type}{F:α->β->Prop}:∀{kh:List α} {kJ:List β} {i:Nat} {b:β},Paired F kh kJ->kJ[i]?=some b->∃a,kh[i]?=some a/\F a b
 |_,_,i,b,.nil,h=>by simp at h
 |_,_,0,b,.cons r t,h=>by
  have e:=aX h;subst e;exact⟨_,rfl,r⟩
 |_,_,i+1,b,.cons r t,h=>kf (i:=i) t h
theorem drop_cons{α:Type}{l:List α}{i:Nat}{x:α}(h:l[i]?=some x):l.drop i=x::l.drop (i+1):=by
 obtain⟨h1,h2⟩:=aG.mp h;rw[<-h2];exact j3 h1
theorem fT{K:Frag}{H:Hp}:∀ns:List Int,nS K H (ns.map V.int) (ns.map PyData.int)
 | []=>.nil
 |n::ns=>.cons (.int n) (fT ns)
theorem lay_ints:∀ns:List Int,PyData.canLayAll0 (ns.map PyData.int)=true
 | []=>rfl
 |n::ns=>by
  rw[aK,PyData.canLayAll0,PyData.canLay0,lay_ints ns];rfl
theorem iy:∀ns:List Int,PyData.depthAll (ns.map PyData.int)=0
 | []=>rfl
 |n::ns=>by
  rw[aK,PyData.depthAll,PyData.depth,iy ns];rfl
theorem fP(ns:acZ):SeqAt.shaped (.tuple (ns.map PyData.int))=true:=by
 unfold SeqAt.shaped;rw[PyData.canLay0,PyData.depth,lay_ints,iy];rfl
theorem vD:∀a b:List Int,PyData.eqvAll (a.map PyData.int) (b.map PyData.int)=decide (a=b)
 | [],[]=>by rw[il,PyData.eqvAll];rfl
 | [],y::b=>by rw[il,aK,PyData.eqvAll];rfl
 |x::a,[]=>by rw[il,aK,PyData.eqvAll];rfl
 |x::a,y::b=>by
  rw[aK,aK,PyData.eqvAll,PyData.eqv,vD a b];by_cases h:x=y
  ·subst h;by_cases h2:a=b
   ·subst h2;simp
   ·simp[h2]
  ·simp[h]
theorem u5(a b:acZ):PyData.eqv (.tuple (a.map PyData.int)) (.tuple (b.map PyData.int))=decide (a=b):=by
 rw[PyData.eqv,vD]
end B
namespace SM
open Gh LC
def ib(w:Bytes):List Int:=w.map λc=>(c.toNat:Int)
theorem VQ:ib []=[]:=rfl
theorem gS(c:UInt8)(w:Bytes):ib (c::w)=(c.toNat:Int)::ib w:=rfl
theorem oY(a b:Bytes):ib (a++b)=ib a++ib b:=aN
theorem dI(w:Bytes):(ib w).length=w.length:=af ..
theorem w6:∀(x:acZ),(∀v∈x,0<=v/\v<=255)->ib (GlyphINeutral.text x)=x
 | [],_=>rfl
 |v::x,h=>by
  have h1:=h v (aR ..);have e:GlyphINeutral.text (v::x)=UInt8.ofNat v.toNat::GlyphINeutral.text x:=rfl;rw[e,gS,w6 x λu hu=>h u (aP _ hu)];have:((UInt8.ofNat v.toNat).toNat:Int)=v:=by
   rw[Hy];omega
  rw[this]
theorem xy{a b:UInt8}:a<b↔a.toNat<b.toNat:=fW
theorem QI:∀(w y:Bytes),rF (λa c=>decide (a<=c)) (λm n=>decide (m<=n)) (ib w) (ib y)=!wordBefore y w
 | [],[]=>rfl
 | [],_::y=>by
  show decide (0<=(ib y).length+1)=true;exact ai (aD _)
 |a::w,[]=>by
  show decide ((ib w).length+1<=0)=false;exact ag (by omega)
 |a::w,b::y=>by
  have ih:=QI w y;show(if (a.toNat:Int)=(b.toNat:Int) then rF _ _ (ib w) (ib y) else decide ((a.toNat:Int)<=(b.toNat:Int)))=!(decide (b<a) ||(b==a&&wordBefore y w));by_cases h:a=b
  ·grind
  ·have hn:a.toNat≠b.toNat:=λq=>h (b8.mp q)
   rw[ae (by omega)];have e:(b==a)=false:=cc.mpr (cv h);rw[e,d8,Hj,<-decide_not];exact dN.mpr (by rw[xy];omega)
theorem cmp_gt:∀(w y:Bytes),rF (λa c=>decide (c<a)) (λm n=>decide (n<m)) (ib w) (ib y)=wordBefore y w
 | [],[]=>rfl
 | [],_::y=>by
  show decide ((ib y).length+1<0)=false;exact ag (by omega)
 |a::w,[]=>by
  show decide (0<(ib w).length+1)=true;exact ai (by omega)
 |a::w,b::y=>by
  have ih:=cmp_gt w y;show(if (a.toNat:Int)=(b.toNat:Int) then rF _ _ (ib w) (ib y) else decide ((b.toNat:Int)<(a.toNat:Int)))=(decide (b<a) ||(b==a&&wordBefore y w));by_cases h:a=b
  ·grind
  ·have hn:a.toNat≠b.toNat:=λq=>h (b8.mp q)
   rw[ae (by omega)];have e:(b==a)=false:=cc.mpr (cv h);rw[e,d8,Hj];exact dN.mpr (by rw[xy];omega)
def fill(n:Nat)(w:Bytes):Bytes:=w++List.replicate (n - w.length) 122
theorem UL:∀(p:Bytes) (n:Nat),p.length<=n->(∀c∈p,c.toNat<=122)->wordBefore p (List.replicate n 122)=(decide (p.length<n) ||p.any λ(c:UInt8)=>c !=122)
 | [],0,_,_=>rfl
 | [],n+1,_,_=>by
  show true=(decide (0<n+1) ||_);rw[ai (Nat.succ_pos n)];rfl
 |a::p,0,h,_=>by simp at h
 |a::p,n+1,h,hc=>by
  have ih:=UL p n (xp h) λc m=>hc c (aP _ m)
  have ha:=hc a (aR ..);show(decide (a<122) ||(a==122&&wordBefore p (List.replicate n 122)))=(decide (p.length+1<n+1) ||((a !=122) ||p.any λ(c:UInt8)=>c !=122));by_cases h2:a=122
  ·grind
  ·have hn:a.toNat≠122:=λq=>h2 (b8.mp q)
   have e1:decide (a<122)=true:=ai (xy.mpr (by show a.toNat<122;omega));have e2:(a !=122)=true:=by simp[h2]
   rw[e1,e2];simp
theorem grow:∀(p w:Bytes) (n:Nat),p.length<=n->w.length<=n->(∀c∈p,c.toNat<=122)-> wordBefore p (fill n w)=(wordBefore p w ||(w.isPrefixOf p&&(decide (p.length<n) ||(p.drop w.length).any λ(c:UInt8)=>c !=122)))
 |p,[],n,hp,_,hc=>by
  show wordBefore p (List.replicate n 122)=(wordBefore p [] ||(([]:Bytes).isPrefixOf p&&(decide (p.length<n) ||p.any λ(c:UInt8)=>c !=122)));rw[UL p n hp hc];cases p <;> simp[wordBefore]
 | [],a::w,n,_,_,_=>by
  show true=(true ||_);rfl
 |b::p,a::w,0,hp,_,_=>by simp at hp
 |b::p,a::w,n+1,hp,hw,hc=>by
  have ih:=grow p w n (xp hp) (xp hw) λc m=>hc c (aP _ m)
  have ef:fill (n+1) (a::w)=a::fill n w:=by
   unfold fill;rw[aJ,Nat.add_sub_add_right];rfl
  rw[ef];show(decide (b<a) ||(b==a&&wordBefore p (fill n w)))=((decide (b<a) ||(b==a&&wordBefore p w)) ||((a==b&&w.isPrefixOf p)&&(decide (p.length+1<n+1) ||(p.drop w.length).any λ(c:UInt8)=>c !=122)))
  grind
def gg(X:Lexicon):Bytes:=X.getLast?.getD []
theorem IG(X:Lexicon)(w:Bytes):gg (X++ [w])=w:=by
 unfold gg;rw[List.getLast?_append];rfl
structure oa(X:Lexicon)(w:Bytes):Prop where
 xs:∀y∈X,y.length<=32/\∀c∈y,c.toNat<=122
 wl:w.length<=32
 wc:∀c∈w,c.toNat<=122
 xl:X.length<=4096
 xw:w≠[]->X.length<4096
theorem oa.start:oa [] []:=⟨λ_ h=>(by cases h),aD _,λ_ h=>(by cases h),aD _,λh=>absurd rfl h⟩
theorem oa.last{X:Lexicon}{w:Bytes}(I:oa X w):(gg X).length<=32/\∀c∈gg X,c.toNat<=122:=by
 unfold gg;cases h:X.getLast? with
 |none=>exact⟨aD _,λ_ h=>(by cases h)⟩
 |some y=>exact I.xs y (List.mem_of_getLast? h)
theorem LA{c:UInt8}:isSmall c=true↔97<=c.toNat/\c.toNat<=122:=by
 unfold isSmall;rw[aS,bY,bY]
theorem oa.put{X:Lexicon}{w:Bytes}(I:oa X w)(h:wordBefore (gg X) w=true):oa (X++ [w]) []:=by
 have hw:w≠[]:=by
  rintro rfl;cases hl:gg X with
  |nil=>rw[hl] at h;exact absurd h (by decide)
  |cons a r=>rw[hl] at h;exact absurd h (by simp[wordBefore])
 refine⟨λy hy=>?_,aD _,λ_ h=>(by cases h),?_,λh=>absurd rfl h⟩
 ·rcases bx.mp hy with q|q
  ·exact I.xs y q
  ·obtain rfl:y=w:=aE.mp q;exact⟨I.wl,I.wc⟩
 ·have:=I.xw hw;rw[aw];show X.length+1<=4096;omega
theorem oa.more{X:Lexicon}{w:Bytes}{c:UInt8}(I:oa X w)(h1:X.length<4096)(h2:isSmall c=true)(h3:w.length<32):oa X (w++ [c]):=by
 refine⟨I.xs,by rw[aw];exact h3,λd hd=>?_,I.xl,λ_=>h1⟩;rcases bx.mp hd with q|q
 ·exact I.wc d q
 ·obtain rfl:d=c:=aE.mp q;exact(LA.mp h2).2
theorem Js(X:Lexicon)(w:Bytes)(p:Nat)(r:Bytes):wordsAt X w p (10::r)=if wordBefore (gg X) w=true then wordsAt (X++ [w]) [] (p+1) r else .error p:=by
 have e:wordsAt X w p (10::r)=if isSmall 10=true/\w.length<WORD/\X.length<WORDS/\(match X.getLast? with
   |some y=>mayGrow y (w++ [10])
   |none=>true)=true then wordsAt X (w++ [10]) (p+1) r
  else if (10:UInt8)=LF/\w.isEmpty=false/\(match X.getLast? with
   |some y=>wordBefore y w
   |none=>true)=true then wordsAt (X++ [w]) [] (p+1) r
  else .error p:=by rw[wordsAt];rfl
 rw[e,ae (λq=>absurd q.1 (by decide))];have k:((10:UInt8)=LF/\w.isEmpty=false/\(match X.getLast? with |some y=>wordBefore y w|none=>true)=true)↔wordBefore (gg X) w=true:=by
  unfold gg;cases X.getLast? with
  |none=>
   cases w with
   |nil=>simp[wordBefore]
   |cons a w=>simp[wordBefore,LF]
  |some y=>
   cases w with
   |nil=>cases y <;> simp[wordBefore]
   |cons a w=>simp[LF]
 grind
theorem D8{X:Lexicon}{w:Bytes}(I:oa X w)(p:Nat)(c:UInt8)(r:Bytes)(hc:c≠10): wordsAt X w p (c::r)=if X.length<4096/\isSmall c=true/\w.length<32/\wordBefore (gg X) (fill 32 (w++ [c]))=true then wordsAt X (w++ [c]) (p+1) r else .error p:=by
 have e:wordsAt X w p (c::r)=if isSmall c=true/\w.length<WORD/\X.length<WORDS/\(match X.getLast? with
   |some y=>mayGrow y (w++ [c])
   |none=>true)=true then wordsAt X (w++ [c]) (p+1) r
  else if c=LF/\w.isEmpty=false/\(match X.getLast? with
   |some y=>wordBefore y w
   |none=>true)=true then wordsAt (X++ [w]) [] (p+1) r
  else .error p:=by rw[wordsAt];rfl
 rw[e,ae (c:=c=LF/\_) (λq=>hc q.1)];have k:(isSmall c=true/\w.length<WORD/\X.length<WORDS/\(match X.getLast? with |some y=>mayGrow y (w++ [c])|none=>true)=true)↔
   (X.length<4096/\isSmall c=true/\w.length<32/\wordBefore (gg X) (fill 32 (w++ [c]))=true):=by
  have hl:∀z:Bool,(w.length<32->(match X.getLast? with |some y=>mayGrow y (w++ [c])|none=>true)=z->wordBefore (gg X) (fill 32 (w++ [c]))=z):=by
   intro z hw hz;rw[grow (gg X) (w++ [c]) 32 I.last.1 (by rw[aw];exact hw) I.last.2,<-hz];unfold gg;cases X.getLast? with
   |none=>cases w <;> rfl
   |some y=>rfl
  constructor
  ·rintro⟨h1,h2,h3,h4⟩;exact⟨h3,h1,h2,hl true h2 h4⟩
  ·rintro⟨h1,h2,h3,h4⟩;refine⟨h2,h3,h1,?_⟩;cases hz:(match X.getLast? with |some y=>mayGrow y (w++ [c])|none=>true) with
   |true=>rfl
   |false=>
    have:=hl false h3 hz;rw[this] at h4;exact h4
 grind
def rE:Bytes->Bytes->List Bytes
 |_,[]=>[]
 |w,c::r=>if c=10 then w::rE [] r else rE (w++ [c]) r
theorem Jk:∀(r:Bytes) (X:Lexicon) (w:Bytes) (p:Nat) (Y:Lexicon),oa X w->wordsAt X w p r=.ok Y->Y=X++rE w r
 | [],X,w,p,Y,_,h=>by
  rw[wordsAt] at h;split at h
  ·injection h with h;rw[<-h];show X=X++ [];rw[aI]
  ·cases h
 |c::r,X,w,p,Y,I,h=>by
  by_cases hc:c=10
  ·subst hc;rw[Js] at h;by_cases hb:wordBefore (gg X) w=true
   ·rw[ah hb] at h;rw[Jk r _ _ _ _ (I.put hb) h];show X++ [w]++rE [] r=X++(if (10:UInt8)=10 then w::rE [] r else _);rw[ah rfl,az];rfl
   ·rw[ae hb] at h;cases h
  ·rw[D8 I p c r hc] at h;by_cases hb:(X.length<4096/\isSmall c=true/\w.length<32/\wordBefore (gg X) (fill 32 (w++ [c]))=true)
   ·rw[ah hb] at h;rw[Jk r _ _ _ _ (I.more hb.1 hb.2.1 hb.2.2.1) h];show _=X++(if c=10 then w::rE [] r else rE (w++ [c]) r);rw[ae hc]
   ·rw[ae hb] at h;cases h
theorem CS:∀(r:Bytes) (X:Lexicon) (w:Bytes) (p:Nat) (Y:Lexicon),oa X w->wordsAt X w p r=.ok Y->oa Y []
 | [],X,w,p,Y,I,h=>by
  rw[wordsAt] at h
  grind
 |c::r,X,w,p,Y,I,h=>by
  by_cases hc:c=10
  ·subst hc;rw[Js] at h;by_cases hb:wordBefore (gg X) w=true
   ·rw[ah hb] at h;exact CS r _ _ _ _ (I.put hb) h
   ·rw[ae hb] at h;cases h
  ·rw[D8 I p c r hc] at h;by_cases hb:(X.length<4096/\isSmall c=true/\w.length<32/\wordBefore (gg X) (fill 32 (w++ [c]))=true)
   ·rw[ah hb] at h;exact CS r _ _ _ _ (I.more hb.1 hb.2.1 hb.2.2.1) h
   ·rw[ae hb] at h;cases h
def o8(b:Bytes):Int:=match readLexicon b with
 | .error k=>k
 | .ok _=> -1
end SM
namespace B
open PySem PySem.Spec PyProof.Rows L2
def tGR(mg:ac0)(x:Str):TE:=λ_ H Q=>∀a,mg x=some (.ref a)->Q (.ref a) H
theorem Oz{X:Cx}{x:Str}{pos:Pos}(hg:Gl X x)(h:∃a,X.mg x=some (.ref a))(hd:(x==("__debug__":Str))=false:=by decide):PE X (.Name x pos) (tGR X.mg x):=by
 obtain⟨a,h⟩:=h;intro pins s σ H Q I hq;exact J7 (v:=.ref a) hg h rfl hd pins s σ H Q I (hq a h)
def K9(K:Frag)(m q:Str)(C:Addr)(st:Stmt):Prop:=∃f fd,Q3 K m q st f fd/\QY K C m f
def Q4(K:Frag)(q:Str)(C:Addr)(st:Stmt):Prop:=∃f fd,Q3 K "__init__" q st f fd/\Mk K C f
def d4(P:Program)(w:World)(K:Frag)(mg:ac0)(base:Heap)(C:Addr)(m:Str)(k:Nat)(ps:ac5)(sp:Sp):Prop:=
 ∃f fd,oe P w K mg base Na k f fd ps sp/\Binds K fd ps []/\QY K C m f
def lB(P:Program)(w:World)(K:Frag)(mg:ac0)(base:Heap)(x:Str)(C:Addr)(k:Nat)(ps:ac5)(sp:Sp):Prop:=
 ∃f fd,oe P w K mg base Na k f fd ps sp/\Binds K fd ps []/\Mk K C f/\mg x=some (.ref C)
section
variable{P:Program}{w:World}{K:Frag}{mg:ac0}{base:Heap}{x m q:Str}{C:Addr}{st:Stmt}{N ps:ac5}{k:Nat}{sp:Sp}
theorem K9.iO(D:K9 K m q C st)(S:bz N ps (aO st)) (hb:∀(kV doc pm:Value) (an:ac4) (dG ct:Value) (us:acY),us.length=ps.length->bindArgs (fnOf m q (ij st) (fE st) (aO st) .none kV doc pm an dG ct) ⟨us,[]⟩=pure (ps.zip us)) (len:∀vs H Q E,sp vs H Q E->vs.length=ps.length) (tH:∀(f:Addr) (dG:Value) (A:Around) (outer:List Env) (s:Shared) (H:Hp) (vs:List V) (Q:VK) (E:XK),dR k (A.deeper (envOfC q (aO st) s.heap.objs.size f dG))->sp vs H Q E-> ∃t,Hw (DS Na P w K mg base N q (aO st) f dG A outer s H E).Vy (fE st) t/\t {nx:=λ_ H'=>Q .eZ H',rt:=Q} (start N vs) H):d4 P w K mg base C m (k+1) ps sp:=by
 obtain⟨f,fd,F,M⟩:=D;exact⟨f,fd,F.ok S len (tH f),F.binds hb,M⟩
theorem Q4.iO(hx:mg x=some (.ref C))(D:Q4 K q C st)(S:bz N ps (aO st)) (hb:∀(kV doc pm:Value) (an:ac4) (dG ct:Value) (us:acY),us.length=ps.length->bindArgs (fnOf "__init__" q (ij st) (fE st) (aO st) .none kV doc pm an dG ct) ⟨us,[]⟩=pure (ps.zip us)) (len:∀vs H Q E,sp vs H Q E->vs.length=ps.length) (tH:∀(f:Addr) (dG:Value) (A:Around) (outer:List Env) (s:Shared) (H:Hp) (vs:List V) (Q:VK) (E:XK),dR k (A.deeper (envOfC q (aO st) s.heap.objs.size f dG))->sp vs H Q E-> ∃t,Hw (DS Na P w K mg base N q (aO st) f dG A outer s H E).Vy (fE st) t/\t {nx:=λ_ H'=>Q .eZ H',rt:=Q} (start N vs) H):lB P w K mg base x C (k+1) ps sp:=by
 obtain⟨f,fd,F,M⟩:=D;exact⟨f,fd,F.ok S len (tH f),F.binds hb,M,hx⟩
end
section
variable{X:Cx}{x m:Str}{C:Addr}{k:Nat}{ps:ac5}{sp:Sp}{o e:Expr}{es:ac8}{ta:TE}{t:TA}{p pos apos:Pos}
theorem cy{pl:Sem Bool}(he:PE X o ta)(c:Bv X.K C)(M:d4 X.prog X.w X.K X.mg X.base C m k ps sp)(hr:dR k X.A)(ha:PA X (e::es) t) (vZ:starEach (e::es) X.env=(false,eval e X.env)::starEach es X.env:=by rfl) (iK:(backTo pos (starEach es X.env)).any (·.1)=false:=by rfl)
  (ht:eval (.Call (.Attribute o m apos) (e::es) [] pos) X.env=(do
   let ov <-eval o X.env
   standAt apos.atName
   let (f,first) <-holding [ov] (getMethod ov m pl)
   callWith pos f first (backTo pos (starEach (e::es) X.env)) (backToKw pos (keywordEach [] X.env))):=by rfl):
  PE X (.Call (.Attribute o m apos) (e::es) [] pos) (JD C m sp [] E0 ta t):=by
 obtain⟨f,fd,G,b,hm⟩:=M;exact RT he c hm G hr b .nil AX ha vZ iK ht
theorem cO{pl:Sem Bool}(he:PE X o ta)(c:Bv X.K C)(M:d4 X.prog X.w X.K X.mg X.base C m k ps sp)(hr:dR k X.A) (ht:eval (.Call (.Attribute o m apos) [] [] pos) X.env=(do let ov <-eval o X.env;standAt apos.atName;let (f,first) <-holding [ov] (getMethod ov m pl);callWith pos f first (backTo pos (starEach [] X.env)) (backToKw pos (keywordEach [] X.env))):=by rfl):
  PE X (.Call (.Attribute o m apos) [] [] pos) (JD C m sp [] E0 ta NR):=by
 obtain⟨f,fd,G,b,hm⟩:=M;exact OA he c hm G hr b .nil AX ht
theorem g6(M:lB X.prog X.w X.K X.mg X.base x C k ps sp)(hr:dR (k+1) X.A)(hg:Gl X x)(ha:PA X (e::es) t) (Bh:(x==("__debug__":Str))=false:=by decide) (he:starEach (e::es) X.env=(false,eval e X.env)::starEach es X.env:=by rfl) (iK:(backTo pos (starEach es X.env)).any (·.1)=false:=by rfl):
  PE X (.Call (.Name x p) (e::es) [] pos) (JE C sp [] E0 t):=by
 obtain⟨f,fd,G,b,hm,hx⟩:=M;exact RU hm G hr hg hx b .nil AX ha Bh he iK
theorem AV(M:lB X.prog X.w X.K X.mg X.base x C k ps sp)(hr:dR (k+1) X.A)(hg:Gl X x) (Bh:(x==("__debug__":Str))=false:=by decide):PE X (.Call (.Name x p) [] [] pos) (JE C sp [] E0 NR):=by
 obtain⟨f,fd,G,b,hm,hx⟩:=M;exact OB hm G hr hg hx b .nil AX Bh
def Clf(P:Program)(w:World)(K:Frag)(mg:ac0)(base:Heap)(f:Addr)(k:Nat)(sp:Sp):Prop:=
 ∃fd ps,oe P w K mg base Na k f fd ps sp/\Binds K fd ps []/\keepIn K (.ref f)=true
theorem e7.clf{P:Program}{w:World}{K:Frag}{mg:ac0}{base:Heap}(c:e7 P w K mg base x k ps sp){f:Addr}(h:mg x=some (.ref f)):Clf P w K mg base f k sp:=by
 obtain⟨f',fd,G,b,kp,m⟩:=c;have e:=aX (m.symm.trans h);cases e;exact⟨fd,ps,G,b,kp⟩
def U7(X:Cx)(ta:TE)(t:TA):TE:=λσ H Q=>ta σ H λv H1=>∃f k sp,v=.ref f/\Clf X.prog X.w X.K X.mg X.base f k sp/\dR k X.A/\t σ H1 λvs H2=>sp vs H2 Q E0
theorem Fh(hf:PE X (.Name x p) ta)(ha:PA X (e::es) t) (he:starEach (e::es) X.env=(false,eval e X.env)::starEach es X.env:=by rfl) (iK:(backTo pos (starEach es X.env)).any (·.1)=false:=by rfl):
  PE X (.Call (.Name x p) (e::es) [] pos) (U7 X ta t):=by
 intro pins s σ H Q I h;refine gy (d9 (hf pins s σ H _ I h) λu s1 ⟨v,H1,I1,r1,f,k,sp,ev,⟨fd,ps,G,b,kp⟩,hr,q⟩=>?_);subst ev;obtain rfl:u=Value.ref f:=r1;refine qF (h₀:=X.base) I.ok.mod.W5 kp (d9 (ha pos pins s1 σ H1 _ I1 q) λus s2 ⟨vs,H2,I2,r,q2⟩=>⟨I2.C0,?_⟩) he iK;exact BZ G hr b .nil AX I2 r (by rw[aI];exact q2)
def abe(K:Frag)(neg:Bool):R2:=λx y H Q=>∃d ds,Dp K H x d/\(Dp K H y (.list ds)\/Dp K H y (.tuple ds))/\SeqAt.shaped d=true/\PyData.canLayAll0 ds=true/\Q (.bl (if neg then !(ds.any λy=>PyData.eqv y d) else ds.any λy=>PyData.eqv y d)) H
theorem Kr{A:Around}{ds:List PyData}{d:PyData}(hd:SeqAt.shaped d=true)(hu:A.units+64+1<cLine):A.units+1+min (PyData.depthAll ds) d.depth<cLine:=by
 have h1:=SeqAt.depth_of_shaped hd;have h2:min (PyData.depthAll ds) d.depth<=d.depth:=Nat.min_le_right _ _;omega
theorem x6{k:Nat}(hu:dR k X.A):qe X (compareOp .In) (abe X.K false):=by
 intro pins s σ H x y v u Q I rx ry h;obtain⟨d,ds,hd,hs,h1,h2,q⟩:=h;obtain⟨as,r1⟩:=Dp.reads I d x v hd rx;have hr:X.A.units+64+1<cLine:=by have:=hu.un;omega
 rcases hs with hs|hs
 ·obtain⟨bs,r2⟩:=Dp.reads I _ y u hs ry;exact SeqAt.in_list_reads r2 r1 h2 (SeqAt.canLay_of_shaped h1) (Kr h1 hr) ⟨.bl _,H,I,rfl,q⟩
 ·obtain⟨bs,r2⟩:=Dp.reads I _ y u hs ry;exact SeqAt.in_tuple_reads r2 r1 h2 (SeqAt.canLay_of_shaped h1) (Kr h1 hr) ⟨.bl _,H,I,rfl,q⟩
end
end B
namespace B
open PySem PySem.Spec PyProof.Rows L2 SeqAt
open AutoSeq1 (wpAny_loadPart')
theorem zC(l:Addr)(items:ac6)(n:Nat)(dd:ac4)(sl:ac9)(x:Value)(e:Value->Bool)(j:Nat)(hj:j<items.size) (hit:e items[j]=true) (rS:∀m (hm:m<items.size),m<j->e items[m]=false): Meets (Builtin.«tuple.index» ⟨[.ref l,x],[]⟩) (λA R s=>s.heap.get? l=some {cls:=.type "tuple",dict:=dd,data:=.seq items n,slots:=sl}/\(∀y,y∈items->EqAt A.in1 s y x (e y))/\R (.ok (.ret (.int j s.toks))) {s with toks:=s.toks+1}):=by
 intro prog w A R s h;obtain⟨hp,g,d,tk,os⟩:=s;obtain⟨hl,he,h⟩:=h
 wp_walk using wpAny_loadPart' hl
 rw[Nat.min_self]
 show wpAny _ _ (forIn ([:items.size]:Std.Legacy.Range) ((none,()):Option Fin×Unit) (λ(i:Nat) (__s:Option Fin×Unit)=>match items[i]? with
      |some y=>do
       let vi <-eqBool y x
       if vi=true then do
         let vi <-retInt ↑i
         pure (ForInStep.done (some vi,()))
        else pure (ForInStep.yield (none,()))
      |x=>pure (ForInStep.yield (none,())))) _ _ _
 rw[Std.Legacy.Range.forIn_eq_forIn_range'];have hsz:([:items.size]:Std.Legacy.Range).size=items.size:=by simp[Std.Legacy.Range.size]
 show wpAny _ _ (forIn (List.range' 0 ([:items.size]:Std.Legacy.Range).size 1) _ _) _ _ _;rw[hsz];refine Bx _ (λrest b s'=>b.1=none/\s'=⟨hp,g,d,tk,os⟩/\∃i,i<=j/\rest=List.range' i (items.size - i) 1) _ ?turn ?fin _ _ ⟨rfl,rfl,0,aD _,rfl⟩
 case turn=>
  rintro y rest b s' ⟨hb,rfl,i,Hn,hr⟩;have Nk:i<items.size:=by omega
  obtain⟨m,hm⟩:∃m,items.size - i=m+1:=⟨items.size - i - 1,by omega⟩;rw[hm,List.range'_succ] at hr;obtain⟨rfl,rfl⟩:=iM hr;have hi:items[y]?=some items[y]:=by simp[Nk]
  simp only[hi];refine aa (he _ (Array.getElem_mem Nk) prog w _ _ ?_);by_cases hyj:y=j
  ·subst hyj;rw[hit]
   wp_walk
   exact h
  ·rw[rS y Nk (by omega)]
   wp_walk
   exact⟨rfl,rfl,y+1,by omega,by congr 1;omega⟩
 case fin=>
  rintro⟨b1,b2⟩ s' ⟨hb,rfl,i,Hn,hr⟩;exfalso;obtain⟨m,hm⟩:∃m,items.size - i=m+1:=⟨items.size - i - 1,by omega⟩;rw[hm,List.range'_succ] at hr;cases hr
def RJ(K:Frag):V->List V->Hp->VK->Prop:=λx xs H Q=>∃(a:Addr) (ys:List V) (y:V) (j:Nat) (z:V),x=V.ref a/\xs=[y]/\dJ K H a ys/\lM y=true/\ys.all lM=true/\ys[j]?=some z/\Qx z y=true/\
 (∀(m:Nat) (z':V),m<j->ys[m]?=some z'->Qx z' y=false)/\Q (.int j) H
theorem L4{X:Cx}:MtR X "tuple.index" (RJ X.K):=by
 intro pins s σ H x xs v us Q I rx rxs h;obtain⟨a,ys,y,j,z,rfl,rfl,hs,fy,fys,hz,hzj,rS,q⟩:=h;cases rx;cases rxs with
 |cons ry rt=>
  rename_i uy ut;cases rt;obtain⟨b6,rv,⟨⟨cls,dd,data,sl⟩,ho,hc,n,hd⟩,hlen⟩:=I.tuple hs;simp only at hc hd;subst hc hd;obtain⟨u,hu,ru⟩:=rv.get hz;obtain⟨hjl,hje⟩:=aG.mp hu;have hvl:=rv.length;have hj:j<b6.toArray.size:=by simpa using hjl
  refine Eu Xz ⟨_,ho,rfl⟩ PySem.F.entry_tuple_index (PySem.F.args_tuple_index_2 _ _)
   (zC a b6.toArray n dd sl uy (Hr y) j hj ?_ ?_) ⟨ho,λu' Za=>mL ry fy rv fys u' (by simpa using Za),?_⟩
  ·have e1:b6.toArray[j]=u:=by simpa using hje
   rw[e1,DE ru (KI fys hz)];exact hzj
  ·intro m hm Xf;have Rf:m<b6.length:=by simpa using hm
   have hmy:m<ys.length:=by omega
   have Y9:ys[m]?=some ys[m]:=aZ hmy;obtain⟨u2,hu2,ru2⟩:=rv.get Y9;obtain⟨_,hme⟩:=aG.mp hu2;have e1:b6.toArray[m]=u2:=by simpa using hme
   rw[e1,DE ru2 (KI fys Y9)];exact rS m _ Xf Y9
  ·exact⟨.int j,H,I.tok _,⟨_,rfl⟩,q⟩
end B
namespace LT
open PySem PySem.Spec PyProof.Rows L2
def lexLe:List Int->List Int->Bool
 | [],[]=>true
 | [],_::_=>true
 |_::_,[]=>false
 |x::xs,y::ys=>if x=y then lexLe xs ys else decide (x<=y)
theorem lj(x y:Int)(xs ys:acZ):lexLe (x::xs) (y::ys)=if x=y then lexLe xs ys else decide (x<=y):=rfl
theorem qy:lexLe [] []=true:=rfl
theorem yz(y:Int)(ys:acZ):lexLe [] (y::ys)=true:=rfl
theorem yA(x:Int)(xs:acZ):lexLe (x::xs) []=false:=rfl
theorem Ol(A:Around)(s:Shared)(a:Int)(t:Tok)(c:Int)(u:Tok)(prog:Program)(w:World)(E:acX)(Q:acX)(h:Q (.bool (decide (a<=c))) s): wpAny (model prog w) A (richCompare .LtE (.int a t) (.int c u)) Q E s:=
 (PyProof.Rows.le_int h:wpAny (model prog w) A (compareOp .LtE (.int a t) (.int c u)) Q E s)
section
open PySem.SeqAt
open PySem.AutoSeq1 (wpAny_loadPart')
open PySem.MeetsSeq PySem.MeetsSeq2 PySem.MeetsSeq3
theorem zB(l b:Addr)(items cQ:ac6)(n n2:Nat)(dd GV:ac4)(sl EW:ac9)(ns ms:acZ)(hi:IntsAre items.toList ns)(hj:IntsAre cQ.toList ms): Meets (Builtin.«tuple.__le__» ⟨[.ref l,.ref b],[]⟩) (λ_ R s=>s.heap.get? l=some {cls:=.type "tuple",dict:=dd,data:=.seq items n,slots:=sl}/\s.heap.get? b=some {cls:=.type "tuple",dict:=GV,data:=.seq cQ n2,slots:=EW}/\ R (.ok (.ret (.bool (lexLe ns ms)))) s):=
 .of_wp λprog w A R s h=>by
  obtain⟨hp,g,d,tk,os⟩:=s;obtain⟨hl,hb,h⟩:=h;have f2:=AutoSeq1.sub_tuple_tuple;have z1:items.size=ns.length:=by rw[<-hi.length];simp
  have z2:cQ.size=ms.length:=by rw[<-hj.length];simp
  wp_walk using wpAny_loadPart' hl,wpAny_loadPart' hb,Bx _ (λrest b s'=>b.1=none/\s'=⟨hp,g,d,tk,os⟩/\∃(vs ws:acY) (Ng W2:acZ),rest=vs.zip ws/\
   IntsAre vs Ng/\IntsAre ws W2/\Ng.length+cQ.size=W2.length+items.size/\R (.ok (.ret (.bool (lexLe Ng W2)))) ⟨hp,g,d,tk,os⟩) _
  case turn=>
   rintro⟨y,x⟩ rest b s' ⟨P7,rfl,vs,ws,Ng,W2,hz,hvi,Hm,hlen,hR⟩;cases hvi with
   |nil=>rw[List.zip_nil_left] at hz;cases hz
   |cons a t abF=>
    cases Hm with
    |nil=>rw[List.zip_nil_right] at hz;cases hz
    |cons c u abD=>
     rw[fO] at hz;injection hz with hyx PJ;injection hyx with hy hx;subst hy hx;rw[lj] at hR;simp only[aJ] at hlen;obtain⟨e,he,Gp⟩:=HT.yX A.in1 ⟨hp,g,d,tk,os⟩ a t c u;refine aa (he prog w _ _ ?_);cases e with
     |true=>
      rw[ah (Gp.mp rfl)] at hR
      wp_walk
      exact⟨rfl,rfl,_,_,_,_,PJ,abF,abD,by omega,hR⟩
     |false=>
      rw[ae (λq=>absurd (Gp.mpr q) aT)] at hR;have hri:=Ol A.in1 ⟨hp,g,d,tk,os⟩ a t c u prog w
      wp_walk using hri
      exact⟨_,rfl,by simpa using hR⟩
  case fin=>
   rintro⟨b1,b2⟩ s' ⟨P7,rfl,vs,ws,Ng,W2,hz,hvi,Hm,hlen,hR⟩;simp only at P7;subst P7;have hv:lexLe Ng W2=decide (items.size<=cQ.size):=by
    cases hvi with
    |nil=>
     cases Hm with
     |nil=>
      simp only[cJ] at hlen;rw[qy];exact(ai (by omega)).symm
     |cons c u hw=>
      simp only[cJ,aJ] at hlen;rw[yz];exact(ai (by omega)).symm
    |cons a t hv=>
     cases Hm with
     |nil=>
      simp only[cJ,aJ] at hlen;rw[yA];exact(ag (by omega)).symm
     |cons c u hw=>
      rw[fO] at hz;cases hz
   rw[hv] at hR
   wp_walk
   exact⟨_,rfl,by simpa [Builtin.Tuple.tupleCompareSizes] using hR⟩
  case h=>
   exact⟨rfl,rfl,items.toList,cQ.toList,ns,ms,rfl,hi,hj,by omega,h⟩
end
def abc(K:Frag):R2:=λx y H Q=>∃a b ns ms,x=.ref a/\y=.ref b/\dJ K H a (ns.map V.int)/\dJ K H b (ms.map V.int)/\Q (.bl (lexLe ns ms)) H
theorem Vq{X:Cx}(hu:X.A.units<cLine):qe X (compareOp .LtE) (abc X.K):=by
 intro pins s σ H x y v u Q I rx ry h;obtain⟨a,b,ns,ms,rfl,rfl,ha,hb,q⟩:=h;cases rx;cases ry;obtain⟨b6,r1,p1,_⟩:=I.tuple ha;obtain⟨F7,r2,p2,_⟩:=I.tuple hb;have hi:IntsAre b6.toArray.toList ns:=intsAre_of r1;have hj:IntsAre F7.toArray.toList ms:=intsAre_of r2;obtain⟨⟨cls,dd,data,sl⟩,ho,hc,n,hd⟩:=id p1;obtain⟨⟨aaw,GV,data2,EW⟩,UA,Rh,n2,hd2⟩:=id p2;simp only at hc hd Rh hd2;subst hc hd Rh hd2;exact Es (op:=.LtE) ⟨_,ho,rfl⟩ ⟨_,UA,rfl⟩ PySem.F.slot_tuple_le PySem.F.entry_tuple_le (PySem.F.args_tuple_le_2 _ _) (zB a b _ _ n n2 dd GV sl EW ns ms hi hj)
  ⟨ho,UA,show Value.bool (lexLe ns ms)≠Value.notImplemented/\EP X pins σ Q (.bool (lexLe ns ms)) s from⟨nofun,⟨.bl (lexLe ns ms),H,I,rfl,q⟩⟩⟩ hu
end LT
namespace DK
open PySem PySem.Spec PyProof.Rows L2
inductive Ky where
 |num (i:Int)
 |eZ
 |tup (l:List Ky)
noncomputable instance:DecidableEq Ky:=λa b=>Classical.propDecidable (a=b)
mutual
def key:PyData->Option Ky
 | .none=>some .eZ
 | .bool b=>some (.num (if b then 1 else 0))
 | .int i=>some (.num i)
 | .tuple l=>(keys l).map .tup
 | .str _=>none
 | .list _=>none
 | .dict _=>none
def keys:List PyData->Option (List Ky)
 | []=>some []
 |d::r=>match key d,keys r with
  |some k,some l=>some (k::l)
  |_,_=>none
end
mutual
def hk:Ky->Int
 | .num i=>hashInt i
 | .eZ=>0xFCA86420
 | .tup l=>reduceHash (Builtin.Tuple.tupleHashOf (pW l))
def pW:List Ky->List Int
 | []=>[]
 |k::l=>hk k::pW l
end
mutual
def dr:Ky->Nat
 | .num _=>1
 | .eZ=>1
 | .tup l=>Ai l+1
def Ai:List Ky->Nat
 | []=>0
 |k::l=>dr k+Ai l
end
theorem keys_cons{d:PyData}{r:List PyData}{l:List Ky}(h:keys (d::r)=some l):∃k m,key d=some k/\keys r=some m/\l=k::m:=by
 rw[keys] at h;cases h1:key d with
 |none=>rw[h1] at h;cases h
 |some k=>
  cases h2:keys r with
  |none=>rw[h1,h2] at h;cases h
  |some m=>
   rw[h1,h2] at h;exact⟨k,m,rfl,rfl,(aX h).symm⟩
theorem gR{l:List PyData}{k:Ky}(h:key (.tuple l)=some k):∃m,keys l=some m/\k=.tup m:=by
 rw[key] at h;cases h1:keys l with
 |none=>rw[h1] at h;cases h
 |some m=>
  rw[h1] at h;exact⟨m,rfl,(aX h).symm⟩
mutual
theorem wZ:∀(d:PyData) (k:Ky),key d=some k->d.canLay0=true
 | .none,_,_=>by rw[PyData.canLay0]
 | .bool _,_,_=>by rw[PyData.canLay0]
 | .int _,_,_=>by rw[PyData.canLay0]
 | .tuple l,k,h=>by
  obtain⟨m,h1,_⟩:=gR h;rw[PyData.canLay0];exact F5 l m h1
 | .str _,_,h=>by rw[key] at h;cases h
 | .list _,_,h=>by rw[key] at h;cases h
 | .dict _,_,h=>by rw[key] at h;cases h
theorem F5:∀(l:List PyData) (m:List Ky),keys l=some m->PyData.canLayAll0 l=true
 | [],_,_=>by rw[PyData.canLayAll0]
 |d::r,m,h=>by
  obtain⟨k,n,h1,h2,_⟩:=keys_cons h;rw[PyData.canLayAll0,wZ d k h1,F5 r n h2];rfl
end
theorem xa(a b:Int):decide (Ky.num a=Ky.num b)=(a==b):=by
 grind
theorem QP{a b:Bool}(h:(if a=true then(1:Int) else 0)=if b=true then 1 else 0):a=b:=by cases a <;> cases b <;> simp at h <;> rfl
mutual
theorem KN:∀(d e:PyData) (k l:Ky),key d=some k->key e=some l->PyData.eqv d e=decide (k=l)
 | .none,.none,k,l,h1,h2=>by
  rw[key] at h1;rw[key] at h2;cases h1;cases h2;rw[PyData.eqv];simp
 | .none,.bool b,k,l,h1,h2=>by
  rw[key] at h1;rw[key] at h2;cases h1;cases h2;rw[PyData.eqv];exact(ag nofun).symm
 | .none,.int b,k,l,h1,h2=>by
  rw[key] at h1;rw[key] at h2;cases h1;cases h2;rw[PyData.eqv];exact(ag nofun).symm
 | .none,.tuple b,k,l,h1,h2=>by
  obtain⟨m,_,rfl⟩:=gR h2;rw[key] at h1;cases h1;rw[PyData.eqv];exact(ag nofun).symm
 | .bool a,.none,k,l,h1,h2=>by
  rw[key] at h1;rw[key] at h2;cases h1;cases h2;rw[PyData.eqv];exact(ag nofun).symm
 | .bool a,.bool b,k,l,h1,h2=>by
  rw[key] at h1;rw[key] at h2;cases h1;cases h2;rw[PyData.eqv,xa];cases a <;> cases b <;> rfl
 | .bool a,.int b,k,l,h1,h2=>by
  rw[key] at h1;rw[key] at h2;cases h1;cases h2;rw[PyData.eqv,xa]
 | .bool a,.tuple b,k,l,h1,h2=>by
  obtain⟨m,_,rfl⟩:=gR h2;rw[key] at h1;cases h1;rw[PyData.eqv];exact(ag nofun).symm
 | .int a,.none,k,l,h1,h2=>by
  rw[key] at h1;rw[key] at h2;cases h1;cases h2;rw[PyData.eqv];exact(ag nofun).symm
 | .int a,.bool b,k,l,h1,h2=>by
  rw[key] at h1;rw[key] at h2;cases h1;cases h2;rw[PyData.eqv,xa]
 | .int a,.int b,k,l,h1,h2=>by
  rw[key] at h1;rw[key] at h2;cases h1;cases h2;rw[PyData.eqv,xa]
 | .int a,.tuple b,k,l,h1,h2=>by
  obtain⟨m,_,rfl⟩:=gR h2;rw[key] at h1;cases h1;rw[PyData.eqv];exact(ag nofun).symm
 | .tuple a,.none,k,l,h1,h2=>by
  obtain⟨m,_,rfl⟩:=gR h1;rw[key] at h2;cases h2;rw[PyData.eqv];exact(ag nofun).symm
 | .tuple a,.bool b,k,l,h1,h2=>by
  obtain⟨m,_,rfl⟩:=gR h1;rw[key] at h2;cases h2;rw[PyData.eqv];exact(ag nofun).symm
 | .tuple a,.int b,k,l,h1,h2=>by
  obtain⟨m,_,rfl⟩:=gR h1;rw[key] at h2;cases h2;rw[PyData.eqv];exact(ag nofun).symm
 | .tuple a,.tuple b,k,l,h1,h2=>by
  obtain⟨m,e1,rfl⟩:=gR h1;obtain⟨n,e2,rfl⟩:=gR h2;rw[PyData.eqv,GL a b m n e1 e2];exact dN.mpr ⟨λq=>bb Ky.tup q,λq=>Ky.tup.inj q⟩
 | .str _,_,_,_,h,_=>by rw[key] at h;cases h
 | .list _,_,_,_,h,_=>by rw[key] at h;cases h
 | .dict _,_,_,_,h,_=>by rw[key] at h;cases h
 |_,.str _,_,_,_,h=>by rw[key] at h;cases h
 |_,.list _,_,_,_,h=>by rw[key] at h;cases h
 |_,.dict _,_,_,_,h=>by rw[key] at h;cases h
theorem GL:∀(d e:List PyData) (k l:List Ky),keys d=some k->keys e=some l->PyData.eqvAll d e=decide (k=l)
 | [],[],k,l,h1,h2=>by
  rw[keys] at h1;rw[keys] at h2;cases h1;cases h2;rw[PyData.eqvAll];simp
 | [],y::e,k,l,h1,h2=>by
  obtain⟨a,b,_,_,rfl⟩:=keys_cons h2;rw[keys] at h1;cases h1;rw[PyData.eqvAll];exact(ag nofun).symm
 |x::d,[],k,l,h1,h2=>by
  obtain⟨a,b,_,_,rfl⟩:=keys_cons h1;rw[keys] at h2;cases h2;rw[PyData.eqvAll];exact(ag nofun).symm
 |x::d,y::e,k,l,h1,h2=>by
  obtain⟨a,b,p1,p2,rfl⟩:=keys_cons h1;obtain⟨a',b',q1,q2,rfl⟩:=keys_cons h2;rw[PyData.eqvAll,KN x y a a' p1 q1,GL d e b b' p2 q2];by_cases e1:a=a'
  ·subst e1;by_cases e2:b=b'
   ·subst e2;simp
   ·rw[ag e2,ag (λq=>e2 (iM q).2),Bool.and_false]
  ·rw[ag e1,ag (λq=>e1 (iM q).1),d8]
end
section
variable{prog:Program}{w:World}{A:Around}{E:acX}{s:Shared}
theorem MD{b:Bool}{Q:Int->Shared->Prop}(h:Q (hashInt (if b=true then 1 else 0)) {s with toks:=s.toks+1}):wpAny (model prog w) A (pyHash (.bool b)) Q E s:=by
 have hr:=rawHash_range (if b=true then 1 else 0);unfold pyHash;have hv:[Value.bool b].any Value.onHeap=false:=rfl;refine aa ?_;rw[cRoomFor,ae (by rw[hv];exact aT)];refine ay ?_;refine aa (dU (T:="bool") (rfl:s.TypeIs (.bool b) "bool") lR.lookup ?_);show wpAny _ _ (if (some (Value.builtin "int.__hash__")==some Value.none)=true then _ else _) Q E s;rw[ae (by rw[Xx];exact aT)];refine aa (dU (T:="bool") (rfl:s.TypeIs (.bool b) "bool") lR.lookup ?_);show wpAny _ _ (callSpecialIfBoundUnlessNone? (.bool b) "__hash__" _ >>=_) Q E s;refine aa (jN (T:="bool") (rfl:s.TypeIs (.bool b) "bool") lR (cU lR (rfl:s.TypeIs (.bool b) "bool") entry_int_hash (show wpAny _ _ (do ret (<-mkInt (rawHash (if b=true then 1 else 0)))) _ _ s from wpAny_ret_mkInt ?_) (args_int_hash _)));show wpAny _ _ (if (decide (-(2:Int) ^ 63<=rawHash (if b=true then 1 else 0))&&decide (rawHash (if b=true then 1 else 0)<2 ^ 63))=true then _ else _) Q E _;rw[ah (by rw[ai hr.1,ai hr.2];rfl)];exact ay h
theorem MC{Q:Int->Shared->Prop}(h:Q 0xFCA86420 {s with toks:=s.toks+1}):wpAny (model prog w) A (pyHash .none) Q E s:=by
 unfold pyHash;have hv:[Value.none].any Value.onHeap=false:=rfl;refine aa ?_;rw[cRoomFor,ae (by rw[hv];exact aT)];refine ay ?_;refine aa (dU (T:="NoneType") (rfl:s.TypeIs .none "NoneType") jl.lookup ?_);show wpAny _ _ (if (some (Value.builtin "NoneType.__hash__")==some Value.none)=true then _ else _) Q E s;rw[ae (by rw[Xx];exact aT)];refine aa (dU (T:="NoneType") (rfl:s.TypeIs .none "NoneType") jl.lookup ?_);show wpAny _ _ (callSpecialIfBoundUnlessNone? .none "__hash__" _ >>=_) Q E s;refine aa (jN (T:="NoneType") (rfl:s.TypeIs .none "NoneType") jl (cU jl (rfl:s.TypeIs .none "NoneType") PySem.F.entry_NoneType_hash (show wpAny _ _ (do ret (<-mkInt 0xFCA86420)) _ _ s from wpAny_ret_mkInt ?_) (PySem.F.args_NoneType_hash_1 _)));show wpAny _ _ (if (decide (-(2:Int) ^ 63<=0xFCA86420)&&decide ((0xFCA86420:Int)<2 ^ 63))=true then _ else _) Q E _;rw[ah (by decide)];exact ay h
end
theorem u6{d:PyData}:∀{l:List PyData},d∈l->d.depth<=PyData.depthAll l
 | [],h=>nomatch h
 |y::l,h=>by
  rw[PyData.depthAll];rcases ba.mp h with rfl|q
  ·omega
  ·have:=u6 q;omega
def Eb(prog:Program)(w:World)(d:PyData):Prop:=∀(A:Around) (E:acX) (s:Shared) (v:Value) (as:ac1) (k:Ky) (Q:Int->Shared->Prop),key d=some k->Reads s.heap v d as->A.units+d.depth<cLine->
 Q (hk k) {s with toks:=s.toks+dr k}->wpAny (model prog w) A (pyHash v) Q E s
theorem P8{prog:Program}{w:World}{l:List PyData}(ih:∀d∈l,Eb prog w d):Eb prog w (.tuple l):=by
 intro A E s v as k Q Mv hr hu h;obtain⟨m,hm,rfl⟩:=gR Mv;cases hr with
 |@tuple a o vs n _ _ ho hc hd hi=>
  rw[PyData.depth] at hu;have hT:s.TypeIs (.ref a) "tuple":=⟨o,ho,hc⟩;rw[dr] at h;rw[hk] at h;unfold pyHash
  first |unfold pyHashByItsType|skip
  first |refine aa (wpAny_cRoomFor_or (.inr (by omega)) ?_)|skip
  refine aa (dU hT lx.lookup ?_);show wpAny _ _ (if (some (Value.builtin "tuple.__hash__")==some Value.none)=true then _ else _) Q E s;rw[ae (by rw[Xx];exact aT)];refine aa (dU hT lx.lookup ?_);show wpAny _ _ (callSpecialIfBoundUnlessNone? (.ref a) "__hash__" _ >>=_) Q E s;refine aa (jN hT lx (cU lx hT PySem.F.entry_tuple_hash ?_ (PySem.F.args_tuple_hash_1 _)));show wpAny _ _ (Builtin.Tuple.tupleItemsOf (.ref a) >>=_) _ _ s;refine aa (wpAny_tupleItemsOf ho hd ?_);refine aa ?_;rw[<-Array.forIn_toList];refine Bx _
   (λrest (b:Array Int) s'=>∃(done:List Ky) (ld:List PyData) (left:List Ky) (bs:ac1),pW m=pW done++pW left/\Ai m=Ai done+Ai left/\(∀d∈ld,d∈l)/\keys ld=some left/\ReadsAll s.heap rest ld bs/\b.toList=pW done/\s'={s with toks:=s.toks+Ai done})
   _ ?_ ?_ _ _ ⟨[],l,m,as,rfl,by rw[Ai,dE],λd hd=>hd,hm,hi,rfl,rfl⟩
  ·rintro x rest b s' ⟨done,ld,left,bs,h1,h2,h3,h4,h5,h6,rfl⟩;cases h5 with
   |@cons _ _ d ds a1 b1 hr1 Xa=>
    obtain⟨kd,kr,e1,e2,rfl⟩:=keys_cons h4;have S6:d∈l:=h3 d (aR ..);have ach:=u6 S6;refine aa (ih d S6 _ _ _ x a1 kd _ e1 hr1 (by show A.units+1+d.depth<cLine;omega) ?_);have e3:pW done++pW (kd::kr)=pW (done++ [kd])++pW kr:=by
     have:∀a:List Ky,pW (a++ [kd])=pW a++ [hk kd]:=λa=>by
      induction a with
      |nil=>rw[bE,pW,pW,pW];rfl
      |cons z a ih=>rw[cj,pW,pW,ih];rfl
     rw[this,pW,az];rfl
    have e4:∀a:List Ky,Ai (a++ [kd])=Ai a+dr kd:=λa=>by
     induction a with
     |nil=>rw[bE,Ai,Ai,Ai];omega
     |cons z a ih=>rw[cj,Ai,Ai,ih];omega
    have e5:∀a:List Ky,pW (a++ [kd])=pW a++ [hk kd]:=λa=>by
     induction a with
     |nil=>rw[bE,pW,pW,pW];rfl
     |cons z a ih=>rw[cj,pW,pW,ih];rfl
    have fin:∃(KU:List Ky) (ld:List PyData) (left:List Ky) (bs:ac1),pW m=pW KU++pW left/\Ai m=Ai KU+Ai left/\(∀d∈ld,d∈l)/\keys ld=some left/\ReadsAll s.heap rest ld bs/\(b.push (hk kd)).toList=pW KU/\({s with toks:=s.toks+Ai done+dr kd}:Shared)={s with toks:=s.toks+Ai KU}:=by
     refine⟨done++ [kd],ds,kr,b1,by rw[h1,e3],by rw[h2,e4,Ai];omega,λd' yM=>h3 d' (aP _ yM),e2,Xa,by rw[e5,Lg,h6],by rw[e4,XD]⟩
    first
     |exact ay fin
     |exact aa (ay (ay fin))
  ·rintro b s' ⟨done,ld,left,bs,h1,h2,h3,h4,h5,h6,rfl⟩;cases h5;rw[keys] at h4;cases h4;rw[pW,aI] at h1;rw[Ai,Nat.add_zero] at h2;rw[h1,h2] at h;show wpAny _ _ (retInt (Builtin.Tuple.tupleHashOf b.toList)) _ _ _;rw[h6];refine wpAny_ret_mkInt ?_;show wpAny _ _ (if (decide (-(2:Int) ^ 63<=Builtin.Tuple.tupleHashOf (pW done))&&decide (Builtin.Tuple.tupleHashOf (pW done)<2 ^ 63))=true then _ else _) Q E _;unfold reduceHash at h;by_cases hr:(decide (-(2:Int) ^ 63<=Builtin.Tuple.tupleHashOf (pW done))&&decide (Builtin.Tuple.tupleHashOf (pW done)<2 ^ 63))=true
   ·rw[ah hr];rw[ah hr] at h;exact ay (by simpa [XD] using h)
   ·rw[ae hr];rw[ae hr] at h;exact aa (vM (ay (by simpa [XD] using h)))
mutual
theorem Qa(prog:Program)(w:World):∀d:PyData,Eb prog w d
 | .none=>λA E s v as k Q h1 h2 hu h=>by
  rw[key] at h1;cases h1;cases h2;rw[hk,dr] at h;exact MC h
 | .bool b=>λA E s v as k Q h1 h2 hu h=>by
  rw[key] at h1;cases h1;cases h2;rw[hk,dr] at h;exact MD h
 | .int i=>λA E s v as k Q h1 h2 hu h=>by
  rw[key] at h1;cases h1;cases h2;rw[hk,dr] at h;exact Xv h
 | .tuple l=>P8 (KA prog w l)
 | .str _=>λA E s v as k Q h1 h2 hu h=>by rw[key] at h1;cases h1
 | .list _=>λA E s v as k Q h1 h2 hu h=>by rw[key] at h1;cases h1
 | .dict _=>λA E s v as k Q h1 h2 hu h=>by rw[key] at h1;cases h1
theorem KA(prog:Program)(w:World):∀(l:List PyData),∀d∈l,Eb prog w d
 | [],d,h=>nomatch h
 |x::l,d,h=>by
  rcases ba.mp h with q|q
  ·rw[q];exact Qa prog w x
  ·exact KA prog w l d q
end
theorem AQ{h:Heap}{v:Value}{l:List PyData}{as:ac1}(r:Reads h v (.tuple l) as):∃a o vs n,v=.ref a/\h.get? a=some o/\o.cls=.type "tuple"/\o.data=.seq vs n/\ReadsAll h vs.toList l as:=by
 cases r with
 |@tuple a o vs n _ _ ho hc hd hi=>exact⟨a,o,vs,n,rfl,ho,hc,hd,hi⟩
mutual
theorem qX{h h':Heap}(kp:∀b o items n,h.get? b=some o->o.data=.seq items n->h'.get? b=some o):∀(d:PyData) (v:Value) (as:ac1) (k:Ky),key d=some k->Reads h v d as->Reads h' v d as
 | .none,v,as,k,_,r=>by cases r;exact .none
 | .bool b,v,as,k,_,r=>by cases r;exact .bool b
 | .int i,v,as,k,_,r=>by cases r;exact .int i _
 | .tuple l,v,as,k,hk,r=>by
  obtain⟨m,hm,rfl⟩:=gR hk;obtain⟨a,o,vs,n,rfl,ho,hc,hd,hi⟩:=AQ r;exact .tuple (kp a o vs n ho hd) hc hd (vm kp l _ as m hm hi)
 | .str _,_,_,_,h,_=>by rw[key] at h;cases h
 | .list _,_,_,_,h,_=>by rw[key] at h;cases h
 | .dict _,_,_,_,h,_=>by rw[key] at h;cases h
theorem vm{h h':Heap}(kp:∀b o items n,h.get? b=some o->o.data=.seq items n->h'.get? b=some o):∀(l:List PyData) (vs:acY) (as:ac1) (m:List Ky),keys l=some m->ReadsAll h vs l as->ReadsAll h' vs l as
 | [],vs,as,m,_,r=>by cases r;exact .nil
 |d::l,vs,as,m,hk,r=>by
  obtain⟨k,n,h1,h2,_⟩:=keys_cons hk;cases r with
  |cons r1 r2=>exact .cons (qX kp d _ _ k h1 r1) (vm kp l _ _ n h2 r2)
end
def xm(prog:Program)(w:World)(d:PyData):Prop:=∀(A:Around) (E:acX) (s:Shared) (v:Value) (as:ac1) (k:Ky) (n:Nat) (Q:Bool->Shared->Prop),key d=some k->Reads s.heap v d as->d.depth<=n->
 Q true s->wpAny (model prog w) A (eqIsQuiet n v) Q E s
theorem LJ{prog:Program}{w:World}{l:List PyData}(ih:∀d∈l,xm prog w d):xm prog w (.tuple l):=by
 intro A E s v as k n Q hk hr hn h;obtain⟨m,hm,rfl⟩:=gR hk;obtain⟨a,o,items,c,rfl,ho,hc,hd,hi⟩:=AQ hr;rw[PyData.depth] at hn;obtain⟨n,rfl⟩:∃n',n=n'+1:=⟨n - 1,by omega⟩;have hT:s.TypeIs (.ref a) "tuple":=⟨o,ho,hc⟩;unfold eqIsQuiet;refine aa (dU hT PySem.F.slot_tuple_eq.lookup ?_);show wpAny _ _ (isInstance (.ref a) (.type "tuple") >>=_) _ _ s;refine aa (Bw hT isSubtype_tuple_tuple ?_);simp only[XG,bZ,if_false];refine aa (vL ho hd ?_);refine aa ?_;show wpAny _ _ (forIn items _ _) _ _ s;rw[<-Array.forIn_toList];refine Bx _ (λrest r s'=>r.1=none/\s'=s/\∃(ld:List PyData) (left:List Ky) (bs:ac1),(∀d∈ld,d∈l)/\keys ld=some left/\ReadsAll s.heap rest ld bs) _ ?_ ?_ _ _ ⟨rfl,rfl,l,m,as,λd q=>q,hm,hi⟩
 ·rintro v rest r s' ⟨hr,rfl,ld,left,bs,h3,h4,h5⟩;cases h5 with
  |@cons _ _ d ds a1 b1 hr1 Xa=>
   obtain⟨kd,kr,e1,e2,rfl⟩:=keys_cons h4;have S6:d∈l:=h3 d (aR ..);have ach:=u6 S6;refine aa (ih d S6 _ _ _ v a1 kd n _ e1 hr1 (by omega) ?_);simp only[XG,bZ,if_false];exact ay ⟨rfl,rfl,ds,kr,b1,λd' yM=>h3 d' (aP _ yM),e2,Xa⟩
 ·rintro⟨r1,r2⟩ s' ⟨Xb,rfl,_⟩;have Xa:r1=none:=Xb;subst Xa;exact ay h
mutual
theorem quietOk(prog:Program)(w:World):∀d:PyData,xm prog w d
 | .none=>λA E s v as k n Q h1 h2 hn h=>by
  cases h2;rw[UW _ rfl];exact ay h
 | .bool b=>λA E s v as k n Q h1 h2 hn h=>by
  cases h2;rw[UW _ rfl];exact ay h
 | .int i=>λA E s v as k n Q h1 h2 hn h=>by
  cases h2;rw[UW _ rfl];exact ay h
 | .tuple l=>LJ (E8 prog w l)
 | .str _=>λA E s v as k n Q h1 h2 hn h=>by rw[key] at h1;cases h1
 | .list _=>λA E s v as k n Q h1 h2 hn h=>by rw[key] at h1;cases h1
 | .dict _=>λA E s v as k n Q h1 h2 hn h=>by rw[key] at h1;cases h1
theorem E8(prog:Program)(w:World):∀(l:List PyData),∀d∈l,xm prog w d
 | [],d,h=>nomatch h
 |x::l,d,h=>by
  rcases ba.mp h with q|q
  ·rw[q];exact quietOk prog w x
  ·exact E8 prog w l d q
end
def M9(h:Heap)(k:Ky)(a:Addr):Prop:=∃d as,Reads h (.ref a) d as/\key d=some k/\d.depth<=7
noncomputable def deep(prog:Program)(w:World):HeapKind prog w Ky where
 is:=M9
 hash:=hk
 draws:=dr
 room:=λA=>A.units+64<cLine
 inj:=by
  rintro h a x y ⟨d,as,r,e,_⟩ ⟨d',En,r',e',_⟩;have:=SeqAt.Reads.unique d d' _ as En (wZ d x e) r r';subst this;exact aX (e.symm.trans e')
 keeps:=by
  rintro h h' k a dd o es ep ⟨d,as,r,e,hn⟩ ho hd hs;refine⟨d,as,qX (λb o' items n hb yM=>?_) d _ as k e r,e,hn⟩;have gT:b≠dd:=by
   rintro rfl;rw[ho] at hb;cases hb;rw[hd] at yM;cases yM
  exact(hs.2 b gT).trans hb
 pyHash:=by
  rintro A E s k a Q hu ⟨d,as,r,e,hn⟩ h;exact Qa prog w d A E s _ as k Q e r (by omega) h
 eqBool:=by
  rintro A E s x y a b Q hu ⟨d,as,r,e,hn⟩ ⟨d',En,r',e',hn'⟩ h;refine SeqAt.eqAt_reads d d' A s _ _ as En r r' (wZ d x e) (wZ d' y e') (by have:min d.depth d'.depth<=d.depth:=Nat.min_le_left _ _;omega) prog w E Q ?_;rw[KN d d' x y e e'];exact h
 quiet:=by
  rintro A E s k a Q ⟨d,as,r,e,hn⟩ h;exact quietOk prog w d A E s _ as k 8 Q e r (by omega) h
end DK
namespace DK
open PySem PySem.Spec PyProof.Rows L2 B
abbrev KD:List (Ky×Addr×V)->List (Ky×Addr×Value)->Prop:=Paired λp q=>p.1=q.1/\p.2.1=q.2.1/\RelV p.2.2 q.2.2
def ent(x:Ky×Addr×Value):DictEntry:=⟨hk x.1,.ref x.2.1,x.2.2⟩
def fD(a:Addr)(l:List (Ky×Addr×V)):Heap->Prop:=λh=>∃xs,KD l xs/\∃o es ep,h.get? a=some o/\o.ExactDict/\o.data=.dict es ep/\es.toList=xs.map ent/\(xs.map (·.1)).Nodup
def gm(K:Frag)(H:Hp)(k:Ky)(b:Addr):Prop:=∃d,Dp K H (.ref b) d/\key d=some k/\d.depth<=7
def pr(p:Ky×Addr×V):Ky×V:=(p.1,p.2.2)
def DH(K:Frag)(H:Hp)(a:Addr)(kvs:List (Ky×V)):Prop:=
 ∃l:List (Ky×Addr×V),l.map pr=kvs/\(a==sysModules)=false/\kvs.length<=sizeLine/\H a=some (.ext (fD a l))/\∀p∈l,gm K H p.1 p.2.1
mutual
theorem DI{K:Frag}{H H':Hp}(kp:∀b xs,Rd H b (.tup xs)->Rd H' b (.tup xs)):∀(d:PyData) (v:V) (k:Ky),key d=some k->Dp K H v d->Dp K H' v d
 | .none,_,_,_,h=>by cases h;exact .eZ
 | .bool b,_,_,_,h=>by cases h;exact .bl b
 | .int i,_,_,_,h=>by cases h;exact .int i
 | .tuple l,_,k,hk,h=>by
  obtain⟨m,hm,rfl⟩:=gR hk;cases h with
  |tup hs ha=>
   refine .tup ?_ (GP kp l _ m hm ha);rcases hs with hs|hs
   ·exact .inl (kp _ _ hs)
   ·exact .inr hs
 | .str _,_,_,h,_=>by rw[key] at h;cases h
 | .list _,_,_,h,_=>by rw[key] at h;cases h
 | .dict _,_,_,h,_=>by rw[key] at h;cases h
theorem GP{K:Frag}{H H':Hp}(kp:∀b xs,Rd H b (.tup xs)->Rd H' b (.tup xs)):∀(l:List PyData) (vs:List V) (m:List Ky),keys l=some m->nS K H vs l->nS K H' vs l
 | [],_,_,_,h=>by cases h;exact .nil
 |d::l,_,m,hk,h=>by
  obtain⟨k,n,h1,h2,_⟩:=keys_cons hk;cases h with
  |cons r1 r2=>exact .cons (DI kp d _ k h1 r1) (GP kp l _ n h2 r2)
end
theorem gm.keep{K:Frag}{H H':Hp}{k:Ky}{b:Addr}(h:gm K H k b)(kp:∀b xs,Rd H b (.tup xs)->Rd H' b (.tup xs)):gm K H' k b:=by
 obtain⟨d,h1,h2,h3⟩:=h;exact⟨d,DI kp d _ k h2 h1,h2,h3⟩
theorem oM{H:Hp}{a:Addr}{o:HO}(hn:∀xs,¬Rd H a (.tup xs)):∀b xs,Rd H b (.tup xs)->Rd (upd H a o) b (.tup xs):=λb xs r=>by
 have gT:b≠a:=λq=>hn xs (q▸r)
 rcases r with r|⟨ob,r⟩
 ·exact .inl (by rw[aH gT];exact r)
 ·exact .inr ⟨ob,by rw[aH gT];exact r⟩
theorem JY{H H':Hp}(s:bJ H H'):∀b xs,Rd H b (.tup xs)->Rd H' b (.tup xs):=λb xs r=>by
 rcases r with r|⟨ob,r⟩
 ·exact .inl (s _ _ r)
 ·exact .inr ⟨ob,s _ _ r⟩
theorem uP{H:Hp}{a:Addr}{u:HO}(h:H a=some u)(h1:∀xs,u≠.tup xs)(h2:∀o v,u≠.wu o v):∀xs,¬Rd H a (.tup xs):=λxs r=>by
 rcases r with r|⟨ob,r⟩
 ·rw[h] at r;exact h1 xs (aX r)
 ·rw[h] at r;exact h2 _ _ (aX r)
theorem Fw{H:Hp}{a:Addr}(h:H a=none):∀xs,¬Rd H a (.tup xs):=λxs r=>by
 rcases r with r|⟨ob,r⟩ <;> (rw[h] at r;cases r)
theorem DH.keep{K:Frag}{H H':Hp}{a:Addr}{kvs:List (Ky×V)}(h:DH K H a kvs)(kp:∀b xs,Rd H b (.tup xs)->Rd H' b (.tup xs))(ha:∀φ,H a=some (.ext φ)->H' a=some (.ext φ)):DH K H' a kvs:=by
 obtain⟨l,h1,h2,h3,h4,h5⟩:=h;exact⟨l,h1,h2,h3,ha _ h4,λp hp=>(h5 p hp).keep kp⟩
theorem DH.same{K:Frag}{H H':Hp}{a:Addr}{kvs:List (Ky×V)}(h:DH K H a kvs)(s:bJ H H'):DH K H' a kvs:=h.keep (JY s) λ_ e=>s _ _ e
theorem gm.same{K:Frag}{H H':Hp}{k:Ky}{b:Addr}(h:gm K H k b)(s:bJ H H'):gm K H' k b:=h.keep (JY s)
theorem DH.there{K:Frag}{H:Hp}{a:Addr}{kvs:List (Ky×V)}(h:DH K H a kvs):∃φ,H a=some (.ext φ):=by
 obtain⟨l,h1,h2,h3,h4,h5⟩:=h;exact⟨_,h4⟩
theorem KD.val{l:List (Ky×Addr×V)}{xs:List (Ky×Addr×Value)}(r:KD l xs)(k:Ky):mv (dB (l.map pr) k) ((atKey xs k).map (·.2)):=by
 induction r with
 |nil=>exact True.intro
 |@cons p q ps qs h t ih=>
  obtain⟨h1,_,h2⟩:=h;rw[aK];by_cases e:p.1=k
  ·have e':q.1=k:=h1.symm.trans e;have b:atKey (q::qs) k=some q.2:=by simp[atKey,gp,e']
   rw[fF (show(pr p).1=k from e),b];exact h2
  ·have e':¬q.1=k:=λz=>e (h1.trans z)
   have b:atKey (q::qs) k=atKey qs k:=by simp[atKey,gp,e']
   rw[fb (show ¬(pr p).1=k from e),b];exact ih
noncomputable def putL(l:List (Ky×Addr×V))(k:Ky)(b:Addr)(y:V):List (Ky×Addr×V):=
 if (l.any λp=>decide (p.1=k))=true then l.map λp=>if p.1=k then(p.1,p.2.1,y) else p else l++ [(k,b,y)]
theorem RL(l:List (Ky×Addr×V))(k:Ky)(b:Addr)(y:V):(putL l k b y).map pr=putK (l.map pr) k y:=by
 unfold putL putK;have e:((l.map pr).any λkv=>decide (kv.1=k))=l.any λp=>decide (p.1=k):=by
  rw[lW];rfl
 rw[e];split
 ·rw[cC,cC];refine pJ λp _=>?_
  show pr (if p.1=k then(p.1,p.2.1,y) else p)=if (pr p).1=k then((pr p).1,y) else pr p
  by_cases h:p.1=k
  ·rw[ah h,ah (show(pr p).1=k from h)];rfl
  ·rw[ae h,ae (show ¬(pr p).1=k from h)]
 ·rw[aN];rfl
theorem KD.any{l:List (Ky×Addr×V)}{xs:List (Ky×Addr×Value)}(r:KD l xs)(k:Ky):(l.any λp=>decide (p.1=k))=(atKey xs k).isSome:=by
 have h:=(r.val k).kT;rw[lS] at h;rw[<-h,<-om,lW];rfl
theorem KD.Og{l:List (Ky×Addr×V)}{xs:List (Ky×Addr×Value)}(r:KD l xs)(k:Ky){y:V}{u:Value}(ry:RelV y u): KD (l.map λp=>if p.1=k then(p.1,p.2.1,y) else p) (xs.map (putAt k u)):=by
 induction r with
 |nil=>exact .nil
 |@cons p q ps qs h t ih=>
  rw[aK,aK];refine .cons ?_ ih;obtain⟨h1,h2,h3⟩:=h;unfold putAt
  grind
theorem KD.put{l:List (Ky×Addr×V)}{xs:List (Ky×Addr×Value)}(r:KD l xs)(k:Ky)(b:Addr){y:V}{u:Value}(ry:RelV y u):KD (putL l k b y) (storedH xs k b u):=by
 unfold putL storedH;rw[r.any k];by_cases q:(atKey xs k).isSome=true
 ·rw[ah q,ah q];exact r.Og k ry
 ·rw[ae q,ae q];exact Paired.snoc r ⟨rfl,rfl,ry⟩
theorem Ts{a:Addr}{l:List (Ky×Addr×V)}{h1 h2:Heap}(p:fD a l h1)(k:∀o,h1.get? a=some o->h2.get? a=some o):fD a l h2:=by
 obtain⟨xs,r,o,es,ep,e,c⟩:=p;exact⟨xs,r,o,es,ep,k _ e,c⟩
theorem Qv{P:Program}{w:World}{H:Hp}{h:Heap}{a:Addr}{l:List (Ky×Addr×V)}(p:fD a l h):fg P w H h a (.ext (fD a l)):=
 ⟨p,let ⟨_,_,o,_,_,e,_⟩:=p;⟨o,e⟩,λ_ _ q k=>Ts q k⟩
theorem Ou{l:List (Ky×Addr×V)}{k:Ky}{b:Addr}{y:V}{p:Ky×Addr×V}(h:p∈putL l k b y):(∃q∈l,p.1=q.1/\p.2.1=q.2.1)\/(p.1=k/\p.2.1=b):=by
 unfold putL at h
 grind
section
variable{X:Cx}{pins:ada}{σ:L2.St}{H:Hp}{s:Shared}{a b:Addr}{k:Ky}{kvs:List (Ky×V)}{A:Around}{E:acX}
theorem gm.is(I:Inv X pins σ H s)(h:gm X.K H k b):(deep X.prog X.w).is s.heap k b:=by
 obtain⟨d,h1,h2,h3⟩:=h;obtain⟨as,r⟩:=Dp.reads I d _ _ h1 (rfl:RelV (.ref b) (.ref b));exact⟨d,as,r,h2,h3⟩
theorem Bl(I:Inv X pins σ H s){l:List (Ky×Addr×V)}(h4:H a=some (.ext (fD a l)))(h5:∀p∈l,gm X.K H p.1 p.2.1):∃xs,KD l xs/\s.heap.DictOfH (deep X.prog X.w) a xs:=by
 obtain⟨⟨xs,r,o,es,ep,e1,e2,e3,e4,e5⟩,_⟩:=(show fg X.prog X.w H s.heap a (.ext (fD a l)) from I.cR a _ h4);refine⟨xs,r,o,es,ep,e1,e2,e3,e4,λx hx=>?_,e5⟩;have all:∀{l:List (Ky×Addr×V)} {m:List (Ky×Addr×Value)},KD l m->(∀p∈l,gm X.K H p.1 p.2.1)->∀x∈m,(deep X.prog X.w).is s.heap x.1 x.2.1:=by
  intro l m q
  induction q with
  |nil=>intro _ x hx;exact nomatch hx
  |@cons p q ps qs hq t ih=>
   intro hp x hx;rcases ba.mp hx with e|hx
   ·subst e;rw[<-hq.1,<-hq.2.1];exact gm.is I (hp p (aR ..))
   ·exact ih (λp' h'=>hp p' (aP _ h')) x hx
 exact all r h5 x hx
theorem DH.typ(I:Inv X pins σ H s)(h:DH X.K H a kvs):s.TypeIs (.ref a) "dict"/\(∀b,Value.ref a=.ref b->∃ob,s.heap.get? b=some ob/\ob.dict=none)/\(a==sysModules)=false:=by
 obtain⟨l,h1,h2,h3,h4,h5⟩:=h;obtain⟨xs,r,dd⟩:=Bl I h4 h5;refine⟨dd.typeIs,λb q=>?_,h2⟩;cases q;obtain⟨o,es,ep,e1,e2,_⟩:=dd;exact⟨o,e1,e2.2.1⟩
theorem oK{j:Nat}(hr:dR j A):(deep X.prog X.w).room A.in1:=by
 show A.units+1+64<cLine;have:=hr.un;omega
theorem aav{j:Nat}{Q:acX}(hr:dR j A)(I:Inv X pins σ H s)(h:DH X.K H a kvs)(hk:gm X.K H k b)(q:∀s',Inv X pins σ H s'->Q (.bool (dB kvs k).isSome) s'): wpAny (model X.prog X.w) A (compareOp .In (.ref b) (.ref a)) Q E s:=by
 obtain⟨l,h1,h2,h3,h4,h5⟩:=h;obtain⟨xs,r,dd⟩:=Bl I h4 h5;refine wpAny_in_heap (oK (X:=X) hr) (hk.is I) h2 dd ?_;have e:=(r.val k).kT;rw[lS,h1] at e;rw[<-e];exact q _ (I.tok _)
theorem QE{j:Nat}{Q:acX}(hr:dR j A)(I:Inv X pins σ H s)(h:DH X.K H a kvs)(hk:gm X.K H k b)(q:∀s',Inv X pins σ H s'->Q (.bool (!(dB kvs k).isSome)) s'): wpAny (model X.prog X.w) A (compareOp .NotIn (.ref b) (.ref a)) Q E s:=by
 obtain⟨l,h1,h2,h3,h4,h5⟩:=h;obtain⟨xs,r,dd⟩:=Bl I h4 h5;refine wpAny_notIn_heap (oK (X:=X) hr) (hk.is I) h2 dd ?_;have e:=(r.val k).kT;rw[lS,h1] at e;rw[<-e];exact q _ (I.tok _)
theorem WC{j:Nat}{v:V}{Q:acX}(hr:dR j A)(I:Inv X pins σ H s)(h:DH X.K H a kvs)(hk:gm X.K H k b)(hv:dB kvs k=some v)(q:∀w' s',Inv X pins σ H s'->RelV v w'->Q w' s'): wpAny (model X.prog X.w) A (getItem (.ref a) (.ref b)) Q E s:=by
 obtain⟨l,h1,h2,h3,h4,h5⟩:=h;obtain⟨xs,r,dd⟩:=Bl I h4 h5;obtain⟨w',hw,HW⟩:=mv.some_of (v:=v) (o:=(atKey xs k).map (·.2)) (by rw[<-hv,<-h1];exact r.val k);obtain⟨p,hp,wb⟩:=xn.mp hw;refine wpAny_getItem_heap (oK (X:=X) hr) (hk.is I) dd hp ?_;rw[wb];exact q w' _ (I.tok _) HW
theorem UO{h':Heap}{t':Nat}{l:List (Ky×Addr×V)}{xs:List (Ky×Addr×Value)}{v:V}{u:Value}(I:Inv X pins σ H s)(h4:H a=some (.ext (fD a l)))(h5:∀p∈l,gm X.K H p.1 p.2.1)(hk:gm X.K H k b)(r:KD l xs)(rv:RelV v u) (hl:l.length<sizeLine) (h2:(a==sysModules)=false) (dd:h'.DictOfH (deep X.prog X.w) a (storedH xs k b u)) (hs:Heap.SameBut a s.heap h'): Inv X pins σ (upd H a (.ext (fD a (putL l k b v)))) {s with heap:=h',toks:=t'}/\DH X.K (upd H a (.ext (fD a (putL l k b v)))) a (putK (l.map pr) k v):=by
 obtain⟨o,es,ep,e1,e2,e3,e4,_,e5⟩:=dd;have hn:=uP h4 (λ_=>nofun) (λ_ _=>nofun);refine⟨DL I (by rw[h4];exact True.intro) hs ⟨o,e1⟩ (Qv ⟨_,r.put k b rv,o,es,ep,e1,e2,e3,e4,e5⟩),_,RL l k b v,h2,?_,ak,λp hp=>?_⟩
 ·have:=lI (l.map pr) k v;rw[af] at this;omega
 ·rcases Ou hp with ⟨q,hq,q1,q2⟩|⟨q1,q2⟩
  ·rw[q1,q2];exact(h5 q hq).keep (oM hn)
  ·rw[q1,q2];exact hk.keep (oM hn)
theorem WB{j:Nat}{v:V}{u:Value}{Q:Unit->Shared->Prop}(hr:dR j A)(I:Inv X pins σ H s)(h:DH X.K H a kvs)(hk:gm X.K H k b)(rv:RelV v u)(hl:kvs.length<sizeLine) (q:∀φ s',Inv X pins σ (upd H a (.ext φ)) s'->DH X.K (upd H a (.ext φ)) a (putK kvs k v)->Q () s'):wpAny (model X.prog X.w) A (setItem (.ref a) (.ref b) u) Q E s:=by
 obtain⟨l,h1,h2,h3,h4,h5⟩:=h;obtain⟨xs,r,dd⟩:=Bl I h4 h5;have e0:l.length=kvs.length:=by rw[<-h1,af]
 have hz:xs.length<=sizeLine:=by rw[<-bc r];omega
 refine wpAny_setItem_heap (hsz:=hz) (oK (X:=X) hr) (hk.is I) dd λh' UP hs=>?_
 obtain⟨I',D'⟩:=UO (t':=s.toks+(deep X.prog X.w).draws k) I h4 h5 hk r rv (by omega) h2 UP hs;rw[h1] at D';exact q _ _ I' D'
theorem RH{xs:List (Ky×Addr×Value)}{d:Value}{Q:acX}{d0:Addr}(hu:(deep X.prog X.w).room A)(PR:(deep X.prog X.w).is s.heap k b)(hm:s.heap.DictOfH (deep X.prog X.w) d0 xs) (h1:∀p,atKey xs k=some p->Q p.2 {s with toks:=s.toks+(deep X.prog X.w).draws k}) (h2:atKey xs k=none->∀h',h'.DictOfH (deep X.prog X.w) d0 (storedH xs k b d)->Heap.SameBut d0 s.heap h'->Q d {s with heap:=h',toks:=s.toks+(deep X.prog X.w).draws k}) (hsz:xs.length<=sizeLine):wpAny (model X.prog X.w) A (dictSetDefault d0 (.ref b) d) Q E s:=by
 obtain⟨o,es,ep,ho,hc,hd,he,his,hn⟩:=hm;unfold dictSetDefault
 try with_reducible refine dM ?_
 refine aa ((deep X.prog X.w).pyHash hu PR ?_);refine aa (wpAny_dictFind_heap (s:={s with toks:=s.toks+(deep X.prog X.w).draws k}) hu PR ho hd he his hn ?_ ?_)
 ·intro rS;have acR:k∉xs.map (·.1):=not_mem_keys_of_get rS
  refine aa (vM (aa (wpAny_updateDictKeys (hz:=by have e:=size_of_entries he;omega) (s:={s with toks:=s.toks+(deep X.prog X.w).draws k}) ho hd (ay (h2 (zl rS) _ ⟨_,_,ep+1,cw _ ho (Obj.isFreed_of_dict (Obj.data_mapDictKeys hd _)),
   hc.mapDictKeys _,Obj.data_mapDictKeys hd _,?_,?_,?_⟩ (eP ..))))))
  ·rw[storedH_new (zl rS)];simp[he,entryOfKey]
  ·rw[storedH_new (zl rS)];intro x hx;rcases bx.mp hx with hx|hx
   ·exact(deep X.prog X.w).keeps (his x hx) ho hd (eP ..)
   ·simp only[aE] at hx;subst hx;exact(deep X.prog X.w).keeps PR ho hd (eP ..)
  ·rw[storedH_new (zl rS)]
   grind
 ·intro i p hi;refine aa (wpAny_dictEntries (s:={s with toks:=s.toks+(deep X.prog X.w).draws k}) ho hd ?_);have e1:es[i]?=some (entryOfKey (deep X.prog X.w) (k,p)):=by rw[entry_at he i,hi];rfl
  rw[e1];exact aa (vM (ay (h1 p (atKey_of_get hn hi))))
theorem Aj{j:Nat}{v:V}{u:Value}{Q:acX}(hr:dR j A)(I:Inv X pins σ H s)(h:DH X.K H a kvs)(hk:gm X.K H k b)(rv:RelV v u)(hl:kvs.length<sizeLine) (q1:∀y w' s',dB kvs k=some y->Inv X pins σ H s'->RelV y w'->Q w' s') (q2:∀φ s',dB kvs k=none->Inv X pins σ (upd H a (.ext φ)) s'->DH X.K (upd H a (.ext φ)) a (putK kvs k v)->Q u s'):wpAny (model X.prog X.w) A (call (.builtin "dict.setdefault") [.ref a,.ref b,u]) Q E s:=by
 have t0:=(h.typ I).1;obtain⟨l,h1,h2,h3,h4,h5⟩:=h;obtain⟨xs,r,dd⟩:=Bl I h4 h5;have e0:l.length=kvs.length:=by rw[<-h1,af]
 have hz:xs.length<=sizeLine:=by rw[<-bc r];omega
 have rel:=r.val k;rw[h1] at rel;refine cU Rr t0 PySem.F.entry_dict_setdefault ?_ (PySem.F.args_dict_setdefault_3 _ _ _);unfold Builtin.«dict.setdefault»;refine aa ?_;unfold Builtin.Dict.keyAndDefault;refine aa (wpAny_notOrdered_dict t0 ?_);show wpAny _ _ (pure (a,Value.ref b,some u)) _ _ s;refine ay ?_;show wpAny _ _ (if (a==sysModules)=true then _ else(dictSetDefault a (.ref b) u >>=_)) _ _ s;rw[ae (by rw[h2];exact aT)];refine aa (RH (oK (X:=X) hr) (hk.is I) dd (λp hp=>?_) (λhn h' UP hs=>?_) hz)
 ·rw[hp] at rel;cases hv:dB kvs k with
  |none=>rw[hv] at rel;exact rel.elim
  |some y=>
   rw[hv] at rel;exact ay ⟨_,rfl,q1 y _ _ hv (I.tok _) rel⟩
 ·rw[hn] at rel;cases hv:dB kvs k with
  |some y=>rw[hv] at rel;exact rel.elim
  |none=>
   obtain⟨I',D'⟩:=UO (t':=s.toks+(deep X.prog X.w).draws k) I h4 h5 hk r rv (by omega) h2 UP hs;rw[h1] at D';exact ay ⟨_,rfl,q2 _ _ hv I' D'⟩
end
def XQ(K:Frag)(ty td:TE):TE:=λσ H Q=>ty σ H λy H1=>td σ H1 λx H2=>∃a b k kvs,x=.ref a/\y=.ref b/\DH K H2 a kvs/\gm K H2 k b/\Q (.bl (dB kvs k).isSome) H2
def NT(K:Frag)(ty td:TE):TE:=λσ H Q=>ty σ H λy H1=>td σ H1 λx H2=>∃a b k kvs,x=.ref a/\y=.ref b/\DH K H2 a kvs/\gm K H2 k b/\Q (.bl (!(dB kvs k).isSome)) H2
def U6(K:Frag)(td ty:TE):TE:=λσ H Q=>td σ H λx H1=>ty σ H1 λy H2=>∃a b k kvs v,x=.ref a/\y=.ref b/\DH K H2 a kvs/\gm K H2 k b/\dB kvs k=some v/\Q v H2
def Vg(K:Frag)(td ty tv:TE):TS:=λD σ H=>tv σ H λv H1=>td σ H1 λx H2=>ty σ H2 λy H3=>∃a b k kvs,x=.ref a/\y=.ref b/\DH K H3 a kvs/\gm K H3 k b/\kvs.length<sizeLine/\∀φ,DH K (upd H3 a (.ext φ)) a (putK kvs k v)->D.nx σ (upd H3 a (.ext φ))
def U5(K:Frag):TE:=λ_ H Q=>∀p φ,H p=none->DH K (upd H p (.ext φ)) p []->Q (.ref p) (upd H p (.ext φ))
def RA(K:Frag)(td ty tv:TE):TE:=λσ H Q=>td σ H λx H1=>∃a Y0,x=.ref a/\DH K H1 a Y0/\ty σ H1 λy H2=>tv σ H2 λv H3=>∃b k kvs,y=.ref b/\DH K H3 a kvs/\gm K H3 k b/\kvs.length<sizeLine/\
 (∀z,dB kvs k=some z->Q z H3)/\(dB kvs k=none->∀φ,DH K (upd H3 a (.ext φ)) a (putK kvs k v)->Q v (upd H3 a (.ext φ)))
section
variable{X:Cx}{o i e f value:Expr}{pos pos' Lr apos ji:Pos}{td ty tv:TE}{j:Nat}
theorem oQ(hr:dR j X.A)(ho:PE X o td)(hi:PE X i ty)(hs:WQ i):PE X (.Subscript o i pos) (U6 X.K td ty):=by
 intro pins s σ H Q I h;refine JF WS.lookup hs (d9 (ho pins s σ H _ I h) λu s1 ⟨x,H1,I1,rx,q1⟩=>d9 (hi pins s1 σ H1 _ I1 q1) λiv s2 ⟨y,H2,I2,ry,a,b,k,kvs,v,ex,ey,hd,hk,hv,q2⟩=>?_);subst ex ey;obtain rfl:u=Value.ref a:=rx;obtain rfl:iv=Value.ref b:=ry;exact⟨(hd.typ I2).1,WC hr I2 hd hk hv λw' s3 I3 HW=>⟨v,H2,I3,HW,q2⟩⟩
theorem RW(hr:dR j X.A)(hi:PE X i ty)(ho:PE X o td):PC X .In i o (XQ X.K ty td):=by
 intro pins s σ H Q I h;refine d9 (hi pins s σ H _ I h) λiv s1 ⟨y,H1,I1,ry,q1⟩=>d9 (ho pins s1 σ H1 _ I1 q1) λu s2 ⟨x,H2,I2,rx,a,b,k,kvs,ex,ey,hd,hk,q2⟩=>?_
 subst ex ey;obtain rfl:u=Value.ref a:=rx;obtain rfl:iv=Value.ref b:=ry;exact aav hr I2 hd hk λs3 I3=>⟨.bl _,H2,I3,rfl,q2⟩
theorem xZ(hr:dR j X.A)(hi:PE X i ty)(ho:PE X o td):PC X .NotIn i o (NT X.K ty td):=by
 intro pins s σ H Q I h;refine d9 (hi pins s σ H _ I h) λiv s1 ⟨y,H1,I1,ry,q1⟩=>d9 (ho pins s1 σ H1 _ I1 q1) λu s2 ⟨x,H2,I2,rx,a,b,k,kvs,ex,ey,hd,hk,q2⟩=>?_
 subst ex ey;obtain rfl:u=Value.ref a:=rx;obtain rfl:iv=Value.ref b:=ry;exact QE hr I2 hd hk λs3 I3=>⟨.bl _,H2,I3,rfl,q2⟩
theorem E9(hr:dR j X.A)(ho:PE X o td)(hi:PE X i ty)(hv:PE X value tv)(hs:swapsWith value (some (.Subscript o i pos')) pos.line X.env=pure false): PS X (.Assign [.Subscript o i pos'] value pos) (Vg X.K td ty tv):=by
 intro pins s σ H D I h;refine wpAny_Assign_Subscript (d9 (hv pins s σ H _ I h) λr s1 ⟨v,H1,I1,rv,q1⟩=>d9 (ho pins s1 σ H1 _ I1 q1) λu s2 ⟨x,H2,I2,rx,q2⟩=>d9 (hi pins s2 σ H2 _ I2 q2) λiv s3 ⟨y,H3,I3,ry,a,b,k,kvs,ex,ey,hd,hk,hl,q3⟩=>?_) hs;subst ex ey;obtain rfl:u=Value.ref a:=rx;obtain rfl:iv=Value.ref b:=ry;exact WB hr I3 hd hk rv hl λφ s4 I4 D4=>⟨σ,_,I4,q3 φ D4⟩
theorem xY:PE X (.Dict [] [] pos) (U5 X.K):=λpins s σ H Q I h=>by
 have hn:=I.cR.fresh (aA s.heap.objs.size);refine wpAny_Dict_empty ⟨.ref s.heap.objs.size,upd H s.heap.objs.size (.ext (fD s.heap.objs.size [])),I.laid (a:=s.heap.objs.size) (o:=.ext (fD s.heap.objs.size [])) (t':=s.toks) (λ_ _ q=>ax _ q) (aA _) (Qv ?_),rfl,h _ _ hn ?_⟩
 ·exact⟨[],.nil,_,#[],0,aQ _ rfl,⟨rfl,rfl,rfl⟩,rfl,rfl,lU⟩
 ·exact⟨[],rfl,cc.mpr (cv (bH I.big)),aD _,ak,λp hp=>nomatch hp⟩
theorem LO(hr:dR j X.A)(ho:PE X o td)(he:PE X e ty)(hf:PE X f tv)(m:M2 X o "setdefault" apos e f ji):PE X (.Call (.Attribute o "setdefault" apos) [e,f] [] ji) (RA X.K td ty tv):=by
 intro pins s σ H Q I h;refine wpAny_Call_method m.base m.few m.line aaE Rr PySem.F.type_dict_setdefault (d9 (ho pins s σ H _ I h) λu s1 ⟨x,H1,I1,rx,a,Y0,ex,d,q1⟩=>?_);subst ex;obtain rfl:u=Value.ref a:=rx;obtain⟨t1,t2,_⟩:=d.typ I1;refine⟨t1,t2,?_⟩;rw[m.trees]
 refine f9 rfl (kC (gA (d9 (he pins s1 σ H1 _ I1 q1) λiv s2 ⟨y,H2,I2,ry,q2⟩=>
  gA (d9 (hf pins s2 σ H2 _ I2 q2) λfv s3 ⟨z,H3,I3,rz,b,k,kvs,ey,hd,hk,hl,q3,q4⟩=>nX ?_))))
 subst ey;obtain rfl:iv=Value.ref b:=ry;exact Aj hr I3 hd hk rz hl (λy w' s4 hv I4 HW=>⟨y,H3,I4,HW,q3 y hv⟩) λφ s4 hv I4 D4=>⟨z,_,I4,rz,q4 hv φ D4⟩
end
end DK
namespace DK
open PySem PySem.Spec PyProof.Rows L2 B
theorem EH{acc:List (Ky×Addr×Value)}{q:Ky×Addr×Value}(h:q.1∉acc.map (·.1)):storedH acc q.1 q.2.1 q.2.2=acc++ [q]:=by
 refine storedH_new ?_ _ _;unfold atKey
 grind
section
variable{prog:Program}{w:World}{A:Around}{E:acX}
theorem Ga{h h':Heap}{k:Ky}{a:Addr}(x:M9 h k a)(kp:∀b o items n,h.get? b=some o->o.data=.seq items n->h'.get? b=some o):M9 h' k a:=by
 obtain⟨d,as,r,e,hn⟩:=x;exact⟨d,as,qX kp d _ as k e r,e,hn⟩
theorem DJ{h h':Heap}{d:Addr}{xs:List (Ky×Addr×Value)}(hm:h.DictOfH (deep prog w) d xs)(hd:∀o,h.get? d=some o->h'.get? d=some o)(kp:∀b o items n,h.get? b=some o->o.data=.seq items n->h'.get? b=some o):h'.DictOfH (deep prog w) d xs:=by
 obtain⟨o,es,ep,e1,e2,e3,e4,e5,e6⟩:=hm;exact⟨o,es,ep,hd _ e1,e2,e3,e4,λx hx=>Ga (e5 x hx) kp,e6⟩
theorem ED{R:Result->Shared->Prop}{S I l:Addr}{items:ac6}{res:Value}(hu:A.units+70<cLine)(hh:A.handled=none)(ZE:l≠I)(Nm:S≠I)(Aa:S≠l): ∀(rest:List (Ky×Addr×Value)) (i:Nat) (acc:List (Ky×Addr×Value)) (ix:Int) (t:Tok) (s:Shared),items.size=i+rest.length->acc.length+rest.length<=sizeLine->((acc++rest).map (·.1)).Nodup-> (∀(j:Nat) (q:Ky×Addr×Value),rest[j]?=some q->∃b:Addr,items[i+j]?=some (.ref b)/\b≠S/\b≠I/\IsTup s.heap b #[.ref q.2.1,q.2.2]/\M9 s.heap q.1 q.2.1)-> s.heap.IsListIter I l i->(∃o,s.heap.get? I=some o/\∀b6 n,o.data≠.seq b6 n)->s.heap.IsList l items->s.heap.DictOfH (deep prog w) S acc-> (∀h' tk,h'.DictOfH (deep prog w) S (acc++rest)->(∀b o,b≠S->b≠I->s.heap.get? b=some o->h'.get? b=some o)->R (.ok (.ret res)) {s with heap:=h',toks:=tk})-> codeAny (model prog w) A (.builtin "dict.update.loop" ⟨[.ref S,.ref I,.int ix t,res],[]⟩) R s
 | [],i,acc,ix,t,s,hsz,hln,tF,ht,hit,hI,hl,hm,hR=>by
  refine dn EE ?_;rw[cD oq _];show wpAny _ A.in1 (pyNext (.ref I) >>=_) _ _ s;refine aa (Hx (A:=A.in1) hh hit hl (by first |exact lX (xr hsz)|(simp at hsz;simp;omega)) λh' he=>?_);show wpAny _ A.in1 (Builtin.Dict.addKeywords S [] >>=_) _ _ _;refine aa (ay (ay ?_));rw[aI] at hR;refine hR h' s.toks (DJ hm (λo e=>he S o Nm e) λb o b6 n e hd=>he b o ?_ e) λb o _ hb e=>he b o hb e
  grind
 |q::rest,i,acc,ix,t,s,hsz,hln,tF,ht,hit,hI,hl,hm,hR=>by
  obtain⟨b,hb,hbS,hbI,abG,hk⟩:=ht 0 q rfl;rw[aJ] at hsz hln;refine dn EE ?_;rw[cD oq _];show wpAny _ A.in1 (pyNext (.ref I) >>=_) _ _ s;refine aa (Er (x:=.ref b) hit hl (by simpa using hb) λh1 wg w8=>?_)
  have kp1:∀b o items n,s.heap.get? b=some o->o.data=.seq items n->h1.get? b=some o:=λb o b6 n e hd=>w8.extBut b o (by
   rintro rfl;obtain⟨o',e1,e2⟩:=hI;rw[e] at e1;cases e1
   exact e2 _ _ hd) e
  have ht1:IsTup h1 b #[.ref q.2.1,q.2.2]:=abG.extBut w8.extBut hbI;have Eg:h1.IsList l items:=hl.extBut w8.extBut ZE;have hm1:h1.DictOfH (deep prog w) S acc:=DJ hm (λo e=>w8.extBut S o Nm e) kp1;have S2:=Ga hk kp1;obtain⟨o,ho,hc,n,hd⟩:=id ht1;show wpAny _ A.in1 (holding [Value.ref b] _ >>=_) _ _ _;refine aa (dM ?_);refine aa (wpAny_tryCatch ?_);unfold Builtin.Dict.pairItems;refine aa (ug (T:="tuple") ⟨o,ho,hc⟩ ?_);rw[ah (by first |decide|rfl|simp)];refine aa (vL ho hd (ay ?_));show wpAny _ A.in1 (holding [Value.ref q.2.1,q.2.2] (dictSet S (.ref q.2.1) q.2.2)) _ _ _;have Eh:q.1∉acc.map (·.1):=by
   grind
  refine dM (wpAny_dictSet_heap (hsz:=by omega) (knd:=deep prog w) (k:=q.1) (show A.units+1+64<cLine by omega) S2 hm1 λh2 Xg tE=>?_);rw[EH Eh] at Xg
  have kp2:∀b o items n,h1.get? b=some o->o.data=.seq items n->h2.get? b=some o:=λb o b6 n e hd=>tE.extBut b o (by
   rintro rfl;obtain⟨o',wx,ep',e1,_,e3,_⟩:=hm1;rw[e] at e1;cases e1;rw[hd] at e3
   cases e3) e
  obtain⟨ao,es0,ep0,Z9,_⟩:=id hm1;refine ay ⟨eF oq _,ED (items:=items) hu hh ZE Nm Aa rest (i+1) (acc++ [q]) (ix+1) 0 _ (show items.size=i+1+rest.length by omega) ?_ ?_ (λj q' e=>?_) ?_ ?_ ?_ Xg λh' tk yM k=>?_⟩
  ·grind
  ·rw[az];exact tF
  ·obtain⟨b',P7,Z4,Z5,Zc,Mv⟩:=ht (j+1) q' (by simpa using e);refine⟨b',?_,Z4,Z5,(Zc.extBut w8.extBut Z5).extBut tE.extBut Z4,Ga (Ga Mv kp1) kp2⟩;rw[show i+1+j=i+(j+1) by omega];exact P7
  ·exact wg.at λo' e=>tE.extBut I o' (cv Nm) e
  ·obtain⟨o2,e2,e3,e4⟩:=wg;exact⟨o2,tE.extBut I o2 (cv Nm) e2,λb6 n z=>by rw[e4] at z;cases z⟩
  ·exact Eg.extBut tE.extBut (cv Aa)
  ·rw[az] at yM;exact hR h' tk yM λc oc h3 h4 e=>k c oc h3 h4 (tE.extBut c oc h3 (w8.extBut c oc h4 e))
theorem wG{s:Shared}{l:Addr}{ol:Obj}{items:ac6}{n:Nat}{prs:List (Ky×Addr×Value)}{Q:acX}(hu:A.units+80<cLine)(hh:A.handled=none)(hl:s.heap.get? l=some ol)(hc:ol.cls=.type "list")(hd:ol.dict=none) (Di:ol.data=.seq items n) (hsz:items.size=prs.length) (hln:prs.length<=sizeLine) (tF:(prs.map (·.1)).Nodup) (ht:∀(j:Nat) (q:Ky×Addr×Value),prs[j]?=some q->∃b:Addr,items[j]?=some (.ref b)/\IsTup s.heap b #[.ref q.2.1,q.2.2]/\M9 s.heap q.1 q.2.1) (h:∀h' tk,h'.DictOfH (deep prog w) s.heap.objs.size prs->(∀b o,s.heap.get? b=some o->h'.get? b=some o)->Q (.ref s.heap.objs.size) {s with heap:=h',toks:=tk}): wpAny (model prog w) A (call (.type "dict") [.ref l]) Q E s:=by
 refine callType_codes (Q₁:=λobj dX=>obj=.ref s.heap.objs.size/\dX={s with heap:=s.heap.push {cls:=.type "dict",data:=.dict #[]}}) PySem.F.kt_called_dict (PySem.F.kt_typeCall_dict_1 _) PySem.F.entry_dict_init (kt_code_dict_new _ ⟨rfl,rfl⟩) ?_;rintro obj dX ⟨rfl,rfl⟩;have IM:(s.heap.push {cls:=.type "dict",data:=.dict #[]}).DictOfH (deep prog w) s.heap.objs.size []:=⟨_,#[],0,aQ _ rfl,⟨rfl,rfl,rfl⟩,rfl,rfl,(λx hx=>nomatch hx),lU⟩;have k0:∀b o,s.heap.get? b=some o->(s.heap.push {cls:=.type "dict",data:=.dict #[]}).get? b=some o:=λb o e=>ax _ e
 refine⟨IM.typeIs,PySem.F.args_dict_init_2 _ _,?_⟩;unfold Builtin.«dict.__init__»;refine aa ?_;unfold Builtin.Dict.selfAndRest;refine aa (wpAny_notOrdered_dict IM.typeIs ?_);show wpAny _ _ (pure (s.heap.objs.size,[Value.ref l])) _ _ _;refine ay ?_;show wpAny _ _ (Builtin.Dict.updateFrom "dict.__init__" s.heap.objs.size (.ref l) [] .none) _ _ _;unfold Builtin.Dict.updateFrom;refine aa (ug (T:="list") ⟨ol,k0 _ _ hl,hc⟩ ?_);rw[ah (by first |decide|rfl|simp)];refine aa (L8 (k0 _ _ hl) hc Di hd hh λh1 tk1 S2=>?_);rw[ah (show(none:Option Value).isNone=true from rfl)];refine aa (vM ?_);have Eg:h1.IsList l items:=⟨ol,S2 _ _ (k0 _ _ hl),hc,n,Di⟩;have Xp:s.heap.objs.size<h1.objs.size:=by
  have e:(s.heap.push {cls:=.type "dict",data:=.dict #[]}).get? s.heap.objs.size=some {cls:=.type "dict",data:=.dict #[]}:=aQ _ rfl;exact aW (S2 _ _ e)
 refine aa (zj Eg ?_);have k2:∀b o,h1.get? b=some o->(h1.push {cls:=.type "list_iterator",data:=.fields #[.ref l,.int 0 0]}).get? b=some o:=λb o e=>ax _ e
 have gV:l<s.heap.objs.size:=aW hl;have key:=ED (prog:=prog) (w:=w) (A:=A.in1) (R:=wants (λr kX=>r=.none/\Q (.ref s.heap.objs.size) kX) E) (S:=s.heap.objs.size) (I:=h1.objs.size) (l:=l) (items:=items) (res:=Value.none) (show A.units+1+70<cLine by omega) hh
  (bH (Lc gV Xp)) (bH Xp) (qf gV) prs 0 [] 0 0
  {s with heap:=h1.push {cls:=.type "list_iterator",data:=.fields #[.ref l,.int 0 0]},toks:=tk1} (by rw[hsz,dE]) (by rw[cJ,dE];exact hln) (by rw[bE];exact tF)
  (λj q e=>by
   obtain⟨b,e1,e2,e3⟩:=ht j q e;have hb:b<s.heap.objs.size:=e2.lt
   exact⟨b,by rw[dE];exact e1,bH hb,bH (Lc hb Xp),e2.keeps λc o z=>k2 _ _ (S2 _ _ (k0 _ _ z)),Ga e3 λc o _ _ z _=>k2 _ _ (S2 _ _ (k0 _ _ z))⟩)
  ⟨_,aQ _ rfl,rfl,rfl⟩ ⟨_,aQ _ rfl,λ_ _=>nofun⟩ (Eg.at λo e=>k2 _ _ e) (DJ IM (λo e=>k2 _ _ (S2 _ _ e)) λc o _ _ z _=>k2 _ _ (S2 _ _ z))
  (λh' tk yM k=>⟨rfl,h h' tk yM λb o e=>k b o (bH (aW e)) (bH (Lc (aW e) Xp)) (k2 _ _ (S2 _ _ (k0 _ _ e)))⟩)
 first
  |exact ay ⟨eF oq _,key⟩
  |exact aa (ay (ay ⟨eF oq _,key⟩))
end
section
variable{X:Cx}
theorem Fi{pins:ada}{σ:L2.St}{H:Hp}{s:Shared}(I:Inv X pins σ H s):∀{ps:ac1} {l:List (Ky×Addr×V)},Paired (λp q=>dJ X.K H p [.ref q.2.1,q.2.2]/\gm X.K H q.1 q.2.1) ps l-> ∃prs:List (Ky×Addr×Value),KD l prs/\prs.length=ps.length/\prs.map (·.1)=l.map (·.1)/\∀(j:Nat) (q:Ky×Addr×Value),prs[j]?=some q->∃b:Addr,ps[j]?=some b/\IsTup s.heap b #[.ref q.2.1,q.2.2]/\M9 s.heap q.1 q.2.1
 |_,_,.nil=>⟨[],.nil,rfl,rfl,λj q e=>by simp at e⟩
 |_,_,.cons (a:=p) (b:=kv) h t=>by
  obtain⟨prs,r,hl,hm,hp⟩:=Fi I t;obtain⟨b6,rv,ht,_⟩:=I.tuple h.1;obtain⟨u,y,ei,ru,ry⟩:=vals2 rv;subst ei;obtain rfl:u=Value.ref kv.2.1:=ru;refine⟨(kv.1,kv.2.1,y)::prs,.cons ⟨rfl,rfl,ry⟩ r,by rw[aJ,aJ,hl],by rw[aK,aK,hm],λj q e=>?_⟩;cases j with
  |zero=>
   have e':(kv.1,kv.2.1,y)=q:=aX e;subst e';exact⟨p,rfl,ht,gm.is I h.2⟩
  |succ j=>
   grind
theorem Jn{j:Nat}(hr:dR j X.A)(ZV:X.calm=true):pC X (.type "dict") (λxs H Q=>∃(a:Addr) (ps:ac1) (l:List (Ky×Addr×V)),xs=[.ref a]/\cg X.K H a (ps.map V.ref)/\Paired (λp q=>dJ X.K H p [.ref q.2.1,q.2.2]/\gm X.K H q.1 q.2.1) ps l/\(l.map (·.1)).Nodup/\ ∀p φ,H p=none->DH X.K (upd H p (.ext φ)) p (l.map pr)->Q (.ref p) (upd H p (.ext φ))):=by
 intro pins s σ H xs us Q I r q;obtain⟨a,ps,l,ex,hq,hp,tF,q⟩:=q;subst ex;obtain⟨u,eu,rx⟩:=vals1 r;subst eu;cases rx;obtain⟨b6,rv,pl,hz⟩:=I.list hq;have ei:=JX rv;subst ei;rw[af] at hz;obtain⟨prs,rel,hl,hm,oh⟩:=Fi I hp;obtain⟨o,n,ho,hc,hd,Di⟩:=pl;have hlen:l.length=ps.length:=(bc hp).symm;refine wG (prs:=prs) (by have:=hr.un;omega) (I.ok.hd ZV) ho hc hd Di (by simp[hl]) (by rw[hl];exact hz) (by rw[hm];exact tF) (λj q' e=>?_) λh' tk yM k=>?_
 ·obtain⟨b,e1,e2,e3⟩:=oh j q' e;exact⟨b,by simp[e1],e2,e3⟩
 ·have hs:(s.heap.objs.size==sysModules)=false:=cc.mpr (qf I.big);have hn:=I.cR.fresh (aA s.heap.objs.size);obtain⟨o',es,ep,e1,e2,e3,e4,e5,e6⟩:=yM;refine⟨.ref s.heap.objs.size,upd H s.heap.objs.size (.ext (fD s.heap.objs.size l)),I.laid (t':=tk) k (aA _) (Qv ⟨prs,rel,o',es,ep,e1,e2,e3,e4,e6⟩),rfl,q _ _ hn ⟨l,rfl,hs,by rw[af];omega,ak,λp hp'=>?_⟩⟩;have:∀{ps:ac1} {l:List (Ky×Addr×V)},Paired (λp q=>dJ X.K H p [.ref q.2.1,q.2.2]/\gm X.K H q.1 q.2.1) ps l->∀p∈l,gm X.K H p.1 p.2.1:=by
   intro ps l h
   induction h with
   |nil=>intro p hp;exact nomatch hp
   |cons h t ih=>
    grind
  exact(this hp p hp').keep (oM (Fw hn))
end
end DK
namespace B
open PySem PySem.Spec PyProof.Rows L2
def Q0(K:Frag)(a:Addr)(kvs:List (Int×Int)):Prop:=(a==sysModules)=false/\(kvs.map (·.1)).Nodup/\∃o es ep,K.lookup a=some o/\o.ExactDict/\o.data=.dict es ep/\
 Paired (λ(e:DictEntry) (kv:Int×Int)=>e.hash=hashInt kv.1/\(∃t,e.key=.int kv.1 t)/\∃t,e.val=.int kv.2 t) es.toList kvs
def look(kvs:List (Int×Int))(i:Int):Option Int:=(kvs.find? λkv=>kv.1=i).map (·.2)
theorem F6{prog:Program}{w:World}:∀{es:List DictEntry} {kvs:List (Int×Int)},Paired (λ(e:DictEntry) (kv:Int×Int)=>e.hash=hashInt kv.1/\(∃t,e.key=.int kv.1 t)/\∃t,e.val=.int kv.2 t) es kvs-> ∃vs:List (Int×Value),(∀e∈es,∃k,(intKind prog w).is k e.key=true/\e.hash=(intKind prog w).hash k)/\Pairs (intKind prog w) es vs/\vs.map (·.1)=kvs.map (·.1)/\∀i,mv ((look kvs i).map V.int) (valueAt vs i)
 |_,_,.nil=>⟨[],(λ_=>nofun),.nil,rfl,λi=>True.intro⟩
 |_,_,.cons (a:=e) (b:=kv) h t=>by
  obtain⟨vs,h1,h2,h3,h4⟩:=F6 (prog:=prog) (w:=w) t;obtain⟨g1,⟨tk,g2⟩,tv,g3⟩:=h;have g4:(intKind prog w).is kv.1 e.key=true:=by rw[g2];exact Et _ _ _ _
  refine⟨(kv.1,e.val)::vs,?_,?_,by rw[aK,aK,h3],λi=>?_⟩
  ·intro e' he;rcases ba.mp he with rfl|he
   ·exact⟨kv.1,g4,g1⟩
   ·exact h1 e' he
  ·first |exact .cons ⟨g4,rfl⟩ h2|exact .cons g4 rfl h2|exact .cons g4 h2
  ·unfold look valueAt;by_cases q:kv.1=i
   ·rw[aaO (by simpa using q),aaO (by simpa using q)];exact⟨tv,g3⟩
   ·rw[aaP (by simpa using q),aaP (by simpa using q)];exact h4 i
def U3(K:Frag)(td ty tx:TE):TE:=λσ H Q=>td σ H λx H1=>∃a kvs,x=.ref a/\Q0 K a kvs/\ty σ H1 λy H2=>tx σ H2 λz H3=>∃i,y=.int i/\Q (((look kvs i).map V.int).getD z) H3
theorem OC{X:Cx}{o e f:Expr}{apos ji:Pos}{td ty tx:TE}(ho:PE X o td)(he:PE X e ty)(hf:PE X f tx)(m:M2 X o "get" apos e f ji):PE X (.Call (.Attribute o "get" apos) [e,f] [] ji) (U3 X.K td ty tx):=by
 intro pins s σ H Q I h;refine wpAny_Call_method m.base m.few m.line aaE PySem.F.slot_dict_get PySem.F.type_dict_get (d9 (ho pins s σ H _ I h) λu s1 ⟨x,H1,I1,rx,a,kvs,ex,d,q1⟩=>?_);subst ex;obtain rfl:u=Value.ref a:=rx;obtain⟨hsm,tF,ob,es,ep,PM,hex,Di,hp⟩:=d;refine⟨⟨ob,I1.C0 a ob PM,hex.1⟩,λb q=>?_,?_⟩
 ·cases q;exact⟨ob,I1.C0 a ob PM,hex.2.1⟩
 rw[m.trees]
 refine f9 rfl (kC (gA (d9 (he pins s1 σ H1 _ I1 q1) λiv s2 ⟨y,H2,I2,ry,q2⟩=>
  gA (d9 (hf pins s2 σ H2 _ I2 q2) λfv s3 ⟨z,H3,I3,rz,i,ey,q3⟩=>nX ?_))))
 subst ey;obtain⟨t,rfl⟩:=ry;obtain⟨vs,h1,h2,h3,h4⟩:=F6 (prog:=X.prog) (w:=X.w) hp;have dd:s3.heap.DictOf (intKind X.prog X.w) a vs:=⟨ob,es,ep,I3.C0 a ob PM,hex,Di,λe' he'=>h1 e' (by simpa using he'),h2,by rw[h3];exact tF⟩;refine call_meetsIn PySem.F.slot_dict_get dd.typeIs PySem.F.entry_dict_get (PySem.F.args_dict_get_3 _ _ _) (meets_dict_get_default (intKind X.prog X.w) a (Et _ _ _ _) hsm fv) ⟨_,dd.mapOf,⟨_,H3,I3.tok _,?_,q3⟩⟩;exact(h4 i).getD rz
end B
namespace LR
open PySem PySem.Spec PyProof.Rows L2 B
theorem OM:typeLookup (.type "list_reverseiterator") "__len__"=pure none:=by rw[Hh,pI];kernel_rfl
theorem S4:typeLookup (.type "list_reverseiterator") "__length_hint__"=pure (some (.builtin "list_reverseiterator.__length_hint__")):=by rw[Hh,pI];kernel_rfl
section
variable{prog:Program}{w:World}{A:Around}{E:acX}{s:Shared}{R:Result->Shared->Prop}
variable{I:Addr}{fp wr:ac1}{G:Array GenState->Array GenState->Prop}{n:Nat}{P:Nat->Value->Prop}{St:Nat->Shared->Prop}
theorem Jc(W:WalksS prog w A.in1 I fp wr G n P St)(hT:∀i s,St i s->s.TypeIs (.ref I) "list_reverseiterator")(S:Addr)(res:Value)(c₀:Nat)(vZ:St 0 s)(Wn:S∉fp)(hI:I∈fp) (hS:s.heap.get? S=some {cls:=.type "list",data:=.seq #[] c₀}) (hR:∀s' n8 c',Moved (S::wr) G s s'->s'.heap.get? S=some {cls:=.type "list",dict:=none,data:=.seq n8 c',slots:=#[]}->ItemsOf P n8 n->R (.ok (.ret res)) s') (hn:n<=sizeLine): wpAny (model prog w) A.in1 (Builtin.List.listExtendWith (.ref S) (.ref I) res) (λfin s'=>match fin with | .done f=>R (.ok f) s'| .again c'=>c'.quiet=true/\codeAny (model prog w) A c' R s') (λe s'=>R (.error e) s') s:=by
 have Nm:S≠I:=λe=>Wn (e▸hI)
 unfold Builtin.List.listExtendWith;refine aa (ug (hT 0 _ vZ) ?_);have h1:Builtin.List.listSameRef (.ref S) (.ref I)=false:=by simp[Builtin.List.listSameRef,Nm]
 have h2:(Value.type "list_reverseiterator"==Value.type "list")=false:=by decide
 have h3:(Value.type "list_reverseiterator"==Value.type "tuple")=false:=by decide
 rw[ae (by rw[h1,h2,h3];decide)];refine aa (W.self 0 _ _ _ vZ ?_);refine aa (dM ?_);unfold Builtin.List.listLengthHint;refine aa (dU (hT 0 _ vZ) OM ?_);show wpAny _ A.in1 (specialOf (Value.ref I) (Str.ofString "__length_hint__") >>=_) _ _ _;refine aa (dU (hT 0 _ vZ) S4 ?_);generalize ZI:("list_reverseiterator.__length_hint__":String)=id0
 wp_delta
 rw[show splitId id0=some ("list_reverseiterator","__length_hint__") from by subst ZI;decide +kernel];subst ZI;refine aa (Bw (b:=true) (hT 0 _ vZ) (by rw[isSubtype_type];kernel_rfl) ?_);refine ay ?_;rw[ae (by decide)];refine ay ⟨eF WT _,codeAny_extend_loopS W hn _ Wn _ n 0 _ _ _ rfl (aD _) vZ hS (ItemsOf.nil P) λs' n8 c' hm MG Dl=>?_⟩;exact hR s' n8 c' hm MG Dl
theorem Px(W:WalksS prog w A.in1 I fp wr G n P St)(hT:∀i s,St i s->s.TypeIs (.ref I) "list_reverseiterator")(S:Addr)(vZ:St 0 s)(Wn:S∉fp)(hI:I∈fp) (hS:s.heap.get? S=some {cls:=.type "list",data:=.seq #[]}) (hR:∀s' n8 c',Moved (S::wr) G s s'->s'.heap.get? S=some {cls:=.type "list",dict:=none,data:=.seq n8 c',slots:=#[]}->ItemsOf P n8 n->R (.ok (.ret .none)) s') (hn:n<=sizeLine): wpAny (model prog w) A.in1 (Builtin.«list.__init__» ⟨[.ref S,.ref I],[]⟩) (λfin s'=>match fin with | .done f=>R (.ok f) s'| .again c'=>c'.quiet=true/\codeAny (model prog w) A c' R s') (λe s'=>R (.error e) s') s:=by
 show wpAny _ A.in1 (do let old <-Builtin.List.listItems (.ref S);Builtin.List.listUpdate (.ref S) (λ_=>#[]);letGo old.toList.reverse;Builtin.List.listExtendWith (.ref S) (.ref I) .none) _ _ s;refine aa ?_;unfold Builtin.List.listItems;refine aa (vL hS rfl (ay ?_));show wpAny _ A.in1 (updateSeq S (λ_=>#[]) >>=λ_=>letGo (#[]:ac6).toList.reverse >>=λ_=>Builtin.List.listExtendWith (.ref S) (.ref I) .none) _ _ s;refine aa (wpAny_updateSeq hS rfl ?_);have aaa:=cw (Obj.mapSeq (λ_=>(#[]:ac6))) hS rfl;have YD:∀b o,b≠S->s.heap.get? b=some o->(s.heap.update S (Obj.mapSeq (λ_=>(#[]:ac6)))).get? b=some o:=
  λb o hb e=>(dA _ _ (cv hb)).trans e
 refine aa (wpAny_letGo ?_);refine Jc W hT S .none _ (W.frame 0 s _ s.toks vZ (aA _) λb hb o e=>YD b o (λh=>Wn (h▸hb)) e) Wn hI aaa (λs' n8 c' hm MG Dl=>?_) hn;exact hR s' n8 c' (Moved.trans W.gtrans ((Moved.refl W.grefl).then_heap (aA _) λb o hb e=>YD b o (λh=>hb (h▸aR)) e) hm) MG Dl
end
section
variable{prog:Program}{w:World}{A:Around}{E:acX}{s:Shared}
variable{I:Addr}{fp wr:ac1}{G:Array GenState->Array GenState->Prop}{n:Nat}{P:Nat->Value->Prop}{St:Nat->Shared->Prop}
theorem Ax{Q:acX}(W:WalksS prog w A.in1.in1 I fp wr G n P St)(hT:∀i s,St i s->s.TypeIs (.ref I) "list_reverseiterator")(vZ:St 0 s)(My:∀b∈fp,b<s.heap.objs.size)(hI:I∈fp) (hQ:∀s' n8 c',Moved (s.heap.objs.size::wr) G {s with heap:=s.heap.push {cls:=.type "list",data:=.seq #[]}} s'-> s'.heap.get? s.heap.objs.size=some {cls:=.type "list",dict:=none,data:=.seq n8 c',slots:=#[]}->ItemsOf P n8 n->Q (.ref s.heap.objs.size) s') (hn:n<=sizeLine): wpAny (model prog w) A (call (.type "list") [.ref I]) Q E s:=by
 have Wn:s.heap.objs.size∉fp:=λhm=>c9 _ (My _ hm)
 refine callType_codes (Q₁:=λobj dX=>obj=.ref s.heap.objs.size/\dX={s with heap:=s.heap.push {cls:=.type "list",data:=.seq #[]}}) PySem.F.called_list (PySem.F.typeCall_list_1 _) PySem.F.entry_list_init
  (code_list_new _ ⟨rfl,rfl⟩) λobj dX Mq=>?_
 obtain⟨rfl,rfl⟩:=Mq;have hS:(s.heap.push {cls:=.type "list",data:=.seq #[]}).get? s.heap.objs.size=some {cls:=.type "list",data:=.seq #[]}:=aQ _ rfl;refine⟨⟨_,hS,rfl⟩,PySem.F.args_list_init_2 _ _,Px W hT _ (W.frame 0 s _ s.toks vZ (aA _) λb _ o e=>ax _ e) Wn hI hS (λs' n8 c' hm MG Dl=>?_) hn⟩;exact⟨rfl,hQ s' n8 c' hm MG Dl⟩
end
theorem LD{items acc:ac6}(h:ItemsOf (λi v=>items[items.size - 1 - i]?=some v) acc items.size):acc.toList=items.toList.reverse:=by
 obtain⟨h1,h2⟩:=h;refine lV λi=>?_
 grind
def NS(K:Frag)(ta:TA):TE:=λσ H Q=>ta σ H λvs H1=>∃(a:Addr) (xs:List V),vs=[.ref a]/\cg K H1 a xs/\∀p,H1 p=none->Q (.ref p) (upd H1 p (.lst xs.reverse))
theorem Jo:bootBuiltins "list"=some (.type "list"):=by decide +kernel
theorem EA:∀{xs:List V} {us:acY},cu xs us->cu xs.reverse us.reverse
 |_,_,.nil=>.nil
 |_,_,.cons r t=>by
  rw[Le,Le];exact(EA t).append (.cons r .nil)
theorem Ik{X:Cx}{e:Expr}{ta:TA}{p p2 pos Cb:Pos}(hc:X.calm=true)(hg:Gl X "list")(Wc:Gl X "reversed")(hm:X.mg "list"=none)(Xg:X.mg "reversed"=none)(ha:PA X [e] ta) (hs:starEach [e] X.env=[(false,eval e X.env)]:=by rfl)
  (tE:starEach [.Call (.Name "reversed" p2) [e] [] Cb] X.env=[(false,eval (.Call (.Name "reversed" p2) [e] [] Cb) X.env)]:=by rfl):
  PE X (.Call (.Name "list" p) [.Call (.Name "reversed" p2) [e] [] Cb] [] pos) (NS X.K ta):=by
 intro pins s σ H Q I h;refine Call_ (oX I hg hm Jo (dS (?_) tE rfl));rw[tE];refine gA ?_;refine Call_ (oX I Wc Xg y9 (dS (d9 (ha Cb pins s σ H _ I h) λus s1 ⟨vs,H1,I1,r1,q1⟩=>?_) hs rfl));obtain⟨a,xs,ev,hq,q⟩:=q1;subst ev;cases r1 with
 |cons r rr=>
  cases rr;cases r;obtain⟨b6,rv,p',hz⟩:=I1.list hq;have hl:=rv.length;refine call_reversed_list p'.isList (nX ?_);have hh:X.A.handled=none:=I1.ok.hd hc;have Gv:a<s1.heap.objs.size:=aW p'.isList.choose_spec.1;have gT:a≠s1.heap.objs.size:=bH Gv;have W:=(Walks.listRev (prog:=X.prog) (w:=X.w) (A:=X.A.in1.in1) hh s1.heap.objs.size a gT b6.toArray).toS;refine Ax W (λi s h=>h.2.1.typeIs) ⟨aD _,⟨_,aQ _ rfl,rfl,by unfold revObj;simp⟩,p'.isList.at λo e=>ax _ e⟩ (λb hb=>?_) (by simp) (λs' n8 c' hmv MG Dl=>?_) (by simp;omega)
  ·simp only[ba,aE,de,UU] at hb;rcases hb with rfl|rfl
   ·exact aW (aQ _ rfl)
   ·exact aW (ax _ (p'.isList.choose_spec.1))
  ·have ea:=LD Dl;obtain⟨m1,m2,m3,m4,m5⟩:=hmv;have es:s'={s1 with heap:=s'.heap,toks:=s'.toks}:=by
    obtain⟨hp,g,d,tk,os⟩:=s'
    grind
   have hsz:(s1.heap.push (revObj a ((b6.toArray.size:Int) - 1))).objs.size=s1.heap.objs.size+1:=Ed _ _;have Ei:s1.heap.objs.size<=(s1.heap.push (revObj a ((b6.toArray.size:Int) - 1))).objs.size:=by rw[hsz];exact nV _
   have I2:=I1.laid (a:=(s1.heap.push (revObj a ((b6.toArray.size:Int) - 1))).objs.size) (h':=s'.heap) (t':=s'.toks) (o:=.lst xs.reverse) (λb u e=>m1 b u (λhm=>by
    simp only[ba,de,UU] at hm;have hb:=aW e;rcases hm with q|q
    ·rw[q] at hb;exact c9 _ (bM hb Ei)
    ·rw[q] at hb
     exact c9 _ hb) (ax _ (ax _ e))) Ei ⟨by rw[j5];exact hz,n8.toList,c',by rw[ea];simpa using EA rv,by simpa using MG⟩
   rw[<-es] at I2;exact⟨.ref _,_,I2,rfl,q _ (I1.cR.fresh Ei)⟩
end LR
namespace ST
open PySem PySem.Spec PyProof.Rows
theorem Dm{xs:Array Nat}{j:Nat}(hp:xs.toList.Pairwise (·<·)):∀(fuel lo hi:Nat),lo<=hi->hi<=xs.size->hi - lo<=fuel->(∀i,i<lo->∀h:i<xs.size,xs[i]<j)->(∀i,hi<=i->∀h:i<xs.size,j<=xs[i])-> SetTable.below.go xs j fuel lo hi<=xs.size/\(∀i,i<SetTable.below.go xs j fuel lo hi->∀h:i<xs.size,xs[i]<j)/\(∀i,SetTable.below.go xs j fuel lo hi<=i->∀h:i<xs.size,j<=xs[i])
 |0,lo,hi,h1,h2,h3,h4,h5=>by
  have e:lo=hi:=by omega
  subst e;unfold SetTable.below.go;exact⟨h2,h4,h5⟩
 |fuel+1,lo,hi,h1,h2,h3,h4,h5=>by
  unfold SetTable.below.go;have mono:∀(i k:Nat) (hi:i<xs.size) (hk:k<xs.size),i<=k->xs[i]<=xs[k]:=λi k hi hk hik=>by
   rcases qh i k with q|q
   ·have:=j0.mp hp i k (by simpa using hi) (by simpa using hk) q;simp only[BD] at this;omega
   ·have e:i=k:=by omega
    subst e;exact aA _
  by_cases gV:lo<hi
  ·rw[ah gV];simp only;have hm:(lo+hi) / 2<xs.size:=by omega
   have hg:xs.getD ((lo+hi) / 2) j=xs[(lo+hi) / 2]:=by simp[Array.getD,hm]
   rw[hg];by_cases hc:xs[(lo+hi) / 2]<j
   ·rw[ah hc];refine Dm hp fuel _ hi (by omega) h2 (by omega) (λi q h=>?_) h5;have:=mono i ((lo+hi) / 2) h hm (by omega);omega
   ·rw[ae hc];refine Dm hp fuel lo _ (by omega) (by omega) (by omega) h4 (λi q h=>?_);have:=mono ((lo+hi) / 2) i hm h q;omega
  ·grind
theorem rG{xs:Array Nat}(hp:xs.toList.Pairwise (·<·))(j:Nat):SetTable.below xs j<=xs.size/\(∀i,i<SetTable.below xs j->∀h:i<xs.size,xs[i]<j)/\(∀i,SetTable.below xs j<=i->∀h:i<xs.size,j<=xs[i]):=by
 unfold SetTable.below;exact Dm hp _ _ _ (aD _) (aA _) (by omega) (λi q _=>absurd q (Nat.not_lt_zero _)) (λi q h=>absurd h (Nat.not_lt.mpr q))
theorem Ge{xs:Array Nat}(hp:xs.toList.Pairwise (·<·)){j:Nat}(hj:j∉xs.toList):(SetTable.insertAt xs (SetTable.below xs j) j).toList.Pairwise (·<·):=by
 obtain⟨h1,h2,h3⟩:=rG hp j;generalize SetTable.below xs j=p at h1 h2 h3;unfold SetTable.insertAt;have e:((xs.extract 0 p).push j++xs.extract p xs.size).toList=xs.toList.take p++([j]++xs.toList.drop p):=by
  simp;rw[xt (by simp)]
 rw[e,jm];refine⟨hp.sublist (List.take_sublist _ _),?_,?_⟩
 ·rw[List.singleton_append,qH];refine⟨λx hx=>?_,hp.sublist (List.drop_sublist _ _)⟩;obtain⟨i,hi,rfl⟩:=pK hx
  grind
 ·intro x hx y hy;obtain⟨i,hi,rfl⟩:=pK hx;rw[bh] at hi;have hi':i<xs.size:=by simp at hi;omega
  have h4:=h2 i (by omega) hi';rw[List.getElem_take];simp only[BD];have Y8:y∈j::xs.toList.drop p:=hy;rcases ba.mp Y8 with rfl|hy
  ·exact h4
  ·obtain⟨k,hk,rfl⟩:=pK hy
   grind
theorem OK{t:SetTable}(hp:t.place.toList.Pairwise (·<·)){j:Nat}(h:∀i,t.slot j≠.live i):j∉t.place.toList:=by
 intro hm;obtain⟨h1,h2,h3⟩:=rG hp j;unfold SetTable.slot at h;simp only at h;obtain⟨k,hk,e⟩:=pK hm;have Mv:k<t.place.size:=by simpa using hk
 have e':t.place[k]=j:=by simpa using e
 have hpk:SetTable.below t.place j<=k:=by
  grind
 have gV:SetTable.below t.place j<t.place.size:=by omega
 have e2:t.place[SetTable.below t.place j]=j:=by
  have a:=h3 _ (aA _) gV;rcases qh (SetTable.below t.place j) k with q|q
  ·have:=j0.mp hp _ k (by simpa using gV) hk q;simp only[BD] at this;omega
  ·have e3:SetTable.below t.place j=k:=by omega
   simp only[e3,e']
 refine h (SetTable.below t.place j) ?_;rw[ah];rw[cx gV,e2];exact cK _
theorem qY{t:SetTable}{f:Nat->Int}{h:Int}:∀(fuel:Nat) (p:SetTable.Probe) (j:Nat) (d:Option Nat),(∀x,p.dummy=some x->t.slot x=.dummy)->SetTable.probe.go t f h fuel p=some (.empty j d)-> t.slot j=.empty/\∀x,d=some x->t.slot x=.dummy
 |0,p,j,d,_,e=>by unfold SetTable.probe.go at e;cases e
 |fuel+1,p,j,d,hd,e=>by
  unfold SetTable.probe.go at e;have adv:∀q:SetTable.Probe,(t.advance q).dummy=q.dummy:=λq=>by unfold SetTable.advance;split <;> rfl
  cases hs:t.slot p.j with
  |empty=>
   grind
  |dummy=>
   rw[hs] at e;refine qY fuel _ j d (λx hx=>?_) e;rw[adv] at hx;simp only[Lb] at hx;subst hx;exact hs
  |live i=>
   rw[hs] at e;simp only at e;split at e
   ·cases e
   ·refine qY fuel _ j d (λx hx=>?_) e;rw[adv] at hx;exact hd x hx
theorem MJ{t:SetTable}(hp:t.place.toList.Pairwise (·<·)){h:Int}{slot:Nat}{wd:Bool}(e:t.freeSlot h=some (slot,wd)):slot∉t.place.toList:=by
 unfold SetTable.freeSlot at e;split at e
 ·rename_i j dummy oh;simp only[Lb,XA] at e;obtain⟨rfl,_⟩:=e;unfold SetTable.probe at oh;obtain⟨h1,h2⟩:=qY _ _ _ _ (λx hx=>by unfold SetTable.probeStart at hx;cases hx) oh;refine OK hp λi q=>?_
  cases dummy with
  |none=>
   rw[eR,h1] at q;cases q
  |some x=>
   rw[vN,h2 x rfl] at q;cases q
 ·cases e
theorem HY(n:Nat):(Array.range n).toList.Pairwise (·<·):=by
 rw[Array.toList_range];exact aaM
structure TJ(led:Bool)(t:SetTable):Prop where
 led:t.led=led
 rise:t.place.toList.Pairwise (·<·)
theorem TJ.standIn{led:Bool}{t:SetTable}(h:TJ led t)(n:Nat):TJ led (t.standIn n):=⟨h.led,HY n⟩
theorem TJ.LN{led:Bool}{t:SetTable}(h:TJ led t):TJ led {t with plain:=false}:=⟨h.led,h.rise⟩
theorem TJ.layNew{led:Bool}{t:SetTable}(h:TJ led t)(es:Array (Int×Value))(k:Int)(x:Value):TJ led (layNew t es k x).2.1:=by
 unfold PySem.layNew;cases e:t.freeSlot k with
 |none=>exact h.standIn _
 |some p=>
  obtain⟨slot,wd⟩:=p;simp only;have hp:TJ led (t.put slot).1:=⟨h.led,Ge h.rise (MJ h.rise e)⟩;unfold SetTable.orStandIn;split
  ·exact hp
  ·exact hp.standIn _
theorem Mh(mask:Nat)(owner:Array (Option Nat)):((((List.range (mask+1)).filterMap λj=>(owner.getD j none).map (j,·)).map (·.1)).toArray).toList.Pairwise (·<·):=by
 rw[List.toList_toArray];refine List.Pairwise.sublist ?_ (aaM (n:=mask+1));generalize List.range (mask+1)=l
 induction l with
 |nil=>exact List.Sublist.refl _
 |cons j l ih=>
  rw[cf];cases owner.getD j none with
  |none=>exact .cons _ ih
  |some k=>exact .cons₂ _ ih
theorem TJ.relayAll{led:Bool}{t:SetTable}(h:TJ led t)(es:Array (Int×Value))(n:Nat):TJ led (relayAll t es n).2.1:=by
 unfold PySem.relayAll;cases e:t.relaid (es.map (·.1)) n with
 |none=>exact h.standIn _
 |some p=>
  obtain⟨t',order⟩:=p;simp only;split
  ·unfold SetTable.relaid SetTable.laid at e;cases e2:SetTable.layClean (SetTable.sizeAbove n - 1) (es.map (·.1)) with
   |none=>rw[e2] at e;cases e
   |some owner=>
    rw[e2] at e;simp only[Option.bind_eq_bind,fM,Option.pure_def,Lb,XA] at e;obtain⟨rfl,_⟩:=e;exact⟨h.led,Mh _ _⟩
  ·exact h.standIn _
end ST
namespace ST
open PySem PySem.Spec PyProof.Rows
def vl(e:Int×Value):Int:=match e.2 with
 | .int m _=>m
 |_=>0
def Gd(e:Int×Value):Prop:=∃m t,e=(hashInt m,.int m t)
def El(es:Array (Int×Value))(l:acZ):Prop:=(∀e∈es.toList,Gd e)/\(es.toList.map vl).Perm l
def nF(h:Heap)(a:Addr)(led:Bool)(l:acZ):Prop:=
 ∃o es ep t,h.get? a=some o/\o.ExactSet/\o.data=.set es ep t/\El es l/\es.size<scanBound/\t.fits es.size=true/\TJ led t
theorem El.elems{prog:Program}{w:World}{es:Array (Int×Value)}{l:acZ}(h:El es l):ElemsOf (intKind prog w) es.toList:=λe he=>by
 obtain⟨m,t,rfl⟩:=h.1 e he;exact⟨⟨m,Et _ _ _ _,rfl⟩,rfl⟩
theorem El.perm{es wx:Array (Int×Value)}{l:acZ}(h:El es l)(p:wx.toList.Perm es.toList):El wx l:=
 ⟨λe he=>h.1 e (p.mem_iff.mp he),(p.map vl).trans h.2⟩
theorem El.snoc{es wx:Array (Int×Value)}{l:acZ}{k:Int}{t:Tok}(h:El es l)(p:wx.toList.Perm (es.toList++ [(hashInt k,.int k t)])):El wx (l++ [k]):=by
 refine⟨λe he=>?_,(p.map vl).trans ?_⟩
 ·rcases bx.mp (p.mem_iff.mp he) with q|q
  ·exact h.1 e q
  ·exact⟨k,t,aE.mp q⟩
 ·rw[aN];exact h.2.append (BC _)
theorem El.size{es:Array (Int×Value)}{l:acZ}(h:El es l):es.size=l.length:=by
 have:=h.2.length_eq;rw[af] at this
 simpa using this
theorem El.mem{prog:Program}{w:World}{es:Array (Int×Value)}{l:acZ}(h:El es l)(k:Int):(∃e∈es.toList,(intKind prog w).is k e.2=true)↔k∈l:=by
 constructor
 ·rintro⟨e,he,hk⟩;obtain⟨m,t,rfl⟩:=h.1 e he;have e1:k=m:=(intKind prog w).inj _ _ _ hk (Et _ _ _ _);subst e1;exact h.2.mem_iff.mp (cH.mpr ⟨_,he,rfl⟩)
 ·intro hk;obtain⟨e,he,e1⟩:=cH.mp (h.2.mem_iff.mpr hk);obtain⟨m,t,rfl⟩:=h.1 e he;have e2:m=k:=e1;subst e2;exact⟨_,he,Et _ _ _ _⟩
theorem Yz{h:Heap}{a:Addr}{o:Obj}{es wx:Array (Int×Value)}{ep:Nat}{t t':SetTable}{led:Bool}{l:acZ}(ho:h.get? a=some o)(hex:o.ExactSet)(hd:o.data=.set es ep t) (hE:El wx l) (hb:wx.size<scanBound) (hf:t'.fits wx.size=true) (hT:TJ led t'):(h.update a (Obj.putSet wx t')).get? a=some {o with data:=.set wx (ep+1) t'}/\nF (h.update a (Obj.putSet wx t')) a led l:=by
 have hg:(h.update a (Obj.putSet wx t')).get? a=some {o with data:=.set wx (ep+1) t'}:=by
  have:=cw (Obj.putSet wx t') ho (by rw[putSet_of wx t' hd];rfl);rw[putSet_of wx t' hd] at this;exact this
 exact⟨hg,_,wx,ep+1,t',hg,hex,rfl,hE,hb,hf,hT⟩
section
variable{prog:Program}{w:World}{A:Around}{E:acX}{s:Shared}
theorem Qe(b:Bool){s1:Shared}{Q:Unit->Shared->Prop}(h:Q () s1):wpAny (model prog w) A (match b with |true=>rule "set.scan.the-table-gave-way"|false=>pure ()) Q E s1:=by
 cases b
 ·exact ay h
 ·exact vM h
theorem aaB{a:Addr}{led:Bool}{l:acZ}{k:Int}{tk:Tok}{Q:Bool->Shared->Prop}(J:nF s.heap a led l)(hr:l.length+1<scanBound) (h:∀h' b,Heap.SameBut a s.heap h'->nF h' a led (step_dedup l k)->Q b {s with heap:=h'}):wpAny (model prog w) A (setAddHashed a (.int k tk) (hashInt k)) Q E s:=by
 obtain⟨o,es,ep,t,ho,hex,hd,hE,hb,hf,hT⟩:=J;have UE:=hE.elems (prog:=prog) (w:=w);have hsz:=hE.size;unfold setAddHashed setAddHashedIn;refine dM (aa (wpAny_setState_of ho hd hf ?_));dsimp only;rw[byScan_of (knd:=intKind prog w) (x:=.int k tk) rfl hb UE];simp only[↓reduceIte];unfold setAddByScan;refine aa (aa (vM ?_));refine aa (wpAny_setScan_of (knd:=intKind prog w) (k:=k) (Et _ _ _ _) ho hd hf UE ?_);cases hfi:List.findIdx? (λe=>(intKind prog w).is k e.2) es.toList with
 |some j=>
  dsimp only;obtain⟨hj,hpj,_⟩:=dW.mp hfi;have hk:k∈l:=(hE.mem (prog:=prog) (w:=w) k).mp ⟨_,vO hj,hpj⟩;have e1:step_dedup l k=l:=by
   unfold step_dedup
   grind
  have:=h s.heap false (Heap.SameBut.refl a s.heap) (by rw[e1];exact⟨o,es,ep,t,ho,hex,hd,hE,hb,hf,hT⟩);exact ay (ay this)
 |none=>
  dsimp only;have hk:k∉l:=λq=>by
   obtain⟨e,he,hp⟩:=(hE.mem (prog:=prog) (w:=w) k).mpr q
   grind
  have e1:step_dedup l k=l++ [k]:=by
   unfold step_dedup
   grind
  rw[e1] at h;have Bf:=layNew_perm t es (hashInt k) (.int k tk);have Gq:=layNew_fits t es (hashInt k) (.int k tk);have hTJ:=hT.layNew es (hashInt k) (.int k tk);generalize PySem.layNew t es (hashInt k) (.int k tk)=L at Bf Gq hTJ ⊢;obtain⟨Ek,t1,wd,acy⟩:=L;dsimp only at Bf Gq hTJ ⊢;rw[Lg] at Bf;have hE1:=hE.snoc Bf;have hb1:Ek.size<scanBound:=by rw[hE1.size,aw];exact hr
  have tail:∀(g:Bool->Sem Unit) (hg:∀(b:Bool) (s1:Shared) (Q':Unit->Shared->Prop),Q' () s1->wpAny (model prog w) A (g b) Q' E s1) (t2:SetTable),TJ led t2->t2.fits Ek.size=true->wpAny (model prog w) A (do
    storeSet a Ek t2
    if (!wd&&t2.tooFull)=true then do
      g (PySem.relayAll t2 Ek (SetTable.grown Ek.size)).2.2
      storeSet a (PySem.relayAll t2 Ek (SetTable.grown Ek.size)).1 (PySem.relayAll t2 Ek (SetTable.grown Ek.size)).2.1
      pure (some true)
     else pure (some true)) (λr s'=>r=some true/\∃h',s'={s with heap:=h'}/\Heap.SameBut a s.heap h'/\nF h' a led (l++ [k])) E s:=by
   intro g hg t2 hT2 Mz;refine aa (wpAny_storeSet_of ho hd ?_ (zk hb1));obtain⟨ho1,Xp⟩:=Yz ho hex hd hE1 hb1 Mz hT2;have sb1:=eP s.heap a (Obj.putSet Ek t2);split
   ·have hp:=relayAll_perm t2 Ek (SetTable.grown Ek.size);have Ei:=relayAll_fits t2 Ek (SetTable.grown Ek.size);have hT3:=hT2.relayAll Ek (SetTable.grown Ek.size);generalize PySem.relayAll t2 Ek (SetTable.grown Ek.size)=Rl at hp Ei hT3 ⊢;obtain⟨es2,t3,aak⟩:=Rl;dsimp only at hp Ei hT3 ⊢;have hE2:=hE1.perm hp;have hb2:es2.size<scanBound:=by rw[hE2.size,<-hE1.size];exact hb1
    refine aa (hg aak _ _ ?_);refine aa (wpAny_storeSet_of ho1 rfl ?_ (zk hb2));exact ay ⟨rfl,_,rfl,sb1.trans (eP _ a _),(Yz ho1 hex rfl hE2 hb2 Ei hT3).2⟩
   ·exact ay ⟨rfl,_,rfl,sb1,Xp⟩
  have fin:∀(r:Option Bool) (s':Shared),(r=some true/\∃h',s'={s with heap:=h'}/\Heap.SameBut a s.heap h'/\nF h' a led (l++ [k]))->
    wpAny (model prog w) A (match r with |some added=>(pure added:Sem Bool)|none=>setAddHashedIn a (.int k tk) ((intKind prog w).hash k) 99999) Q E s':=by
   rintro r s' ⟨rfl,h',rfl,q1,q2⟩;exact ay (h h' true q1 q2)
  refine aa (Qe acy ?_);split
  ·refine aa ?_;rw[hashByValue_scannable 8 rfl];refine ay ?_;refine dk (tail _ (λb s1 Q' q=>Qe b q) _ ?_ ?_) fin λ_ _ e=>e
   ·split
    ·exact hTJ
    ·exact hTJ.LN
   ·split
    ·exact Gq
    ·exact SetTable.fits_plain_off Gq
  ·refine aa (ay ?_);simp only[↓reduceIte];exact dk (tail _ (λb s1 Q' q=>Qe b q) t1 hTJ Gq) fin λ_ _ e=>e
end
end ST
namespace ST
open PySem PySem.Spec PyProof.Rows
def Hu(w:World):Bool:=w.params.followText "set-order"
theorem nF.at{h h':Heap}{a:Addr}{led:Bool}{l:acZ}(J:nF h a led l)(k:∀o,h.get? a=some o->h'.get? a=some o):nF h' a led l:=by
 obtain⟨o,es,ep,t,ho,r⟩:=J;exact⟨o,es,ep,t,k _ ho,r⟩
theorem nF.new(h:Heap)(led:Bool):nF (h.push {cls:=.type "set",dict:=none,data:=.set #[] 0 (.fresh 0 0 led)}) h.objs.size led []:=
 ⟨_,#[],0,_,aQ _ rfl,⟨rfl,rfl,rfl⟩,rfl,⟨λe he=>by simp at he,by simp⟩,by decide,by rfl,rfl,by simp[SetTable.fresh]⟩
section
variable{prog:Program}{w:World}{A:Around}{E:acX}{s:Shared}{R:Result->Shared->Prop}
theorem Pf{S I l:Addr}{items:ac6}{led:Bool}(hh:A.handled=none)(ZE:l≠I)(Nm:S≠I)(Aa:S≠l):∀(rest:acZ) (i:Nat) (acc:acZ) (s:Shared),items.size=i+rest.length->acc.length+rest.length+1<scanBound-> (∀(j:Nat) (n:Int),rest[j]?=some n->∃t,items[i+j]?=some (.int n t))->s.heap.IsListIter I l i->s.heap.IsList l items->nF s.heap S led acc-> (∀h' tk,nF h' S led (rest.foldl step_dedup acc)->(∀b o,b≠S->b≠I->s.heap.get? b=some o->h'.get? b=some o)->R (.ok (.ret .none)) {s with heap:=h',toks:=tk})-> codeAny (model prog w) A (.builtin "set.update.loop" ⟨[.ref S,.ref I],[]⟩) R s
 | [],i,acc,s,hsz,hb,hin,hit,hl,J,hR=>by
  refine dn Ex ?_;rw[cD j4 _];show wpAny _ A.in1 (pyNext (.ref I) >>=_) _ _ s;refine aa (Hx (A:=A.in1) hh hit hl (lX (by simp at hsz;omega)) λh' he=>?_);exact ay (hR h' s.toks (J.at λo e=>he S o Nm e) λb o _ hb e=>he b o hb e)
 |n::rest,i,acc,s,hsz,hb,hin,hit,hl,J,hR=>by
  obtain⟨t,ht⟩:=hin 0 n rfl;rw[aJ] at hsz hb;refine dn Ex ?_;rw[cD j4 _];show wpAny _ A.in1 (pyNext (.ref I) >>=_) _ _ s;refine aa (Er (x:=.int n t) hit hl (by simpa using ht) λh1 wg w8=>?_);have J1:nF h1 S led acc:=J.at λo e=>w8.extBut S o Nm e
  have Eg:h1.IsList l items:=hl.extBut w8.extBut ZE;show wpAny _ A.in1 (holding [Value.int n t] (setAdd S (.int n t)) >>=_) _ _ _;refine aa (dM ?_);unfold setAdd;refine dM (aa (Xv ?_));refine aaB (s:={s with heap:=h1,toks:=s.toks+1}) J1 (by omega) λh2 b tE J2=>?_
  have hlen:(step_dedup acc n).length<=acc.length+1:=by
   unfold step_dedup;split
   ·omega
   ·rw[aw];exact aA _
  refine ay ⟨eF j4 _,Pf hh ZE Nm Aa rest (i+1) (step_dedup acc n) {s with heap:=h2,toks:=s.toks+1} (by omega) (by omega) (λj m e=>?_) (wg.at λo e=>tE.extBut I o (cv Nm) e) (Eg.extBut tE.extBut (cv Aa)) J2 λh' tk J' k=>?_⟩
  ·obtain⟨u,e1⟩:=hin (j+1) m (by simpa using e);exact⟨u,by rw[show i+1+j=i+(j+1) by omega];exact e1⟩
  ·exact hR h' tk J' λc o h3 h4 e=>k c o h3 h4 (tE.extBut c o h3 (w8.extBut c o h4 e))
theorem YQ(a:Value){Q₁:acX}(h:Q₁ (.ref s.heap.objs.size) {s with heap:=s.heap.push {cls:=.type "set",dict:=none,data:=.set #[] 0 (.fresh 0 0 (!Hu w))}}): codeAny (model prog w) A (.call (.builtin "set.__new__") ⟨[.type "set",a],[]⟩) (wants Q₁ E) s:=by
 refine codeAny_of_tree ?_;show wpAny _ A.in1 (do checkBuiltinCall "set.__new__" ⟨[.type "set",a],[]⟩;again (.builtin "set.__new__" ⟨[.type "set",a],[]⟩)) _ _ s;refine aa (qE (PySem.F.newCall_set_1 a) (ay ⟨eF PySem.F.plain_set_new _,dn PySem.F.entry_set_new ?_⟩));rw[cD PySem.F.plain_set_new _];unfold Builtin.«set.__new__» Builtin.Frozenset.newClass;have abH:=sub_set_self;obtain⟨hp,g,d,tk,os⟩:=s;dsimp only
 wp_walk
 refine Xw (ay ?_);dsimp only;simp only[newObj];exact aa (wpAny_alloc (ay (ay h)))
theorem Kq:∀{vs:acY} {ns:acZ},IntsAre vs ns->∀(j:Nat) (n:Int),ns[j]?=some n->∃t,vs[j]?=some (.int n t)
 |_,_,.nil,j,n,h=>by simp at h
 |_,_,.cons m t r,0,n,h=>by
  have e:=aX h;subst e;exact⟨t,rfl⟩
 |_,_,.cons m t r,j+1,n,h=>Kq r j n (by simpa using h)
theorem Jm{l:Addr}{items:ac6}{ns:acZ}{Q:acX}(hh:A.handled=none)(hl:s.heap.IsList l items)(hi:IntsAre items.toList ns)(hb:ns.length+1<scanBound) (h:∀(h':Heap) (tk:Nat),nF h' s.heap.objs.size (!Hu w) (ns.foldl step_dedup [])->(∀b o,s.heap.get? b=some o->h'.get? b=some o)->Q (.ref s.heap.objs.size) {s with heap:=h',toks:=tk}): wpAny (model prog w) A (call (.type "set") [.ref l]) Q E s:=by
 obtain⟨c,tl,acS⟩:=eQ.mro;have acN:=eQ.made;have abH:=eQ.sub;refine wpAny_call (codeAny_of_tree ?_);show wpAny _ _ (callAny (.type "set") _) _ _ _;refine ay ⟨Code.quiet_builtin _ (by decide +kernel),dn PySem.F.entry_type_call ?_⟩;rw[Around.under_plain (weight_type_call_type "set" [.ref l] []) rfl];have f1:=eQ.notType;have f2:=eQ.canCreate;have f3:=PySem.F.typeCall_set_1 (.ref l)
 repeat (any_goals (first |assumption|wp_step))
 refine uh (YQ (.ref l) (E:=E) (Q₁:=λobj dX=>obj=.ref s.heap.objs.size/\dX={s with heap:=s.heap.push {cls:=.type "set",dict:=none,data:=.set #[] 0 (.fresh 0 0 (!Hu w))}}) ⟨rfl,rfl⟩) λr dX hr=>?_
 cases r with
 |error e=>exact hr
 |ok fl=>
  cases fl with
  |ret obj=>
   obtain⟨rfl,rfl⟩:=hr;generalize hS0:({cls:=.type "set",dict:=none,data:=.set #[] 0 (.fresh 0 0 (!Hu w))}:Obj)=so;have hS:(s.heap.push so).get? s.heap.objs.size=some so:=aQ _ (by subst hS0;rfl);have hT:Shared.TypeIs {s with heap:=s.heap.push so} (.ref s.heap.objs.size) "set":=⟨_,hS,by subst hS0;rfl⟩;have f4:=eQ.init.lookup;have f5:=eQ.init.bind (.ref s.heap.objs.size)
   repeat (any_goals (first |assumption|wp_step))
   refine uh (codeAny_call_builtin (R:=wants (λr kX=>r=.none/\∃h' tk,kX={s with heap:=h',toks:=tk}/\nF h' s.heap.objs.size (!Hu w) (ns.foldl step_dedup [])/\(∀b o,s.heap.get? b=some o->h'.get? b=some o)) E) eQ.init.plain PySem.F.entry_set_init (check_set_init_1 hT ?_)) λaa5 kX PH=>?_
   ·obtain⟨⟨oc,od,acM,Cj⟩,hol,yN,nl,Rg⟩:=hl;simp only at yN Rg;subst yN Rg;have abX:(s.heap.push so).get? l=some {cls:=.type "list",dict:=od,data:=.seq items nl,slots:=Cj}:=ax _ hol;have f6:=PySem.F.sub_list_set;have f7:=PySem.F.sub_list_frozenset;have f8:(Value.type "list"==Value.type "dict")=false:=by decide
    have Eg:(s.heap.push so).IsList l items:=⟨_,abX,rfl,nl,rfl⟩;have hlS:l<s.heap.objs.size:=aW hol;have hJ:nF (s.heap.push so) s.heap.objs.size (!Hu w) []:=by subst hS0;exact nF.new s.heap (!Hu w)
    subst hS0;unfold Builtin.«set.__init__» noKeywords Builtin.Frozenset.updateFrom;generalize hPI:pyIter=PI
    wp_walk
    subst hPI;refine zj Eg ?_;refine aa (wpAny_runValue ?_);have hsz:items.size=ns.length:=by rw[<-hi.length];simp
    have e1:∀o:Obj,(s.heap.push o).objs.size=s.heap.objs.size+1:=λo=>Ed _ _
    have n1:∀o:Obj,l≠(s.heap.push o).objs.size:=λo=>by rw[e1];exact bH (fj hlS)
    have n2:∀o:Obj,s.heap.objs.size≠(s.heap.push o).objs.size:=λo=>by rw[e1];exact bH (gW _)
    refine Pf (items:=items) (by simp[hh]) (n1 _) (n2 _) (qf hlS) ns 0 [] _ (by omega) (by rw[cJ];omega) (λj n e=>?_) ⟨_,aQ _ rfl,rfl,rfl⟩ (Eg.push _) (hJ.at λo e=>ax _ e) λh' tk J' k=>?_
    ·obtain⟨t,e2⟩:=Kq hi j n e;exact⟨t,by rw[dE];simpa using e2⟩
    ·refine ay ?_;show wpAny _ _ (ret Value.none) _ _ _;refine ay ⟨rfl,h',tk,rfl,J',λb o e=>?_⟩;have hb:=aW e;exact k b o (λq=>c9 _ (q▸hb)) (λq=>by rw[q,e1] at hb;exact c9 _ (Nat.lt_of_succ_lt hb)) (ax _ (ax _ e))
   ·cases aa5 with
    |error e=>exact PH
    |ok aap=>
     cases aap with
     |ret r=>
      obtain⟨rfl,h',tk,rfl,MG,Mv⟩:=PH
      repeat (any_goals (first |assumption|wp_step))
      exact h _ _ MG Mv
     |_=>exact PH.elim
  |_=>exact hr.elim
end
end ST
namespace ST
open PySem PySem.Spec PyProof.Rows
theorem EX:Manifest.owners.lookup (String.ofList ['r','o','t','a','r','e','t','i','_','t','e','s'].reverse)=some Manifest.sig_set_iterator:=by kernel_rfl
theorem hG:Slot "set_iterator" "__next__" "set_iterator.__next__":=
 .of (owner:="set_iterator") (n:="__next__") (by rw[Hh,pI];kernel_rfl) (by decide +kernel) (by decide +kernel) (by decide +kernel) (by first |exact .inl (by decide +kernel)|exact .inr (by decide +kernel)) (by rw[isSubtype_type];kernel_rfl)
theorem jI:entryFor table "set_iterator.__next__"=some Builtin.«set_iterator.__next__»:=entryFor_of_tree (by kernel_rfl)
theorem kD(a:Value):argsOk "set_iterator.__next__" ⟨[a],[]⟩:=by
 unfold argsOk;rw[signature?_of (id:="set_iterator.__next__") (n:=['_','_','t','x','e','n','_','_']) (o:=['r','o','t','a','r','e','t','i','_','t','e','s']) (by kernel_rfl) EX];kernel_rfl
theorem JU:Slot "set_iterator" "__iter__" "set_iterator.__iter__":=
 .of (owner:="set_iterator") (n:="__iter__") (by rw[Hh,pI];kernel_rfl) (by decide +kernel) (by decide +kernel) (by decide +kernel) (by first |exact .inl (by decide +kernel)|exact .inr (by decide +kernel)) (by rw[isSubtype_type];kernel_rfl)
theorem BP(a:Value):argsOk "set_iterator.__iter__" ⟨[a],[]⟩:=by
 unfold argsOk;rw[signature?_of (id:="set_iterator.__iter__") (n:=['_','_','r','e','t','i','_','_']) (o:=['r','o','t','a','r','e','t','i','_','t','e','s']) (by kernel_rfl) EX];kernel_rfl
theorem zF:entryFor table "set_iterator.__iter__"=some Builtin.«dict_keyiterator.__iter__»:=
 entryFor_alias (id':="dict_keyiterator.__iter__") (by kernel_rfl) (by first |rfl|decide +kernel|(unfold String.splitOn;simp +decide [String.splitOnAux])) (by decide +kernel) (by kernel_rfl)
theorem xI:entryFor table "set.__iter__"=some Builtin.«frozenset.__iter__»:=
 entryFor_alias (id':="frozenset.__iter__") (by kernel_rfl) (by first |rfl|decide +kernel|(unfold String.splitOn;simp +decide [String.splitOnAux])) (by decide +kernel) (by kernel_rfl)
end ST
namespace ST
open PySem PySem.Spec PyProof.Rows
def Ee(first:Value)(i:Nat)(S:Addr)(n ep:Nat):Obj:={cls:=.type "set_iterator",data:=.fields #[first,rawInt i,.ref S,rawInt n,rawInt ep]}
structure SO(h:Heap)(S:Addr)(es:Array (Int×Value))(ep:Nat)(t:SetTable):Prop where
 ob:∃o,h.get? S=some o/\o.ExactSet/\o.data=.set es ep t
 fit:t.fits es.size=true
theorem SO.at{h h':Heap}{S:Addr}{es:Array (Int×Value)}{ep:Nat}{t:SetTable}(x:SO h S es ep t)(k:∀o,h.get? S=some o->h'.get? S=some o):SO h' S es ep t:=by
 obtain⟨⟨o,h1,h2⟩,h3⟩:=x;exact⟨⟨o,k _ h1,h2⟩,h3⟩
section
variable{prog:Program}{w:World}{A:Around}{E:acX}{s:Shared}{S it:Addr}{es:Array (Int×Value)}{ep n:Nat}{t:SetTable}
theorem jQ{Q:(Array (Int×Value)×Nat×SetTable)->Shared->Prop}(x:SO s.heap S es ep t)(h:Q (es,ep,t) s):wpAny (model prog w) A (setState S) Q E s:=by
 obtain⟨⟨o,h1,_,h2⟩,h3⟩:=x;exact wpAny_setState_of h1 h2 h3 h
theorem lq{Q:Array (Int×Value)->Shared->Prop}(x:SO s.heap S es ep t)(h:Q es s):wpAny (model prog w) A (setEntries S) Q E s:=by
 unfold setEntries;exact aa (jQ x (ay h))
theorem DX{Q:Bool->Shared->Prop}(h:Q (Hu w) s):wpAny (model prog w) A setsByText Q E s:=by
 unfold setsByText;exact aa (Xw (ay h))
theorem A2{slot i:Nat}{Q:Option (Value×Nat)->Shared->Prop}(hb:Hu w=true)(x:SO s.heap S es ep t)(h:Q (((pickOrder (w.params.setOrder S ep) es)[i]?).map λe=>(e.2,slot)) s):wpAny (model prog w) A (setNext S slot i ep) Q E s:=by
 unfold setNext;refine aa (jQ x ?_);dsimp only;refine aa (DX ?_);rw[hb];simp only[↓reduceIte,gz,bZ];refine aa ?_;unfold setWalk;refine aa (jQ x ?_);dsimp only;refine aa (DX ?_);rw[hb];simp only[↓reduceIte];exact aa (Xw (ay (ay h)))
theorem Fx{slot i:Nat}{Q:Option (Value×Nat)->Shared->Prop}(hb:Hu w=false)(hl:t.led=true)(hd:(!t.plain&&decide (es.size> 1))=false)(x:SO s.heap S es ep t) (h:Q (match es[SetTable.below t.place slot]?,t.place[SetTable.below t.place slot]? with |some (_,x),some j=>some (x,j+1)|_,_=>none) s):wpAny (model prog w) A (setNext S slot i ep) Q E s:=by
 unfold setNext;refine aa (jQ x ?_);dsimp only;refine aa (DX ?_);rw[hb];simp only[bZ,↓reduceIte];split
 ·rename_i q;exact absurd (hd.symm.trans q) (by decide)
 refine aa ?_;show wpAny _ _ (if (!t.led&&!es.isEmpty)=true then _ else _) _ _ _;rw[hl];simp only[XG,d8,bZ,↓reduceIte];exact ay (ay h)
theorem Iq{place:Nat}{e:Int×Value}{Q:acX}(x:SO s.heap S es ep t)(he:es[place]?=some e)(h:Q e.2 s):wpAny (model prog w) A (setNextDrawn S place ep) Q E s:=by
 unfold setNextDrawn;refine aa (jQ x ?_);dsimp only;simp only[gz,bZ,↓reduceIte,he];exact ay h
theorem JG{Q:Option Value->Shared->Prop}(hh:A.handled=none)(h:∀h',(∀b o,s.heap.get? b=some o->h'.get? b=some o)->Q none {s with heap:=h'}): wpAny (model prog w) A (do let e <-newExc (.type "StopIteration") [];(raiseNew e:Sem Fin)) (λ_ _=>False) (λe s'=>wpAny (model prog w) A (isInstance e (.type "StopIteration")) (λb s2=>b=true/\Q none s2) E s') s:=by
 refine aa ?_;simp only[newExc,newTuple];refine aa (c8 ?_ (by size_fits));refine aa (m:=firstArgMember _ _) (qE (a:=Value.none) (by first |rfl|(simp only[firstArgMember];rfl)) ?_);refine c8 ?_ (by size_fits);simp only[raiseNew];refine aa (wpAny_handled ?_);rw[hh];refine aa (ay (wpAny_throw ?_));exact Bw (T:="StopIteration") (b:=true) ⟨_,aQ _ rfl,rfl⟩ isSubtype_stop ⟨rfl,h _ λb o e=>ax _ (ax _ e)⟩
theorem VO{h:Heap}{first f2:Value}{i j:Nat}(hit:h.get? it=some (Ee first i S n ep)): ((h.update it (Obj.mapFields λvs=>vs.setIfInBounds 0 f2)).update it (Obj.mapFields λvs=>vs.setIfInBounds 1 (rawInt j))).get? it=some (Ee f2 j S n ep):=by
 have h1:=cw (Obj.mapFields λvs=>vs.setIfInBounds 0 f2) hit rfl;have h2:=cw (Obj.mapFields λvs=>vs.setIfInBounds 1 (rawInt j)) h1 rfl;exact h2
theorem i8{first:Value}{i:Nat}(hit:s.heap.get? it=some (Ee first i S n ep)):s.TypeIs (.ref it) "set_iterator":=⟨_,hit,rfl⟩
theorem Be{slot i nx:Nat}{x:Value}{Q:Option Value->Shared->Prop}(hit:s.heap.get? it=some (Ee (rawInt slot) i S es.size ep))(hS:SO s.heap S es ep t) (PK:∀(A':Around) (E':acX) (Q':Option (Value×Nat)->Shared->Prop),Q' (some (x,nx)) s->wpAny (model prog w) A' (setNext S slot i ep) Q' E' s) (h:∀h',h'.get? it=some (Ee (rawInt nx) (i+1) S es.size ep)->Heap.SameBut it s.heap h'->Q (some x) {s with heap:=h'}):wpAny (model prog w) A (pyNext (.ref it)) Q E s:=by
 unfold pyNext;refine aa (Q8 (iH (name:=Str.ofString "__next__") (i8 hit) hG (cU hG (i8 hit) jI ?_ (kD _))));unfold Builtin.«set_iterator.__next__»;refine aa (qE (a:=(Value.ref it,[])) rfl ?_);refine aa (La hit rfl ?_);dsimp only[rawInt];refine aa (lq hS ?_);simp only[gz,bZ,↓reduceIte];refine aa (PK _ _ _ ?_);dsimp only;refine aa (nU hit rfl (by simp) ?_);have h1:=cw (Obj.mapFields λvs=>vs.setIfInBounds 0 (rawInt nx)) hit rfl;refine aa (nU h1 rfl (by simp) ?_);refine ay ⟨x,rfl,ay (h _ ?_ ((eP ..).trans (eP ..)))⟩;exact VO hit
theorem GN{slot i:Nat}{Q:Option Value->Shared->Prop}(hh:A.handled=none)(hit:s.heap.get? it=some (Ee (rawInt slot) i S es.size ep))(hS:SO s.heap S es ep t) (PK:∀(A':Around) (E':acX) (Q':Option (Value×Nat)->Shared->Prop),Q' none s->wpAny (model prog w) A' (setNext S slot i ep) Q' E' s) (h:∀h',(∀b o,b≠it->s.heap.get? b=some o->h'.get? b=some o)->Q none {s with heap:=h'}):wpAny (model prog w) A (pyNext (.ref it)) Q E s:=by
 unfold pyNext;refine aa (Q8 (iH (name:=Str.ofString "__next__") (i8 hit) hG (cU hG (i8 hit) jI ?_ (kD _))));unfold Builtin.«set_iterator.__next__»;refine aa (qE (a:=(Value.ref it,[])) rfl ?_);refine aa (La hit rfl ?_);dsimp only[rawInt];refine aa (lq hS ?_);simp only[gz,bZ,↓reduceIte];refine aa (PK _ _ _ ?_);dsimp only;refine aa (nU hit rfl (by simp) ?_);refine dk (JG (A:=A.in1) (Q:=Q) (E:=E) hh λh' k=>h h' λb o hb e=>k b o ((dA _ _ (cv hb)).trans e)) (λ_ _ f=>f.elim) λe s' q=>?_
 exact aa (dk (wpAny_of_in1 q) (λb s2 ⟨hb,hq⟩=>by rw[hb];exact ay hq) λ_ _ z=>z)
theorem item_tup{T:Addr}{ps:ac6}{i place:Nat}{m:Tok}{e:Int×Value}{o:Obj}{c:Nat}{Q:Option Value->Shared->Prop}(hit:s.heap.get? it=some (Ee (.ref T) i S es.size ep))(hS:SO s.heap S es ep t) (hT:s.heap.get? T=some o) (hTd:o.data=.seq ps c) (hp:ps[i]?=some (.int place m)) (he:es[place]?=some e) (h:∀h',h'.get? it=some (Ee (.ref T) (i+1) S es.size ep)->Heap.SameBut it s.heap h'->Q (some e.2) {s with heap:=h'}):wpAny (model prog w) A (pyNext (.ref it)) Q E s:=by
 unfold pyNext;refine aa (Q8 (iH (name:=Str.ofString "__next__") (i8 hit) hG (cU hG (i8 hit) jI ?_ (kD _))));unfold Builtin.«set_iterator.__next__»;refine aa (qE (a:=(Value.ref it,[])) rfl ?_);refine aa (La hit rfl ?_);dsimp only[rawInt];refine aa (lq hS ?_);simp only[gz,bZ,↓reduceIte];refine aa (vL hT hTd ?_);simp only[fm,hp];refine aa (Iq hS he ?_);refine aa (nU hit rfl (by simp) ?_);refine ay ⟨e.2,rfl,ay (h _ ?_ (eP ..))⟩;exact cw (Obj.mapFields λvs=>vs.setIfInBounds 1 (rawInt (i+1:Nat))) hit rfl
theorem Tt{T:Addr}{ps:ac6}{i:Nat}{o:Obj}{c:Nat}{Q:Option Value->Shared->Prop}(hh:A.handled=none)(hit:s.heap.get? it=some (Ee (.ref T) i S es.size ep))(hS:SO s.heap S es ep t) (hT:s.heap.get? T=some o) (hTd:o.data=.seq ps c) (hp:ps[i]?=none) (h:∀h',(∀b o,b≠it->s.heap.get? b=some o->h'.get? b=some o)->Q none {s with heap:=h'}):wpAny (model prog w) A (pyNext (.ref it)) Q E s:=by
 unfold pyNext;refine aa (Q8 (iH (name:=Str.ofString "__next__") (i8 hit) hG (cU hG (i8 hit) jI ?_ (kD _))));unfold Builtin.«set_iterator.__next__»;refine aa (qE (a:=(Value.ref it,[])) rfl ?_);refine aa (La hit rfl ?_);dsimp only[rawInt];refine aa (lq hS ?_);simp only[gz,bZ,↓reduceIte];refine aa (vL hT hTd ?_);simp only[fm,hp];refine aa (nU hit rfl (by simp) ?_);have h1:=cw (Obj.mapFields λvs=>vs.setIfInBounds 0 (rawInt 0)) hit rfl;refine aa (nU h1 rfl (by simp) ?_);refine dk (JG (A:=A.in1) (Q:=Q) (E:=E) hh λh' k=>h h' λb o hb e=>k b o ((dA _ _ (cv hb)).trans ((dA _ _ (cv hb)).trans e))) (λ_ _ f=>f.elim) λe s' q=>?_
 exact aa (dk (wpAny_of_in1 q) (λb s2 ⟨hb,hq⟩=>by rw[hb];exact ay hq) λ_ _ z=>z)
theorem BS{first:Value}{i:Nat}{Q:acX}(hit:s.heap.get? it=some (Ee first i S n ep))(h:Q (.ref it) s):wpAny (model prog w) A (pyIter (.ref it)) Q E s:=by
 refine wpAny_pyIter_slot (i8 hit) JU (cU JU (i8 hit) zF ?_ (BP _));show wpAny _ _ (ret (.ref it)) _ _ s;exact ay ⟨_,rfl,"set_iterator",_,i8 hit,hG.lookup,h⟩
end
theorem rA{α:Type}:∀(l:List α) (i:Nat) (h:i<l.length),(l[i]::l.eraseIdx i).Perm l
 |x::l,0,_=>BC _
 |x::l,i+1,h=>by
  have h':i<l.length:=by simpa using h
  show(l[i]::x::l.eraseIdx i).Perm (x::l);exact(List.Perm.swap _ _ _).trans ((rA l i h').cons x)
theorem pQ{α:Type}(next:Nat->Nat):∀(fuel k:Nat) (left:List α) (out:Array α),left.length<=fuel->(pickOrder.go next fuel k left out).toList.Perm (out.toList++left)
 |0,k,left,out,h=>by
  have e:left=[]:=ly.mp (by omega);subst e;unfold pickOrder.go;simp
 |fuel+1,k,left,out,h=>by
  unfold pickOrder.go;by_cases hl:left=[]
  ·subst hl;simp
  ·have V0:0<left.length:=List.length_pos_iff.mpr hl;have gV:next k % left.length<left.length:=Nat.mod_lt _ V0
   rw[aZ gV];simp only;refine(pQ next fuel (k+1) _ _ (by rw[UX gV];omega)).trans ?_;rw[Lg,az];refine List.Perm.append_left _ ?_;rw[List.singleton_append];exact rA left _ gV
section
variable{prog:Program}{w:World}{A:Around}{S it:Addr}{es:Array (Int×Value)}{ep:Nat}{t:SetTable}
theorem Li(hh:A.handled=none)(hb:Hu w=true)(gT:S≠it):Walks prog w A it [it,S] [it] es.size (λi v=>∃e,(pickOrder (w.params.setOrder S ep) es)[i]?=some e/\v=e.2) (λi h=>i<=es.size/\h.get? it=some (Ee (rawInt 0) i S es.size ep)/\SO h S es ep t) where
 sub:=λb hb=>by simp at hb;simp[hb]
 frame:=λ_ _ _ x hk=>⟨x.1,hk it (by simp) _ x.2.1,x.2.2.at λo e=>hk S (by simp) o e⟩
 item:=λi s Q E hi x hQ=>by
  have hp:=(pQ (w.params.setOrder S ep) es.size 0 es.toList #[] (by simp)).length_eq;have gV:i<(pickOrder (w.params.setOrder S ep) es).size:=by
   unfold pickOrder;simp at hp;omega
  refine Be (slot:=0) (nx:=0) x.2.1 x.2.2 (λA' E' Q' q=>A2 hb x.2.2 (by rw[cx gV];exact q)) λh' IS qp=>?_
  exact hQ _ h' s.toks ⟨_,cx gV,rfl⟩ ⟨hi,IS,x.2.2.at λo e=>(qp.2 S gT).trans e⟩ λb o hb eo=>qp.extBut b o (λh=>hb (by simp[h])) eo
 done:=λs Q E x hQ=>by
  have hp:=(pQ (w.params.setOrder S ep) es.size 0 es.toList #[] (by simp)).length_eq;have hge:(pickOrder (w.params.setOrder S ep) es).size<=es.size:=by
   unfold pickOrder;simp at hp;omega
  exact GN (slot:=0) hh x.2.1 x.2.2 (λA' E' Q' q=>A2 hb x.2.2 (by rw[lX hge];exact q)) λh' k=>hQ h' s.toks λb o hb eo=>k b o (λh=>hb (by simp[h])) eo
 self:=λ_ _ _ _ x hQ=>BS x.2.1 hQ
def slotAt(t:SetTable)(i:Nat):Nat:=match i with
 |0=>0
 |i+1=>t.place.getD i 0+1
theorem za{t:SetTable}(hp:t.place.toList.Pairwise (·<·)){i:Nat}(hi:i<=t.place.size):SetTable.below t.place (slotAt t i)=i:=by
 obtain⟨h1,h2,h3⟩:=rG hp (slotAt t i);generalize SetTable.below t.place (slotAt t i)=p at h1 h2 h3;have mono:∀(a b:Nat) (ha:a<t.place.size) (hb:b<t.place.size),a<b->t.place[a]<t.place[b]:=λa b ha hb Z8=>by
  have:=j0.mp hp a b (by simpa using ha) (by simpa using hb) Z8
  simpa using this
 cases i with
 |zero=>
  unfold slotAt at h2;cases p with
  |zero=>rfl
  |succ p=>exact absurd (h2 0 (Nat.succ_pos _) (by omega)) (Nat.not_lt_zero _)
 |succ i=>
  have hi':i<t.place.size:=by omega
  have e:slotAt t (i+1)=t.place[i]+1:=by unfold slotAt;simp[Array.getD,hi']
  rw[e] at h2 h3;rcases Nat.lt_trichotomy p (i+1) with q|q|q
  ·have:=h3 i (by omega) hi';omega
  ·exact q
  ·grind
theorem Ny(hh:A.handled=none)(hb:Hu w=false)(hl:t.led=true)(hr:t.place.toList.Pairwise (·<·))(hd:(!t.plain&&decide (es.size> 1))=false)(gT:S≠it): Walks prog w A it [it,S] [it] es.size (λi v=>∃e,es[i]?=some e/\v=e.2) (λi h=>i<=es.size/\h.get? it=some (Ee (rawInt (slotAt t i)) i S es.size ep)/\SO h S es ep t) where
 sub:=λb hb=>by simp at hb;simp[hb]
 frame:=λ_ _ _ x hk=>⟨x.1,hk it (by simp) _ x.2.1,x.2.2.at λo e=>hk S (by simp) o e⟩
 item:=λi s Q E hi x hQ=>by
  have hf:=x.2.2.fit;have yL:t.place.size=es.size:=by
   simp only[SetTable.fits,aS,gC] at hf;exact hf.1
  have hpi:i<t.place.size:=by omega
  have nQ:=za hr (i:=i) (by omega);have e1:slotAt t (i+1)=t.place[i]+1:=by unfold slotAt;simp[Array.getD,hpi]
  refine Be (slot:=slotAt t i) (nx:=slotAt t (i+1)) (x:=es[i].2) x.2.1 x.2.2 (λA' E' Q' q=>Fx hb hl hd x.2.2 (by rw[nQ,cx hi,cx hpi];rw[e1] at q;exact q)) λh' IS qp=>?_
  exact hQ _ h' s.toks ⟨_,cx hi,rfl⟩ ⟨hi,IS,x.2.2.at λo e=>(qp.2 S gT).trans e⟩ λb o hb eo=>qp.extBut b o (λh=>hb (by simp[h])) eo
 done:=λs Q E x hQ=>by
  have hf:=x.2.2.fit;have yL:t.place.size=es.size:=by
   simp only[SetTable.fits,aS,gC] at hf;exact hf.1
  have nQ:=za hr (i:=es.size) (by omega);exact GN (slot:=slotAt t es.size) hh x.2.1 x.2.2 (λA' E' Q' q=>Fx hb hl hd x.2.2 (by rw[nQ,lX (aA _)];exact q)) λh' k=>hQ h' s.toks λb o hb eo=>k b o (λh=>hb (by simp[h])) eo
 self:=λ_ _ _ _ x hQ=>BS x.2.1 hQ
theorem Nw{T:Addr}{ps:ac2}(hh:A.handled=none)(yL:ps.Perm (List.range es.size))(gT:S≠it)(hnT:T≠it): Walks prog w A it [it,S,T] [it] es.size (λi v=>∃k e,ps[i]?=some k/\es[k]?=some e/\v=e.2) (λi h=>i<=es.size/\h.get? it=some (Ee (.ref T) i S es.size ep)/\SO h S es ep t/\∃o c,h.get? T=some o/\o.data=.seq (ps.map λ(k:Nat)=>rawInt k).toArray c) where
 sub:=λb hb=>by simp at hb;simp[hb]
 frame:=λ_ _ _ x hk=>⟨x.1,hk it (by simp) _ x.2.1,x.2.2.1.at λo e=>hk S (by simp) o e,let ⟨o,c,h1,h2⟩:=x.2.2.2;⟨o,c,hk T (by simp) _ h1,h2⟩⟩
 item:=λi s Q E hi x hQ=>by
  obtain⟨x1,x2,x3,o,c,x4,x5⟩:=x;have hl:=yL.length_eq;rw[Lf] at hl;have Wa:i<ps.length:=by omega
  have hk:ps[i]<es.size:=by
   have:=yL.mem_iff.mp (vO Wa);exact Bz.mp this
  refine item_tup (place:=ps[i]) (e:=es[ps[i]]) x2 x3 x4 x5 (m:=0) (by simp[Wa];rfl) (cx hk) λh' IS qp=>?_
  exact hQ _ h' s.toks ⟨_,_,aZ Wa,cx hk,rfl⟩ ⟨hi,IS,x3.at λo e=>(qp.2 S gT).trans e,o,c,(qp.2 T hnT).trans x4,x5⟩ λb o hb eo=>qp.extBut b o (λh=>hb (by simp[h])) eo
 done:=λs Q E x hQ=>by
  obtain⟨x1,x2,x3,o,c,x4,x5⟩:=x;have hl:=yL.length_eq;rw[Lf] at hl;exact Tt hh x2 x3 x4 x5 (by simp;omega) λh' k=>hQ h' s.toks λb o hb eo=>k b o (λh=>hb (by simp[h])) eo
 self:=λ_ _ _ _ x hQ=>BS x.2.1 hQ
end
end ST
namespace ST
open PySem PySem.Spec PyProof.Rows
section
variable{prog:Program}{w:World}{A:Around}{E:acX}{s:Shared}
theorem MT{src:Source}{n:Nat}{Q:Nat->Shared->Prop}(hn:n≠0)(h:∀i d,i<n->Q i {s with drawn:=d}):wpAny (model prog w) A (choose src n) Q E s:=by
 intro Γ p _;unfold choose;rw[Sem.wp_choose];refine⟨hn,?_⟩;exact h _ _ (Nat.mod_lt _ (qG hn))
theorem KQ{α:Type}:∀(n:Nat) (xs:List α) (s:Shared) (Q:List α->Shared->Prop),xs.length=n->(∀l d,l.Perm xs->Q l {s with drawn:=d})->wpAny (model prog w) A (drawOrder n xs) Q E s
 |0,xs,s,Q,hl,h=>by
  have e:xs=[]:=ly.mp hl;subst e;unfold drawOrder;exact ay (h [] s.drawn (BC _))
 |n+1,[],s,Q,hl,h=>by cases hl
 |n+1,x::xs,s,Q,hl,h=>by
  unfold drawOrder;refine aa (MT (by simp) λi d hi=>?_);rw[aZ hi];dsimp only;refine aa (KQ n _ _ _ (by rw[UX hi];simp at hl ⊢;exact hl) λl d2 hp=>ay ?_);exact h _ d2 ((hp.cons _).trans (rA _ i hi))
end
structure Wk(prog:Program)(w:World)(it S:Addr)(lo n:Nat)(ord:List (Int×Value))(s:Shared):Prop where
 wk:∃(fp:ac1) (St:Nat->Shared->Prop),(∀A:Around,A.handled=none->WalksS prog w A it fp [it] (λa b=>b=a) n (λi v=>∃e,ord[i]?=some e/\v=e.2) St)/\St 0 s/\(∀b∈fp,b<s.heap.objs.size)/\it∈fp/\∀b∈fp,b=S\/lo<=b
theorem Wk.of{prog:Program}{w:World}{it S:Addr}{lo n:Nat}{ord:List (Int×Value)}{s:Shared}{fp:ac1}{P:Nat->Value->Prop}{St:Nat->Heap->Prop}(W:∀A:Around,A.handled=none->Walks prog w A it fp [it] n P St) (hP:∀i v,P i v->∃e,ord[i]?=some e/\v=e.2) (h0:St 0 s.heap) (My:∀b∈fp,b<s.heap.objs.size) (hi:it∈fp) (Zw:∀b∈fp,b=S\/lo<=b):Wk prog w it S lo n ord s:=
 ⟨fp,λi s=>St i s.heap,λA hh=>(W A hh).toS.imp hP,h0,My,hi,Zw⟩
section
variable{prog:Program}{w:World}{A:Around}{E:acX}{s:Shared}{S:Addr}{es:Array (Int×Value)}{ep:Nat}{t:SetTable}
theorem SO.typ(x:SO s.heap S es ep t):s.TypeIs (.ref S) "set":=by
 obtain⟨⟨o,h1,h2,_⟩,_⟩:=x;exact⟨o,h1,h2.1⟩
theorem SO.lt{h:Heap}(x:SO h S es ep t):S<h.objs.size:=by
 obtain⟨⟨o,h1,_⟩,_⟩:=x;exact aW h1
theorem Sy{Q:acX}(x:SO s.heap S es ep t)(hz:es.size<scanBound)(hl:t.led=!Hu w)(hr:t.place.toList.Pairwise (·<·)) (h:∀it ord h' d,ord.Perm es.toList->s.heap.objs.size<=it->(∀b o,s.heap.get? b=some o->h'.get? b=some o)->Wk prog w it S s.heap.objs.size es.size ord {s with heap:=h',drawn:=d}->Q (.ref it) {s with heap:=h',drawn:=d}): wpAny (model prog w) A (pyIter (.ref S)) Q E s:=by
 refine wpAny_pyIter_slot x.typ PySem.F.slot_set_iter (cU PySem.F.slot_set_iter x.typ xI ?_ (PySem.F.args_set_iter_1 _));unfold Builtin.«frozenset.__iter__»;refine aa (qE (a:=S) rfl ?_);refine aa ?_;unfold Builtin.Frozenset.sizeOf;refine aa (lq x (ay ?_));refine aa ?_;unfold setDrawn;refine aa (jQ x ?_);dsimp only;refine aa (DX (ay ?_));have hS:=x.lt;have tF:∀it,s.heap.objs.size<=it->S≠it:=λit q=>bH (bM hS q)
 split
 ·rename_i hd;refine aa (KQ es.size (List.range es.size) _ _ (by simp) λps d yL=>?_);unfold newTuple;have iK:=yL.length_eq;rw[Lf] at iK;refine aa (c8 ?_ (by have:=zk hz;unfold sizeOk;simp;omega));generalize hto:({cls:=.type "tuple",data:=.seq (ps.map λ(i:Nat)=>rawInt i).toArray}:Obj)=to;have Mr:(s.heap.push to).objs.size=s.heap.objs.size+1:=Ed _ _;have x1:SO (s.heap.push to) S es ep t:=x.at λo e=>ax _ e
  refine aa ?_;unfold setEpoch;refine aa (jQ x1 (ay ?_));unfold newFields;refine aa (c8 ?_);have hsz:((s.heap.push to).push (Ee (.ref s.heap.objs.size) 0 S es.size ep)).objs.size=s.heap.objs.size+2:=by rw[Ed,Mr]
  have hT:(s.heap.push to).get? s.heap.objs.size=some to:=aQ _ (by subst hto;rfl);have abP:∀i k,ps[i]?=some k->k<es.size:=λi k e=>Bz.mp (yL.mem_iff.mp (aL e))
  have abZ:S≠(s.heap.push to).objs.size:=tF _ (by rw[Mr];exact nV _);have abY:s.heap.objs.size≠(s.heap.push to).objs.size:=by rw[Mr];exact bH (gW _)
  refine ay ⟨_,rfl,"set_iterator",_,⟨_,aQ _ rfl,rfl⟩,hG.lookup,h _ (ps.map λk=>es.getD k (0,.none)) _ d ?_ (by rw[Mr];exact nV _) (λb o e=>ax _ (ax _ e)) (Wk.of (λA' hh=>Nw (t:=t) (ep:=ep) (ps:=ps) hh yL abZ abY) (λi v ⟨k,e,h1,h2,h3⟩=>⟨e,?_,h3⟩) ?_ ?_ (by simp) ?_)⟩
  ·have e1:es.toList=(List.range es.size).map λk=>es.getD k (0,.none):=by
    refine List.ext_getElem (by simp) λi h1 h2=>?_
    simp at h1;simp[Array.getD,h1]
   rw[e1];exact yL.map _
  ·have hk:=abP i k h1;rw[aM,h1];rw[cx hk] at h2;have:=aX h2;simp[Array.getD,hk,this]
  ·exact⟨aD _,aQ _ rfl,x1.at λo e=>ax _ e,to,_,ax _ hT,by subst hto;rfl⟩
  ·intro b hb;simp only[ba,de,UU] at hb;show b<((s.heap.push to).push (Ee (.ref s.heap.objs.size) 0 S es.size ep)).objs.size
   grind
  ·grind
 ·rename_i hd;refine aa (ay ?_);refine aa ?_;unfold setEpoch;refine aa (jQ x (ay ?_));unfold newFields;refine aa (c8 ?_);have hsz:(s.heap.push (Ee (rawInt 0) 0 S es.size ep)).objs.size=s.heap.objs.size+1:=Ed _ _;have My:∀b∈[s.heap.objs.size,S],b<(s.heap.push (Ee (rawInt 0) 0 S es.size ep)).objs.size:=λb hb=>by
   grind
  have Zw:∀b∈[s.heap.objs.size,S],b=S\/s.heap.objs.size<=b:=λb hb=>by
   grind
  have x':SO (s.heap.push (Ee (rawInt 0) 0 S es.size ep)) S es ep t:=x.at λo e=>ax _ e
  cases hb:Hu w with
  |true=>
   have hp:=pQ (w.params.setOrder S ep) es.size 0 es.toList #[] (by simp);refine ay ⟨_,rfl,"set_iterator",_,⟨_,aQ _ rfl,rfl⟩,hG.lookup,h _ (pickOrder (w.params.setOrder S ep) es).toList _ s.drawn (by simpa [pickOrder] using hp) (aA _) (λb o e=>ax _ e) (Wk.of (λA' hh=>Li (t:=t) (ep:=ep) hh hb (tF _ (aA _))) (λi v ⟨e,h1,h2⟩=>⟨e,by simpa using h1,h2⟩) ?_ My (by simp) Zw)⟩
   ·exact⟨aD _,aQ _ rfl,x'⟩
  |false=>
   rw[hb] at hd hl;have yM:(!t.plain&&decide (es.size> 1))=false:=by
    cases e:(!t.plain&&decide (es.size> 1)) with
    |false=>rfl
    |true=>exact absurd (show(!false&&(!t.plain&&decide (es.size> 1)))=true by rw[e];rfl) hd
   refine ay ⟨_,rfl,"set_iterator",_,⟨_,aQ _ rfl,rfl⟩,hG.lookup,h _ es.toList _ s.drawn (BC _) (aA _) (λb o e=>ax _ e) (Wk.of (λA' hh=>Ny (t:=t) (ep:=ep) hh hb hl hr yM (tF _ (aA _))) (λi v ⟨e,h1,h2⟩=>⟨e,by simpa using h1,h2⟩) ?_ My (by simp) Zw)⟩
   ·exact⟨aD _,aQ _ rfl,x'⟩
end
end ST
namespace ST
open PySem PySem.Spec PyProof.Rows
theorem BR:typeLookup (.type "set") "__len__"=pure (some (.builtin "set.__len__")):=PySem.F.slot_set_len.lookup
section
variable{prog:Program}{w:World}{A:Around}{E:acX}{s:Shared}{S:Addr}{es:Array (Int×Value)}{ep:Nat}{t:SetTable}
theorem S3{Q:Bool->Shared->Prop}(x:SO s.heap S es ep t)(h:Q false s):wpAny (model prog w) A (Builtin.List.listLengthHint (.ref S)) Q E s:=by
 unfold Builtin.List.listLengthHint;refine aa (dU x.typ BR ?_);generalize ZI:("set.__len__":String)=id0
 wp_delta
 rw[show splitId id0=some ("set","__len__") from by subst ZI;decide +kernel];subst ZI;refine aa (Bw (b:=true) x.typ sub_set_self ?_);rw[ae (by decide)];dsimp only;rw[ah (by decide +kernel)];refine aa (ug x.typ ?_);exact ay h
theorem Nz:∀{ord:List (Int×Value)} {acc:acY},acc.length=ord.length->(∀(i:Nat) (v:Value),acc[i]?=some v->∃e:Int×Value,ord[i]?=some e/\v=e.2)->acc=ord.map (·.2):=by
 intro ord acc hl h;refine lV λi=>?_
 cases e:acc[i]? with
 |none=>
  grind
 |some v=>
  obtain⟨x,h1,h2⟩:=h i v e;rw[aM,h1,h2];rfl
theorem Gc:∀(ord:List (Int×Value)),(∀e∈ord,Gd e)->IntsAre (ord.map (·.2)) (ord.map vl)
 | [],_=>.nil
 |e::ord,h=>by
  obtain⟨m,t,rfl⟩:=h e (aR ..);exact .cons m t (Gc ord λe' he=>h e' (aP _ he))
theorem G4{l:acZ}{Q:List Value->Shared->Prop}(hh:A.handled=none)(J:nF s.heap S (!Hu w) l) (h:∀vs ms h' d tk,IntsAre vs ms->ms.Perm l->s.heap.objs.size<=h'.objs.size->(∀b o,s.heap.get? b=some o->h'.get? b=some o)->Q vs {s with heap:=h',drawn:=d,toks:=tk}):wpAny (model prog w) A (collect (.ref S)) Q E s:=by
 obtain⟨o,es,ep,t,ho,hex,hd,hE,hb,hf,hT⟩:=J;have x:SO s.heap S es ep t:=⟨⟨o,ho,hex,hd⟩,hf⟩;have hS:=x.lt;unfold collect;refine aa (wpAny_runValue (dn PySem.F.entry_proto_collect ?_));rw[cD PySem.F.plain_proto_collect _];show wpAny _ A.in1 (newList [] >>=λl=>again (.builtin "list.__iadd__" ⟨[l,.ref S],[]⟩)) _ _ s;refine aa (c8 ?_);refine ay ⟨eF aaD _,dn PySem.F.entry_list_iadd ?_⟩;rw[cD aaD _];generalize hlo:({cls:=.type "list",data:=.seq ([]:acY).toArray}:Obj)=lo;have hL:(s.heap.push lo).get? s.heap.objs.size=some lo:=aQ _ (by subst hlo;rfl);have Mr:(s.heap.push lo).objs.size=s.heap.objs.size+1:=Ed _ _;have x1:SO (s.heap.push lo) S es ep t:=x.at λo e=>ax _ e
 show wpAny _ A.in1 (Builtin.List.listExtendWith (.ref s.heap.objs.size) (.ref S) (.ref s.heap.objs.size)) _ _ _;unfold Builtin.List.listExtendWith;refine aa (ug (SO.typ (s:={s with heap:=s.heap.push lo}) x1) ?_);have gT:s.heap.objs.size≠S:=qf hS;have h1:Builtin.List.listSameRef (.ref s.heap.objs.size) (.ref S)=false:=by simp[Builtin.List.listSameRef,gT]
 rw[ae (by rw[h1];decide)];refine aa (Sy (s:={s with heap:=s.heap.push lo}) x1 hb hT.led hT.rise λit ord h2 d hp hit k W=>?_);obtain⟨fp,St,W,vZ,My,hI,Zw⟩:=W;refine aa (dM (S3 (s:={s with heap:=h2,drawn:=d}) (x1.at λo e=>k _ _ e) ?_));rw[ah (by decide)];have wg:s.heap.objs.size<it:=by rw[Mr] at hit;exact hit
 have Ei:s.heap.objs.size∉fp:=λq=>by
  grind
 have hL2:h2.get? s.heap.objs.size=some lo:=k _ _ hL;refine aa (vM ?_);refine aa ?_;show wpAny _ A.in1 (updateSeq s.heap.objs.size (·.push .none) >>=λ_=>updateSeq s.heap.objs.size (·.pop)) _ _ _;have aad:h2.get? s.heap.objs.size=some {cls:=.type "list",data:=.seq #[]}:=by rw[hL2];subst hlo;rfl
 refine aa (wpAny_updateSeq aad rfl ?_);have hL3:=cw (Obj.mapSeq (·.push Value.none)) aad rfl;refine wpAny_updateSeq (hz:=by seq_fits) hL3 rfl ?_;have hL4:=cw (Obj.mapSeq (·.pop)) hL3 rfl;have YD:∀b o,b≠s.heap.objs.size->h2.get? b=some o->((h2.update s.heap.objs.size (Obj.mapSeq (·.push Value.none))).update s.heap.objs.size (Obj.mapSeq (·.pop))).get? b=some o:=
  λb o hb e=>(dA _ _ (cv hb)).trans ((dA _ _ (cv hb)).trans e)
 have W1:=W A.in1 hh;refine ay ⟨eF WT _,codeAny_extend_loopS W1 (zk hb) _ Ei _ es.size 0 _ _ _ rfl (aD _) (W1.frame 0 {s with heap:=h2,drawn:=d} _ s.toks vZ (aA _) λb hb o e=>YD b o (λq=>Ei (q▸hb)) e) hL4 (ItemsOf.nil _) λs' n8 c' hm MG Dl=>?_⟩;show wpAny _ A (load s.heap.objs.size >>=_) _ _ s';refine aa (wpAny_load MG ?_);obtain⟨ha1,Xm⟩:=Dl;have hol:ord.length=es.size:=by rw[hp.length_eq];simp
 have ev:n8.toList=ord.map (·.2):=Nz (by simp;omega) λi v e=>Xm i v (by simpa using e)
 obtain⟨m1,m2,m3,m4,m5⟩:=hm;have wx:s'={s with heap:=s'.heap,drawn:=s'.drawn,toks:=s'.toks}:=by
  obtain⟨hp',g,d',tk,os⟩:=s';obtain rfl:g=s.gens:=m2;obtain rfl:os=s.os:=m4;rfl
 rw[wx];refine ay (h _ (ord.map vl) _ _ _ ?_ ?_ (xq (aW MG)) λb o e=>?_)
 ·rw[ev];exact Gc ord λe he=>hE.1 e (hp.mem_iff.mp he)
 ·exact(hp.map vl).trans hE.2
 ·have hb:=aW e;refine m1 b o (λq=>?_) (YD b o (bH hb) (k b o (ax _ e)))
  grind
theorem HP{l:acZ}{Q:acX}(hh:A.handled=none)(J:nF s.heap S (!Hu w) l)(hl:l.length<=sizeLine) (h:∀Ng vs h' d tk p c,IntsAre vs Ng->Ng.Perm l->Ng.Pairwise (·<=·)->s.heap.objs.size<=p->h'.get? p=some (seqObj "list" vs.toArray c)->(∀b o,s.heap.get? b=some o->h'.get? b=some o)->Q (.ref p) {s with heap:=h',drawn:=d,toks:=tk}): wpAny (model prog w) A (call (.builtin "sorted") [.ref S]) Q E s:=by
 refine Calls.call_function_entry kind_sorted plain_sorted entry_sorted (args_sorted1 _) ?_;unfold Builtin.«sorted»;refine aa (m:=checkCount "sorted" 1 1 _) (ay ?_);refine aa (G4 (A:=A.in1) hh J λvs ms h1 d tk hI hp hle k=>?_);refine aa (wpAny_newList ?_ (by have:=hI.length;have:=hp.length_eq;omega));have Zv:(h1.push (seqObj "list" vs.toArray 0)).get? h1.objs.size=some (seqObj "list" vs.toArray 0):=aQ _ rfl;refine aa (dM (cU slot_list_sort ⟨_,Zv,rfl⟩ entry_list_sort (list_sort_treeAny Zv hI (by have:=hI.length;have:=hp.length_eq;omega) λout Ng a1 a2 a3=>⟨_,rfl,?_⟩) (args_list_sort _)));obtain⟨c,hc⟩:=sortedHeap_at (vs:=vs) (out:=out) Zv;refine ay ⟨_,rfl,h Ng out.toList _ d tk _ c a1 (a2.trans hp) a3 hle (by simpa using hc) λb o e=>?_⟩;have hb:=aW (k b o e);rw[sortedHeap_old (bH hb) (by rw[Ed];exact fj hb)];exact ax _ (k b o e)
end
open L2
def NQ(K:Frag)(ta:TA):TE:=λσ H Q=>ta σ H λvs H1=>∃(a:Addr) (ns:acZ),vs=[.ref a]/\cg K H1 a (ns.map V.int)/\ns.length<4000/\
 ∀(ms:acZ) (p:Addr),ms.Perm (ns.foldl step_dedup [])->ms.Pairwise (·<=·)->H1 p=none->Q (.ref p) (upd H1 p (.lst (ms.map V.int)))
theorem DY:bootBuiltins "sorted"=some (.builtin "sorted"):=by decide +kernel
theorem MX:bootBuiltins "set"=some (.type "set"):=by decide +kernel
theorem Bk:∀(ns acc:acZ),(ns.foldl step_dedup acc).length<=acc.length+ns.length
 | [],acc=>by simp
 |n::ns,acc=>by
  rw[Rw,aJ];have h1:=Bk ns (step_dedup acc n);have h2:(step_dedup acc n).length<=acc.length+1:=by
   unfold step_dedup;split
   ·omega
   ·rw[aw];exact aA _
  omega
theorem Ii{X:Cx}{e:Expr}{ta:TA}{p p2 pos Cb:Pos}(hc:X.calm=true)(hg:Gl X "sorted")(Wc:Gl X "set")(hm:X.mg "sorted"=none)(Xg:X.mg "set"=none)(ha:PA X [e] ta) (hs:starEach [e] X.env=[(false,eval e X.env)]:=by rfl)
  (tE:starEach [.Call (.Name "set" p2) [e] [] Cb] X.env=[(false,eval (.Call (.Name "set" p2) [e] [] Cb) X.env)]:=by rfl):
  PE X (.Call (.Name "sorted" p) [.Call (.Name "set" p2) [e] [] Cb] [] pos) (NQ X.K ta):=by
 intro pins s σ H Q I h;refine gy (oX I hg hm DY ?_);refine f9 rfl (kC ?_);refine gA ?_;refine Call_ (oX I Wc Xg MX (dS (d9 (ha Cb pins s σ H _ I h) λus s1 ⟨vs,H1,I1,r1,q1⟩=>?_) hs rfl));obtain⟨a,ns,ev,hq,hlen,q⟩:=q1;subst ev;cases r1 with
 |cons r rr=>
  cases rr;cases r;obtain⟨b6,rv,p',hz⟩:=I1.list hq;have hh:X.A.handled=none:=I1.ok.hd hc;have hi:IntsAre b6.toArray.toList ns:=by simpa using intsAre_of rv
  have hd:=Bk ns [];rw[cJ,dE] at hd;have zt:(4096:Nat)<=sizeLine:=by decide
  refine Jm hh p'.isList hi (by unfold scanBound;omega) λh1 tk1 J k1=>nX ?_
  refine HP (s:={s1 with heap:=h1,toks:=tk1}) hh J (by omega) λms us h2 d tk p c hms hp hpw hle Rj k2=>?_
  have we:s1.heap.objs.size<=p:=by
   refine bK ?_ hle;obtain⟨o,_,_,_,ho,_⟩:=J;exact xq (aW ho)
  have kk:∀b o,s1.heap.get? b=some o->h2.get? b=some o:=λb o e=>k2 b o (k1 b o e)
  have Rf:(ms.map V.int).length<=sizeLine:=by rw[af,hp.length_eq];omega
  have new:fg X.prog X.w (upd H1 p (.lst (ms.map V.int))) h2 p (.lst (ms.map V.int)):=⟨Rf,us,c,rX hms,Rj⟩;have I2:=I1.call (ch:=[]) (g':=s1.gens) (d':=d) (t':=tk) (Un.laid kk we (I1.cR.fresh we)) (I1.cR.laid kk we new) I1.bare (λb z=>absurd z (by simp));exact⟨.ref p,upd H1 p (.lst (ms.map V.int)),I2,rfl,q ms p hp hpw (I1.cR.fresh we)⟩
end ST
namespace B
open PySem
theorem pq:bootBuiltins "tuple"=some (.type "tuple"):=by decide +kernel
theorem TL:bootBuiltins "dict"=some (.type "dict"):=by decide +kernel
theorem WI:bootBuiltins "max"=some (.builtin "max"):=by decide +kernel
theorem WH:bootBuiltins "min"=some (.builtin "min"):=by decide +kernel
theorem QN:bootBuiltins "any"=some (.builtin "any"):=by decide +kernel
theorem QO:bootBuiltins "all"=some (.builtin "all"):=by decide +kernel
theorem dh:bootBuiltins "len"=some (.builtin "len"):=by decide +kernel
section
open PySem.Spec PyProof.Rows L2
variable{X:Cx}{K:Frag}
theorem wQ{o:Expr}{ta:TE}{f:Str}{pos:Pos}(hK:X.K=K)(he:PE X o ta)(hb:attributeBase o f X.env (eval o X.env)=eval o X.env):PE X (.Attribute o f pos) (XN K ta f):=by
 subst hK;exact bD he hb
theorem Cf{es:ac8}{k:Nat}{t:US}{n:Nat}{pos:Pos}(hK:X.K=K)(hc:X.calm=true)(h:PGs X es t)(hn:(assignEach es X.env).length=n:=by rfl)(vZ:(assignEach es X.env).findIdx? (·.1)=none:=by rfl):PG X (.Tuple es k pos) (aam K n t):=by
 subst hK;exact uG hc h hn vZ
theorem yI(hK:X.K=K):IxR X (Yk K):=by
 subst hK;exact d5
theorem yB(hK:X.K=K):pC X (.builtin "len") (λxs H Q=>∃p ys,xs=[.ref p]/\(cg K H p ys\/dJ K H p ys)/\Q (.int (ys.length:Nat)) H):=by
 subst hK;exact bG
theorem Im(hK:X.K=K):qe X (compareOp .In) (rIn K false):=by
 subst hK;exact uI
theorem RZ(hK:X.K=K)(hu:X.A.units+64<cLine):qe X (compareOp .Eq) (Yl K):=by
 subst hK;exact OF hu
end
end B
namespace B
open PySem PySem.Spec PyProof.Rows L2
abbrev Sel:=Addr->HO->Prop
structure Kp(S:Sel)(H H':Hp):Prop where
 kp:∀b o,H b=some o->¬S b o->H' b=some o
 dm:∀b o,H b=some o->∃o',H' b=some o'
theorem Kp.refl(S:Sel)(H:Hp):Kp S H H:=⟨λ_ _ e _=>e,λ_ o e=>⟨o,e⟩⟩
theorem Kp.trans{S:Sel}{H H1 H2:Hp}(a:Kp S H H1)(b:Kp S H1 H2):Kp S H H2:=
 ⟨λc o e n=>b.kp c o (a.kp c o e n) n,λc o e=>let ⟨o1,e1⟩:=a.dm c o e;b.dm c o1 e1⟩
theorem Kp.mono{S S':Sel}{H H':Hp}(a:Kp S H H')(h:∀b o,S b o->S' b o):Kp S' H H':=⟨λb o e n=>a.kp b o e λs=>n (h b o s),a.dm⟩
theorem Kp.same{S:Sel}{H H':Hp}(s:bJ H H'):Kp S H H':=⟨λb o e _=>s b o e,λb o e=>⟨o,s b o e⟩⟩
theorem Kp.new{S:Sel}{H:Hp}{p:Addr}{o:HO}(h:H p=.none):Kp S H (upd H p o):=.same (aF h)
theorem EC{H:Hp}{p b:Addr}{o u:HO}(e:H b=some u):∃o',upd H p o b=some o':=by
 by_cases q:b=p
 ·subst q;exact⟨o,ak⟩
 ·exact⟨u,by rw[aH q];exact e⟩
theorem Kp.wr{S:Sel}{H:Hp}{p:Addr}{o u:HO}(e:H p=some u)(s:S p u):Kp S H (upd H p o):=
 ⟨λb v eb n=>by rw[aH (λq:b=p=>by subst q;rw[e] at eb;cases eb;exact n s)];exact eb,λb v eb=>EC eb⟩
theorem Kp.uj{S:Sel}{H H1:Hp}{p:Addr}{o:HO}(a:Kp S H H1)(h:H p=.none):Kp S H (upd H1 p o):=
 ⟨λb v eb n=>by rw[aH (bo eb h)];exact a.kp b v eb n,λb v eb=>let ⟨_,e⟩:=a.dm b v eb;EC e⟩
theorem Kp.free{S:Sel}{H H':Hp}{p:Addr}(a:Kp S H H')(h:H' p=.none):H p=.none:=by
 cases e:H p with
 |none=>rfl
 |some o=>
  obtain⟨o',e'⟩:=a.dm p o e;rw[h] at e';cases e'
def atS(p:Addr):Sel:=λb _=>b=p
def NoL(S:Sel)(a:Addr):Prop:=(∀ys,¬S a (.lst ys))/\∀ob u,¬S a (.wu ob u)
def NoT(S:Sel)(a:Addr):Prop:=(∀ys,¬S a (.tup ys))/\∀ob u,¬S a (.wu ob u)
theorem Kp.seq{K:Frag}{S:Sel}{H H':Hp}{a:Addr}{xs:List V}(k:Kp S H H')(h:cg K H a xs)(n:NoL S a):cg K H' a xs:=by
 rcases h with h|h
 ·rcases h with h|⟨ob,h⟩
  ·exact .inl (.inl (k.kp _ _ h (n.1 _)))
  ·exact .inl (.inr ⟨ob,k.kp _ _ h (n.2 _ _)⟩)
 ·exact .inr h
theorem Kp.tup{K:Frag}{S:Sel}{H H':Hp}{a:Addr}{xs:List V}(k:Kp S H H')(h:dJ K H a xs)(n:NoT S a):dJ K H' a xs:=by
 rcases h with h|h
 ·rcases h with h|⟨ob,h⟩
  ·exact .inl (.inl (k.kp _ _ h (n.1 _)))
  ·exact .inl (.inr ⟨ob,k.kp _ _ h (n.2 _ _)⟩)
 ·exact .inr h
def Pt(C c:Addr):Sel:=λb o=>b=c/\∃dx fs,o=.ins C dx fs
theorem Gb{C c a:Addr}:NoL (Pt C c) a:=⟨λ_ ⟨_,_,_,e⟩=>(nomatch e),λ_ _ ⟨_,_,_,e⟩=>(nomatch e)⟩
theorem Pr{C c a:Addr}:NoT (Pt C c) a:=⟨λ_ ⟨_,_,_,e⟩=>(nomatch e),λ_ _ ⟨_,_,_,e⟩=>(nomatch e)⟩
theorem Kp.jr{S:Sel}{H H':Hp}(a:Kp S H H')(h:∀b o,S b o->H b=.none):bJ H H':=λb o e=>a.kp b o e λs=>by
 have:=h b o s;rw[e] at this;cases this
theorem e8{H:Hp}{x dx:Addr}{o u:HO}(h1:H x=.none)(h2:H dx=.none):bJ H (upd (upd H dx u) x o):=λb v e=>by
 rw[aH (bo e h1),aH (bo e h2)];exact e
end B
namespace FT
open Gh
inductive It where
 |stand (s:Stand)
 |gap (k:Nat) (q:ac2)
 |lost
 deriving DecidableEq,Repr
mutual
def pf:Part->List It
 | .sign s l=>.stand s::jz l
 | .gap k q=>[.gap k q]
 | .group _ l=>jz l
 | .nest _ p=>pf p
def jz:List Part->List It
 | []=>[]
 |p::r=>pf p++jz r
end
theorem i4:∀a b:List Part,jz (a++b)=jz a++jz b
 | [],_=>rfl
 |p::a,b=>by
  show pf p++jz (a++b)=(pf p++jz a)++jz b;rw[i4 a b,az]
theorem iZ(p:Part):jz [p]=pf p:=by
 show pf p++ []=_;rw[aI]
def ef:Element->List It
 | .block p=>pf p
 | .ring l=>jz l
 | .lost=>[.lost]
def lf(l:Line):List It:=l.flatMap ef
def tf(t:Text):List It:=t.flatMap lf
def It.may(l:Signs):It->Option May
 | .stand s=>some (some (s.may l))
 | .gap k q=>(gapMay l k q).map some
 | .lost=>some none
def It.known(l:Signs):It->Bool
 | .stand s=>(signNo l s).isSome
 |_=>true
mutual
theorem u0(l:Signs):∀p:Part,(p.hosts.filterMap λ(x:Part)=>(x.may l).map some)=(pf p).filterMap (It.may l)
 | .sign s q=>by
  show(Part.sign s q::hostsOf q).filterMap _=(It.stand s::jz q).filterMap _;rw[cf,cf,oZ l q];rfl
 | .gap k u=>by
  show [Part.gap k u].filterMap _=[It.gap k u].filterMap _;rw[cf,cf];rfl
 | .group _ q=>oZ l q
 | .nest _ p=>u0 l p
theorem oZ(l:Signs):∀q:List Part,((hostsOf q).filterMap λ(x:Part)=>(x.may l).map some)=(jz q).filterMap (It.may l)
 | []=>rfl
 |p::r=>by
  show(p.hosts++hostsOf r).filterMap _=(pf p++jz r).filterMap _;rw[cS,cS,u0 l p,oZ l r]
end
theorem xR(l:Signs):∀q:List Part,(q.flatMap λ(p:Part)=>p.hosts.filterMap λ(x:Part)=>(x.may l).map some)=(jz q).filterMap (It.may l)
 | []=>rfl
 |p::r=>by
  show _=(pf p++jz r).filterMap _;rw[dz,cS,u0 l p,xR l r]
theorem Wy(l:Signs):∀e:Element,e.may l=(ef e).filterMap (It.may l)
 | .block p=>by
  show([p].flatMap λ(p:Part)=>p.hosts.filterMap λ(x:Part)=>(x.may l).map some)=_;rw[xR,iZ];rfl
 | .ring q=>xR l q
 | .lost=>rfl
theorem ja{α β γ:Type}(f:β->Option γ)(g:α->List β):∀a:List α,(a.flatMap g).filterMap f=a.flatMap λx=>(g x).filterMap f
 | []=>rfl
 |x::a=>by rw[dz,dz,cS,ja f g a]
theorem UZ(l:Signs)(t:Text):t.may l=(tf t).filterMap (It.may l):=by
 unfold Text.may tf lf;rw[ja];refine bb (λf=>t.flatMap f) (funext λx=>?_);rw[ja];exact bb (λf=>x.flatMap f) (funext λe=>Wy l e)
def st:It->Option (Option Stand)
 | .stand s=>some (some s)
 | .gap _ _=>some none
 | .lost=>none
mutual
theorem rZ:∀(x:Part) (p d:Nat),(x.told p d).map (λy=>y.stand)=(pf x).filterMap st
 | .sign s q,p,d=>by
  show(Piece.mk (some s) 0 p d::nestsTold _ _ q).map _=(It.stand s::jz q).filterMap _;rw[aK,cf,sP q];rfl
 | .gap k u,p,d=>rfl
 | .group h q,p,d=>sF h q p (d+1)
 | .nest k x,p,d=>rZ x _ d
theorem sF(h:How):∀(q:List Part) (p d:Nat),(partsTold h p d q).map (λy=>y.stand)=(jz q).filterMap st
 | [],_,_=>rfl
 |x::r,p,d=>by
  show(x.told _ d++partsTold h _ d r).map _=(pf x++jz r).filterMap _;rw[aN,cS,rZ x,sF h r]
theorem sP:∀(q:List Part) (p d:Nat),(nestsTold p d q).map (λy=>y.stand)=(jz q).filterMap st
 | [],_,_=>rfl
 |x::r,p,d=>by
  show(x.told _ d++nestsTold _ d r).map _=(pf x++jz r).filterMap _;rw[aN,cS,rZ x,sP r]
end
theorem vk:∀(q:List Part) (n p:Nat),(((placed Part.text n p q).flatMap λ(x:Nat×Nat×Part)=>(x.2.2.told x.2.1 0).map λ(y:Piece)=>(x.1,y)).map λz=>z.2.stand)=(jz q).filterMap st
 | [],_,_=>rfl
 |x::r,n,p=>by
  show(((n,p,x)::placed Part.text (n+1) _ r).flatMap _).map _=(pf x++jz r).filterMap _;rw[dz,aN,cS,vk r,cC];have:=rZ x p 0;exact bb (λa=>a++(jz r).filterMap st) this
theorem MM:∀(e:Element) (p:Nat),((e.told p).map λz=>z.2.stand)=(ef e).filterMap st
 | .block x,p=>by
  show(((x.told p 0).map λ(y:Piece)=>(0,y)).map λz=>z.2.stand)=_;rw[cC];exact rZ x p 0
 | .ring q,p=>vk q 0 (p+1)
 | .lost,_=>rfl
theorem vy(i:Nat):∀(q:List Element) (n p:Nat),((((placed Element.text n p q).flatMap λ(y:Nat×Nat×Element)=>(y.2.2.told y.2.1).map λ(z:Nat×Piece)=>(⟨i,y.1,z.1,z.2⟩:Where)).map λw=>w.piece.stand))=(lf q).filterMap st
 | [],_,_=>rfl
 |x::r,n,p=>by
  show(((n,p,x)::placed Element.text (n+1) _ r).flatMap _).map _=(lf (x::r)).filterMap _;unfold lf;rw[dz,aN,dz,cS,vy i r,cC];exact bb (λa=>a++(lf r).filterMap st) (MM x p)
theorem NG(t:Text):(t.told.map λw=>w.piece.stand)=(tf t).filterMap st:=by
 unfold Text.told Text.lines tf;rw[List.flatMap_map,List.map_flatMap,ja];have:∀(q:List Line) (n:Nat) (g:Nat->Nat),((q.zipIdx n).flatMap λ(x:Line×Nat)=>(((placed Element.text 0 (g x.2) x.1).flatMap λ(y:Nat×Nat×Element)=>(y.2.2.told y.2.1).map λ(z:Nat×Piece)=>(⟨x.2,y.1,z.1,z.2⟩:Where)).map λw=>w.piece.stand))=q.flatMap λx=>(lf x).filterMap st:=by
  intro q
  induction q with
  |nil=>intro n g;rfl
  |cons a q ih=>
   intro n g;rw[Np,dz,dz,ih (n+1) g,vy]
 exact this t 0 λk=>((t.take k).map λ(l:Line)=>l.text.length).sum
theorem NL(l:Signs)(t:Text):t.hasAll l=(tf t).all (It.known l):=by
 unfold Text.hasAll Text.signs;have e:∀w:List Where,(w.filter λ(x:Where)=>x.piece.stand.isSome).all (λ(x:Where)=>(x.piece.stand.bind (signNo l)).isSome)=(w.map λx=>x.piece.stand).all λo=>match o with |some s=>(signNo l s).isSome|none=>true:=by
  intro w
  induction w with
  |nil=>rfl
  |cons a w ih=>
   rw[jP,aK,be,<-ih];cases h:a.piece.stand with
   |none=>simp
   |some s=>simp[h]
 rw[e,NG]
 induction tf t with
 |nil=>rfl
 |cons i q ih=>
  rw[cf,be];cases i with
  |stand s=>simp only[st,be,ih];rfl
  |gap k q=>simp only[st,be,ih];rfl
  |lost=>simp only[st,ih];rfl
end FT
namespace FT
open Gh
inductive FK where
 |block
 |paren
 |nest
 deriving DecidableEq,Repr
structure FU where
 kind:FK
 cells:Bool
 seats:Bool
 sheets:Bool
 deriving DecidableEq,Repr
inductive FM where
 |fresh
 |want
 |name (w:Bytes)
 |mark (s:Stand) (xA:Nat)
 |gap (w:Bytes)
 |gapMark (k:Nat) (q:ac2)
 |place (w:Bytes)
 |whole (t:Tag)
 |dots (n:Nat)
 |ended
 deriving DecidableEq,Repr
structure FS where
 out:List It
 lines:Nat
 elems:Nat
 ring:Option Nat
 pieces:Nat
 stack:List FU
 mode:FM
 deriving DecidableEq,Repr
def FU.new(k:FK):FU:=⟨k,false,false,false⟩
def FU.tag(u:FU):Tag:=if u.cells=true then .column else if u.seats=true then .row else .one
def FU.mayStar(u:FU)(t:Tag):Bool:=u.sheets ||t !=.row
def FU.mayEnd(u:FU)(t:Tag):Bool:=u.sheets ||(t==.one ||(t==.column&&u.seats))
def FS.begins(f:FS)(c:UInt8):Option FS:=
 if isBig c=true then(if f.pieces<64 then some {f with pieces:=f.pieces+1,mode:=.name [c]} else none)
 else if c=95 then(if f.pieces<64 then some {f with pieces:=f.pieces+1,mode:=.gap []} else none)
 else if c=40 then some {f with stack:=FU.new .paren::f.stack,mode:=.want}
 else none
def FS.lineEnd(f:FS):FS:={f with lines:=f.lines+1,elems:=0,pieces:=0,stack:=[],mode:=.fresh}
def FS.behind(f:FS)(t:Tag)(c:UInt8):Option FS:=match f.stack with
 | []=>none
 |u::r=>
  if c=38 then some {f with stack:={u with sheets:=true}::r,mode:=.want}
  else if c=42 then(if u.mayStar t=true then some {f with stack:={u with seats:=true,sheets:=false}::r,mode:=.want} else none)
  else if u.mayEnd t=false then none
  else if c=58 then some {f with stack:={u with cells:=true,seats:=false,sheets:=false}::r,mode:=.want}
  else match u.kind with
   | .paren=>if c=41/\u.tag≠.one then some {f with stack:=r,mode:=.whole u.tag} else none
   | .nest=>if c=59 then some {f with stack:=FU.new .nest::r,mode:=.place []} else if c=93 then some {f with stack:=r,mode:=.whole .one} else none
   | .block=>match f.ring with
    |none=>if c=32 then(if f.elems+1<64 then some {f with elems:=f.elems+1,pieces:=0,stack:=[],mode:=.fresh} else none) else if c=LF then some f.lineEnd else none
    |some n=>if c=32 then(if n+1<16 then some {f with ring:=some (n+1),pieces:=0,stack:=[FU.new .block],mode:=.want} else none) else if c=62 then some {f with ring:=none,elems:=f.elems+1,pieces:=0,stack:=[],mode:=.ended} else none
def FS.marked(f:FS)(s:Stand)(xA:Nat)(c:UInt8):Option FS:=
 if c=126/\xA=0 then some {f with mode:=.mark {s with mirrored:=true} 1}
 else if c=37/\xA<=1 then some {f with mode:=.mark s 2}
 else if (xA=2\/xA=3)/\49<=c.toNat/\c.toNat<=52/\s.quarters.all (λ(k:Nat)=>decide (k<c.toNat - 48))=true then some {f with mode:=.mark {s with quarters:=s.quarters++ [c.toNat - 48]} 3}
 else if xA=2 then none
 else if c=63/\xA≠4 then some {f with mode:=.mark {s with unsure:=true} 4}
 else if c=91 then some {f with out:=f.out++ [.stand s],stack:=FU.new .nest::f.stack,mode:=.place []}
 else FS.behind {f with out:=f.out++ [.stand s]} .one c
def FS.step(f:FS)(c:UInt8):Option FS:=match f.mode with
 | .fresh=>if f.lines=512/\f.elems=0 then none else if c=60 then some {f with ring:=some 0,pieces:=0,stack:=[FU.new .block],mode:=.want} else if c=46 then some {f with mode:=.dots 1} else FS.begins {f with pieces:=0,stack:=[FU.new .block]} c
 | .want=>f.begins c
 | .name w=>if nameGoes (w++ [c])=true then some {f with mode:=.name (w++ [c])} else(match nameOf w with
  |some n=>f.marked ⟨n,false,[],false⟩ 0 c
  |none=>none)
 | .mark s k=>f.marked s k c
 | .gap w=>if isDigit c=true then(if (w.isEmpty=false\/c≠48)/\numberOf (w++ [c])<=32 then some {f with mode:=.gap (w++ [c])} else none) else if w.isEmpty=true then none else if c=37 then some {f with mode:=.gapMark (numberOf w) []} else FS.behind {f with out:=f.out++ [.gap (numberOf w) []]} .one c
 | .gapMark k q=>if 49<=c.toNat/\c.toNat<=52/\q.all (λ(i:Nat)=>decide (i<c.toNat - 48))=true then some {f with mode:=.gapMark k (q++ [c.toNat - 48])} else if q.isEmpty=true then none else FS.behind {f with out:=f.out++ [.gap k q]} .one c
 | .place w=>if PLACES.any (λ(x:Bytes)=>(w++ [c]).isPrefixOf x)=true then some {f with mode:=.place (w++ [c])} else(match PLACES.findIdx? (λ(x:Bytes)=>x==w),f.stack with
  |some _,⟨.nest,_,_,_⟩::_=>f.begins c
  |_,_=>none)
 | .whole t=>f.behind t c
 | .dots n=>if c≠46 then none else if n=1 then some {f with mode:=.dots 2} else some {f with out:=f.out++ [.lost],elems:=f.elems+1,mode:=.ended}
 | .ended=>if c=32 then(if f.elems<64 then some {f with mode:=.fresh} else none) else if c=LF then some f.lineEnd else none
def FS.start:FS:=⟨[],0,0,none,0,[],.fresh⟩
def lL:FS->Bytes->Option FS
 |f,[]=>some f
 |f,c::r=>match f.step c with
  |none=>none
  |some g=>lL g r
def FS.whole?(f:FS):Bool:=f.mode==.fresh&&(decide (f.elems=0)&&!decide (f.lines=0))
def ku:Within->FK
 | .block=>.block
 | .paren=>.paren
 | .nest _ _ _=>.nest
def au(u:Under):FU:=⟨ku u.within,!u.cells.isEmpty,!u.seats.isEmpty,!u.sheets.isEmpty⟩
def wo:Within->List It
 | .nest s had _=>.stand s::jz had
 |_=>[]
def uo(u:Under):List It:=wo u.within++(jz u.cells++(jz u.seats++jz u.sheets))
def so:List Under->List It
 | []=>[]
 |u::r=>so r++uo u
def am:Mode->FM
 | .fresh=>.fresh
 | .want=>.want
 | .name w=>.name w
 | .mark s k=>.mark s k
 | .gap w=>.gap w
 | .gapMark k q=>.gapMark k q
 | .place w=>.place w
 | .whole _ t=>.whole t
 | .dots n=>.dots n
 | .ended=>.ended
def Uu:Mode->Bool
 | .fresh=>false
 | .dots _=>false
 | .ended=>false
 |_=>true
def mo:Mode->List It
 | .whole p _=>pf p
 |_=>[]
def zo(z:Scan):List It:=tf z.lines++(lf z.line++jz (z.ring.getD []))
def abs(z:Scan):FS:=if Uu z.mode=true then⟨zo z++(so z.stack++mo z.mode),z.lines.length,z.line.length,z.ring.map List.length,z.pieces,z.stack.map au,am z.mode⟩
 else⟨zo z,z.lines.length,z.line.length,z.ring.map List.length,0,[],am z.mode⟩
theorem cT{z:Scan}(h:Uu z.mode=true):abs z=⟨zo z++(so z.stack++mo z.mode),z.lines.length,z.line.length,z.ring.map List.length,z.pieces,z.stack.map au,am z.mode⟩:=ah h
theorem fU{z:Scan}(h:Uu z.mode=false):abs z=⟨zo z,z.lines.length,z.line.length,z.ring.map List.length,0,[],am z.mode⟩:=ae (by rw[h];decide)
def b7:List FU->Tag->Nat
 | [],_=>0
 |c::r,t=>([false,true].flatMap λ(a:Bool)=>[false,true].flatMap λ(s:Bool)=>[false,true].flatMap λ(k:Bool)=>
   let acB:=c.sheets ||(t==.one ||(a ||(t==.column&&(c.seats ||s))))
   let u:Tag:=if (c.cells ||k)=true then .column else if (c.seats ||s)=true then .row else .one
   let n:=num01 a+(num01 s+num01 k)
   if acB=false then [] else match c.kind with
    | .block=>[n]
    | .paren=>if u=.one then [] else [n+b7 r u]
    | .nest=>[n+b7 r .one]).foldl min 1000
theorem jb:∀(s:List Under) (t:Tag),cost s t=b7 (s.map au) t
 | [],_=>rfl
 |c::r,t=>by
  rw[aK];unfold cost b7;have ih:=λt=>jb r t
  cases hw:c.within <;> simp only[au,hw,ku,ih]
def Bj(f:FS):Nat:=match f.mode with
 | .fresh=>0
 | .dots _=>0
 | .ended=>0
 | .want=>1+b7 f.stack .one
 | .place _=>1+b7 f.stack .one
 | .whole t=>b7 f.stack t
 |_=>b7 f.stack .one
def ok(f:FS):Bool:=decide (f.pieces+Bj f<=64)
end FT
namespace FT
open Gh
theorem DD:∀(l:ac2) (d:Nat),l.foldl min d<=d
 | [],d=>aA d
 |x::l,d=>bK (DD l (min d x)) (Nat.min_le_left d x)
theorem GK:∀(l:ac2) (d x:Nat),x∈l->l.foldl min d<=x
 | [],_,_,h=>by cases h
 |y::l,d,x,h=>by
  rcases ba.mp h with rfl|h
  ·exact bK (DD l (min d x)) (Nat.min_le_right d x)
  ·exact GK l (min d y) x h
theorem Kk:∀(l:ac2) (d b:Nat),b<=d->(∀x∈l,b<=x)->b<=l.foldl min d
 | [],_,_,h,_=>h
 |y::l,d,b,h,hl=>Kk l (min d y) b (Nat.le_min.mpr ⟨h,hl y (aR ..)⟩) λx hx=>hl x (aP _ hx)
def gv(c:FU)(t:Tag)(a s:Bool):Bool:=c.sheets ||(t==.one ||(a ||(t==.column&&(c.seats ||s))))
def ow(c:FU)(s k:Bool):Tag:=if (c.cells ||k)=true then .column else if (c.seats ||s)=true then .row else .one
def opts(c:FU)(r:List FU)(t:Tag)(a s k:Bool):List Nat:=if gv c t a s=false then [] else match c.kind with
    | .block=>[num01 a+(num01 s+num01 k)]
    | .paren=>if ow c s k=.one then [] else [num01 a+(num01 s+num01 k)+b7 r (ow c s k)]
    | .nest=>[num01 a+(num01 s+num01 k)+b7 r .one]
theorem Qr(c:FU)(r:List FU)(t:Tag):b7 (c::r) t=([false,true].flatMap λ(a:Bool)=>[false,true].flatMap λ(s:Bool)=>[false,true].flatMap λ(k:Bool)=>opts c r t a s k).foldl min 1000:=by
 rw[b7];rfl
theorem O1{c:FU}{r:List FU}{t:Tag}{v:Nat}:v∈([false,true].flatMap λ(a:Bool)=>[false,true].flatMap λ(s:Bool)=>[false,true].flatMap λ(k:Bool)=>opts c r t a s k)↔∃a s k,v∈opts c r t a s k:=by
 constructor
 ·grind
 ·rintro⟨a,s,k,h⟩;have b:∀x:Bool,x∈[false,true]:=by decide
  exact mU.mpr ⟨a,b a,mU.mpr ⟨s,b s,mU.mpr ⟨k,b k,h⟩⟩⟩
theorem vC{c:FU}{r:List FU}{t:Tag}{v:Nat}(a s k:Bool)(h:v∈opts c r t a s k):b7 (c::r) t<=v:=by
 rw[Qr];exact GK _ _ _ (O1.mpr ⟨a,s,k,h⟩)
theorem A9{c:FU}{r:List FU}{t:Tag}{b:Nat}(hb:b<=1000)(h:∀a s k,∀v∈opts c r t a s k,b<=v):b<=b7 (c::r) t:=by
 rw[Qr];refine Kk _ _ _ hb λv hv=>?_
 grind
theorem u4:∀(s:List FU) (t:Tag),b7 s t<=1000
 | [],_=>aD _
 |c::r,t=>by
  rw[Qr];exact DD _ _
theorem Wu:∀(s:List FU) (t:Tag),b7 s .one<=b7 s t
 | [],_=>aA _
 |c::r,t=>by
  refine A9 (u4 _ _) λa s k v hv=>vC a s k ?_
  unfold opts at hv ⊢;have e:gv c .one a s=true:=by simp[gv]
  rw[e];cases h:gv c t a s with
  |false=>rw[h] at hv;simp at hv
  |true=>rw[h] at hv;exact hv
theorem KL{u:FU}{r:List FU}{t:Tag}(h:u.kind=.nest):b7 r .one<=b7 (u::r) t:=by
 refine A9 (u4 _ _) λa s k v hv=>?_
 unfold opts at hv;rw[h] at hv;cases hf:gv u t a s with
 |false=>rw[hf] at hv;simp at hv
 |true=>
  grind
theorem Qq(r:List FU):b7 (FU.new .nest::r) .one=b7 r .one:=by
 refine Nat.le_antisymm ?_ (KL rfl);exact vC false false false (by simp[opts,gv,FU.new,num01])
theorem Wv{u:FU}{r:List FU}{t:Tag}:b7 (u::r) t<=1+b7 ({u with sheets:=true}::r) .one:=by
 have:b7 (u::r) t - 1<=b7 ({u with sheets:=true}::r) .one:=by
  refine A9 (bK (Nat.sub_le _ _) (u4 _ _)) λa s k v hv=>?_
  have h:∃v',v'∈opts u r t true s k/\v'<=1+v:=by
   unfold opts at hv ⊢;have e:gv u t true s=true:=by simp[gv]
   rw[e];have e2:gv {u with sheets:=true} .one a s=true:=by simp[gv]
   rw[e2] at hv;have e3:ow {u with sheets:=true} s k=ow u s k:=rfl;rw[e3] at hv;cases hk:u.kind with
   |block=>
    simp only[hk] at hv ⊢;have:=aE.mp hv;refine⟨_,aE.mpr rfl,?_⟩;simp only[num01] at this ⊢
    grind
   |paren=>
    simp only[hk] at hv ⊢;by_cases ht:ow u s k=.one
    ·rw[ht] at hv;simp at hv
    ·simp only[ht] at hv ⊢;have:=aE.mp hv;refine⟨_,aE.mpr rfl,?_⟩;have n1:num01 true=1:=rfl;omega
   |nest=>
    simp only[hk] at hv ⊢;have:=aE.mp hv;refine⟨_,aE.mpr rfl,?_⟩;have n1:num01 true=1:=rfl;omega
  obtain⟨v',h1,h2⟩:=h;have:=vC _ _ _ h1;omega
 omega
theorem Tr{u:FU}{r:List FU}{t:Tag}(hm:u.mayStar t=true):b7 (u::r) t<=1+b7 ({u with seats:=true,sheets:=false}::r) .one:=by
 have:b7 (u::r) t - 1<=b7 ({u with seats:=true,sheets:=false}::r) .one:=by
  refine A9 (bK (Nat.sub_le _ _) (u4 _ _)) λa s k v hv=>?_
  have h:∃v',v'∈opts u r t false true k/\v'<=1+v:=by
   unfold opts at hv ⊢;have e:gv u t false true=true:=by
    simp[FU.mayStar] at hm;rcases hm with hm|hm
    ·simp[gv,hm]
    ·cases t <;> simp[gv] at hm ⊢
   rw[e];have e2:gv {u with seats:=true,sheets:=false} .one a s=true:=by simp[gv]
   rw[e2] at hv;have e3:ow {u with seats:=true,sheets:=false} s k=ow u true k:=by simp[ow]
   rw[e3] at hv;have n1:num01 true=1:=rfl;have n0:num01 false=0:=rfl;cases hk:u.kind with
   |block=>
    simp only[hk] at hv ⊢;have:=aE.mp hv;exact⟨_,aE.mpr rfl,by omega⟩
   |paren=>
    simp only[hk] at hv ⊢;by_cases ht:ow u true k=.one
    ·rw[ht] at hv;simp at hv
    ·simp only[ht] at hv ⊢;have:=aE.mp hv;exact⟨_,aE.mpr rfl,by omega⟩
   |nest=>
    simp only[hk] at hv ⊢;have:=aE.mp hv;exact⟨_,aE.mpr rfl,by omega⟩
  obtain⟨v',h1,h2⟩:=h;have:=vC _ _ _ h1;omega
 omega
theorem tO{u:FU}{t:Tag}{s:Bool}(hm:u.mayEnd t=true):gv u t false s=true:=by
 simp[FU.mayEnd] at hm;rcases hm with hm|hm|⟨h1,h2⟩
 ·simp[gv,hm]
 ·simp[gv,hm]
 ·simp[gv,h1,h2]
theorem Qs{u:FU}{r:List FU}{t:Tag}(hm:u.mayEnd t=true):b7 (u::r) t<=1+b7 ({u with cells:=true,seats:=false,sheets:=false}::r) .one:=by
 have:b7 (u::r) t - 1<=b7 ({u with cells:=true,seats:=false,sheets:=false}::r) .one:=by
  refine A9 (bK (Nat.sub_le _ _) (u4 _ _)) λa s k v hv=>?_
  have h:∃v',v'∈opts u r t false s true/\v'<=1+v:=by
   unfold opts at hv ⊢;have e:gv u t false s=true:=tO hm;rw[e];have e2:gv {u with cells:=true,seats:=false,sheets:=false} .one a s=true:=by simp[gv]
   rw[e2] at hv;have e3:ow {u with cells:=true,seats:=false,sheets:=false} s k=.column:=by simp[ow]
   have e4:ow u s true=.column:=by simp[ow]
   rw[e3] at hv;rw[e4];have n1:num01 true=1:=rfl;have n0:num01 false=0:=rfl;cases hk:u.kind with
   |block=>
    simp only[hk] at hv ⊢;have:=aE.mp hv;exact⟨_,aE.mpr rfl,by omega⟩
   |paren=>
    simp only[hk] at hv ⊢;have:=aE.mp hv;exact⟨_,aE.mpr rfl,by omega⟩
   |nest=>
    simp only[hk] at hv ⊢;have:=aE.mp hv;exact⟨_,aE.mpr rfl,by omega⟩
  obtain⟨v',h1,h2⟩:=h;have:=vC _ _ _ h1;omega
 omega
theorem Rz(u:FU):ow u false false=u.tag:=by simp[ow,FU.tag]
theorem Qt{u:FU}{r:List FU}{t:Tag}(hk:u.kind=.paren)(hm:u.mayEnd t=true)(ht:u.tag≠.one):b7 (u::r) t<=b7 r u.tag:=by
 refine vC false false false ?_;unfold opts;rw[tO hm,hk,Rz];simp[ht,num01]
theorem KJ{u:FU}{r:List FU}{t:Tag}(hk:u.kind=.nest)(hm:u.mayEnd t=true):b7 (u::r) t<=b7 r .one:=by
 refine vC false false false ?_;unfold opts;rw[tO hm,hk];simp[num01]
theorem Qu{u:FU}{r:List FU}{t:Tag}(hk:u.kind=.block)(hm:u.mayEnd t=true):b7 (u::r) t=0:=by
 have:b7 (u::r) t<=0:=by
  refine vC false false false ?_;unfold opts;rw[tO hm,hk];simp[num01]
 omega
theorem Qp(r:List FU):b7 r .one<=b7 (FU.new .paren::r) .one:=by
 refine A9 (u4 _ _) λa s k v hv=>?_
 unfold opts at hv;have e:gv (FU.new .paren) .one a s=true:=by simp[gv]
 have ek:(FU.new .paren).kind=.paren:=rfl;rw[e,ek] at hv;by_cases ht:ow (FU.new .paren) s k=.one
 ·rw[ht] at hv;simp at hv
 ·simp only[ht] at hv;have:=aE.mp hv;have:=Wu r (ow (FU.new .paren) s k);omega
theorem vH{f g:FS}{c:UInt8}(h:f.begins c=some g)(hg:ok g=true):f.pieces+(1+b7 f.stack .one)<=64:=by
 unfold FS.begins at h;unfold ok at hg;have hg:=bA hg;split at h
 ·split at h
  ·cases h;have:f.pieces+1+b7 f.stack .one<=64:=hg;omega
  ·cases h
 ·split at h
  ·split at h
   ·cases h;have:f.pieces+1+b7 f.stack .one<=64:=hg;omega
   ·cases h
  ·split at h
   ·cases h;have:f.pieces+(1+b7 (FU.new .paren::f.stack) .one)<=64:=hg;have:=Qp f.stack;omega
   ·cases h
theorem lO{f g:FS}{t:Tag}{c:UInt8}(hp:f.pieces<=64)(h:f.behind t c=some g)(hg:ok g=true):f.pieces+b7 f.stack t<=64:=by
 unfold FS.behind at h;have hg:=bA hg;split at h
 ·cases h
 ·rename_i u r hs;rw[hs];split at h
  ·cases h;have:f.pieces+(1+b7 ({u with sheets:=true}::r) .one)<=64:=hg;have:=@Wv u r t;omega
  ·split at h
   ·split at h
    ·rename_i hm;cases h;have:f.pieces+(1+b7 ({u with seats:=true,sheets:=false}::r) .one)<=64:=hg;have:=@Tr u r t hm;omega
    ·cases h
   ·split at h
    ·cases h
    ·rename_i hm;have hm:u.mayEnd t=true:=by
      cases q:u.mayEnd t with
      |true=>rfl
      |false=>exact absurd q hm
     split at h
     ·cases h;have:f.pieces+(1+b7 ({u with cells:=true,seats:=false,sheets:=false}::r) .one)<=64:=hg;have:=@Qs u r t hm;omega
     ·split at h
      ·rename_i hk;split at h
       ·rename_i hc;cases h;have:f.pieces+b7 r u.tag<=64:=hg;have:=@Qt u r t hk hm hc.2;omega
       ·cases h
      ·rename_i hk;split at h
       ·cases h;have:f.pieces+(1+b7 (FU.new .nest::r) .one)<=64:=hg;rw[Qq] at this;have:=@KJ u r t hk hm;omega
       ·split at h
        ·cases h;have:f.pieces+b7 r .one<=64:=hg;have:=@KJ u r t hk hm;omega
        ·cases h
      ·rename_i hk;rw[Qu hk hm];omega
theorem vt{f g:FS}{s:Stand}{k:Nat}{c:UInt8}(hp:f.pieces<=64)(h:f.marked s k c=some g)(hg:ok g=true):f.pieces+b7 f.stack .one<=64:=by
 unfold FS.marked at h;split at h
 ·cases h;exact bA hg
 ·split at h
  ·cases h;exact bA hg
  ·split at h
   ·cases h;exact bA hg
   ·split at h
    ·cases h
    ·split at h
     ·cases h;exact bA hg
     ·split at h
      ·cases h;have:f.pieces+(1+b7 (FU.new .nest::f.stack) .one)<=64:=bA hg;rw[Qq] at this;omega
      ·exact lO (f:={f with out:=f.out++ [.stand s]}) hp h hg
theorem AF{f g:FS}{c:UInt8}(hp:f.pieces<=64)(h:f.step c=some g)(hg:ok g=true):ok f=true:=by
 unfold FS.step at h;refine ai ?_;unfold Bj;split at h
 ·rename_i hm;rw[hm];exact hp
 ·rename_i hm;rw[hm];exact vH h hg
 ·rename_i w hm;rw[hm];split at h
  ·cases h;exact bA hg
  ·split at h
   ·exact vt hp h hg
   ·cases h
 ·rename_i hm;rw[hm];exact vt hp h hg
 ·rename_i w hm;rw[hm];split at h
  ·split at h
   ·cases h;exact bA hg
   ·cases h
  ·split at h
   ·cases h
   ·split at h
    ·cases h;exact bA hg
    ·exact lO (f:={f with out:=f.out++ [.gap (numberOf w) []]}) hp h hg
 ·rename_i k q hm;rw[hm];split at h
  ·cases h;exact bA hg
  ·split at h
   ·cases h
   ·exact lO (f:={f with out:=f.out++ [.gap k q]}) hp h hg
 ·rename_i w hm;rw[hm];split at h
  ·cases h;exact bA hg
  ·split at h
   ·exact vH h hg
   ·cases h
 ·rename_i t hm;rw[hm];exact lO hp h hg
 ·rename_i hm;rw[hm];exact hp
 ·rename_i hm;rw[hm];exact hp
theorem vg{f g:FS}{c:UInt8}(hp:f.pieces<=64)(h:f.begins c=some g):g.pieces<=64:=by
 unfold FS.begins at h
 grind
theorem qc{f g:FS}{t:Tag}{c:UInt8}(hp:f.pieces<=64)(h:f.behind t c=some g):g.pieces<=64:=by
 unfold FS.behind at h
 repeat' split at h
 all_goals first |(cases h;done)|(cases h;exact hp)|(cases h;exact aD _)
theorem A6{f g:FS}{s:Stand}{k:Nat}{c:UInt8}(hp:f.pieces<=64)(h:f.marked s k c=some g):g.pieces<=64:=by
 unfold FS.marked at h
 repeat' split at h
 all_goals first |(cases h;done)|(cases h;exact hp)|exact qc (f:={f with out:=f.out++ [.stand s]}) hp h
theorem wL{f g:FS}{c:UInt8}(hp:f.pieces<=64)(h:f.step c=some g):g.pieces<=64:=by
 unfold FS.step at h;split at h
 ·repeat' split at h
  all_goals first |(cases h;done)|(cases h;exact aD _)|(cases h;exact hp)|exact vg (f:={f with pieces:=0,stack:=[FU.new .block]}) (aD _) h
 ·exact vg hp h
 ·repeat' split at h
  all_goals first |(cases h;done)|(cases h;exact hp)|exact A6 hp h
 ·exact A6 hp h
 ·rename_i w _
  repeat' split at h
  all_goals first |(cases h;done)|(cases h;exact hp)|exact qc (f:={f with out:=f.out++ [.gap (numberOf w) []]}) hp h
 ·rename_i k q _
  repeat' split at h
  all_goals first |(cases h;done)|(cases h;exact hp)|exact qc (f:={f with out:=f.out++ [.gap k q]}) hp h
 ·repeat' split at h
  all_goals first |(cases h;done)|(cases h;exact hp)|exact vg hp h
 ·exact qc hp h
 ·grind
 ·repeat' split at h
  all_goals first |(cases h;done)|(cases h;exact hp)|(cases h;exact aD _)
end FT
namespace FT
open Gh
theorem Cg(u:Under)(p:Part):pf (u.seat p)=jz u.sheets++pf p:=by
 unfold Under.seat;split
 ·rename_i h;rw[jO.mp h];rfl
 ·show jz (u.sheets++ [p])=_;rw[i4,iZ]
theorem Ci(u:Under)(p:Part):pf (u.cell p)=jz u.seats++(jz u.sheets++pf p):=by
 unfold Under.cell;split
 ·rename_i h;rw[jO.mp h,Cg];rfl
 ·show jz (u.seats++ [u.seat p])=_;rw[i4,iZ,Cg]
theorem sy(u:Under)(p:Part):pf (u.whole p)=jz u.cells++(jz u.seats++(jz u.sheets++pf p)):=by
 unfold Under.whole;split
 ·rename_i h;rw[jO.mp h,Ci];rfl
 ·show jz (u.cells++ [u.cell p])=_;rw[i4,iZ,Ci]
theorem WL(u:Under):(au u).tag=u.tag:=by
 unfold FU.tag Under.tag au;cases u.cells.isEmpty <;> cases u.seats.isEmpty <;> rfl
theorem TM(u:Under)(t:Tag):(au u).mayStar t=u.mayStar t:=rfl
theorem WM(u:Under)(t:Tag):(au u).mayEnd t=u.mayEnd t:=rfl
def xC:List Under->Prop
 | []=>True
 |u::r=>(u.within=.block->r=[])/\xC r
structure SInv(z:Scan):Prop where
 ring:Uu z.mode=false->z.ring=none
 st:xC z.stack
def ab(z:Scan)(o:List It)(m:FM):FS:=⟨zo z++(so z.stack++o),z.lines.length,z.line.length,z.ring.map List.length,z.pieces,z.stack.map au,m⟩
theorem QX{z:Scan}(h:Uu z.mode=true):abs z=ab z (mo z.mode) (am z.mode):=cT h
theorem cI{f:FS}(h:ok f=true):(some f).filter ok=some f:=by simp[Option.filter,h]
theorem kP(z:Scan)(m:Mode)(hm:m=.want\/m=.place []):(Scan.wants z m).map abs=(some (ab z [] (am m))).filter ok:=by
 have e:abs {z with mode:=m}=ab z [] (am m):=by
  rcases hm with rfl|rfl <;> rfl
 have n:Bj (ab z [] (am m))=1+cost z.stack .one:=by
  rw[jb];rcases hm with rfl|rfl <;> rfl
 unfold Scan.wants;by_cases h:z.pieces+1+cost z.stack .one<=PIECES
 ·have h':z.pieces+1+cost z.stack .one<=64:=h;rw[ah h,bg,e,cI];refine ai ?_;rw[n];show z.pieces+_<=64;omega
 ·have h':¬z.pieces+1+cost z.stack .one<=64:=h;rw[ae h,oi];have:ok (ab z [] (am m))=false:=by
   refine ag ?_;rw[n];show ¬z.pieces+_<=64;omega
  simp[Option.filter,this]
theorem rJ(z:Scan)(c:UInt8)(m:FM)(h:z.pieces+1+cost z.stack .one<=64):(z.begins c).map abs=(FS.begins (ab z [] m) c).filter ok:=by
 have hc:=jb z.stack .one;unfold Scan.begins FS.begins;by_cases h1:isBig c=true
 ·rw[ah h1,ah h1,ah (show(ab z [] m).pieces<64 by show z.pieces<64;omega),cI]
  ·rfl
  ·refine ai ?_;show z.pieces+1+b7 (z.stack.map au) .one<=64;omega
 ·rw[ae h1,ae h1];by_cases h2:c=95
  ·rw[ah h2,ah h2,ah (show(ab z [] m).pieces<64 by show z.pieces<64;omega),cI]
   ·rfl
   ·refine ai ?_;show z.pieces+1+b7 (z.stack.map au) .one<=64;omega
  ·rw[ae h2,ae h2];by_cases h3:c=40
   ·rw[ah h3,ah h3,kP _ _ (.inl rfl)];have:ab {z with stack:=opened .paren::z.stack} [] (am .want)={ab z [] m with stack:=FU.new .paren::(ab z [] m).stack,mode:=.want}:=by
     unfold ab;simp only[so,uo,opened,wo,jz,aI,aK];rfl
    rw[this]
   ·rw[ae h3,ae h3];rfl
theorem nB(z:Scan)(p:Part)(t:Tag)(c:UInt8)(m:FM)(I:xC z.stack)(h:z.pieces+cost z.stack t<=64):(z.behind p t c).map abs=(FS.behind (ab z (pf p) m) t c).filter ok:=by
 have hc:=jb z.stack t;unfold Scan.behind FS.behind;cases hs:z.stack with
 |nil=>
  have e:(ab z (pf p) m).stack=[]:=by
   show z.stack.map au=[];rw[hs];rfl
  simp only[e];rfl
 |cons u r=>
  have e:(ab z (pf p) m).stack=au u::r.map au:=by
   show z.stack.map au=_;rw[hs];rfl
  have eo:(ab z (pf p) m).out=zo z++(so r++uo u++pf p):=by
   show zo z++(so z.stack++pf p)=_;rw[hs];rfl
  simp only[e];rw[hs] at h hc I;by_cases h1:c=38
  ·rw[ah h1,ah h1,kP _ _ (.inl rfl)];refine bb (λx=>(some x).filter ok) ?_;have k:(!(u.sheets++ [p]).isEmpty)=true:=by simp
   unfold ab;simp only[hs,so,uo,i4,iZ,aI,az,aK,au,k];rfl
  ·rw[ae h1,ae h1];by_cases h2:c=42
   ·rw[ah h2,ah h2,TM];by_cases hm:u.mayStar t=true
    ·rw[ah hm,ah hm,kP _ _ (.inl rfl)];refine bb (λx=>(some x).filter ok) ?_;have k:(!(u.seats++ [u.seat p]).isEmpty)=true:=by simp
     unfold ab;simp only[hs,so,uo,i4,iZ,Cg,jz,aI,az,aK,au,k];rfl
    ·rw[ae hm,ae hm];rfl
   ·rw[ae h2,ae h2,WM];by_cases hm:u.mayEnd t=false
    ·rw[ah hm,ah hm];rfl
    ·rw[ae hm,ae hm];have hm':u.mayEnd t=true:=by
      cases q:u.mayEnd t with
      |true=>rfl
      |false=>exact absurd q hm
     by_cases h3:c=58
     ·rw[ah h3,ah h3,kP _ _ (.inl rfl)];refine bb (λx=>(some x).filter ok) ?_;have k:(!(u.cells++ [u.cell p]).isEmpty)=true:=by simp
      unfold ab;simp only[hs,so,uo,i4,iZ,Ci,jz,aI,az,aK,au,k];rfl
     ·rw[ae h3,ae h3];cases hw:u.within with
      |paren=>
       have ek:(au u).kind=.paren:=by
        show ku u.within=_;rw[hw];rfl
       simp only[ek];rw[WL];by_cases h4:c=41/\u.tag≠.one
       ·rw[ah h4];by_cases h5:z.pieces+cost r u.tag<=PIECES
        ·rw[ah ⟨h4.1,h4.2,h5⟩,cI]
         ·rw[bg,QX rfl];refine bb some ?_;show ab {z with stack:=r,mode:=.whole (u.whole p) u.tag} (pf (u.whole p)) (.whole u.tag)=_;unfold ab;simp only[hs,so,uo,wo,hw,sy,az,bE];rfl
         ·refine ai ?_;show z.pieces+b7 (r.map au) u.tag<=64;rw[<-jb];exact h5
        ·rw[ae (λq=>h5 q.2.2)];have:ok {ab z (pf p) m with stack:=r.map au,mode:=.whole u.tag}=false:=by
          refine ag ?_;show ¬z.pieces+b7 (r.map au) u.tag<=64;rw[<-jb];exact h5
         simp[Option.filter,this]
       ·grind
      |nest s had k=>
       have ek:(au u).kind=.nest:=by
        show ku u.within=_;rw[hw];rfl
       simp only[ek];by_cases h4:c=59
       ·rw[ah h4,ah h4,kP _ _ (.inr rfl)];refine bb (λx=>(some x).filter ok) ?_;unfold ab;simp only[hs,so,uo,wo,hw,opened,i4,iZ,jz,pf,sy,aI,az,aK,au];rfl
       ·rw[ae h4,ae h4];by_cases h5:c=93
        ·rw[ah h5,ah h5,cI]
         ·rw[bg,QX rfl];refine bb some ?_;show ab {z with stack:=r,mode:=.whole (.sign s (had++ [.nest k (u.whole p)])) .one} (pf (.sign s (had++ [.nest k (u.whole p)]))) (.whole .one)=_;unfold ab;simp only[hs,so,uo,wo,hw,pf,i4,iZ,sy,az];rfl
         ·refine ai ?_;show z.pieces+b7 (r.map au) .one<=64;have:=@KL (au u) (r.map au) t ek
          grind
        ·grind
      |block=>
       have ek:(au u).kind=.block:=by
        show ku u.within=_;rw[hw];rfl
       have er:r=[]:=I.1 hw;subst er;have Xr:zo z++(so z.stack++pf p)=tf z.lines++(lf z.line++(jz (z.ring.getD [])++pf (u.whole p))):=by
        rw[hs];unfold zo;simp only[so,uo,wo,hw,sy,az,bE]
       have ero:(ab z (pf p) m).ring=z.ring.map List.length:=rfl;simp only[ek,ero];cases hr:z.ring with
       |none=>
        rw[hr] at Xr;have YY:lf (z.line++ [Element.block (u.whole p)])=lf z.line++pf (u.whole p):=by
         unfold lf;rw[pL];simp[ef]
        by_cases h4:c=32
        ·rw[ah h4];simp only[oi];rw[ah h4];show _=(if z.line.length+1<64 then _ else none:Option FS).filter ok;by_cases h5:z.line.length+1<64
         ·rw[ah h5,ah (show z.line.length+1<ELEMENTS from h5),cI]
          ·rw[bg,fU rfl];refine bb some ?_;unfold zo ab;simp only[Xr,hr,YY,aw,aJ,cJ,eR,jz,aI,bE,az];rfl
          ·exact ai (aD _)
         ·rw[ae h5,ae (show ¬z.line.length+1<ELEMENTS from h5)];rfl
        ·rw[ae h4];simp only[oi];rw[ae h4];by_cases h5:c=LF
         ·rw[ah h5,ah h5,cI]
          ·rw[bg,fU rfl];refine bb some ?_;have tfa:tf (z.lines++ [z.line++ [Element.block (u.whole p)]])=tf z.lines++(lf z.line++pf (u.whole p)):=by
            unfold tf
            grind
           unfold zo ab FS.lineEnd Gh.lineEnd;simp only[Xr,hr,tfa,aw,aJ,cJ,eR,jz,aI,bE,az,lf,Nr];rfl
          ·exact ai (aD _)
         ·grind
       |some l=>
        rw[hr] at Xr;simp only[bg];by_cases h4:c=32
        ·rw[ah h4,ah h4];by_cases h5:l.length+1<16
         ·rw[ah h5,ah (show l.length+1<RING from h5),cI]
          ·rw[bg,cT rfl];refine bb some ?_;unfold zo ab;simp only[Xr,hr,so,uo,wo,opened,mo,i4,iZ,vN,bg,aw,aJ,cJ,jz,aI,bE,az];rfl
          ·exact ai (by show 0+(1+b7 [FU.new .block] .one)<=64;decide)
         ·rw[ae h5,ae (show ¬l.length+1<RING from h5)];rfl
        ·rw[ae h4,ae h4];by_cases h5:c=62
         ·rw[ah h5,ah h5,cI]
          ·rw[bg,fU rfl];refine bb some ?_;have YY:lf (z.line++ [Element.ring (l++ [u.whole p])])=lf z.line++(jz l++pf (u.whole p)):=by
            unfold lf;rw[pL];simp only[dz,Nr,aI,ef,i4,iZ]
           unfold zo ab;simp only[Xr,hr,YY,vN,eR,aw,aJ,cJ,jz,aI,bE,az];rfl
          ·exact ai (aD _)
         ·grind
theorem yt(z:Scan)(s:Stand)(k:Nat)(c:UInt8)(m:FM)(I:xC z.stack)(h:z.pieces+cost z.stack .one<=64):(z.marked s k c).map abs=(FS.marked (ab z [] m) s k c).filter ok:=by
 have hc:=jb z.stack .one
 have hk:∀(s:Stand) (k:Nat),ok {ab z [] m with mode:=.mark s k}=true:=λs k=>ai (by
  show z.pieces+b7 (z.stack.map au) .one<=64
  omega)
 have ha:∀(s:Stand) (k:Nat),abs {z with mode:=.mark s k}={ab z [] m with mode:=.mark s k}:=λs k=>cT rfl
 unfold Scan.marked FS.marked;by_cases h1:c=126/\k=0
 ·grind
 ·rw[ae h1,ae h1];by_cases h2:c=37/\k<=1
  ·grind
  ·rw[ae h2,ae h2];by_cases h3:(k=2\/k=3)/\49<=c.toNat/\c.toNat<=52/\s.quarters.all (λ(k:Nat)=>decide (k<c.toNat - 48))=true
   ·grind
   ·rw[ae h3,ae h3];by_cases h4:k=2
    ·rw[ah h4,ah h4];rfl
    ·rw[ae h4,ae h4];by_cases h5:c=63/\k≠4
     ·grind
     ·rw[ae h5,ae h5];by_cases h6:c=91
      ·rw[ah h6,ah h6,kP _ _ (.inr rfl)];refine bb (λx=>(some x).filter ok) ?_;unfold ab;simp only[so,uo,wo,opened,jz,aI,az,aK];rfl
      ·rw[ae h6,ae h6,nB z _ _ _ m I h];refine bb (λx=>(FS.behind x _ _).filter ok) ?_;unfold ab;simp only[pf,jz,aI,az]
theorem sJ{z:Scan}{t:Tag}(h:Bj (abs z)=b7 (abs z).stack t)(hi:Uu z.mode=true)(ho:ok (abs z)=true):z.pieces+cost z.stack t<=64:=by
 have:=bA ho;rw[h,cT hi] at this;rw[jb];exact this
theorem Fq{z:Scan}(h:Bj (abs z)=1+b7 (abs z).stack .one)(hi:Uu z.mode=true)(ho:ok (abs z)=true):z.pieces+1+cost z.stack .one<=64:=by
 have:=bA ho;rw[h,cT hi] at this;rw[jb]
 grind
theorem EK(z:Scan)(c:UInt8)(I:SInv z)(ho:ok (abs z)=true):(z.step c).map abs=(FS.step (abs z) c).filter ok:=by
 obtain⟨lines,line,ring,pieces,stack,mode⟩:=z;cases mode with
 |fresh=>
  have er:ring=none:=I.ring rfl;subst er;rw[fU rfl];unfold Scan.step FS.step;simp only[am];have e0:(lines.length=LINES/\line.isEmpty=true)↔(lines.length=512/\line.length=0):=by
   rw[jO,ly];rfl
  by_cases h0:lines.length=512/\line.length=0
  ·rw[ah (e0.mpr h0),ah h0];rfl
  ·rw[ae (λq=>h0 (e0.mp q)),ae h0];by_cases h1:c=60
   ·rw[ah h1,ah h1,cI]
    ·rw[bg,cT rfl];refine bb some ?_;unfold zo;simp only[so,uo,wo,opened,mo,jz,vN,eR,aI];rfl
    ·exact ai (by show 0+(1+b7 [FU.new .block] .one)<=64;decide)
   ·rw[ae h1,ae h1];by_cases h2:c=46
    ·rw[ah h2,ah h2,cI]
     ·rw[bg,fU rfl];rfl
     ·exact ai (aD _)
    ·rw[ae h2,ae h2,rJ _ c .fresh (by show 0+1+cost [opened .block] .one<=64;decide)];refine bb (λx=>(FS.begins x c).filter ok) ?_;unfold ab zo;simp only[so,uo,wo,opened,jz,aI];rfl
 |want=>
  rw[cT rfl];exact rJ _ c .want (Fq (by rw[cT rfl];rfl) rfl ho)
 |name w=>
  have h:=sJ (t:=.one) (by rw[cT rfl];rfl) rfl ho;rw[cT rfl];unfold Scan.step FS.step;simp only[am];by_cases h1:nameGoes (w++ [c])=true
  ·rw[ah h1,ah h1,cI]
   ·rw[bg,cT rfl];rfl
   ·rw[cT rfl] at ho;exact ho
  ·rw[ae h1,ae h1];cases nameOf w with
   |none=>rfl
   |some n=>exact yt _ _ _ c (.name w) I.st h
 |mark s k=>
  have h:=sJ (t:=.one) (by rw[cT rfl];rfl) rfl ho;rw[cT rfl];exact yt _ _ _ c (.mark s k) I.st h
 |gap w=>
  have h:=sJ (t:=.one) (by rw[cT rfl];rfl) rfl ho;rw[cT rfl] at ho ⊢;unfold Scan.step FS.step;simp only[am];by_cases h1:isDigit c=true
  ·rw[ah h1,ah h1];by_cases h2:(w.isEmpty=false\/c≠48)/\numberOf (w++ [c])<=32
   ·rw[ah h2,ah (show(w.isEmpty=false\/c≠48)/\numberOf (w++ [c])<=GAP from h2),cI]
    ·rw[bg,cT rfl];rfl
    ·exact ho
   ·rw[ae h2,ae (show ¬((w.isEmpty=false\/c≠48)/\numberOf (w++ [c])<=GAP) from h2)];rfl
  ·rw[ae h1,ae h1];by_cases h2:w.isEmpty=true
   ·rw[ah h2,ah h2];rfl
   ·rw[ae h2,ae h2];by_cases h3:c=37
    ·rw[ah h3,ah h3,cI]
     ·rw[bg,cT rfl];rfl
     ·exact ho
    ·rw[ae h3,ae h3,nB _ _ _ c (.gap w) I.st h];refine bb (λx=>(FS.behind x _ _).filter ok) ?_;unfold ab zo;simp only[pf,mo,aI,az]
 |gapMark k q=>
  have h:=sJ (t:=.one) (by rw[cT rfl];rfl) rfl ho;rw[cT rfl] at ho ⊢;unfold Scan.step FS.step;simp only[am];by_cases h1:49<=c.toNat/\c.toNat<=52/\q.all (λ(i:Nat)=>decide (i<c.toNat - 48))=true
  ·rw[ah h1,ah h1,cI]
   ·rw[bg,cT rfl];rfl
   ·exact ho
  ·rw[ae h1,ae h1];by_cases h2:q.isEmpty=true
   ·rw[ah h2,ah h2];rfl
   ·rw[ae h2,ae h2,nB _ _ _ c (.gapMark k q) I.st h];refine bb (λx=>(FS.behind x _ _).filter ok) ?_;unfold ab zo;simp only[pf,mo,aI,az]
 |place w=>
  have h:=Fq (by rw[cT rfl];rfl) rfl ho;rw[cT rfl] at ho ⊢;unfold Scan.step FS.step;simp only[am];by_cases h1:PLACES.any (λ(x:Bytes)=>(w++ [c]).isPrefixOf x)=true
  ·rw[ah h1,ah h1,cI]
   ·rw[bg,cT rfl];rfl
   ·exact ho
  ·rw[ae h1,ae h1];cases PLACES.findIdx? (λ(x:Bytes)=>x==w) with
   |none=>rfl
   |some k=>
    cases stack with
    |nil=>rfl
    |cons u r=>
     obtain⟨wi,a,b,d⟩:=u;cases wi with
     |block=>rfl
     |paren=>rfl
     |nest s had k0=>
      have e:cost (⟨.nest s had k,a,b,d⟩::r) .one=cost (⟨.nest s had k0,a,b,d⟩::r) .one:=by
       rw[jb,jb];rfl
      simp only;rw[rJ _ c (.place w) (by show pieces+1+cost (⟨.nest s had k,a,b,d⟩::r) .one<=64;rw[e];exact h)];rfl
 |whole p t=>
  have h:=sJ (t:=t) (by rw[cT rfl];rfl) rfl ho;rw[cT rfl];exact nB _ p t c (.whole t) I.st h
 |dots n=>
  have er:ring=none:=I.ring rfl;subst er;rw[fU rfl];unfold Scan.step FS.step;simp only[am];by_cases h1:c≠46
  ·rw[ah h1,ah h1];rfl
  ·rw[ae h1,ae h1];by_cases h2:n=1
   ·rw[ah h2,ah h2,cI (ai (aD _)),bg,fU rfl];rfl
   ·rw[ae h2,ae h2,cI (ai (aD _)),bg,fU rfl];refine bb some ?_;have YY:lf (line++ [Element.lost])=lf line++ [.lost]:=by
     unfold lf;rw[pL];rfl
    unfold zo;simp only[YY,jz,eR,aI,az,aw,aJ,cJ];rfl
 |ended=>
  have er:ring=none:=I.ring rfl;subst er;rw[fU rfl];unfold Scan.step FS.step;simp only[am];by_cases h1:c=32
  ·rw[ah h1,ah h1];by_cases h2:line.length<64
   ·rw[ah h2,ah (show line.length<ELEMENTS from h2),cI (ai (aD _)),bg,fU rfl];rfl
   ·rw[ae h2,ae (show ¬line.length<ELEMENTS from h2)];rfl
  ·rw[ae h1,ae h1];by_cases h2:c=LF
   ·rw[ah h2,ah h2,cI (ai (aD _)),bg,fU rfl];refine bb some ?_;have tfa:tf (lines++ [line])=tf lines++lf line:=by
     unfold tf;rw[pL];simp
    unfold zo FS.lineEnd Gh.lineEnd;simp only[tfa,jz,lf,eR,aI,az,aw,aJ,cJ,Nr];rfl
   ·rw[ae h2,ae h2];rfl
end FT
namespace FT
open Gh
theorem kO{z y:Scan}{m:Mode}(I:xC z.stack)(hm:Uu m=true)(h:z.wants m=some y):SInv y:=by
 unfold Scan.wants at h;split at h
 ·cases h;exact⟨λq=>(by rw[hm] at q;cases q),I⟩
 ·cases h
theorem rH{z y:Scan}{c:UInt8}(I:xC z.stack)(h:z.begins c=some y):SInv y:=by
 unfold Scan.begins at h;split at h
 ·cases h;exact⟨λq=>(by cases q),I⟩
 ·split at h
  ·cases h;exact⟨λq=>(by cases q),I⟩
  ·split at h
   ·refine kO ?_ rfl h;exact⟨λq=>(by cases q),I⟩
   ·cases h
theorem xB:xC [opened .block]:=⟨λ_=>rfl,trivial⟩
theorem nA{z y:Scan}{p:Part}{t:Tag}{c:UInt8}(I:xC z.stack)(h:z.behind p t c=some y):SInv y:=by
 unfold Scan.behind at h;cases hs:z.stack with
 |nil=>rw[hs] at h;cases h
 |cons u r=>
  rw[hs] at h I;simp only at h;split at h
  ·exact kO I rfl h
  ·split at h
   ·split at h
    ·exact kO I rfl h
    ·cases h
   ·split at h
    ·cases h
    ·split at h
     ·exact kO I rfl h
     ·split at h
      ·split at h
       ·cases h;exact⟨λq=>(by cases q),I.2⟩
       ·cases h
      ·split at h
       ·refine kO ?_ rfl h;exact⟨λq=>(by cases q),I.2⟩
       ·split at h
        ·cases h;exact⟨λq=>(by cases q),I.2⟩
        ·cases h
      ·split at h
       ·rename_i hr;split at h
        ·split at h
         ·cases h;exact⟨λ_=>hr,I⟩
         ·cases h
        ·split at h
         ·cases h;exact⟨λ_=>hr,by show xC z.stack;rw[hs];exact I⟩
         ·cases h
       ·split at h
        ·split at h
         ·cases h;exact⟨λq=>(by cases q),xB⟩
         ·cases h
        ·split at h
         ·cases h;exact⟨λ_=>rfl,I⟩
         ·cases h
theorem yr{z y:Scan}{s:Stand}{k:Nat}{c:UInt8}(I:xC z.stack)(h:z.marked s k c=some y):SInv y:=by
 unfold Scan.marked at h;split at h
 ·cases h;exact⟨λq=>(by cases q),I⟩
 ·split at h
  ·cases h;exact⟨λq=>(by cases q),I⟩
  ·split at h
   ·cases h;exact⟨λq=>(by cases q),I⟩
   ·split at h
    ·cases h
    ·split at h
     ·cases h;exact⟨λq=>(by cases q),I⟩
     ·split at h
      ·refine kO ?_ rfl h;exact⟨λq=>(by cases q),I⟩
      ·exact nA I h
theorem EJ{z y:Scan}{c:UInt8}(I:SInv z)(h:z.step c=some y):SInv y:=by
 obtain⟨lines,line,ring,pieces,stack,mode⟩:=z;have Is:xC stack:=I.st;unfold Scan.step at h;cases mode with
 |fresh=>
  have er:ring=none:=I.ring rfl;subst er;simp only at h;split at h
  ·cases h
  ·split at h
   ·cases h;exact⟨λq=>(by cases q),xB⟩
   ·split at h
    ·cases h;exact⟨λ_=>rfl,Is⟩
    ·exact rH xB h
 |want=>exact rH Is h
 |name w=>
  simp only at h;split at h
  ·cases h;exact⟨λq=>(by cases q),Is⟩
  ·split at h
   ·exact yr Is h
   ·cases h
 |mark s k=>exact yr Is h
 |gap w=>
  simp only at h;split at h
  ·split at h
   ·cases h;exact⟨λq=>(by cases q),Is⟩
   ·cases h
  ·split at h
   ·cases h
   ·split at h
    ·cases h;exact⟨λq=>(by cases q),Is⟩
    ·exact nA Is h
 |gapMark k q=>
  simp only at h;split at h
  ·cases h;exact⟨λq=>(by cases q),Is⟩
  ·split at h
   ·cases h
   ·exact nA Is h
 |place w=>
  simp only at h;split at h
  ·cases h;exact⟨λq=>(by cases q),Is⟩
  ·split at h
   ·refine rH ?_ h;exact⟨λq=>(by cases q),Is.2⟩
   ·cases h
 |whole p t=>exact nA Is h
 |dots n=>
  have er:ring=none:=I.ring rfl;subst er;simp only at h;split at h
  ·cases h
  ·split at h
   ·cases h;exact⟨λ_=>rfl,Is⟩
   ·cases h;exact⟨λ_=>rfl,Is⟩
 |ended=>
  have er:ring=none:=I.ring rfl;subst er;simp only at h;split at h
  ·split at h
   ·cases h;exact⟨λ_=>rfl,Is⟩
   ·cases h
  ·split at h
   ·cases h;exact⟨λ_=>rfl,Is⟩
   ·cases h
theorem Tq{o:Option FS}{f:FS}:o.filter ok=some f↔o=some f/\ok f=true:=by
 cases o with
 |none=>simp[Option.filter]
 |some g=>
  simp only[Option.filter];cases h:ok g with
  |true=>simp;rintro rfl;exact h
  |false=>
   simp;rintro rfl;exact h
theorem EY:∀(b:Bytes) (z y:Scan) (p:Nat),SInv z->ok (abs z)=true->scan z p b=.ok y->lL (abs z) b=some (abs y)/\SInv y
 | [],z,y,p,I,_,h=>by
  injection h with h;subst h;exact⟨rfl,I⟩
 |c::r,z,y,p,I,ho,h=>by
  unfold scan at h;cases hz:z.step c with
  |none=>rw[hz] at h;cases h
  |some x=>
   rw[hz] at h;have e:=EK z c I ho;rw[hz,bg] at e;obtain⟨e1,e2⟩:=Tq.mp e.symm;have ih:=EY r x y (p+1) (EJ I hz) e2 h;refine⟨?_,ih.2⟩;unfold lL;rw[e1];exact ih.1
theorem EZ:∀(b:Bytes) (z:Scan) (g:FS) (p:Nat),SInv z->(abs z).pieces<=64->lL (abs z) b=some g->ok g=true->ok (abs z)=true/\∃y,scan z p b=.ok y/\abs y=g
 | [],z,g,p,I,_,h,hg=>by
  injection h with h;subst h;exact⟨hg,z,rfl,rfl⟩
 |c::r,z,g,p,I,KG,h,hg=>by
  unfold lL at h;cases hf:(abs z).step c with
  |none=>rw[hf] at h;cases h
  |some f=>
   rw[hf] at h;have mono:∀(b:Bytes) (f:FS),f.pieces<=64->lL f b=some g->ok f=true:=by
    intro b
    induction b with
    |nil=>
     intro f _ h;injection h with h;subst h;exact hg
    |cons d b ih=>
     intro f KG h;unfold lL at h;cases hs:f.step d with
     |none=>rw[hs] at h;cases h
     |some f'=>
      rw[hs] at h;exact AF KG hs (ih f' (wL KG hs) h)
   have hfo:=mono r f (wL KG hf) h;have hzo:=AF KG hf hfo;have e:=EK z c I hzo;rw[hf,cI hfo] at e;cases hz:z.step c with
   |none=>rw[hz] at e;cases e
   |some x=>
    rw[hz,bg] at e;have ex:abs x=f:=aX e;subst ex;obtain⟨_,y,h1,h2⟩:=EZ r x g (p+1) (EJ I hz) (wL KG hf) h hg;refine⟨hzo,y,?_,h2⟩;unfold scan;rw[hz];exact h1
def z0:Scan:=⟨[],[],none,0,[],.fresh⟩
theorem QW:abs z0=FS.start:=rfl
theorem Pw:SInv z0:=⟨λ_=>rfl,trivial⟩
theorem Lh{y:Scan}(I:SInv y):(abs y).whole?=y.whole?:=by
 obtain⟨lines,line,ring,pieces,stack,mode⟩:=y;have e1:decide (line.length=0)=line.isEmpty:=by cases line <;> simp
 have e2:decide (lines.length=0)=lines.isEmpty:=by cases lines <;> simp
 cases mode with
 |fresh=>
  rw[fU rfl];show(decide (line.length=0)&&!decide (lines.length=0))=(line.isEmpty&&!lines.isEmpty);rw[e1,e2]
 |dots n=>rw[fU rfl];rfl
 |ended=>rw[fU rfl];rfl
 |want=>rw[cT rfl];rfl
 |name w=>rw[cT rfl];rfl
 |mark s k=>rw[cT rfl];rfl
 |gap w=>rw[cT rfl];rfl
 |gapMark k q=>rw[cT rfl];rfl
 |place w=>rw[cT rfl];rfl
 |whole p t=>rw[cT rfl];rfl
theorem Nv{f:FS}(h:f.whole?=true)(KG:f.pieces<=64):ok f=true:=by
 unfold FS.whole? at h;have hm:f.mode=.fresh:=by
  rw[aS] at h;exact eq_of_beq h.1
 refine ai ?_;unfold Bj;rw[hm];exact KG
theorem GI:∀(b:Bytes) (f g:FS),f.pieces<=64->lL f b=some g->g.pieces<=64
 | [],f,g,KG,h=>by
  injection h with h;subst h;exact KG
 |c::r,f,g,KG,h=>by
  unfold lL at h;cases hs:f.step c with
  |none=>rw[hs] at h;cases h
  |some f'=>
   rw[hs] at h;exact GI r f' g (wL KG hs) h
def iX(b:Bytes):Option (List It):=match lL FS.start b with
 |none=>none
 |some f=>if f.whole?=true then some f.out else none
theorem LH(b:Bytes):match readText b with
  | .error _=>iX b=none
  | .ok T=>iX b=some (tf T):=by
 unfold readText iX;show match (match scan z0 0 b with | .error p=>(.error p:Except Nat Text)| .ok z=>if z.whole?=true then .ok z.lines else .error b.length) with
  | .error _=>_
  | .ok T=>_
 cases hs:scan z0 0 b with
 |ok y=>
  obtain⟨h1,h2⟩:=EY b z0 y 0 Pw rfl hs;rw[QW] at h1;simp only[h1];have hw:=Lh h2;by_cases h:y.whole?=true
  ·rw[ah h];show(if (abs y).whole?=true then some (abs y).out else none)=some (tf y.lines);rw[hw,ah h];obtain⟨lines,line,ring,pieces,stack,mode⟩:=y;unfold Scan.whole? at h;cases mode with
   |fresh=>
    have er:ring=none:=h2.ring rfl;subst er;have hl:line=[]:=by
     simp at h;exact h.1
    subst hl;rw[fU rfl];unfold zo;simp[lf,jz]
   |_=>simp at h
  ·grind
 |error p=>
  simp only;cases hf:lL FS.start b with
  |none=>rfl
  |some f=>
   simp only;by_cases h:f.whole?=true
   ·exfalso;have KG:=GI b FS.start f (aD _) hf;rw[<-QW] at hf;obtain⟨_,y,h1,_⟩:=EZ b z0 f 0 Pw (aD _) hf (Nv h KG);rw[hs] at h1;cases h1
   ·rw[ae h]
end FT
namespace LS
open Gh
def lu(c:UInt8):Bytes->Bytes->List Bytes
 |w,[]=>[w]
 |w,x::r=>if x=c then w::lu c [] r else lu c (w++ [x]) r
theorem xb(c:UInt8):∀(b w:Bytes) (p:Nat),(cut c p w b).map (λx=>x.2)=lu c w b
 | [],_,_=>rfl
 |x::r,w,p=>by
  unfold cut lu;split
  ·rw[aK,xb c r]
  ·rw[xb c r]
structure Dr where
 name:Name
 sounds:List Bytes
 rows:List (List Bool)
def Dr.sign(d:Dr):Sign:=⟨d.name,⟨(d.rows.headD []).length,d.rows.length,d.rows⟩,d.sounds⟩
structure Rd where
 done:Signs
 now:Option Dr
def dr(d:Draft):Dr:=⟨d.name,d.sounds,d.rows⟩
def rd(z:Reading):Rd:=⟨z.done,z.now.map dr⟩
def Rd.closed(z:Rd):Option Signs:=match z.now with
 |none=>some z.done
 |some d=>if d.rows=[] then none else if d.sign.shape.tight=false then none else some (z.done++ [d.sign])
def fA:List Bytes->List Bytes->Option (List Bytes)
 |had,[]=>some had
 |had,x::r=>if isSound x=false then none else if had.contains x=true then none else if SOUNDS<=had.length then none else fA (had++ [x]) r
def ki(l:Bytes):Option (List Bool):=if l.all (λc=>c==35 ||c==46)=true then some (l.map λc=>c==35) else none
def after(had:Signs)(n:Name):Bool:=match had.getLast? with
 |some s=>s.name.before n
 |none=>true
def sr(d:Dr)(l:Bytes):Bool:=match d.rows with
 | []=>decide (l.length<=SIDE)
 |a::_=>l.length==a.length
def iF(z:Rd)(l:Bytes):Option Rd:=match lu 32 [] l with
 | []=>none
 |first::r=>
  if first=SIGN then z.closed.bind λhad=>match r with
    | []=>none
    |w::u=>(nameOf w).bind λn=>if after had n=false then none else(fA [] u).bind λs=>if SIGNS<=had.length then none else some ⟨had,some ⟨n,s,[]⟩⟩
  else match z.now with
   |none=>none
   |some d=>if l=[] then none else(ki l).bind λc=>if sr d l=false then none else if SIDE<=d.rows.length then none else some ⟨z.done,some {d with rows:=d.rows++ [c]}⟩
def uV:Rd->List Bytes->Option Rd
 |z,[]=>some z
 |z,[x]=>if x=[] then some z else none
 |z,x::r=>(iF z x).bind λy=>uV y r
def uD(t:Bytes):Option Signs:=(uV ⟨[],none⟩ (lu LF [] t)).bind λz=>z.closed.bind λl=>if l=[] then none else some l
def op{α:Type}:Except Fault α->Option α
 | .ok a=>some a
 | .error _=>none
theorem nc{α β:Type}(e:Except Fault α)(f:α->Except Fault β):op (e >>=f)=(op e).bind λa=>op (f a):=by cases e <;> rfl
theorem oR{α:Type}{c:Prop}[Decidable c](a b:Except Fault α):op (if c then a else b)=if c then op a else op b:=by split <;> rfl
theorem Bn(z:Reading)(p:Nat):op (z.closed p)=(rd z).closed:=by
 obtain⟨done,now⟩:=z;cases now with
 |none=>rfl
 |some d=>
  show op (if d.rows=[] then fault 1 p else if d.sign.shape.tight=false then fault 4 d.place else .ok (done++ [d.sign]))=if (dr d).rows=[] then none else if (dr d).sign.shape.tight=false then none else some (done++ [(dr d).sign])
  rw[oR,oR];rfl
theorem AL:∀(l:List (Nat×Bytes)) (had:ac3),op (soundsAt had l)=fA had (l.map λx=>x.2)
 | [],_=>rfl
 |x::r,had=>by
  unfold soundsAt fA;rw[aK];simp only[oR,AL r];rfl
theorem G8:∀(l:Bytes) (p:Nat),op (cellsAt p l)=ki l
 | [],_=>rfl
 |c::r,p=>by
  unfold cellsAt;rw[oR];have ih:=G8 r (p+1);have e:op (do let l <-cellsAt (p+1) r;return (c==35)::l:Except Fault (List Bool))=(ki r).map λl=>(c==35)::l:=by
   rw[nc,ih];cases ki r <;> rfl
  rw[e];unfold ki;rw[be,aK];by_cases h:c=35\/c=46
  ·grind
  ·rw[ae h];have hb:(c==35 ||c==46)=false:=by
    grind
   rw[hb,d8,ae (by decide)];rfl
theorem MU{l:Bytes}{c:List Bool}(h:ki l=some c):c.length=l.length:=by
 unfold ki at h
 grind
theorem Su(z:Reading)(p e:Nat)(l:Bytes):(op (lineAt z p e l)).map rd=iF (rd z) l:=by
 unfold lineAt iF;have hc:=xb 32 l [] p;cases h:cut 32 p [] l with
 |nil=>
  rw[h] at hc;rw[<-hc];rfl
 |cons first r=>
  rw[h,aK] at hc;rw[<-hc];simp only;by_cases h1:first.2=SIGN
  ·rw[ah h1,ah h1,nc,Bn];cases (rd z).closed with
   |none=>rfl
   |some had=>
    simp only[fM];cases r with
    |nil=>rfl
    |cons w u=>
     simp only[aK];cases nameOf w.2 with
     |none=>rfl
     |some n=>
      simp only[fM];show(op (if after had n=false then fault 2 w.1 else _)).map rd=_;rw[oR];by_cases h2:after had n=false
      ·rw[ah h2,ah h2];rfl
      ·rw[ae h2,ae h2,nc,AL];cases fA [] (u.map λx=>x.2) with
       |none=>rfl
       |some s=>
        simp only[fM];rw[oR];split <;> rfl
  ·rw[ae h1,ae h1];obtain⟨done,now⟩:=z;cases now with
   |none=>rfl
   |some d=>
    show(op (if l=[] then fault 1 p else _)).map rd=(if l=[] then none else _);rw[oR];by_cases h2:l=[]
    ·rw[ah h2,ah h2];rfl
    ·rw[ae h2,ae h2,nc,G8];cases hcs:ki l with
     |none=>rfl
     |some c=>
      simp only[fM];have hl:=MU hcs
      have k:(match d.rows with
       | []=>decide (SIDE<c.length)
       |a::_=>c.length !=a.length)=!sr (dr d) l:=by
       unfold sr dr;rw[hl];cases d.rows with
       |nil=>
        grind
       |cons a _=>rfl
      rw[oR];cases hf:sr (dr d) l with
      |false=>exact(bb (Option.map rd) (ah (k.trans (by rw[hf];rfl)))).trans rfl
      |true=>
       refine(bb (Option.map rd) (ae (λq=>by
        have:=k.symm.trans q;rw[hf] at this
        cases this))).trans ?_
       rw[oR];show(if SIDE<=d.rows.length then _ else _:Option Reading).map rd=if SIDE<=d.rows.length then none else _
       split <;> rfl
theorem F0:∀(l:List (Nat×Bytes)) (z:Reading),(op (linesAt z l)).map rd=uV (rd z) (l.map λx=>x.2)
 | [],z=>rfl
 | [x],z=>by
  show(op (if x.2=[] then .ok z else _)).map rd=if x.2=[] then some (rd z) else none
  rw[oR];split
  ·rfl
  ·cases lineAt z x.1 (x.1+x.2.length) x.2 <;> rfl
 |x::y::r,z=>by
  show(op (lineAt z x.1 (x.1+x.2.length) x.2 >>=λw=>linesAt w (y::r))).map rd=(iF (rd z) x.2).bind λw=>uV w ((y::r).map λx=>x.2)
  rw[nc,<-Su z x.1 (x.1+x.2.length) x.2];cases op (lineAt z x.1 (x.1+x.2.length) x.2) with
  |none=>rfl
  |some w=>exact F0 (y::r) w
theorem Ss(t:Bytes):op (readList t)=uD t:=by
 unfold readList uD;have h:=F0 (cut LF 0 [] t) ⟨[],none⟩;rw[xb] at h;have e0:rd ⟨[],none⟩=⟨[],none⟩:=rfl;rw[e0] at h;rw[nc,<-h];cases op (linesAt ⟨[],none⟩ (cut LF 0 [] t)) with
 |none=>rfl
 |some z=>
  simp only[fM,bg];rw[nc,Bn];cases (rd z).closed with
  |none=>rfl
  |some l=>
   simp only[fM];rw[oR];rfl
end LS
namespace MR
open Gh FT
def hd:Bytes->Int
 | []=> -1
 |c::_=>(c.toNat:Int)
def tk(r:Bytes)(w:Int):Bytes:=if hd r=w then r.tail else r
def gd:Bytes->UInt8×Bytes
 | []=>(0,[])
 |c::r=>if isSmall c=true then(c,r) else(0,c::r)
def gP(m:Nat):Nat->Bytes->Nat×Bytes
 |n,[]=>(n,[])
 |n,c::r=>if isDigit c=true then(if m<n*10+(c.toNat - 48) then(0,c::r) else gP m (n*10+(c.toNat - 48)) r) else(n,c::r)
def dZ(m:Nat)(r:Bytes):Nat×Bytes:=if hd r=48 then(0,r) else gP m 0 r
def A1:Bytes->Option (Name×Bytes)
 | []=>none
 |c::r=>if isBig c=true then(if (dZ 999 (gd r).2).1=0 then none else some (⟨c,(gd r).1,(dZ 999 (gd r).2).1,(gd (dZ 999 (gd r).2).2).1⟩,(gd (dZ 999 (gd r).2).2).2)) else none
def vo(n:Name):List Int:=[(n.big.toNat:Int),(n.small.toNat:Int),(n.number:Int),(n.kind.toNat:Int)]
def qs:List Nat->Bytes->List Nat×Bytes
 | [],r=>([],r)
 |k::l,r=>if hd r=48+(k:Int) then(k::(qs l r.tail).1,(qs l r.tail).2) else qs l r
def qR(r:Bytes):Option (List Nat×Bytes):=if hd r=37 then(if (qs [1,2,3,4] r.tail).1=[] then none else some (qs [1,2,3,4] r.tail)) else some ([],r)
def Sk(r:Bytes):Option (Stand×Bytes):=match A1 r with
 |none=>none
 |some (n,r1)=>match qR (tk r1 126) with
  |none=>none
  |some (q,r3)=>some (⟨n,decide (hd r1=126),q,decide (hd r3=63)⟩,tk r3 63)
def Th(r:Bytes):Option ((Nat×List Nat)×Bytes):=if (dZ 32 r).1=0 then none else match qR (dZ 32 r).2 with
 |none=>none
 |some (q,r2)=>some (((dZ 32 r).1,q),r2)
def Nf(r:Bytes):Option (It×Bytes):=if hd r=95 then(match Th r.tail with
 |none=>none
 |some ((k,q),r2)=>some (.gap k q,r2)) else(match Sk r with
 |none=>none
 |some (s,r2)=>some (.stand s,r2))
def nk:It->Bool
 | .stand _=>true
 | .gap _ q=>decide (q=[1,2,3,4])
 | .lost=>false
def dC(l:List It):List It:=l.filter nk
def fJ:Nat->List It->List Nat
 |_,[]=>[]
 |n,.lost::l=>n::fJ n l
 |n,i::l=>fJ (if nk i=true then n+1 else n) l
theorem uF(l:List It)(i:It):dC (l++ [i])=if nk i=true then dC l++ [i] else dC l:=by
 unfold dC
 grind
theorem mQ:∀(l:List It) (n:Nat) (i:It),i≠.lost->fJ n (l++ [i])=fJ n l
 | [],n,.stand _,_=>rfl
 | [],n,.gap _ _,_=>rfl
 | [],n,.lost,h=>absurd rfl h
 | .lost::l,n,i,h=>by
  show n::fJ n (l++ [i])=n::fJ n l;rw[mQ l n i h]
 | .stand s::l,n,i,h=>mQ l _ i h
 | .gap k q::l,n,i,h=>mQ l _ i h
theorem mR:∀(l:List It) (n:Nat),fJ n (l++ [.lost])=fJ n l++ [n+(dC l).length]
 | [],n=>rfl
 | .lost::l,n=>by
  show n::fJ n (l++ [.lost])=n::fJ n l++ [n+(dC (.lost::l)).length];rw[mR l n];rfl
 | .stand s::l,n=>by
  show fJ (n+1) (l++ [.lost])=fJ (n+1) l++ [n+(dC (.stand s::l)).length];rw[mR l (n+1)];have:(dC (.stand s::l)).length=(dC l).length+1:=rfl
  grind
 | .gap k q::l,n=>by
  by_cases h:q=[1,2,3,4]
  ·have e:nk (.gap k q)=true:=ai h;have e1:∀m:List It,fJ n (.gap k q::m)=fJ (n+1) m:=λm=>by
    show fJ (if nk (.gap k q)=true then n+1 else n) m=_;rw[ah e]
   have e2:dC (.gap k q::l)=.gap k q::dC l:=by
    unfold dC;rw[jP,ah e]
   rw[cj,e1,e1,e2,mR l (n+1),aJ,show n+1+(dC l).length=n+((dC l).length+1) by omega]
  ·have e:nk (.gap k q)=false:=ag h;have e1:∀m:List It,fJ n (.gap k q::m)=fJ n m:=λm=>by
    show fJ (if nk (.gap k q)=true then n+1 else n) m=_;rw[ae (by rw[e];decide)]
   have e2:dC (.gap k q::l)=dC l:=by
    unfold dC;rw[jP,ae (by rw[e];decide)]
   rw[cj,e1,e1,e2,mR l n]
end MR
namespace FZ
open Gh FT MR
def res(f:FS)(r:Bytes):Option (List It):=match lL f r with
 |none=>none
 |some g=>if g.whole?=true then some g.out else none
theorem dv(f:FS)(c:UInt8)(r:Bytes):res f (c::r)=match f.step c with
  |none=>none
  |some g=>res g r:=by
 unfold res;rw[lL];cases f.step c <;> rfl
theorem ie{f:FS}(h:f.mode≠.fresh):res f []=none:=by
 unfold res;rw[lL];have:f.whole?=false:=by
  unfold FS.whole?;rw[cc.mpr h,d8]
 simp only[this];rfl
def resB(f:FS):Bytes->Option (List It)
 | []=>none
 |c::r=>match f.begins c with
  |none=>none
  |some g=>res g r
def LG(f:FS)(t:Tag):Bytes->Option (List It)
 | []=>none
 |c::r=>match f.behind t c with
  |none=>none
  |some g=>res g r
def sv(f:FS)(s:Stand)(k:Nat):Bytes->Option (List It)
 | []=>none
 |c::r=>match f.marked s k c with
  |none=>none
  |some g=>res g r
theorem mH(f:FS)(r:Bytes):res {f with mode:=.want} r=resB f r:=by
 cases r with
 |nil=>exact ie nofun
 |cons c r=>
  rw[dv];rfl
theorem AO(f:FS)(t:Tag)(r:Bytes):res {f with mode:=.whole t} r=LG f t r:=by
 cases r with
 |nil=>exact ie nofun
 |cons c r=>
  rw[dv];show(match FS.behind {f with mode:=.whole t} t c with |none=>none|some g=>res g r)=match f.behind t c with |none=>none|some g=>res g r
  have:FS.behind {f with mode:=.whole t} t c=f.behind t c:=by
   unfold FS.behind;rfl
  rw[this]
theorem vG(f:FS)(m:FM)(t:Tag)(c:UInt8):FS.behind {f with mode:=m} t c=f.behind t c:=by
 unfold FS.behind;rfl
theorem vI(f:FS)(m:FM)(c:UInt8):FS.begins {f with mode:=m} c=f.begins c:=by
 unfold FS.begins;rfl
theorem vv(f:FS)(m:FM)(s:Stand)(k:Nat)(c:UInt8):FS.marked {f with mode:=m} s k c=f.marked s k c:=by
 unfold FS.marked FS.behind;rfl
theorem su(f:FS)(s:Stand)(k:Nat)(r:Bytes):res {f with mode:=.mark s k} r=sv f s k r:=by
 cases r with
 |nil=>exact ie nofun
 |cons c r=>
  rw[dv];show(match FS.marked {f with mode:=.mark s k} s k c with |none=>none|some g=>res g r)=match f.marked s k c with |none=>none|some g=>res g r
  rw[vv]
theorem acF:∀a b c:Fin 10,a≠0->decimal (100*a.val+10*b.val+c.val)=[UInt8.ofNat (48+a.val),UInt8.ofNat (48+b.val),UInt8.ofNat (48+c.val)]:=by decide +kernel
theorem acG:∀a b:Fin 10,a≠0->decimal (10*a.val+b.val)=[UInt8.ofNat (48+a.val),UInt8.ofNat (48+b.val)]:=by decide +kernel
theorem acH:∀a:Fin 10,a≠0->decimal a.val=[UInt8.ofNat (48+a.val)]:=by decide +kernel
theorem o9{x:UInt8}(h:isDigit x=true):∃a:Fin 10,x=UInt8.ofNat (48+a.val)/\x.toNat=48+a.val:=by
 unfold isDigit at h;rw[aS,bY,bY] at h;refine⟨⟨x.toNat - 48,by omega⟩,?_,by show x.toNat=48+(x.toNat - 48);omega⟩;show x=UInt8.ofNat (48+(x.toNat - 48));rw[show 48+(x.toNat - 48)=x.toNat by omega];exact(ub (x:=x)).symm
structure Dg(d:Bytes):Prop where
 all:d.all isDigit=true
 len:d.length<=3
 ne:d≠[]
 hd:d.head?≠some 48
theorem Dg.dec{d:Bytes}(h:Dg d):decimal (numberOf d)=d/\1<=numberOf d/\numberOf d<=999:=by
 obtain⟨h1,h2,h3,h4⟩:=h
 match d,h1,h2,h3,h4 with
 | [],_,_,h3,_=>exact absurd rfl h3
 | [x],h1,_,_,h4=>
  rw[be,aS] at h1;obtain⟨a,rfl,e⟩:=o9 h1.1;have ha:a≠0:=λq=>by subst q;exact h4 rfl
  have e1:numberOf [UInt8.ofNat (48+a.val)]=a.val:=by
   show 10*0+((UInt8.ofNat (48+a.val)).toNat - 48)=_;rw[e];omega
  have:=a.isLt;have hp:0<a.val:=qG λq=>ha (Fin.ext q)
  rw[e1];exact⟨acH a ha,hp,by omega⟩
 | [x,y],h1,_,_,h4=>
  rw[be,be,aS,aS] at h1;obtain⟨a,rfl,ea⟩:=o9 h1.1;obtain⟨b,rfl,eb⟩:=o9 h1.2.1;have ha:a≠0:=λq=>by subst q;exact h4 rfl
  have e1:numberOf [UInt8.ofNat (48+a.val),UInt8.ofNat (48+b.val)]=10*a.val+b.val:=by
   show 10*(10*0+((UInt8.ofNat (48+a.val)).toNat - 48))+((UInt8.ofNat (48+b.val)).toNat - 48)=_;rw[ea,eb];omega
  have:=a.isLt;have:=b.isLt;have hp:0<a.val:=qG λq=>ha (Fin.ext q)
  rw[e1];exact⟨acG a b ha,by omega,by omega⟩
 | [x,y,z],h1,_,_,h4=>
  rw[be,be,be,aS,aS,aS] at h1;obtain⟨a,rfl,ea⟩:=o9 h1.1;obtain⟨b,rfl,eb⟩:=o9 h1.2.1;obtain⟨c,rfl,ec⟩:=o9 h1.2.2.1;have ha:a≠0:=λq=>by subst q;exact h4 rfl
  have e1:numberOf [UInt8.ofNat (48+a.val),UInt8.ofNat (48+b.val),UInt8.ofNat (48+c.val)]=100*a.val+10*b.val+c.val:=by
   show 10*(10*(10*0+((UInt8.ofNat (48+a.val)).toNat - 48))+((UInt8.ofNat (48+b.val)).toNat - 48))+((UInt8.ofNat (48+c.val)).toNat - 48)=_;rw[ea,eb,ec];omega
  have:=a.isLt;have:=b.isLt;have:=c.isLt;have hp:0<a.val:=qG λq=>ha (Fin.ext q)
  rw[e1];exact⟨acF a b c ha,by omega,by omega⟩
 |_::_::_::_::_,_,h2,_,_=>simp at h2
def nb(c s:UInt8):Bytes:=if s=0 then [c] else [c,s]
def kb(k:UInt8):Bytes:=if k=0 then [] else [k]
theorem gE{x:UInt8}(h:isSmall x=true):x≠0:=λq=>by subst q;exact absurd h (by decide)
theorem uv{x:UInt8}(h:isSmall x=true):isDigit x=false:=by
 unfold isSmall at h;unfold isDigit
 grind
theorem pZ{x:UInt8}(h:isDigit x=true):isSmall x=false:=by
 cases q:isSmall x with
 |false=>rfl
 |true=>rw[uv q] at h;cases h
theorem px{d r:Bytes}(h:d.all isDigit=true)(hr:∀x,r.head?=some x->isDigit x=false):(d++r).takeWhile isDigit=d/\(d++r).drop d.length=r:=by
 refine⟨?_,by simp⟩
 induction d with
 |nil=>
  cases r with
  |nil=>rfl
  |cons x r=>
   rw[bE,bQ,ae (by rw[hr x rfl];decide)]
 |cons y d ih=>
  rw[be,aS] at h;rw[cj,bQ,ah h.1,ih h.2]
theorem pU{c s k:UInt8}{d:Bytes}(hc:isBig c=true)(hs:s=0\/isSmall s=true)(hd:Dg d)(hk:k=0\/isSmall k=true):nameOf (nb c s++(d++kb k))=some ⟨c,s,numberOf d,k⟩:=by
 obtain⟨e1,e2,e3⟩:=hd.dec;have Mv:∀x,(kb k).head?=some x->isDigit x=false:=λx hx=>by
  unfold kb at hx;rcases hk with rfl|hk
  ·rw[ah rfl] at hx;cases hx
  ·rw[ae (gE hk)] at hx;cases hx;exact uv hk
 obtain⟨t1,t2⟩:=px hd.all Mv;have PQ:(kb k).length<=1:=by unfold kb;split <;> simp
 have hkh:(kb k).headD 0=k:=by
  unfold kb;split
  ·rename_i q;rw[q];rfl
  ·rfl
 have VU:Name.right ⟨c,s,numberOf d,k⟩=true:=by
  unfold Name.right
  grind
 have Zf:Name.text ⟨c,s,numberOf d,k⟩=nb c s++(d++kb k):=by
  unfold Name.text nb kb
  grind
 have fin:∀w:Bytes,w=nb c s++(d++kb k)->(if d≠[]/\d.length<=3/\d.head?≠some 48/\(kb k).length<=1/\Name.right ⟨c,s,numberOf d,k⟩=true/\Name.text ⟨c,s,numberOf d,k⟩=w then some (⟨c,s,numberOf d,k⟩:Name) else none)=some ⟨c,s,numberOf d,k⟩:=λw hw=>ah ⟨hd.ne,hd.len,hd.hd,PQ,VU,by rw[Zf,hw]⟩
 have hw:=fin _ rfl;rcases hs with rfl|hs
 ·cases hdd:d with
  |nil=>exact absurd hdd hd.ne
  |cons y d'=>
   have hy:=hd.all;rw[hdd,be,aS] at hy;have e:nb c 0=[c]:=rfl;rw[e] at hw ⊢;rw[hdd] at hw t1 t2;show nameOf (c::y::(d'++kb k))=_;have t1':(y::(d'++kb k)).takeWhile isDigit=y::d':=t1;have t2':(y::(d'++kb k)).drop (y::d').length=kb k:=t2;unfold nameOf;simp only[pZ hy.1,bZ,↓reduceIte,t1',t2',hkh];exact hw
 ·have e:nb c s=[c,s]:=by unfold nb;rw[ae (gE hs)]
  rw[e] at hw ⊢;show nameOf (c::s::(d++kb k))=_;unfold nameOf;simp only[hs,↓reduceIte,gE hs,List.drop_succ_cons,List.drop_zero,t1,t2,hkh];exact hw
theorem vq{c s:UInt8}(hs:s=0\/isSmall s=true):nameOf (nb c s)=none:=by
 rcases hs with rfl|hs
 ·show nameOf [c]=none;unfold nameOf;simp
 ·have e:nb c s=[c,s]:=by unfold nb;rw[ae (gE hs)]
  rw[e];unfold nameOf;simp[hs,gE hs]
theorem tI{c s:UInt8}{d e:Bytes}(hc:isBig c=true)(hs:(s=0/\∀x,(d++e).head?=some x->isSmall x=false)\/isSmall s=true)(hd:d.all isDigit=true)(he:∀x,e.head?=some x->isDigit x=false): nameGoes (nb c s++(d++e))=(decide (d.length<=3)&&(d.head? !=some (48:UInt8)&&(e.isEmpty ||(!d.isEmpty&&(decide (e.length=1)&&e.all isSmall))))):=by
 obtain⟨t1,t2⟩:=px hd he;rcases hs with ⟨rfl,hs⟩|hs
 ·show nameGoes (c::(d++e))=_;unfold nameGoes;generalize hg:d++e=g at hs t1 t2;cases g with
  |nil=>simp only[t1,t2,hc,iN]
  |cons x v=>simp only[hs x rfl,bZ,↓reduceIte,t1,t2,hc,iN]
 ·have e0:nb c s=[c,s]:=by unfold nb;rw[ae (gE hs)]
  rw[e0];show nameGoes (c::s::(d++e))=_;unfold nameGoes
  grind
theorem Hb{f:FS}{t:Tag}{c:UInt8}(h:c∉([38,42,58,41,59,93,32,10,62]:Bytes)):f.behind t c=none:=by
 simp only[ba,de,UU,not_or] at h;obtain⟨h1,h2,h3,h4,h5,h6,h7,h8,h9⟩:=h;unfold FS.behind;cases f.stack with
 |nil=>rfl
 |cons u r=>
  simp only[h1,h2,h3,↓reduceIte];split
  ·rfl
  ·cases u.kind with
   |paren=>simp[h4]
   |nest=>simp[h5,h6]
   |block=>
    cases f.ring with
    |none=>simp[h7,LF,h8]
    |some n=>simp[h7,h9]
theorem Tu{x:UInt8}(h:isDigit x=true):x∉([38,42,58,41,59,93,32,10,62]:Bytes)/\x≠126/\x≠37/\x≠63/\x≠91:=by
 unfold isDigit at h;rw[aS,bY,bY] at h;have ne:∀n:UInt8,n.toNat<48\/57<n.toNat->x≠n:=λn hn q=>by subst q;omega
 refine⟨?_,ne _ (by decide),ne _ (by decide),ne _ (by decide),ne _ (by decide)⟩;simp only[ba,de,UU,not_or];exact⟨ne _ (by decide),ne _ (by decide),ne _ (by decide),ne _ (by decide),ne _ (by decide),ne _ (by decide),ne _ (by decide),ne _ (by decide),ne _ (by decide)⟩
theorem Iz{f:FS}{s:Stand}{x:UInt8}(h:isDigit x=true):f.marked s 0 x=none:=by
 obtain⟨h1,h2,h3,h4,h5⟩:=Tu h;unfold FS.marked;simp[h2,h3,h4,h5,Hb h1]
theorem g7(d:Bytes)(x:UInt8):numberOf (d++ [x])=10*numberOf d+(x.toNat - 48):=by
 unfold numberOf;rw[List.foldl_append];rfl
theorem kQ(f:FS)(w:Bytes)(c:UInt8):FS.step {f with mode:=.name w} c=if nameGoes (w++ [c])=true then some {f with mode:=.name (w++ [c])} else(match nameOf w with
  |some n=>f.marked ⟨n,false,[],false⟩ 0 c
  |none=>none):=by
 show(if nameGoes (w++ [c])=true then _ else _)=_;split
 ·rfl
 ·cases nameOf w with
  |none=>rfl
  |some n=>exact vv f _ _ _ _
theorem E6{f:FS}{w:Bytes}{n:Name}{r:Bytes}(hn:nameOf w=some n)(hg:∀x,r.head?=some x->nameGoes (w++ [x])=false):res {f with mode:=.name w} r=sv f ⟨n,false,[],false⟩ 0 r:=by
 cases r with
 |nil=>exact ie nofun
 |cons x r=>
  rw[dv,kQ,hg x rfl,hn];rfl
theorem E5{f:FS}{w:Bytes}{r:Bytes}(hn:nameOf w=none)(hg:∀x,r.head?=some x->nameGoes (w++ [x])=false):res {f with mode:=.name w} r=none:=by
 cases r with
 |nil=>exact ie nofun
 |cons x r=>
  rw[dv,kQ,hg x rfl,hn];rfl
theorem Kb{d:Bytes}(h1:d.all isDigit=true)(h2:d.length<=3)(h4:d.head?≠some 48):numberOf d=0↔d=[]:=by
 constructor
 ·intro q;cases d with
  |nil=>rfl
  |cons x d=>
   have:=(Dg.dec ⟨h1,h2,(by simp),h4⟩).2.1;omega
 ·rintro rfl;rfl
theorem y1(f:FS){c s:UInt8}(hc:isBig c=true):∀(r ds:Bytes),ds.all isDigit=true->ds.length<=3->ds.head?≠some 48-> ((s=0/\(ds=[]->∀x,r.head?=some x->isSmall x=false))\/isSmall s=true)->(ds=[]->r.head?≠some 48)-> res {f with mode:=.name (nb c s++ds)} r=if (gP 999 (numberOf ds) r).1=0 then none else sv f ⟨⟨c,s,(gP 999 (numberOf ds) r).1,(gd (gP 999 (numberOf ds) r).2).1⟩,false,[],false⟩ 0 (gd (gP 999 (numberOf ds) r).2).2
 | [],ds,h1,h2,h3,h4,h5=>by
  rw[ie (f:={f with mode:=.name (nb c s++ds)}) nofun];show none=if numberOf ds=0 then none else sv f _ 0 []
  split <;> rfl
 |x::r,ds,h1,h2,h3,h4,h5=>by
  have qp:s=0\/isSmall s=true:=h4.imp (λq=>q.1) id;by_cases hx:isDigit x=true
  ·
   have eG:gP 999 (numberOf ds) (x::r)=if 999<numberOf ds*10+(x.toNat - 48) then(0,x::r) else gP 999 (numberOf ds*10+(x.toNat - 48)) r:=by
    show(if isDigit x=true then _ else _)=_;rw[ah hx]
   have i9:(ds++ [x]).all isDigit=true:=by rw[kM,h1,be,hx];rfl
   have Xj:(ds++ [x]).head?≠some 48:=by
    cases ds with
    |nil=>exact h5 rfl
    |cons y ds=>exact h3
   have tE:(s=0/\∀z,((ds++ [x])++ []).head?=some z->isSmall z=false)\/isSmall s=true:=by
    rcases h4 with ⟨q,_⟩|q
    ·refine .inl ⟨q,λz hz=>?_⟩;rw[aI] at hz;have:isDigit z=true:=bU.mp i9 z (List.mem_of_mem_head? hz);exact pZ this
    ·exact .inr q
   have hg:=tI (c:=c) (e:=[]) hc tE i9 (λ_=>nofun);rw[aI] at hg;by_cases hl:ds.length=3
   ·
    have hge:100<=numberOf ds:=by
     match ds,hl,h1,h3 with
     | [a,b,e],_,h1,h3=>
      rw[be,be,be,aS] at h1;obtain⟨a',rfl,ea⟩:=o9 h1.1;have ha:a'.val≠0:=λq=>h3 (by show some (UInt8.ofNat (48+a'.val))=some 48;rw[q];rfl)
      show 100<=10*(10*(10*0+((UInt8.ofNat (48+a'.val)).toNat - 48))+(b.toNat - 48))+(e.toNat - 48);rw[ea];omega
    rw[eG,ah (show 999<numberOf ds*10+(x.toNat - 48) by omega)];simp only[↓reduceIte];have hgf:nameGoes (nb c s++ds++ [x])=false:=by
     grind
    have hD:Dg ds:=⟨h1,h2,(λq=>by rw[q] at hl;cases hl),h3⟩;have hn:=pU hc qp hD (k:=0) (.inl rfl);rw[show kb 0=[] from rfl,aI] at hn;rw[dv,kQ,hgf,hn];simp only[bZ,↓reduceIte];rw[Iz hx]
   ·have hgt:nameGoes (nb c s++ds++ [x])=true:=by
     grind
    rw[dv,kQ,hgt];simp only[↓reduceIte]
    have ih:=y1 f (c:=c) (s:=s) hc r (ds++ [x]) i9 (by rw[aw];show ds.length+1<=3;omega) Xj (by
     rcases h4 with ⟨q,_⟩|q
     ·grind
     ·exact .inr q) (λz=>absurd z (by simp))
    rw[<-az] at ih;rw[ih,g7,eG];have hle:=(Dg.dec ⟨i9,by rw[aw];show ds.length+1<=3;omega,by simp,Xj⟩).2.2;rw[g7] at hle
    grind
  ·
   have Rb:isDigit x=false:=by rwa[eT] at hx
   have eG:gP 999 (numberOf ds) (x::r)=(numberOf ds,x::r):=by
    show(if isDigit x=true then _ else _)=_;rw[ae hx]
   rw[eG];simp only;have he:∀z,([x]:Bytes).head?=some z->isDigit z=false:=λz hz=>by cases hz;exact Rb
   have tE:(s=0/\∀z,(ds++ [x]).head?=some z->isSmall z=false)\/isSmall s=true:=by
    rcases h4 with ⟨q,q2⟩|q
    ·refine .inl ⟨q,λz hz=>?_⟩;cases ds with
     |nil=>
      cases hz;exact q2 rfl x rfl
     |cons y ds=>
      cases hz;rw[be,aS] at h1;exact pZ h1.1
    ·exact .inr q
   have hg:=tI (c:=c) (e:=[x]) hc tE h1 he;by_cases hz:ds=[]
   ·rw[ah ((Kb h1 h2 h3).mpr hz)];subst hz;rw[aI];refine E5 (vq qp) λz hz'=>?_
    grind
   ·rw[ae (λq=>hz ((Kb h1 h2 h3).mp q))];have hD:Dg ds:=⟨h1,h2,hz,h3⟩;have hb:(ds.head? !=some (48:UInt8))=true:=by rw[bne_iff_ne];exact h3
    have acg:ds.isEmpty=false:=by
     cases ds with
     |nil=>exact absurd rfl hz
     |cons _ _=>rfl
    rw[ai h2,hb,acg] at hg;by_cases hS:isSmall x=true
    ·
     have hgt:nameGoes (nb c s++ds++ [x])=true:=by
      grind
     have eL:gd (x::r)=(x,r):=by
      show(if isSmall x=true then _ else _)=_;rw[ah hS]
     rw[dv,kQ,hgt,eL];simp only[↓reduceIte];have hn:=pU hc qp hD (k:=x) (.inr hS);have ek:kb x=[x]:=by unfold kb;rw[ae (gE hS)]
     rw[ek,<-az] at hn;refine E6 hn λz hz'=>?_
     have W8:(s=0/\∀y,(ds++ [x,z]).head?=some y->isSmall y=false)\/isSmall s=true:=by
      grind
     have Wc:=tI (c:=c) (e:=[x,z]) hc W8 h1 (λy hy=>by cases hy;exact Rb)
     grind
    ·have eL:gd (x::r)=(0,x::r):=by
      show(if isSmall x=true then _ else _)=_;rw[ae hS]
     have MG:isSmall x=false:=by rwa[eT] at hS
     rw[eL];have hn:=pU hc qp hD (k:=0) (.inl rfl);rw[show kb 0=[] from rfl,aI] at hn;refine E6 hn λz hz'=>?_
     grind
theorem O9{r:Bytes}:(gd r).1=0/\(gd r).2=r/\(∀x,r.head?=some x->isSmall x=false)\/isSmall (gd r).1=true/\r=(gd r).1::(gd r).2:=by
 cases r with
 |nil=>exact .inl ⟨rfl,rfl,λ_=>nofun⟩
 |cons x r=>
  by_cases h:isSmall x=true
  ·have e:gd (x::r)=(x,r):=by show(if isSmall x=true then _ else _)=_;rw[ah h]
   rw[e];exact .inr ⟨h,rfl⟩
  ·have e:gd (x::r)=(0,x::r):=by show(if isSmall x=true then _ else _)=_;rw[ae h]
   grind
theorem MB{r:Bytes}:hd r=48↔r.head?=some 48:=by
 cases r with
 |nil=>exact⟨λq=>absurd (show(-1:Int)=48 from q) (by decide),nofun⟩
 |cons x r=>
  constructor
  ·intro q;have:(x.toNat:Int)=48:=q;have e:x=48:=b8.mp (show x.toNat=48 by omega);rw[e];rfl
  ·intro q;cases q;rfl
theorem OR(f:FS){c:UInt8}(hc:isBig c=true)(r:Bytes):res {f with mode:=.name [c]} r=match A1 (c::r) with
  |none=>none
  |some (n,r')=>sv f ⟨n,false,[],false⟩ 0 r':=by
 have e0:A1 (c::r)=if (dZ 999 (gd r).2).1=0 then none else some (⟨c,(gd r).1,(dZ 999 (gd r).2).1,(gd (dZ 999 (gd r).2).2).1⟩,(gd (dZ 999 (gd r).2).2).2):=by
  show(if isBig c=true then _ else _)=_;rw[ah hc]
 rw[e0]
 have main:∀(s:UInt8) (r1:Bytes),((s=0/\∀x,r1.head?=some x->isSmall x=false)\/isSmall s=true)->res {f with mode:=.name (nb c s)} r1=(match (if (dZ 999 r1).1=0 then none else some ((⟨c,s,(dZ 999 r1).1,(gd (dZ 999 r1).2).1⟩:Name),(gd (dZ 999 r1).2).2)) with
   |none=>none
   |some (n,r')=>sv f ⟨n,false,[],false⟩ 0 r'):=by
  intro s r1 hs;have qp:s=0\/isSmall s=true:=hs.imp (λq=>q.1) id;unfold dZ;by_cases h48:hd r1=48
  ·rw[ah h48];simp only[↓reduceIte];have acx:=MB.mp h48;refine E5 (vq qp) λx hx=>?_
   rw[acx] at hx;cases hx
   have hg:=tI (c:=c) (s:=s) (d:=[48]) (e:=[]) hc (by
    rcases hs with ⟨q,q2⟩|q
    ·grind
    ·exact .inr q) (by decide) (λ_=>nofun)
   rw[aI] at hg;rw[hg];rfl
  ·rw[ae h48];have h:=y1 f (c:=c) (s:=s) hc r1 [] rfl (aD _) nofun (hs.imp (λq=>⟨q.1,λ_=>q.2⟩) id) (λ_ q=>h48 (MB.mpr q));rw[aI] at h;rw[h];show(if (gP 999 0 r1).1=0 then none else _)=_;split <;> rfl
 rcases O9 (r:=r) with ⟨l1,l2,l3⟩|⟨l1,l2⟩
 ·have h:=main 0 r (.inl ⟨rfl,l3⟩);rw[l1,l2];exact h
 ·generalize (gd r).1=s at l1 l2 ⊢;generalize (gd r).2=r1 at l2 ⊢;subst l2;have hg:nameGoes ([c]++ [s])=true:=by
   have:=tI (c:=c) (s:=s) (d:=[]) (e:=[]) hc (.inr l1) rfl (λ_=>nofun);rw[aI,aI] at this;have e:nb c s=[c,s]:=by unfold nb;rw[ae (gE l1)]
   rw[e] at this;exact this
  rw[dv,kQ,hg];simp only[↓reduceIte];have h:=main s r1 (.inr l1);have e:nb c s=[c]++ [s]:=by unfold nb;rw[ae (gE l1)];rfl
  rw[e] at h;exact h
end FZ
namespace FZ
open Gh FT MR
theorem jB{x:UInt8}{r:Bytes}{n:Nat}(h:n<256):hd (x::r)=(n:Int)↔x=UInt8.ofNat n:=by
 constructor
 ·intro q;have:(x.toNat:Int)=n:=q;exact b8.mp (by rw[Xy h];omega)
 ·rintro rfl;show((UInt8.ofNat n).toNat:Int)=n;rw[Xy h]
theorem O5(f:FS)(n:Name)(r:Bytes):sv f ⟨n,false,[],false⟩ 0 r=sv f ⟨n,decide (hd r=126),[],false⟩ 1 (tk r 126):=by
 cases r with
 |nil=>rfl
 |cons x r=>
  unfold tk;by_cases h:hd (x::r)=126
  ·rw[ah h,ai h];have hx:x=126:=(jB (n:=126) (by decide)).mp h;subst hx;show(match f.marked ⟨n,false,[],false⟩ 0 126 with |none=>none|some g=>res g r)=sv f ⟨n,true,[],false⟩ 1 r;have e:f.marked ⟨n,false,[],false⟩ 0 126=some {f with mode:=.mark ⟨n,true,[],false⟩ 1}:=by
    unfold FS.marked;simp
   rw[e];exact su f _ _ r
  ·rw[ae h,ag h];have hx:x≠126:=λq=>h ((jB (n:=126) (by decide)).mpr q)
   show(match f.marked ⟨n,false,[],false⟩ 0 x with |none=>none|some g=>res g r)=match f.marked ⟨n,false,[],false⟩ 1 x with |none=>none|some g=>res g r
   have e:f.marked ⟨n,false,[],false⟩ 0 x=f.marked ⟨n,false,[],false⟩ 1 x:=by
    unfold FS.marked;simp[hx]
   rw[e]
def NoQ(acc:ac2)(k:Nat)(r:Bytes):Prop:=∀m,1<=m->m<k->(∀x∈acc,x<m)->hd r≠48+(m:Int)
theorem QV{acc:ac2}{k:Nat}:(acc.all λ(j:Nat)=>decide (j<k))=true↔∀x∈acc,x<k:=by
 grind
theorem Oo(f:FS)(n:Name)(b:Bool):∀(i k:Nat),k+i=5->1<=k->∀(acc:ac2) (r:Bytes),(∀x∈acc,x<k)->NoQ acc k r-> sv f ⟨n,b,acc,false⟩ (if acc=[] then 2 else 3) r=(if acc++(qs (List.range' k i) r).1=[] then none else sv f ⟨n,b,acc++(qs (List.range' k i) r).1,false⟩ 3 (qs (List.range' k i) r).2)/\ NoQ (acc++(qs (List.range' k i) r).1) 5 (qs (List.range' k i) r).2
 |0,k,hk,h1,acc,r,gV,rS=>by
  have e:qs (List.range' k 0) r=([],r):=rfl;rw[e,aI];have hk5:k=5:=by omega
  subst hk5;refine⟨?_,rS⟩;by_cases ha:acc=[]
  ·subst ha;rw[ah rfl,ah rfl];cases r with
   |nil=>rfl
   |cons x r=>
    show(match f.marked ⟨n,b,[],false⟩ 2 x with |none=>none|some g=>res g r)=none;have:f.marked ⟨n,b,[],false⟩ 2 x=none:=by
     unfold FS.marked;have We:¬(49<=x.toNat/\x.toNat<=52):=λq=>rS (x.toNat - 48) (by omega) (by omega) (λ_=>nofun) (by show(x.toNat:Int)=48+((x.toNat - 48:Nat):Int);omega)
     simp;intro q1;omega
    rw[this]
  ·rw[ae ha,ae ha]
 |i+1,k,hk,h1,acc,r,gV,rS=>by
  have e:qs (List.range' k (i+1)) r=if hd r=48+(k:Int) then(k::(qs (List.range' (k+1) i) r.tail).1,(qs (List.range' (k+1) i) r.tail).2) else qs (List.range' (k+1) i) r:=rfl
  by_cases h:hd r=48+(k:Int)
  ·rw[e,ah h];cases r with
   |nil=>exact absurd (show(-1:Int)=48+(k:Int) from h) (by omega)
   |cons x r=>
    have hx:x.toNat=48+k:=by have:(x.toNat:Int)=48+(k:Int):=h;omega
    have ih:=Oo f n b i (k+1) (by omega) (by omega) (acc++ [k]) r (λy hy=>by
     rcases bx.mp hy with q|q
     ·exact fj (gV y q)
     ·rw[aE.mp q];exact gW _) (λm q1 q2 q3=>absurd (q3 k (by simp)) (by omega))
    rw[ae (by simp),az] at ih;refine⟨?_,ih.2⟩;refine Eq.trans ?_ ih.1;show(match f.marked ⟨n,b,acc,false⟩ (if acc=[] then 2 else 3) x with |none=>none|some g=>res g r)=_;have em:f.marked ⟨n,b,acc,false⟩ (if acc=[] then 2 else 3) x=some {f with mode:=.mark ⟨n,b,acc++ [k],false⟩ 3}:=by
     have c1:¬(x=126/\(if acc=[] then 2 else 3)=0):=λq=>by
      grind
     have c2:¬(x=37/\(if acc=[] then 2 else 3)<=1):=λq=>by
      grind
     have c3:((if acc=[] then 2 else 3)=2\/(if acc=[] then 2 else 3)=3)/\49<=x.toNat/\x.toNat<=52/\(acc.all λ(j:Nat)=>decide (j<x.toNat - 48))=true:=by
      grind
     unfold FS.marked
     grind
    rw[em];exact su f _ _ r
  ·rw[e,ae h]
   exact Oo f n b i (k+1) (by omega) (by omega) acc r (λy hy=>fj (gV y hy)) (λm q1 q2 q3=>by
    rcases XC.mp q2 with q|q
    ·exact rS m q1 q q3
    ·rw[q];exact h)
def Of(f:FS):Bytes->Option (List It)
 | []=>none
 |c::r=>if c=91 then res {f with stack:=FU.new .nest::f.stack,mode:=.place []} r else match f.behind .one c with
  |none=>none
  |some g=>res g r
theorem O6(f:FS)(s:Stand)(r:Bytes):sv f {s with unsure:=true} 4 r=Of {f with out:=f.out++ [.stand {s with unsure:=true}]} r:=by
 cases r with
 |nil=>rfl
 |cons x r=>
  show(match f.marked {s with unsure:=true} 4 x with |none=>none|some g=>res g r)=if x=91 then _ else _
  unfold FS.marked
  grind
theorem FQ(f:FS)(n:Name)(b:Bool)(q:ac2)(k:Nat)(r:Bytes)(hk:(k=1/\hd r≠37)\/(k=3/\NoQ q 5 r)):sv f ⟨n,b,q,false⟩ k r=Of {f with out:=f.out++ [.stand ⟨n,b,q,decide (hd r=63)⟩]} (tk r 63):=by
 cases r with
 |nil=>rfl
 |cons x r=>
  have c1:¬(x=126/\k=0):=λz=>by rcases hk with ⟨h,_⟩|⟨h,_⟩ <;> omega
  have c2:¬(x=37/\k<=1):=λz=>by
   rcases hk with ⟨_,h⟩|⟨h,_⟩
   ·exact h ((jB (n:=37) (by decide)).mpr z.1)
   ·omega
  have c3:¬((k=2\/k=3)/\49<=x.toNat/\x.toNat<=52/\(q.all λ(j:Nat)=>decide (j<x.toNat - 48))=true):=λz=>by
   rcases hk with ⟨h,_⟩|⟨_,h⟩
   ·omega
   ·exact h (x.toNat - 48) (by omega) (by omega) (QV.mp z.2.2.2) (by show(x.toNat:Int)=48+((x.toNat - 48:Nat):Int);omega)
  have c4:¬k=2:=by rcases hk with ⟨h,_⟩|⟨h,_⟩ <;> omega
  have c5:k≠4:=by rcases hk with ⟨h,_⟩|⟨h,_⟩ <;> omega
  unfold tk;by_cases h:hd (x::r)=63
  ·rw[ah h,ai h];have hx:x=63:=(jB (n:=63) (by decide)).mp h;subst hx;show(match f.marked ⟨n,b,q,false⟩ k 63 with |none=>none|some g=>res g r)=_;have e:f.marked ⟨n,b,q,false⟩ k 63=some {f with mode:=.mark ⟨n,b,q,true⟩ 4}:=by
    unfold FS.marked;rw[ae c1,ae c2,ae c3,ae c4,ah ⟨rfl,c5⟩]
   rw[e];show res {f with mode:=.mark ⟨n,b,q,true⟩ 4} r=_;rw[su];exact O6 f ⟨n,b,q,false⟩ r
  ·rw[ae h,ag h];have hx:¬(x=63/\k≠4):=λz=>h ((jB (n:=63) (by decide)).mpr z.1)
   show(match f.marked ⟨n,b,q,false⟩ k x with |none=>none|some g=>res g r)=if x=91 then _ else _
   unfold FS.marked
   grind
theorem L9(f:FS)(n:Name)(r:Bytes):sv f ⟨n,false,[],false⟩ 0 r=match qR (tk r 126) with
  |none=>none
  |some (q,r3)=>Of {f with out:=f.out++ [.stand ⟨n,decide (hd r=126),q,decide (hd r3=63)⟩]} (tk r3 63):=by
 rw[O5];generalize decide (hd r=126)=b;generalize tk r 126=r1;unfold qR;by_cases h:hd r1=37
 ·rw[ah h];cases r1 with
  |nil=>exact absurd (show(-1:Int)=37 from h) (by decide)
  |cons x r1=>
   have hx:x=37:=(jB (n:=37) (by decide)).mp h;subst hx;have e:f.marked ⟨n,b,[],false⟩ 1 37=some {f with mode:=.mark ⟨n,b,[],false⟩ 2}:=by
    unfold FS.marked;simp
   show(match f.marked ⟨n,b,[],false⟩ 1 37 with |none=>none|some g=>res g r1)=_;rw[e];show res {f with mode:=.mark ⟨n,b,[],false⟩ 2} r1=_;rw[su];have hq:=Oo f n b 4 1 rfl (aA _) [] r1 (λ_=>nofun) (λm q1 q2=>by omega);rw[ah rfl,bE,show List.range' 1 4=[1,2,3,4] from rfl] at hq;rw[hq.1];show(if (qs [1,2,3,4] r1).1=[] then none else _)=match (if (qs [1,2,3,4] r1).1=[] then none else some (qs [1,2,3,4] r1)) with |none=>none|some (q,r3)=>_
   by_cases hz:(qs [1,2,3,4] r1).1=[]
   ·rw[ah hz,ah hz]
   ·rw[ae hz,ae hz];exact FQ f n b _ 3 _ (.inr ⟨rfl,hq.2⟩)
 ·rw[ae h];exact FQ f n b [] 1 r1 (.inl ⟨rfl,h⟩)
theorem IY(f:FS)(z:Nat):∀(i k:Nat),k+i=5->1<=k->∀(acc:ac2) (r:Bytes),(∀x∈acc,x<k)->NoQ acc k r-> res {f with mode:=.gapMark z acc} r=(if acc++(qs (List.range' k i) r).1=[] then none else LG {f with out:=f.out++ [.gap z (acc++(qs (List.range' k i) r).1)]} .one (qs (List.range' k i) r).2)
 |0,k,hk,h1,acc,r,gV,rS=>by
  have e:qs (List.range' k 0) r=([],r):=rfl;rw[e,aI];have hk5:k=5:=by omega
  subst hk5;cases r with
  |nil=>
   rw[ie (f:={f with mode:=.gapMark z acc}) nofun];split <;> rfl
  |cons x r=>
   have c3:¬(49<=x.toNat/\x.toNat<=52/\(acc.all λ(j:Nat)=>decide (j<x.toNat - 48))=true):=λq=>rS (x.toNat - 48) (by omega) (by omega) (QV.mp q.2.2) (by show(x.toNat:Int)=48+((x.toNat - 48:Nat):Int);omega)
   rw[dv];show(match (if 49<=x.toNat/\x.toNat<=52/\(acc.all λ(j:Nat)=>decide (j<x.toNat - 48))=true then _ else if acc.isEmpty=true then none else FS.behind {f with out:=f.out++ [.gap z acc],mode:=.gapMark z acc} .one x) with |none=>none|some g=>res g r)=_;rw[ae c3];by_cases ha:acc=[]
   ·subst ha;rfl
   ·rw[ae ha,ae (by simpa using ha),vG {f with out:=f.out++ [.gap z acc]}];rfl
 |i+1,k,hk,h1,acc,r,gV,rS=>by
  have e:qs (List.range' k (i+1)) r=if hd r=48+(k:Int) then(k::(qs (List.range' (k+1) i) r.tail).1,(qs (List.range' (k+1) i) r.tail).2) else qs (List.range' (k+1) i) r:=rfl
  by_cases h:hd r=48+(k:Int)
  ·rw[e,ah h];cases r with
   |nil=>exact absurd (show(-1:Int)=48+(k:Int) from h) (by omega)
   |cons x r=>
    have hx:x.toNat=48+k:=by have:(x.toNat:Int)=48+(k:Int):=h;omega
    have ih:=IY f z i (k+1) (by omega) (by omega) (acc++ [k]) r (λy hy=>by
     rcases bx.mp hy with q|q
     ·exact fj (gV y q)
     ·rw[aE.mp q];exact gW _) (λm q1 q2 q3=>absurd (q3 k (by simp)) (by omega))
    rw[az] at ih;refine Eq.trans ?_ ih;rw[dv];have c3:49<=x.toNat/\x.toNat<=52/\(acc.all λ(j:Nat)=>decide (j<x.toNat - 48))=true:=by
     grind
    show(match (if 49<=x.toNat/\x.toNat<=52/\(acc.all λ(j:Nat)=>decide (j<x.toNat - 48))=true then some {f with mode:=.gapMark z (acc++ [x.toNat - 48])} else _) with |none=>none|some g=>res g r)=_;rw[ah c3,show x.toNat - 48=k by omega]
  ·rw[e,ae h]
   exact IY f z i (k+1) (by omega) (by omega) acc r (λy hy=>fj (gV y hy)) (λm q1 q2 q3=>by
    rcases XC.mp q2 with q|q
    ·exact rS m q1 q q3
    ·rw[q];exact h)
def Oe(f:FS)(z:Nat)(r:Bytes):Option (List It):=match qR r with
 |none=>none
 |some (q,r2)=>LG {f with out:=f.out++ [.gap z q]} .one r2
theorem Gw(f:FS):∀(r w:Bytes),(w=[]\/1<=numberOf w)->(w=[]->r.head?≠some 48)->numberOf w<=32->res {f with mode:=.gap w} r=if (gP 32 (numberOf w) r).1=0 then none else Oe f (gP 32 (numberOf w) r).1 (gP 32 (numberOf w) r).2
 | [],w,h1,h2,h3=>by
  rw[ie (f:={f with mode:=.gap w}) nofun];show none=if numberOf w=0 then none else Oe f (numberOf w) []
  split <;> rfl
 |x::r,w,h1,h2,h3=>by
  rw[dv];show(match (if isDigit x=true then(if (w.isEmpty=false\/x≠48)/\numberOf (w++ [x])<=32 then some {f with mode:=.gap (w++ [x])} else none) else if w.isEmpty=true then none else if x=37 then some {f with mode:=.gapMark (numberOf w) []} else FS.behind {f with out:=f.out++ [.gap (numberOf w) []],mode:=.gap w} .one x) with |none=>none|some g=>res g r)=_;have eG:gP 32 (numberOf w) (x::r)=if isDigit x=true then(if 32<numberOf w*10+(x.toNat - 48) then(0,x::r) else gP 32 (numberOf w*10+(x.toNat - 48)) r) else(numberOf w,x::r):=rfl
  rw[eG];by_cases hx:isDigit x=true
  ·rw[ah hx,ah hx,g7];have hc1:w.isEmpty=false\/x≠48:=by
    cases w with
    |nil=>exact .inr λq=>h2 rfl (by rw[q];rfl)
    |cons _ _=>exact .inl rfl
   by_cases hle:32<numberOf w*10+(x.toNat - 48)
   ·grind
   ·rw[ah ⟨hc1,by omega⟩,ae hle];have Rb:=hx;unfold isDigit at Rb;rw[aS,bY,bY] at Rb;have V0:1<=numberOf (w++ [x]):=by
     rw[g7];rcases h1 with q|q
     ·subst q;have:x.toNat≠48:=λq=>h2 rfl (by rw[show x=48 from b8.mp q];rfl)
      omega
     ·omega
    have ih:=Gw f r (w++ [x]) (.inr V0) (λq=>absurd q (by simp)) (by rw[g7];omega);rw[g7,show 10*numberOf w+(x.toNat - 48)=numberOf w*10+(x.toNat - 48) by omega] at ih;exact ih
  ·rw[ae hx,ae hx];rcases h1 with q|q
   ·subst q;rfl
   ·have gT:w.isEmpty=false:=by
     cases w with
     |nil=>exact absurd (show 1<=0 from q) (by decide)
     |cons _ _=>rfl
    rw[gT];simp only[bZ,↓reduceIte];rw[ae (show ¬numberOf w=0 by omega)];unfold Oe qR;by_cases h37:x=37
    ·rw[ah h37,ah (show hd (x::r)=37 from(jB (n:=37) (by decide)).mpr h37)];show res {f with mode:=.gapMark (numberOf w) []} r=_;have hq:=IY f (numberOf w) 4 1 rfl (aA _) [] r (λ_=>nofun) (λm q1 q2=>by omega);rw[bE,show List.range' 1 4=[1,2,3,4] from rfl] at hq
     grind
    ·rw[ae h37,ae (show ¬hd (x::r)=37 from λq=>h37 ((jB (n:=37) (by decide)).mp q)),vG {f with out:=f.out++ [.gap (numberOf w) []]}];rfl
theorem Ti(f:FS)(r:Bytes):res {f with mode:=.gap []} r=match Th r with
  |none=>none
  |some ((k,q),r2)=>LG {f with out:=f.out++ [.gap k q]} .one r2:=by
 unfold Th dZ;by_cases h:hd r=48
 ·rw[ah h];simp only[↓reduceIte];have h':=MB.mp h;cases r with
  |nil=>cases h'
  |cons x r=>
   cases h';rw[dv];rfl
 ·rw[ae h];rw[Gw f r [] (.inl rfl) (λ_ q=>h (MB.mpr q)) (aD _)];show(if (gP 32 0 r).1=0 then none else Oe f (gP 32 0 r).1 (gP 32 0 r).2)=_;by_cases hz:(gP 32 0 r).1=0
  ·rw[ah hz,ah hz]
  ·rw[ae hz,ae hz];unfold Oe;cases hq:qR (gP 32 0 r).2 with
   |none=>simp only[hq]
   |some p=>obtain⟨q,r2⟩:=p;simp only[hq]
theorem AU(f:FS)(r:Bytes)(Ab:hd r≠40):resB f r=match Nf r with
  |none=>none
  |some (i,r')=>if f.pieces<64 then(match i with
   | .stand s=>Of {f with pieces:=f.pieces+1,out:=f.out++ [.stand s]} r'
   | .gap k q=>LG {f with pieces:=f.pieces+1,out:=f.out++ [.gap k q]} .one r'
   | .lost=>none) else none:=by
 cases r with
 |nil=>rfl
 |cons c r=>
  unfold Nf;by_cases h95:hd (c::r)=95
  ·have hc:c=95:=(jB (n:=95) (by decide)).mp h95;subst hc;rw[ah h95];show(match (if f.pieces<64 then some {f with pieces:=f.pieces+1,mode:=.gap []} else none) with |none=>none|some g=>res g r)=_;by_cases hp:f.pieces<64
   ·rw[ah hp];show res {f with pieces:=f.pieces+1,mode:=.gap []} r=_;rw[Ti {f with pieces:=f.pieces+1} r];show _=match (match Th r with |none=>none|some ((k,q),r2)=>some (It.gap k q,r2)) with |none=>none|some (i,r')=>_
    cases Th r with
    |none=>rfl
    |some p=>
     grind
   ·grind
  ·rw[ae h95];have acp:c≠95:=λq=>h95 ((jB (n:=95) (by decide)).mpr q)
   have Wh:c≠40:=λq=>Ab ((jB (n:=40) (by decide)).mpr q)
   by_cases hb:isBig c=true
   ·show(match (if isBig c=true then(if f.pieces<64 then some {f with pieces:=f.pieces+1,mode:=.name [c]} else none) else _) with |none=>none|some g=>res g r)=_;rw[ah hb];unfold Sk;by_cases hp:f.pieces<64
    ·rw[ah hp];show res {f with pieces:=f.pieces+1,mode:=.name [c]} r=_;rw[OR {f with pieces:=f.pieces+1} hb r];cases A1 (c::r) with
     |none=>rfl
     |some p=>
      obtain⟨n,r1⟩:=p;simp only;rw[L9];cases qR (tk r1 126) with
      |none=>rfl
      |some p=>
       grind
    ·grind
   ·show(match (if isBig c=true then _ else if c=95 then _ else if c=40 then _ else none) with |none=>none|some g=>res g r)=_;rw[ae hb,ae acp,ae Wh];unfold Sk;have e:A1 (c::r)=none:=by
     show(if isBig c=true then _ else _)=_;rw[ae hb]
    rw[e]
theorem AY(f:FS)(r:Bytes):resB f (40::r)=resB {f with stack:=FU.new .paren::f.stack} r:=by
 show(match f.begins 40 with |none=>none|some g=>res g r)=_;have e:f.begins 40=some {f with stack:=FU.new .paren::f.stack,mode:=.want}:=by
  unfold FS.begins;rfl
 rw[e];exact mH {f with stack:=FU.new .paren::f.stack} r
theorem GH(f:FS)(h:¬f.pieces<64):∀(r:Bytes) (st:List FU),resB {f with stack:=st} r=none
 | [],st=>rfl
 |c::r,st=>by
  by_cases Ab:c=40
  ·subst Ab;rw[AY];exact GH f h r (FU.new .paren::st)
  ·rw[AU _ _ (λq=>Ab ((jB (n:=40) (by decide)).mp q))];cases Nf (c::r) with
   |none=>rfl
   |some p=>
    obtain⟨i,r'⟩:=p;exact ae h
end FZ
namespace FZ
open Gh FT MR
def g8(u:FU):Int:=if u.sheets=true then 3 else if u.seats=true then 2 else if u.cells=true then 1 else 0
def jY(u:FU):Int:=if u.cells=true then 1 else if u.seats=true then 2 else if u.sheets=true then 3 else 4
def gb(h:Int):Int:=if h=58 then 1 else if h=42 then 2 else if h=38 then 3 else 0
def Ic(u:FU)(t:Int):FU:=if t=3 then {u with sheets:=true} else if t=2 then {u with seats:=true,sheets:=false} else {u with cells:=true,seats:=false,sheets:=false}
def i6(us:List FU)(r:Bytes):Option (List FU×Bytes):=if r.takeWhile isSmall∈PLACES then some (FU.new .nest::us,r.dropWhile isSmall) else none
def gX:List FU->Int->Bytes->Option (List FU×Bytes)
 | [],_,r=>some ([],r)
 |u::us,inner,r=>if max (g8 u) (gb (hd r))<=inner then none
  else if gb (hd r)≠0 then some (Ic u (gb (hd r))::us,r.tail)
  else match u.kind with
   | .nest=>if hd r=59 then i6 us r.tail else if hd r=93 then gX us (-1) r.tail else none
   | .block=>gX us (-1) r
   | .paren=>if hd r=41 then gX us (jY u) r.tail else none
def tz:Tag->Int
 | .one=> -1
 | .row=>2
 | .column=>1
def Wf:List FU->Prop
 | []=>False
 | [u]=>u.kind=.block
 |u::v::us=>u.kind≠.block/\Wf (v::us)
def Jd(f:FS)(c:UInt8):Option FS:=match f.ring with
 |none=>if c=32 then(if f.elems+1<64 then some {f with elems:=f.elems+1,pieces:=0,stack:=[],mode:=.fresh} else none) else if c=LF then some f.lineEnd else none
 |some n=>if c=32 then(if n+1<16 then some {f with ring:=some (n+1),pieces:=0,stack:=[FU.new .block],mode:=.want} else none) else if c=62 then some {f with ring:=none,elems:=f.elems+1,pieces:=0,stack:=[],mode:=.ended} else none
def HX(f:FS):Bytes->Option (List It)
 | []=>none
 |c::r=>match Jd f c with
  |none=>none
  |some g=>res g r
theorem Cd:∀x∈PLACES,∀y∈x,isSmall y=true:=by decide
theorem LM{w:Bytes}{c:UInt8}(h:PLACES.any (λ(x:Bytes)=>(w++ [c]).isPrefixOf x)=true):isSmall c=true:=by
 rw[Nt] at h;obtain⟨x,h1,h2⟩:=h;rw[d7] at h2;obtain⟨z,rfl⟩:=h2;exact Cd _ h1 c (by simp)
theorem Ih(w:Bytes):(PLACES.findIdx? (λ(x:Bytes)=>x==w)).isSome=decide (w∈PLACES):=by
 grind
theorem AR(f:FS)(us:List FU):∀(r w:Bytes),res {f with stack:=FU.new .nest::us,mode:=.place w} r=if w++r.takeWhile isSmall∈PLACES then resB {f with stack:=FU.new .nest::us} (r.dropWhile isSmall) else none
 | [],w=>by
  rw[ie (f:={f with stack:=FU.new .nest::us,mode:=.place w}) nofun];show none=if _ then none else none
  split <;> rfl
 |c::r,w=>by
  rw[dv]
  show(match (if PLACES.any (λ(x:Bytes)=>(w++ [c]).isPrefixOf x)=true then some {f with stack:=FU.new .nest::us,mode:=.place (w++ [c])} else(match PLACES.findIdx? (λ(x:Bytes)=>x==w),FU.new .nest::us with
   |some _,⟨.nest,_,_,_⟩::_=>FS.begins {f with stack:=FU.new .nest::us,mode:=.place w} c
   |_,_=>none)) with |none=>none|some g=>res g r)=_
  by_cases h1:PLACES.any (λ(x:Bytes)=>(w++ [c]).isPrefixOf x)=true
  ·rw[ah h1];have hs:=LM h1;have ih:=AR f us r (w++ [c]);rw[bQ,ah hs,ej,ah hs];rw[az] at ih;exact ih
  ·rw[ae h1]
   have e:(match PLACES.findIdx? (λ(x:Bytes)=>x==w),FU.new .nest::us with
     |some _,⟨.nest,_,_,_⟩::_=>FS.begins {f with stack:=FU.new .nest::us,mode:=.place w} c
     |_,_=>none)=if w∈PLACES then FS.begins {f with stack:=FU.new .nest::us} c else none:=by
    have hf:=Ih w;cases hi:PLACES.findIdx? (λ(x:Bytes)=>x==w) with
    |none=>
     grind
    |some j=>
     rw[hi] at hf;rw[ah (bA hf.symm)];exact vI {f with stack:=FU.new .nest::us} (.place w) c
   rw[e];by_cases hs:isSmall c=true
   ·rw[bQ,ah hs]
    have hn:¬w++c::r.takeWhile isSmall∈PLACES:=λq=>h1 (Nt.mpr ⟨_,q,by
     rw[d7]
     exact⟨r.takeWhile isSmall,by rw[az];rfl⟩⟩)
    rw[ae hn];have hb:FS.begins {f with stack:=FU.new .nest::us} c=none:=by
     unfold FS.begins;unfold isSmall at hs;rw[aS,bY,bY] at hs;have h3:¬isBig c=true:=λq=>by
      unfold isBig at q
      grind
     have h4:¬c=95:=λq=>by subst q;exact absurd hs.1 (by decide)
     have h5:¬c=40:=λq=>by subst q;exact absurd hs.1 (by decide)
     rw[ae h3,ae h4,ae h5]
    grind
   ·rw[bQ,ae hs,ej,ae hs,aI];by_cases hw:w∈PLACES
    ·rw[ah hw,ah hw];rfl
    ·rw[ae hw,ae hw]
theorem Fz(f:FS)(us:List FU)(r:Bytes):res {f with stack:=FU.new .nest::us,mode:=.place []} r=match i6 us r with
  |none=>none
  |some (vs,r')=>resB {f with stack:=vs} r':=by
 rw[AR f us r []];unfold i6
 grind
theorem Pk{u:FU}{t:Int}(h:t=1\/t=2\/t=3):g8 (Ic u t)=t:=by
 rcases h with rfl|rfl|rfl <;> rfl
theorem Pe{u:FU}{t:Int}(h:t=1\/t=2\/t=3):jY (Ic u t)=min (jY u) t:=by
 obtain⟨k,a,b,c⟩:=u;rcases h with rfl|rfl|rfl <;> cases a <;> cases b <;> cases c <;> rfl
theorem JC(h:Int):gb h=0\/gb h=1\/gb h=2\/gb h=3:=by
 unfold gb
 grind
theorem yC(u:FU):0<=g8 u/\g8 u<=3:=by
 obtain⟨k,a,b,c⟩:=u;cases k <;> cases a <;> cases b <;> cases c <;> exact⟨by decide,by decide⟩
theorem Pd(u:FU):(u.tag=.one->3<=jY u)/\(u.tag≠.one->jY u=tz u.tag):=by
 obtain⟨k,a,b,c⟩:=u;cases k <;> cases a <;> cases b <;> cases c <;> exact⟨λh=>by first |(exact absurd h (by decide))|decide,λh=>by first |rfl|exact absurd rfl h⟩
theorem NK{us:List FU}(w:us≠[]){n:Int}(h:3<=n)(r:Bytes):gX us n r=none:=by
 cases us with
 |nil=>exact absurd rfl w
 |cons u us=>
  show(if _ then _ else _)=_;have h1:=yC u;have h2:=JC (hd r);rw[ah (by omega)]
def after(f:FS):Option (List FU×Bytes)->Option (List It)
 |none=>none
 |some ([],r)=>HX f r
 |some (v::vs,r)=>resB {f with stack:=v::vs} r
theorem Wf.tail{u:FU}{us:List FU}(h:Wf (u::us))(hk:u.kind≠.block):Wf us:=by
 cases us with
 |nil=>exact absurd h hk
 |cons v us=>exact h.2
theorem Wf.single{u:FU}{us:List FU}(h:Wf (u::us))(hk:u.kind=.block):us=[]:=by
 cases us with
 |nil=>rfl
 |cons v us=>exact absurd hk h.1
theorem Wf.top{u v:FU}{us:List FU}(h:Wf (u::us))(hk:v.kind=u.kind):Wf (v::us):=by
 cases us with
 |nil=>exact hk.trans h
 |cons z us=>exact⟨by rw[hk];exact h.1,h.2⟩
theorem Wf.push{v:FU}{us:List FU}(h:Wf us)(hk:v.kind≠.block):Wf (v::us):=by
 cases us with
 |nil=>exact h.elim
 |cons z us=>exact⟨hk,h⟩
theorem m8(f:FS)(st:List FU)(p:Nat)(m:FM):∀r,HX {f with stack:=st,pieces:=p,mode:=m} r=HX f r
 | []=>rfl
 |c::r=>by
  show(match Jd {f with stack:=st,pieces:=p,mode:=m} c with |none=>none|some g=>res g r)=match Jd f c with |none=>none|some g=>res g r
  have:Jd {f with stack:=st,pieces:=p,mode:=m} c=Jd f c:=by
   unfold Jd;rfl
  rw[this]
theorem uE(u:FU)(t:Int):(Ic u t).kind=u.kind:=by
 unfold Ic;split
 ·rfl
 split <;> rfl
theorem ot(f:FS):∀(us:List FU),Wf us->∀(t:Tag) (r:Bytes),LG {f with stack:=us} t r=after f (gX us (tz t) r)
 | [],w,_,_=>w.elim
 |u::us,w,t,[]=>by
  show none=after f (if max (g8 u) 0<=tz t then none else match u.kind with
   | .nest=>none
   | .block=>gX us (-1) []
   | .paren=>none)
  split
  ·rfl
  ·cases hk:u.kind with
   |block=>
    have:=w.single hk;subst this;rfl
   |paren=>rfl
   |nest=>rfl
 |u::us,w,t,c::r=>by
  show(match FS.behind {f with stack:=u::us} t c with |none=>none|some g=>res g r)=_;have hI:tz t= -1\/tz t=1\/tz t=2:=by cases t <;> decide
  have hL:=yC u;unfold FS.behind
  show(match (if c=38 then some {f with stack:={u with sheets:=true}::us,mode:=.want}
   else if c=42 then(if u.mayStar t=true then some {f with stack:={u with seats:=true,sheets:=false}::us,mode:=.want} else none)
   else if u.mayEnd t=false then none
   else if c=58 then some {f with stack:={u with cells:=true,seats:=false,sheets:=false}::us,mode:=.want}
   else match u.kind with
    | .paren=>if c=41/\u.tag≠.one then some {f with stack:=us,mode:=.whole u.tag} else none
    | .nest=>if c=59 then some {f with stack:=FU.new .nest::us,mode:=.place []} else if c=93 then some {f with stack:=us,mode:=.whole .one} else none
    | .block=>Jd {f with stack:=u::us} c) with |none=>none|some g=>res g r)=after f (if max (g8 u) (gb (c.toNat:Int))<=tz t then none
  else if gb (c.toNat:Int)≠0 then some (Ic u (gb (c.toNat:Int))::us,r)
  else match u.kind with
   | .nest=>if (c.toNat:Int)=59 then i6 us r else if (c.toNat:Int)=93 then gX us (-1) r else none
   | .block=>gX us (-1) (c::r)
   | .paren=>if (c.toNat:Int)=41 then gX us (jY u) r else none)
  by_cases h38:c=38
  ·subst h38;rw[ah rfl,show gb (((38:UInt8).toNat:Nat):Int)=3 from rfl,ae (show ¬max (g8 u) 3<=tz t by omega),ah (by decide)];exact mH {f with stack:={u with sheets:=true}::us} r
  rw[ae h38];by_cases h42:c=42
  ·subst h42;rw[ah rfl,show gb (((42:UInt8).toNat:Nat):Int)=2 from rfl];by_cases hs:u.mayStar t=true
   ·have hn:¬max (g8 u) 2<=tz t:=by
     revert hs
     obtain⟨k,a,b,d⟩:=u;cases k <;> cases t <;> cases a <;> cases b <;> cases d <;> decide
    rw[ah hs,ae hn,ah (by decide)];exact mH {f with stack:={u with seats:=true,sheets:=false}::us} r
   ·have hn:max (g8 u) 2<=tz t:=by
     revert hs
     obtain⟨k,a,b,d⟩:=u;cases k <;> cases t <;> cases a <;> cases b <;> cases d <;> decide
    rw[ae hs,ah hn];rfl
  rw[ae h42];have S8:∀n:Nat,n<256->((c.toNat:Int)=(n:Int)↔c=UInt8.ofNat n):=λn hn=>by
   constructor
   ·intro q;have:c.toNat=n:=by omega
    rw[<-this];exact(ub (x:=c)).symm
   ·intro q;rw[q];have:(UInt8.ofNat n).toNat=n:=by
     rw[Hy];exact Nat.mod_eq_of_lt hn
    rw[this]
  have e38:¬(c.toNat:Int)=38:=λq=>h38 ((S8 38 (by decide)).mp q)
  have e42:¬(c.toNat:Int)=42:=λq=>h42 ((S8 42 (by decide)).mp q)
  have hme:u.mayEnd t=false↔max (g8 u) (gb (c.toNat:Int))<=tz t:=by
   have ht:gb (c.toNat:Int)=0\/gb (c.toNat:Int)=1:=by
    unfold gb
    grind
   obtain⟨k,a,b,d⟩:=u;rcases ht with ht|ht <;> rw[ht] <;> cases k <;> cases t <;> cases a <;> cases b <;> cases d <;> decide
  by_cases hm:u.mayEnd t=false
  ·rw[ah hm,ah (hme.mp hm)];rfl
  rw[ae hm,ae (λq=>hm (hme.mpr q))];by_cases h58:c=58
  ·subst h58;rw[ah rfl,show gb (((58:UInt8).toNat:Nat):Int)=1 from rfl,ah (by decide)];exact mH {f with stack:={u with cells:=true,seats:=false,sheets:=false}::us} r
  rw[ae h58];have e58:¬(c.toNat:Int)=58:=λq=>h58 ((S8 58 (by decide)).mp q)
  have ht0:gb (c.toNat:Int)=0:=by
   unfold gb;rw[ae e58,ae e42,ae e38]
  rw[ht0,ae (show ¬(0:Int)≠0 from λq=>q rfl)];cases hk:u.kind with
  |block=>
   have:=w.single hk;subst this;exact m8 f [u] f.pieces f.mode (c::r)
  |paren=>
   have w':=w.tail (by rw[hk];decide);simp only;by_cases Tg:c=41
   ·rw[ah (show(c.toNat:Int)=41 from(S8 41 (by decide)).mpr Tg)];have ⟨l1,l2⟩:=Pd u;by_cases ht:u.tag=.one
    ·rw[ae (show ¬(c=41/\u.tag≠.one) from λq=>q.2 ht),NK (λq=>by rw[q] at w';exact w') (l1 ht)];rfl
    ·rw[ah ⟨Tg,ht⟩,l2 ht];have:=ot f us w' u.tag r;rw[<-this];exact AO {f with stack:=us} u.tag r
   ·rw[ae (show ¬(c.toNat:Int)=41 from λq=>Tg ((S8 41 (by decide)).mp q)),ae (show ¬(c=41/\u.tag≠.one) from λq=>Tg q.1)];rfl
  |nest=>
   have w':=w.tail (by rw[hk];decide);simp only;by_cases Te:c=59
   ·rw[ah (show(c.toNat:Int)=59 from(S8 59 (by decide)).mpr Te),ah Te];show res {f with stack:=FU.new .nest::us,mode:=.place []} r=_;rw[Fz];unfold i6;split <;> rename_i hq
    ·split at hq
     ·cases hq
     ·rename_i hz;rw[ae hz];rfl
    ·split at hq
     ·rename_i hz;cases hq;rw[ah hz];rfl
     ·cases hq
   ·rw[ae (show ¬(c.toNat:Int)=59 from λq=>Te ((S8 59 (by decide)).mp q)),ae Te];by_cases Tc:c=93
    ·rw[ah (show(c.toNat:Int)=93 from(S8 93 (by decide)).mpr Tc),ah Tc];have:=ot f us w' .one r;rw[<-show gX us (tz .one) r=gX us (-1) r from rfl,<-this];exact AO {f with stack:=us} .one r
    ·rw[ae (show ¬(c.toNat:Int)=93 from λq=>Tc ((S8 93 (by decide)).mp q)),ae Tc];rfl
end FZ
namespace FZ
open Gh FT MR
def pw(us:List FU)(i:It)(r:Bytes):Option (List FU×Bytes):=match i with
 | .stand _=>if hd r=91 then i6 us r.tail else gX us (-1) r
 | .gap _ _=>gX us (-1) r
 | .lost=>none
theorem FA{us vs:List FU}{r r':Bytes}(w:Wf us)(h:i6 us r=some (vs,r')):Wf vs:=by
 unfold i6 at h;split at h
 ·cases h;exact w.push (by decide)
 ·cases h
theorem Jt(f:FS)(us:List FU)(r:Bytes):res {f with stack:=FU.new .nest::us,mode:=.place []} r=after f (i6 us r):=by
 rw[Fz];unfold i6;split <;> rename_i hq
 ·split at hq
  ·cases hq
  ·rename_i hz;rw[ae hz];rfl
 ·split at hq
  ·rename_i hz;cases hq;rw[ah hz];rfl
  ·cases hq
theorem Lx(f:FS)(us:List FU)(w:Wf us)(r:Bytes):Of {f with stack:=us} r=after f (if hd r=91 then i6 us r.tail else gX us (-1) r):=by
 cases r with
 |nil=>
  rw[ae (show ¬hd []=91 by decide)];rw[<-show gX us (tz .one) []=gX us (-1) [] from rfl,<-ot f us w .one []];rfl
 |cons c r=>
  by_cases Td:c=91
  ·subst Td;rw[ah (show hd (91::r)=91 from rfl)];exact Jt f us r
  ·rw[ae (show ¬hd (c::r)=91 from λq=>Td ((jB (n:=91) (by decide)).mp q))];rw[<-show gX us (tz .one) (c::r)=gX us (-1) (c::r) from rfl,<-ot f us w .one (c::r)];show(if c=91 then _ else _)=_;rw[ae Td];rfl
theorem iA(f:FS)(us:List FU)(w:Wf us)(hp:f.pieces<64)(r:Bytes)(Ab:hd r≠40):resB {f with stack:=us} r=match Nf r with
  |none=>none
  |some (i,r')=>after {f with pieces:=f.pieces+1,out:=f.out++ [i]} (pw us i r'):=by
 rw[AU _ _ Ab];cases Nf r with
 |none=>rfl
 |some p=>
  obtain⟨i,r'⟩:=p;simp only[hp,↓reduceIte];cases i with
  |stand s=>exact Lx {f with pieces:=f.pieces+1,out:=f.out++ [.stand s]} us w r'
  |gap k q=>exact ot {f with pieces:=f.pieces+1,out:=f.out++ [.gap k q]} us w .one r'
  |lost=>rfl
theorem wK:∀{us vs:List FU} {n:Int} {r r':Bytes},Wf us->gX us n r=some (vs,r')->vs=[]\/Wf vs
 | [],_,_,_,_,w,_=>w.elim
 |u::us,vs,n,r,r',w,h=>by
  unfold gX at h;split at h
  ·cases h
  split at h
  ·cases h;exact .inr (w.top (uE u _))
  ·cases hk:u.kind with
   |block=>
    rw[hk] at h;have:=w.single hk;subst this;cases h;exact .inl rfl
   |paren=>
    rw[hk] at h;simp only at h;split at h
    ·exact wK (w.tail (by rw[hk];decide)) h
    ·cases h
   |nest=>
    rw[hk] at h;simp only at h;have w':=w.tail (by rw[hk];decide);split at h
    ·exact .inr (FA w' h)
    split at h
    ·exact wK w' h
    ·cases h
theorem D5{us vs:List FU}{i:It}{r r':Bytes}(w:Wf us)(h:pw us i r=some (vs,r')):vs=[]\/Wf vs:=by
 cases i with
 |stand s=>
  unfold pw at h;simp only at h;split at h
  ·exact .inr (FA w h)
  ·exact wK w h
 |gap k q=>exact wK w h
 |lost=>cases h
theorem A3{us vs:List FU}{r r':Bytes}(h:i6 us r=some (vs,r')):vs.length+r'.length<=us.length+1+r.length:=by
 unfold i6 at h;split at h
 ·cases h;have:=(xu isSmall (l:=r)).length_le;rw[aJ];omega
 ·cases h
theorem o4{r:Bytes}{n:Int}(h:hd r=n)(hn:0<=n):r.tail.length+1=r.length:=by
 cases r with
 |nil=>exact absurd (show(-1:Int)=n from h) (by omega)
 |cons c r=>rfl
theorem aaI{h:Int}(n:gb h≠0):0<=h:=by
 unfold gb at n
 grind
theorem ou:∀{us vs:List FU} {n:Int} {r r':Bytes},gX us n r=some (vs,r')->vs.length+r'.length<=us.length+r.length
 | [],_,_,_,_,h=>by
  cases h;exact aA _
 |u::us,vs,n,r,r',h=>by
  unfold gX at h;split at h
  ·cases h
  split at h
  ·grind
  ·rw[aJ];cases hk:u.kind with
   |block=>
    rw[hk] at h;have:=ou h;omega
   |paren=>
    rw[hk] at h;simp only at h;split at h
    ·rename_i hz;have:=ou h;have:=o4 hz (by decide);omega
    ·cases h
   |nest=>
    rw[hk] at h;simp only at h;split at h
    ·rename_i hz;have:=A3 h;have:=o4 hz (by decide);omega
    split at h
    ·rename_i hz;have:=ou h;have:=o4 hz (by decide);omega
    ·cases h
theorem Kf(r:Bytes):(gd r).2.length<=r.length:=by
 cases r with
 |nil=>exact aA _
 |cons c r=>
  show(if isSmall c=true then(c,r) else(0,c::r)).2.length<=r.length+1
  grind
theorem Fv(m:Nat):∀(n:Nat) (r:Bytes),(gP m n r).2.length<=r.length
 |n,[]=>aA _
 |n,c::r=>by
  unfold gP;split
  ·split
   ·exact aA _
   ·exact bK (Fv m _ r) (nV _)
  ·exact aA _
theorem Ft(m:Nat)(r:Bytes):(dZ m r).2.length<=r.length:=by
 unfold dZ;split
 ·exact aA _
 ·exact Fv m 0 r
theorem Kc{r r':Bytes}{n:Name}(h:A1 r=some (n,r')):r'.length+1<=r.length:=by
 cases r with
 |nil=>cases h
 |cons c r=>
  have e:A1 (c::r)=if isBig c=true then(if (dZ 999 (gd r).2).1=0 then none else some (⟨c,(gd r).1,(dZ 999 (gd r).2).1,(gd (dZ 999 (gd r).2).2).1⟩,(gd (dZ 999 (gd r).2).2).2)) else none:=rfl
  rw[e] at h;split at h
  ·split at h
   ·cases h
   ·cases h;have:=Kf r;have:=Ft 999 (gd r).2;have:=Kf (dZ 999 (gd r).2).2;rw[aJ];omega
  ·cases h
theorem NH(r:Bytes)(w:Int):(tk r w).length<=r.length:=by
 unfold tk
 grind
theorem HZ:∀(l:ac2) (r:Bytes),(qs l r).2.length<=r.length
 | [],r=>aA _
 |k::l,r=>by
  unfold qs;split
  ·have:=HZ l r.tail
   grind
  ·exact HZ l r
theorem Ot{r r':Bytes}{q:ac2}(h:qR r=some (q,r')):r'.length<=r.length:=by
 unfold qR at h;split at h
 ·split at h
  ·cases h
  ·have:=HZ [1,2,3,4] r.tail
   grind
 ·cases h;exact aA _
theorem RX{r r':Bytes}{i:It}(h:Nf r=some (i,r')):r'.length+1<=r.length:=by
 unfold Nf at h;split at h
 ·rename_i hz;have h1:=o4 hz (by decide);unfold Th at h;split at h
  ·cases h
  ·rename_i k q r2 hq;cases h;split at hq
   ·cases hq
   ·have h2:=Ft 32 r.tail;cases hqq:qR (dZ 32 r.tail).2 with
    |none=>rw[hqq] at hq;cases hq
    |some p=>
     obtain⟨q',r3⟩:=p;rw[hqq] at hq;cases hq;have:=Ot hqq;omega
 ·unfold Sk at h;cases hn:A1 r with
  |none=>rw[hn] at h;cases h
  |some p=>
   obtain⟨n,r1⟩:=p;rw[hn] at h;simp only at h;have h1:=Kc hn;cases hq:qR (tk r1 126) with
   |none=>rw[hq] at h;cases h
   |some p=>
    obtain⟨q,r3⟩:=p;rw[hq] at h;cases h;have h2:=Ot hq;have h3:=NH r1 126;have h4:=NH r3 63;omega
def fr(out:List It)(l e:Nat):FS:=⟨out,l,e,none,0,[],.fresh⟩
def bk(out:List It)(l e:Nat)(ring:Option Nat):FS:=⟨out,l,e,ring,0,[FU.new .block],.want⟩
def B3(out:List It)(l e:Nat)(r:Bytes):Option (List It):=if hd r=10 then res (fr out (l+1) 0) r.tail else if hd r=32 then(if e+1<64 then res (fr out l (e+1)) r.tail else none) else none
theorem PZ{c:UInt8}{r:Bytes}(n:Nat)(hn:n<256):(hd (c::r)=(n:Int)↔c=UInt8.ofNat n):=by
 show(c.toNat:Int)=(n:Int)↔_;constructor
 ·intro q;have:c.toNat=n:=by omega
  rw[<-this];exact(ub (x:=c)).symm
 ·intro q;rw[q];have:(UInt8.ofNat n).toNat=n:=by
   rw[Hy];exact Nat.mod_eq_of_lt hn
  rw[this]
theorem GO(out:List It)(l e:Nat)(p:Nat)(st:List FU)(m:FM)(r:Bytes):HX ⟨out,l,e,none,p,st,m⟩ r=B3 out l e r:=by
 cases r with
 |nil=>rfl
 |cons c r=>
  show(match (if c=32 then(if e+1<64 then some (fr out l (e+1)) else none) else if c=10 then some (fr out (l+1) 0) else none) with |none=>none|some g=>res g r)=_;unfold B3;by_cases rT:c=32
  ·subst rT;rw[ah rfl,ae (show ¬hd (32::r)=10 by show ¬(32:Int)=10;decide),ah (show hd (32::r)=32 from rfl)]
   grind
  ·rw[ae rT];by_cases qz:c=10
   ·subst qz;rfl
   ·rw[ae qz,ae (show ¬hd (c::r)=10 from λq=>qz ((PZ 10 (by decide)).mp q)),ae (show ¬hd (c::r)=32 from λq=>rT ((PZ 32 (by decide)).mp q))]
theorem yY(out:List It)(l e:Nat)(r:Bytes):res ⟨out,l,e+1,none,0,[],.ended⟩ r=B3 out l e r:=by
 cases r with
 |nil=>exact ie nofun
 |cons c r=>
  rw[dv];rw[<-GO out l e 0 [] .ended (c::r)];rfl
theorem Qy(out:List It)(l e n:Nat)(p:Nat)(st:List FU)(m:FM)(r:Bytes):HX ⟨out,l,e,some n,p,st,m⟩ r=if hd r=62 then B3 out l e r.tail else if hd r=32 then(if n+1<16 then resB (bk out l e (some (n+1))) r.tail else none) else none:=by
 cases r with
 |nil=>rfl
 |cons c r=>
  show(match (if c=32 then(if n+1<16 then some (bk out l e (some (n+1))) else none) else if c=62 then some ⟨out,l,e+1,none,0,[],.ended⟩ else none) with |none=>none|some g=>res g r)=_;by_cases rT:c=32
  ·subst rT;rw[ah rfl,ae (show ¬hd (32::r)=62 by show ¬(32:Int)=62;decide),ah (show hd (32::r)=32 from rfl)];by_cases hz:n+1<16
   ·rw[ah hz,ah hz];exact mH (bk out l e (some (n+1))) r
   ·rw[ae hz,ae hz]
  ·rw[ae rT];by_cases h62:c=62
   ·subst h62;rw[ah rfl,ah (show hd (62::r)=62 from rfl)];exact yY out l e r
   ·rw[ae h62,ae (show ¬hd (c::r)=62 from λq=>h62 ((PZ 62 (by decide)).mp q)),ae (show ¬hd (c::r)=32 from λq=>rT ((PZ 32 (by decide)).mp q))]
theorem nz{out:List It}{l e:Nat}(hl:l<512)(c:UInt8)(r:Bytes):res (fr out l e) (c::r)=if c=60 then resB (bk out l e (some 0)) r else if c=46 then res ⟨out,l,e,none,0,[],.dots 1⟩ r else resB (bk out l e none) (c::r):=by
 rw[dv];show(match (if l=512/\e=0 then none else if c=60 then some (bk out l e (some 0)) else if c=46 then some ⟨out,l,e,none,0,[],.dots 1⟩ else FS.begins ⟨out,l,e,none,0,[FU.new .block],.fresh⟩ c) with |none=>none|some g=>res g r)=_;rw[ae (show ¬(l=512/\e=0) from λq=>by omega)];by_cases Nn:c=60
 ·rw[ah Nn,ah Nn];exact mH (bk out l e (some 0)) r
 ·rw[ae Nn,ae Nn];by_cases Tf:c=46
  ·rw[ah Tf,ah Tf]
  ·rw[ae Tf,ae Tf];show _=match (bk out l e none).begins c with |none=>none|some g=>res g r
   rw[<-vI (bk out l e none) .fresh c];rfl
theorem Ml{out:List It}{l e:Nat}(hl:l<512){r:Bytes}(h:hd r=60):res (fr out l e) r=resB (bk out l e (some 0)) r.tail:=by
 cases r with
 |nil=>exact absurd (show(-1:Int)=60 from h) (by decide)
 |cons c r=>
  rw[nz hl,ah (show c=60 from(PZ 60 (by decide)).mp h)];rfl
theorem II{out:List It}{l e:Nat}(hl:l<512){r:Bytes}(h1:¬hd r=60)(h2:¬hd r=46)(h3:r≠[]\/e≠0\/l=0):res (fr out l e) r=resB (bk out l e none) r:=by
 cases r with
 |nil=>
  have h3:e≠0\/l=0:=h3.resolve_left (λq=>q rfl);show(if (fr out l e).whole?=true then some out else none)=none;have:(fr out l e).whole?=false:=by
   show(true&&(decide (e=0)&&!decide (l=0)))=false
   grind
  rw[this];rfl
 |cons c r=>rw[nz hl,ae (show ¬c=60 from λq=>h1 ((PZ 60 (by decide)).mpr q)),ae (show ¬c=46 from λq=>h2 ((PZ 46 (by decide)).mpr q))]
theorem GR(out:List It)(l e:Nat)(c:UInt8)(r:Bytes):res ⟨out,l,e,none,0,[],.dots 1⟩ (c::r)=if c=46 then res ⟨out,l,e,none,0,[],.dots 2⟩ r else none:=by
 rw[dv];show(match (if c≠46 then none else some (⟨out,l,e,none,0,[],.dots 2⟩:FS)) with |none=>none|some g=>res g r)=_
 grind
theorem GQ(out:List It)(l e:Nat)(c:UInt8)(r:Bytes):res ⟨out,l,e,none,0,[],.dots 2⟩ (c::r)=if c=46 then B3 (out++ [.lost]) l e r else none:=by
 rw[dv];show(match (if c≠46 then none else some (⟨out++ [.lost],l,e+1,none,0,[],.ended⟩:FS)) with |none=>none|some g=>res g r)=_;by_cases h:c=46
 ·rw[ae (λq=>q h),ah h];exact yY _ l e r
 ·rw[ah h,ae h]
theorem Mm{out:List It}{l e:Nat}(hl:l<512)(r:Bytes):res (fr out l e) (46::46::46::r)=B3 (out++ [.lost]) l e r:=by
 rw[nz hl,ae (by decide),ah rfl,GR,ah rfl,GQ,ah rfl]
theorem F9{out:List It}{l e:Nat}(hl:l<512){r:Bytes}(h:hd r=46)(hn:∀r2,r≠46::46::46::r2):res (fr out l e) r=none:=by
 cases r with
 |nil=>exact absurd (show(-1:Int)=46 from h) (by decide)
 |cons c r=>
  have hc:c=46:=(PZ 46 (by decide)).mp h;subst hc;rw[nz hl,ae (by decide),ah rfl];cases r with
  |nil=>exact ie nofun
  |cons c r=>
   rw[GR];by_cases h1:c=46
   ·subst h1;rw[ah rfl];cases r with
    |nil=>exact ie nofun
    |cons c r=>
     rw[GQ]
     grind
   ·rw[ae h1]
theorem Pj(out:List It)(l:Nat):res (fr out (l+1) 0) []=some out:=rfl
theorem Me{out:List It}{r:Bytes}(h:r≠[]):res (fr out 512 0) r=none:=by
 cases r with
 |nil=>exact absurd rfl h
 |cons c r=>
  rw[dv];rfl
theorem Qo(b:Bytes):iX b=res (fr [] 0 0) b:=rfl
theorem zb{us vs:List FU}{i:It}{r r':Bytes}(h:pw us i r=some (vs,r')):vs.length+r'.length<=us.length+r.length:=by
 cases i with
 |stand s=>
  unfold pw at h;simp only at h;split at h
  ·rename_i hz;have:=A3 h;have:=o4 hz (by decide);omega
  ·exact ou h
 |gap k q=>exact ou h
 |lost=>cases h
theorem FC{us vs:List FU}{r r':Bytes}(h:i6 us r=some (vs,r')):r'.length<=r.length:=by
 unfold i6 at h;split at h
 ·cases h;exact(xu isSmall (l:=r)).length_le
 ·cases h
theorem r6:∀{us vs:List FU} {n:Int} {r r':Bytes},gX us n r=some (vs,r')->r'.length<=r.length
 | [],_,_,_,_,h=>by
  cases h;exact aA _
 |u::us,vs,n,r,r',h=>by
  have ht:r.tail.length<=r.length:=by rw[fN];omega
  unfold gX at h;split at h
  ·cases h
  split at h
  ·cases h;exact ht
  ·cases hk:u.kind with
   |block=>
    rw[hk] at h;exact r6 h
   |paren=>
    rw[hk] at h;simp only at h;split at h
    ·exact bK (r6 h) ht
    ·cases h
   |nest=>
    rw[hk] at h;simp only at h;split at h
    ·exact bK (FC h) ht
    split at h
    ·exact bK (r6 h) ht
    ·cases h
theorem D6{us vs:List FU}{i:It}{r r':Bytes}(h:pw us i r=some (vs,r')):r'.length<=r.length:=by
 have ht:r.tail.length<=r.length:=by rw[fN];omega
 cases i with
 |stand s=>
  unfold pw at h;simp only at h;split at h
  ·exact bK (FC h) ht
  ·exact r6 h
 |gap k q=>exact r6 h
 |lost=>cases h
end FZ
namespace MR
open Gh
theorem eh{r:Bytes}{n:Int}(h:hd r=n)(hn:0<=n):r.tail.length<r.length:=by
 cases r with
 |nil=>exact absurd (show(-1:Int)=n from h) (by omega)
 |cons c r=>exact gW _
theorem lr(p:UInt8->Bool)(r:Bytes):(r.dropWhile p).length<=r.length:=(xu p (l:=r)).length_le
def lz(had:ac3)(r:Bytes):Option (List Bytes×Bytes):=
 if h:hd r=32 then
  (if (1<=(r.tail.takeWhile isSmall).length/\(r.tail.takeWhile isSmall).length<=8)/\(r.tail.takeWhile isSmall)∉had/\had.length≠8 then lz (had++ [r.tail.takeWhile isSmall]) (r.tail.dropWhile isSmall) else none)
 else some (had,r)
termination_by r.length
decreasing_by
 have:=eh h (by decide);have:=lr isSmall r.tail;omega
def c6(c:UInt8):Bool:=c==35 ||c==46
def Mo:Bytes->Bool
 | []=>false
 |c::_=>c6 c
def la(had:ac3)(r:Bytes):Option (List Bytes×Bytes):=
 if h:Mo r=true then
  (if hd (r.dropWhile c6)=10 then la (had++ [r.takeWhile c6]) (r.dropWhile c6).tail else none)
 else some (had,r)
termination_by r.length
decreasing_by
 have h1:=lr c6 r;have h2:(r.dropWhile c6).tail.length<=(r.dropWhile c6).length:=by rw[fN];omega
 rename_i h3;have h4:=eh h3 (by decide);omega
def zp(rows:ac3):Bool:=decide (1<=rows.length)&&(decide (rows.length<=32)&&(decide ((rows.headD []).length<=32)&&(rows.all (λx=>decide (x.length=(rows.headD []).length))&& ((rows.headD []).contains 35&&((rows.getLastD []).contains 35&&((rows.map λx=>x.headD 0).contains 35&&(rows.map λx=>x.getLastD 0).contains 35))))))
def sgn:Bytes:=[115,105,103,110,32]
structure Sg where
 name:Name
 sounds:List Bytes
 rows:List Bytes
def Nd(r:Bytes):Option (Sg×Bytes):=if sgn.isPrefixOf r=true then(match A1 (r.drop 5) with
 |none=>none
 |some (n,r2)=>match lz [] r2 with
  |none=>none
  |some (s,r3)=>if hd r3=10 then(match la [] r3.tail with
   |none=>none
   |some (w,r4)=>if zp w=true then some (⟨n,s,w⟩,r4) else none) else none) else none
def vp(a:Option Name)(b:Name):Bool:=match a with
 |none=>true
 |some a=>a.before b
def lA:Nat->List Sg->Bytes->Option (List Sg)
 |0,_,_=>none
 |k+1,had,r=>match Nd r with
  |none=>none
  |some (s,r')=>if vp (had.getLast?.map (·.name)) s.name=true then(if r'=[] then some (had++ [s]) else lA k (had++ [s]) r') else none
end MR
namespace B
open PySem PySem.Spec PyProof.Rows L2
def Ep(H:Hp)(p:Addr)(ys:List V):Prop:=∃o:Obj,o.dict=none/\o.cls=.type "tuple"/\H p=some (.wu o (.tup ys))
theorem Ep.sq{K:Frag}{H:Hp}{p:Addr}{ys:List V}(h:Ep H p ys):dJ K H p ys:=by
 obtain⟨o,_,_,h⟩:=h;exact .inl (.inr ⟨o,h⟩)
theorem Ep.same{H H':Hp}{p:Addr}{ys:List V}(h:Ep H p ys)(s:bJ H H'):Ep H' p ys:=by
 obtain⟨o,h1,h2,h⟩:=h;exact⟨o,h1,h2,s _ _ h⟩
variable{X:Cx}
theorem y8:pC X (.type "tuple") (λxs H Q=>∃p ys,xs=[.ref p]/\cg X.K H p ys/\∀l H',H l=none->(∀b u,H b=some u->H' b=some u)->(∀b,b≠l->H' b=H b)->Ep H' l ys->Q (.ref l) H'):=by
 intro pins s σ H xs us Q I r h;obtain⟨p,ys,rfl,hq,q⟩:=h;obtain⟨u,rfl,rx⟩:=vals1 r;cases rx;obtain⟨b6,r',pl,hz⟩:=I.list hq;have hlen:=r'.length;refine call_tuple_list pl.isList (λh' kp=>?_) (by simp only[bj] <;> omega);have I1:Inv X pins σ H {s with heap:=h'}:=I.kept (t':=s.toks) kp;have Ei:=I1.cR.fresh (aA h'.objs.size);have I2:Inv X pins σ (upd H h'.objs.size (.wu {cls:=.type "tuple",data:=.seq b6.toArray} (.tup ys))) {s with heap:=h'.push {cls:=.type "tuple",data:=.seq b6.toArray}}:=
  I1.laid (t':=s.toks) (λb o e=>ax _ e) (aA _) (show fg X.prog X.w _ _ _ (.wu _ (.tup ys)) from⟨aQ _ rfl,hz,b6,r',IsTup.new _ _⟩)
 exact⟨.ref h'.objs.size,_,I2,rfl,q _ _ Ei (λb u e=>aF Ei b u e) (λb hb=>aH hb) ⟨_,rfl,rfl,ak⟩⟩
def aa1(r:V->List V->Hp->VK->Prop)(to:TE)(t:TA):TE:=λσ H Q=>to σ H λx H1=>(∃p ys,x=.ref p/\Ep H1 p ys)/\t σ H1 λxs H2=>r x xs H2 Q
theorem Vm{o e:Expr}{es:ac8}{to:TE}{t:TA}{name:Str}{apos ji:Pos}{id:String}{r:V->List V->Hp->VK->Prop}(pa:PlainAttrs "tuple")(slot:Slot "tuple" name id)(Zb:typeOf (.builtin id)=pure (.type "method_descriptor"))(hm:MtR X id r)(ho:PE X o to)(ha:PA X (e::es) t) (Gu:attributeBase o name X.env (eval o X.env)=eval o X.env:=by rfl)
  (Wd:((backTo ji (starEach (e::es) X.env)).all (λx=>!x.1)&&(backToKw ji (keywordEach [] X.env)).all (λx=>x.1.isSome)
   &&decide ((e::es).length+([]:List Keyword).length+(if ([]:List Keyword).isEmpty then 0 else 1)<30))=true:=by rfl)
  (Gn:(apos.endLine==ji.line)=true:=by rfl) (hs:starEach (e::es) X.env=(false,eval e X.env)::starEach es X.env:=by rfl) (IJ:(backTo ji (starEach es X.env)).any (·.1)=false:=by rfl):
  PE X (.Call (.Attribute o name apos) (e::es) [] ji) (aa1 r to t):=by
 intro pins s σ H Q I h;refine wpAny_Call_method_late Gu Wd Gn rfl (d9 (ho pins s σ H _ I h) λv s1 ⟨x,H1,I1,r1,ty,q1⟩=>?_);obtain⟨p,ys,rfl,ob,d1,d2,d3⟩:=ty;obtain⟨e1,_⟩:=I1.cR p _ d3;have r1':=r1;cases r1;refine⟨"tuple",id,pa,slot,Zb,⟨ob,e1,d2⟩,λa z=>by cases z;exact⟨ob,e1,d1⟩,?_⟩;have hA:=ha ji pins s1 σ H1 _ I1 q1;rw[hs] at hA ⊢;refine f9 (by show(false ||(backTo ji (starEach es X.env)).any (·.1))=false;rw[IJ] <;> rfl) (kC ?_);exact d9 hA λus s2 ⟨vs,H2,I2,r2,q2⟩=>hm pins s2 σ H2 _ vs _ us Q I2 r1' r2 q2
end B
namespace B
open PySem PySem.Spec PyProof.Rows L2
theorem CV{K:Frag}{a:Addr}{xs:List V}{g:TG}{tt:TT}{te:TE}{vs:ac2}{σ:L2.St}{H1:Hp}{D:Addr}{Qd:Hp->Prop}(Pv:Nat->Hp->Prop)(h0:Pv 0 (upd H1 D (.lst [])))(hl:∀i H,i<=xs.length->Pv i H->cg K H a xs) (hs:∀i x H T,xs[i]?=some x->Pv i H->H T=none->g (.ref T) (wipe σ vs) (upd H T (.tup [.int i,x])) λiJ H2=>wipe iJ vs=wipe σ vs/\tt iJ H2 λb H3=>
   if b=true then te iJ H3 λy H4=>∃acc,H4 D=some (.lst acc)/\acc.length<sizeLine/\Pv (i+1) (upd H4 D (.lst (acc++ [y]))) else Pv (i+1) H3) (hd:∀H,Pv xs.length H->Qd H):
  ∃W:Nat->Nat->Hp->Prop,(∃m,W 0 m (upd H1 D (.lst [])))/\∀i m H,W i m H->
   ((UT K a).stop i H/\Qd H)\/((UT K a).go i H/\∃Nx:Hp->Prop,(∀H',Nx H'->∃m',m'<m/\W (i+1) m' H')/\∀x H',(UT K a).Nc i H x H'->g x (wipe σ vs) H' λiJ H2=>wipe iJ vs=wipe σ vs/\tt iJ H2 λb H3=>
    if b=true then te iJ H3 λy H4=>∃acc,H4 D=some (.lst acc)/\acc.length<sizeLine/\Nx (upd H4 D (.lst (acc++ [y]))) else Nx H3):=by
 refine⟨λi m H=>m=xs.length - i/\i<=xs.length/\Pv i H,⟨xs.length,by simp,aD _,h0⟩,?_⟩;rintro i m H ⟨rfl,hi,p⟩;have q:=hl i H hi p;by_cases gV:i<xs.length
 ·refine .inr ⟨⟨xs,xs[i],q,by simp[gV]⟩,Pv (i+1),λH' p'=>⟨xs.length - (i+1),by omega,rfl,gV,p'⟩,λx H' y=>?_⟩;obtain⟨T,x,rfl,hT,rfl,y⟩:=y;exact hs i x H T (y xs q) p hT
 ·have e:i=xs.length:=by omega
  subst e;exact .inl ⟨⟨xs,q,aA _⟩,hd H p⟩
end B
namespace LZ
open Gh MR FZ
def OP(c:UInt8):Bool:=isBig c ||(isSmall c ||isDigit c)
theorem hun{ds:Bytes}(hl:ds.length=3)(h1:ds.all isDigit=true)(h3:ds.head?≠some 48):100<=numberOf ds:=by
 match ds,hl,h1,h3 with
 | [a,b,e],_,h1,h3=>
  rw[be,be,be,aS] at h1;obtain⟨a',rfl,ea⟩:=o9 h1.1;have ha:a'.val≠0:=λq=>h3 (by show some (UInt8.ofNat (48+a'.val))=some 48;rw[q];rfl)
  show 100<=10*(10*(10*0+((UInt8.ofNat (48+a'.val)).toNat - 48))+(b.toNat - 48))+(e.toNat - 48);rw[ea];omega
theorem A0:∀(r ds r':Bytes) (m:Nat),ds.all isDigit=true->ds.length<=3->ds.head?≠some 48->(ds=[]->r.head?≠some 48)->gP 999 (numberOf ds) r=(m,r')->m≠0->∃d,Dg d/\ds++r=d++r'/\m=numberOf d/\∀x,r'.head?=some x->isDigit x=false
 | [],ds,r',m,h1,h2,h3,h4,h,hm=>by
  cases h;exact⟨ds,⟨h1,h2,λq=>by subst q;exact hm rfl,h3⟩,rfl,rfl,λ_=>nofun⟩
 |x::r,ds,r',m,h1,h2,h3,h4,h,hm=>by
  have e:gP 999 (numberOf ds) (x::r)=if isDigit x=true then(if 999<numberOf ds*10+(x.toNat - 48) then(0,x::r) else gP 999 (numberOf ds*10+(x.toNat - 48)) r) else(numberOf ds,x::r):=rfl
  rw[e] at h;by_cases hx:isDigit x=true
  ·rw[ah hx] at h;by_cases hle:999<numberOf ds*10+(x.toNat - 48)
   ·grind
   ·rw[ae hle] at h;have hl:ds.length≠3:=λq=>by have:=hun q h1 h3;omega
    have Xj:(ds++ [x]).head?≠some 48:=by
     cases ds with
     |nil=>exact h4 rfl
     |cons y ds=>exact h3
    obtain⟨d,g1,g2,g3,g4⟩:=A0 r (ds++ [x]) r' m (by rw[kM,h1,be,hx];rfl) (by rw[aw];show ds.length+1<=3;omega) Xj (λq=>absurd q (by simp)) (by rw[g7,show 10*numberOf ds+(x.toNat - 48)=numberOf ds*10+(x.toNat - 48) by omega];exact h) hm
    grind
  ·rw[ae hx] at h;cases h;exact⟨ds,⟨h1,h2,λq=>by subst q;exact hm rfl,h3⟩,rfl,rfl,λy hy=>by cases hy;rwa[eT] at hx⟩
theorem LV{r r':Bytes}{m:Nat}(h:dZ 999 r=(m,r'))(hm:m≠0):∃d,Dg d/\r=d++r'/\m=numberOf d/\∀x,r'.head?=some x->isDigit x=false:=by
 unfold dZ at h;by_cases h0:hd r=48
 ·grind
 ·rw[ae h0] at h;exact A0 r [] r' m rfl (aD _) nofun (λ_ q=>h0 (MB.mpr q)) h hm
theorem FR(r:Bytes):r=kb (gd r).1++(gd r).2/\((gd r).1=0\/isSmall (gd r).1=true):=by
 rcases O9 (r:=r) with ⟨h1,h2,_⟩|⟨h1,h2⟩
 ·rw[h1,h2];exact⟨rfl,.inl rfl⟩
 ·refine⟨?_,.inr h1⟩;unfold kb;rw[ae (gE h1)];exact h2
theorem Km{k:UInt8}(h:k=0\/isSmall k=true):(kb k).all OP=true:=by
 unfold kb;split
 ·rfl
 ·rename_i q;have:=h.resolve_left q;unfold OP;rw[be,this];simp
theorem UN{d:Bytes}(h:d.all isDigit=true):d.all OP=true:=bU.mpr λx hx=>by
 unfold OP;rw[bU.mp h x hx];simp
theorem FE(c s:UInt8):nb c s=c::kb s:=by
 unfold nb kb;split <;> rfl
theorem Sb{t r2:Bytes}{n:Name}(h:A1 t=some (n,r2)):∃w,t=w++r2/\nameOf w=some n/\w.all OP=true:=by
 cases t with
 |nil=>cases h
 |cons c r=>
  have e:A1 (c::r)=if isBig c=true then(if (dZ 999 (gd r).2).1=0 then none else some (⟨c,(gd r).1,(dZ 999 (gd r).2).1,(gd (dZ 999 (gd r).2).2).1⟩,(gd (dZ 999 (gd r).2).2).2)) else none:=rfl
  rw[e] at h;split at h
  ·rename_i hc;split at h
   ·cases h
   ·rename_i hm;cases h;obtain⟨f1,f2⟩:=FR r;obtain⟨d,g1,g2,g3,g4⟩:=LV (r:=(gd r).2) (r':=(dZ 999 (gd r).2).2) (m:=(dZ 999 (gd r).2).1) rfl hm;obtain⟨f3,f4⟩:=FR (dZ 999 (gd r).2).2;refine⟨nb c (gd r).1++(d++kb (gd (dZ 999 (gd r).2).2).1),?_,?_,?_⟩
    ·rw[FE,cj,cj,az,az,<-f3,<-g2,<-f1]
    ·rw[pU hc f2 g1 f4,<-g3]
    ·rw[FE,kM,kM,be,Km f2,Km f4,UN g1.all];unfold OP;rw[hc];rfl
  ·cases h
theorem Fu{rest:Bytes}(hr:∀x,rest.head?=some x->isDigit x=false):∀(e d:Bytes),e.all isDigit=true->numberOf (d++e)<=999->gP 999 (numberOf d) (e++rest)=(numberOf (d++e),rest)
 | [],d,_,_=>by
  rw[aI];cases rest with
  |nil=>rfl
  |cons x rest=>
   show(if isDigit x=true then _ else _)=_;rw[ae (by rw[hr x rfl];decide)]
 |x::e,d,h1,h2=>by
  rw[be,aS] at h1;have mono:∀(e d:Bytes),numberOf d<=numberOf (d++e):=λe=>by
   induction e with
   |nil=>intro d;rw[aI];exact aA _
   |cons y e ih=>
    intro d;have:=ih (d++ [y]);rw[az] at this;refine bK ?_ this;rw[g7];omega
  have h3:=mono e (d++ [x]);rw[az] at h3;have h4:numberOf (d++ [x])<=999:=bK h3 h2;rw[g7] at h4;show(if isDigit x=true then(if 999<numberOf d*10+(x.toNat - 48) then(0,x::(e++rest)) else gP 999 (numberOf d*10+(x.toNat - 48)) (e++rest)) else _)=_;rw[ah h1.1,ae (by omega)];have ih:=Fu hr e (d++ [x]) h1.2 (by rw[az];exact h2);rw[g7,show 10*numberOf d+(x.toNat - 48)=numberOf d*10+(x.toNat - 48) by omega,az] at ih;exact ih
theorem Pa{k:UInt8}(h:k=0\/isSmall k=true){r:Bytes}(hr:∀x,r.head?=some x->isSmall x=false):gd (kb k++r)=(k,r):=by
 unfold kb;split
 ·rename_i q;subst q;cases r with
  |nil=>rfl
  |cons x r=>
   show(if isSmall x=true then _ else _)=_;rw[ae (by rw[hr x rfl];decide)]
 ·rename_i q;show(if isSmall k=true then _ else _)=_;rw[ah (h.resolve_left q)];rfl
theorem ze(p:UInt8->Bool):∀r:Bytes,(r.takeWhile p).all p=true
 | []=>rfl
 |x::r=>by
  rw[bQ];by_cases h:p x=true
  ·rw[ah h,be,h,ze p r];rfl
  ·rw[ae h];rfl
def OS(c s:UInt8)(r w:Bytes):Option Name:=if r.takeWhile isDigit≠[]/\(r.takeWhile isDigit).length<=3/\(r.takeWhile isDigit).head?≠some 48/\(r.drop (r.takeWhile isDigit).length).length<=1/\(Name.mk c s (numberOf (r.takeWhile isDigit)) ((r.drop (r.takeWhile isDigit).length).headD 0)).right=true/\(Name.mk c s (numberOf (r.takeWhile isDigit)) ((r.drop (r.takeWhile isDigit).length).headD 0)).text=w then some (Name.mk c s (numberOf (r.takeWhile isDigit)) ((r.drop (r.takeWhile isDigit).length).headD 0)) else none
theorem oU{c s:UInt8}{r w:Bytes}{n:Name}(h:OS c s r w=some n): ∃c s d k,isBig c=true/\(s=0\/isSmall s=true)/\Dg d/\(k=0\/isSmall k=true)/\w=nb c s++(d++kb k)/\n=⟨c,s,numberOf d,k⟩:=by
 unfold OS at h;split at h
 ·rename_i hq;cases h;obtain⟨q1,q2,q3,q4,q5,q6⟩:=hq;unfold Name.right at q5;simp only[aS,kN,gC] at q5;obtain⟨b1,b2,_,_,b5⟩:=q5;have hd:Dg (r.takeWhile isDigit):=⟨ze _ _,q2,q1,q3⟩;refine⟨c,_,_,_,b1,b2,hd,b5,?_,rfl⟩;unfold Name.text at q6;simp only at q6;rw[hd.dec.1] at q6;rw[<-q6,FE];rfl
 ·cases h
theorem Sd{w r2:Bytes}{n:Name}(h:nameOf w=some n)(hr:∀x,r2.head?=some x->isSmall x=false/\isDigit x=false):A1 (w++r2)=some (n,r2)/\w.all OP=true:=by
 have key:∃c s d k,isBig c=true/\(s=0\/isSmall s=true)/\Dg d/\(k=0\/isSmall k=true)/\w=nb c s++(d++kb k)/\n=⟨c,s,numberOf d,k⟩:=by
  match w,h with
  | [],h=>cases h
  | [c],h=>exact oU (c:=c) (s:=0) (r:=[]) h
  |c::x::r,h=>
   have e:nameOf (c::x::r)=OS c (if isSmall x=true then x else 0) (if (if isSmall x=true then x else 0)=0 then x::r else r) (c::x::r):=rfl;rw[e] at h;by_cases hx:isSmall x=true
   ·rw[ah hx,ae (gE hx)] at h;exact oU (c:=c) (s:=x) (r:=r) h
   ·rw[ae hx,ah rfl] at h;exact oU (c:=c) (s:=0) (r:=x::r) h
 obtain⟨c,s,d,k,b1,b2,b3,b4,rfl,rfl⟩:=key;refine⟨?_,?_⟩
 ·rw[FE,cj,cj,az,az];have e:A1 (c::(kb s++(d++(kb k++r2))))=if isBig c=true then(if (dZ 999 (gd (kb s++(d++(kb k++r2)))).2).1=0 then none else some (⟨c,(gd (kb s++(d++(kb k++r2)))).1,(dZ 999 (gd (kb s++(d++(kb k++r2)))).2).1,(gd (dZ 999 (gd (kb s++(d++(kb k++r2)))).2).2).1⟩,(gd (dZ 999 (gd (kb s++(d++(kb k++r2)))).2).2).2)) else none:=rfl
  rw[e,ah b1];have hdh:∀x,(d++(kb k++r2)).head?=some x->isDigit x=true/\x≠48:=by
   intro x hx;have h1:=b3.all;have h2:=b3.ne;have h3:=b3.hd;cases d with
   |nil=>exact absurd rfl h2
   |cons y d=>
    grind
  rw[Pa b2 (λx hx=>pZ (hdh x hx).1)];simp only;have e2:dZ 999 (d++(kb k++r2))=(numberOf d,kb k++r2):=by
   unfold dZ;rw[ae (λq=>(hdh 48 (MB.mp q)).2 rfl)]
   have:=Fu (rest:=kb k++r2) (λx hx=>by
    unfold kb at hx;split at hx
    ·exact(hr x hx).2
    ·rename_i q;cases hx
     exact uv (b4.resolve_left q)) d [] b3.all (by rw[bE];exact b3.dec.2.2)
   rw[bE] at this;exact this
  rw[e2];simp only;rw[ae (by have:=b3.dec.2.1;omega),Pa b4 (λx hx=>(hr x hx).1)]
 ·rw[FE,kM,kM,be,Km b2,Km b4,UN b3.all];unfold OP;rw[b1];rfl
end LZ
namespace LZ
open Gh MR FZ LS
def flat(u:ac3):Bytes:=u.flatMap λw=>32::w
theorem jC(w:Bytes)(u:ac3):flat (w::u)=32::(w++flat u):=by
 unfold flat;rw[dz];rfl
theorem DT{c:UInt8}:∀{l:Bytes} (w:Bytes),c∉l->lu c w l=[w++l]
 | [],w,_=>by rw[aI];rfl
 |x::l,w,h=>by
  unfold lu;rw[ae (λq=>h (by rw[q];exact aR)),DT (w++ [x]) (λq=>h (aP _ q)),az];rfl
theorem DV{c:UInt8}:∀{l:Bytes} (w r:Bytes),c∉l->lu c w (l++c::r)=(w++l)::lu c [] r
 | [],w,r,_=>by
  show(if c=c then _ else _)=_;rw[ah rfl,aI]
 |x::l,w,r,h=>by
  show(if x=c then _ else lu c (w++ [x]) (l++c::r))=_;rw[ae (λq=>h (by rw[q];exact aR)),DV (w++ [x]) r (λq=>h (aP _ q)),az];rfl
theorem G3:∀(u:ac3) (w:Bytes),32∉w->(∀x∈u,(32:UInt8)∉x)->lu 32 [] (w++flat u)=w::u
 | [],w,h,_=>by
  show lu 32 [] (w++ [])=_;rw[aI,DT [] h];rfl
 |x::u,w,h,h2=>by
  rw[jC,DV [] _ h,G3 u x (h2 x aR) (λy hy=>h2 y (aP _ hy))];rfl
theorem DU(c:UInt8)(w r:Bytes):lu c w r≠[]:=by
 induction r generalizing w with
 |nil=>exact nofun
 |cons x r ih=>
  unfold lu
  grind
theorem xc:∀(l p f:Bytes) (g:ac3),lu 32 p l=f::g->p++l=f++flat g
 | [],p,f,g,h=>by
  cases h;rfl
 |x::l,p,f,g,h=>by
  unfold lu at h;by_cases hx:x=32
  ·rw[ah hx] at h;obtain⟨rfl,h2⟩:=iM h;cases g with
   |nil=>exact absurd h2 (DU _ _ _)
   |cons f' g=>
    have:=xc l [] f' g h2;rw[bE] at this;rw[hx,this,jC]
  ·rw[ae hx] at h;have:=xc l (p++ [x]) f g h;rw[az] at this;exact this
def qW(z:Rd)(b:Bytes):Option Signs:=(uV z (lu LF [] b)).bind λz=>z.closed.bind λl=>if l=[] then none else some l
theorem xS(z:Rd):qW z []=z.closed.bind λl=>if l=[] then none else some l:=rfl
theorem mI(z:Rd){l:Bytes}(b:Bytes)(h:(10:UInt8)∉l):qW z (l++10::b)=(iF z l).bind λy=>qW y b:=by
 unfold qW;rw[show LF=(10:UInt8) from rfl,DV [] b h,bE];cases hc:lu 10 [] b with
 |nil=>exact absurd hc (DU _ _ _)
 |cons x r=>
  show((iF z l).bind λy=>uV y (x::r)).bind _=_;cases iF z l <;> rfl
theorem B2(z:Rd){b:Bytes}(h:(10:UInt8)∉b)(hb:b≠[]):qW z b=none:=by
 unfold qW;rw[show LF=(10:UInt8) from rfl,DT [] h];show(if []++b=[] then some z else none).bind _=_;rw[ae (by rw[bE];exact hb)];rfl
theorem yy(b:Bytes):(10:UInt8)∉b\/∃l r,b=l++10::r/\(10:UInt8)∉l:=by
 induction b with
 |nil=>exact .inl nofun
 |cons x b ih=>
  by_cases hx:x=10
  ·exact .inr ⟨[],b,by rw[hx];rfl,nofun⟩
  ·grind
theorem HF{p:UInt8->Bool}:∀{w r:Bytes},w.all p=true->(∀x,r.head?=some x->p x=false)->(w++r).takeWhile p=w/\(w++r).dropWhile p=r
 | [],r,_,h=>by
  cases r with
  |nil=>exact⟨rfl,rfl⟩
  |cons x r=>
   show(x::r).takeWhile p=[]/\(x::r).dropWhile p=x::r;rw[bQ,ae (by rw[h x rfl];decide),ej,ae (by rw[h x rfl];decide)];exact⟨rfl,rfl⟩
 |y::w,r,hw,h=>by
  rw[be,aS] at hw;rw[cj,bQ,ah hw.1,ej,ah hw.1];obtain⟨h1,h2⟩:=HF (w:=w) (r:=r) hw.2 h;rw[h1,h2];exact⟨rfl,rfl⟩
theorem Dk{r:Bytes}{n:Nat}(hn:n<256)(h:hd r=(n:Int)):r=UInt8.ofNat n::r.tail:=by
 cases r with
 |nil=>exact absurd (show(-1:Int)=n from h) (by omega)
 |cons c r=>
  have hc:(c.toNat:Int)=(n:Int):=h;have:c.toNat=n:=by omega
  rw[<-this,ub];rfl
theorem EU:∀(m:Nat) (r:Bytes) (had s:ac3) (r3:Bytes),r.length<=m->had.length<=8->lz had r=some (s,r3)->∃u,s=had++u/\r=flat u++r3/\fA had u=some (had++u)/\∀x∈u,x.all isSmall=true
 |m,r,had,s,r3,hm,hh,h=>by
  rw[lz.eq_1] at h;split at h
  ·rename_i rT;split at h
   ·rename_i hc;have h1:=eh rT (by decide);have h2:=lr isSmall r.tail;cases m with
    |zero=>omega
    |succ m=>
     obtain⟨u,g1,g2,g3,g4⟩:=EU m _ _ s r3 (by omega) (by rw[aw];show had.length+1<=8;omega) h;have hr:=Dk (n:=32) (by decide) rT;refine⟨r.tail.takeWhile isSmall::u,by rw[g1,az];rfl,?_,?_,?_⟩
     ·rw[jC,cj,az,<-g2,Nb];exact hr
     ·unfold fA;have e1:isSound (r.tail.takeWhile isSmall)=true:=by
       unfold isSound;rw[ai hc.1.1,ai (show _<=LETTERS from hc.1.2),ze];rfl
      have e2:had.contains (r.tail.takeWhile isSmall)=false:=by
       grind
      rw[e1,e2,ae (by decide),ae (by decide),ae (show ¬SOUNDS<=had.length by show ¬8<=had.length;omega),g3,az];rfl
     ·intro x hx;rcases ba.mp hx with rfl|hx
      ·exact ze _ _
      ·exact g4 x hx
   ·cases h
  ·cases h;exact⟨[],(aI _).symm,rfl,by rw[aI];rfl,λ_=>nofun⟩
theorem EV{r3:Bytes}(h3:hd r3≠32)(h4:∀x,r3.head?=some x->isSmall x=false):∀(u had s:ac3),fA had u=some s->lz had (flat u++r3)=some (had++u,r3)/\s=had++u/\∀x∈u,x.all isSmall=true
 | [],had,s,h=>by
  cases h;refine⟨?_,(aI _).symm,λ_=>nofun⟩;show lz had r3=_;rw[lz.eq_1,dif_neg h3,aI]
 |w::u,had,s,h=>by
  unfold fA at h;split at h
  ·cases h
  rename_i a1;split at h
  ·cases h
  rename_i a2;split at h
  ·cases h
  rename_i a3;rw[Bool.not_eq_false] at a1;rw[eT,List.contains_eq_mem,decide_eq_false_iff_not] at a2;unfold isSound at a1;rw[aS,aS,bY,bY] at a1;obtain⟨g1,g2,g3⟩:=EV h3 h4 u (had++ [w]) s h;have PJ:∀x,(flat u++r3).head?=some x->isSmall x=false:=by
   intro x hx;cases u with
   |nil=>exact h4 x hx
   |cons y u=>
    rw[jC] at hx;cases hx;rfl
  obtain⟨t1,t2⟩:=HF (w:=w) (r:=flat u++r3) a1.2.2 PJ;have e:flat (w::u)++r3=32::(w++(flat u++r3)):=by rw[jC,cj,az]
  refine⟨?_,by rw[g2,az];rfl,λx hx=>?_⟩
  ·rw[e,lz.eq_1,dif_pos (show hd (32::(w++(flat u++r3)))=32 from rfl)];show(if (1<=((w++(flat u++r3)).takeWhile isSmall).length/\((w++(flat u++r3)).takeWhile isSmall).length<=8)/\((w++(flat u++r3)).takeWhile isSmall)∉had/\had.length≠8 then lz (had++ [(w++(flat u++r3)).takeWhile isSmall]) ((w++(flat u++r3)).dropWhile isSmall) else none)=_;rw[t1,t2,ah ⟨⟨a1.1,a1.2.1⟩,a2,λq=>a3 (by show 8<=had.length;omega)⟩,g1,az];rfl
  ·grind
end LZ
namespace LZ
open Gh MR FZ LS
def RF(r:Bytes):Option ((Name×List Bytes)×Bytes):=if sgn.isPrefixOf r=true then(match A1 (r.drop 5) with
 |none=>none
 |some (n,r2)=>match lz [] r2 with
  |none=>none
  |some (s,r3)=>if hd r3=10 then some ((n,s),r3.tail) else none) else none
theorem Ut{w:Bytes}(h:w.all OP=true):(32:UInt8)∉w/\(10:UInt8)∉w:=by
 rw[bU] at h;exact⟨λq=>absurd (h _ q) (by decide),λq=>absurd (h _ q) (by decide)⟩
theorem Ul{w:Bytes}(h:w.all isSmall=true):(32:UInt8)∉w/\(10:UInt8)∉w:=by
 rw[bU] at h;exact⟨λq=>absurd (h _ q) (by decide),λq=>absurd (h _ q) (by decide)⟩
theorem Tn{u:ac3}(h:∀x∈u,x.all isSmall=true):(10:UInt8)∉flat u:=by
 intro q;unfold flat at q;obtain⟨x,hx,hq⟩:=mU.mp q;rcases ba.mp hq with hq|hq
 ·cases hq
 ·exact(Ul (h x hx)).2 hq
theorem N9{r b:Bytes}{n:Name}{s:ac3}(h:RF r=some ((n,s),b)):∃w,r=(sgn++(w++flat s))++10::b/\nameOf w=some n/\w.all OP=true/\fA [] s=some s/\∀x∈s,x.all isSmall=true:=by
 unfold RF at h;split at h
 ·rename_i hp;rw[d7] at hp;obtain⟨t,rfl⟩:=hp;have e:(sgn++t).drop 5=t:=rfl;rw[e] at h;cases hn:A1 t with
  |none=>rw[hn] at h;cases h
  |some p=>
   obtain⟨n',r2⟩:=p;rw[hn] at h;simp only at h;cases hs:lz [] r2 with
   |none=>rw[hs] at h;cases h
   |some p=>
    obtain⟨s',r3⟩:=p;rw[hs] at h;simp only at h;split at h
    ·rename_i qz;cases h;obtain⟨w,g1,g2,g3⟩:=Sb hn;obtain⟨u,f1,f2,f3,f4⟩:=EU _ r2 [] s r3 (aA _) (aD _) hs;rw[bE] at f1 f3;subst f1;refine⟨w,?_,g2,g3,f3,f4⟩;have hr:=Dk (n:=10) (by decide) qz
     grind
    ·cases h
 ·cases h
theorem Oa{w b:Bytes}{u s:ac3}{n:Name}(h1:nameOf w=some n)(h2:fA [] u=some s):RF ((sgn++(w++flat u))++10::b)=some ((n,u),b):=by
 obtain⟨g1,g2,g3⟩:=EV (r3:=10::b) (by show ¬(10:Int)=32;decide) (λx hx=>by cases hx;rfl) u [] s h2
 obtain⟨f1,f2⟩:=Sd (r2:=flat u++10::b) h1 (λx hx=>by
  cases u with
  |nil=>cases hx;exact⟨rfl,rfl⟩
  |cons y u=>rw[jC] at hx;cases hx;exact⟨rfl,rfl⟩)
 unfold RF;rw[az,ah (d7.mpr ⟨_,rfl⟩)]
 show(match A1 ((w++flat u)++10::b) with
 |none=>none
 |some (n,r2)=>match lz [] r2 with
  |none=>none
  |some (s,r3)=>if hd r3=10 then some ((n,s),r3.tail) else none)=_
 rw[az,f1];simp only;rw[g1];rfl
theorem Md{z:Rd}{w:Bytes}{s:ac3}{n:Name}{had:Signs}(hz:z.closed=some had)(h1:nameOf w=some n)(h2:w.all OP=true)(h3:fA [] s=some s)(h4:∀x∈s,x.all isSmall=true):iF z (sgn++(w++flat s))=if after had n=false then none else if SIGNS<=had.length then none else some ⟨had,some ⟨n,s,[]⟩⟩:=by
 have e:lu 32 [] (sgn++(w++flat s))=SIGN::w::s:=by
  show lu 32 [] (SIGN++(32::(w++flat s)))=_;rw[DV [] _ (by decide),G3 s w (Ut h2).1 (λx hx=>(Ul (h4 x hx)).1)];rfl
 unfold iF
 grind
theorem yx{z:Rd}{l:Bytes}{y:Rd}(h:iF z l=some y)(hc:z.now=none\/Mo (l++ [10])=false):∃had w n s u,z.closed=some had/\l=sgn++(w++flat u)/\nameOf w=some n/\fA [] u=some s:=by
 unfold iF at h;cases tG:lu 32 [] l with
 |nil=>exact absurd tG (DU _ _ _)
 |cons first r=>
  rw[tG] at h;simp only at h;have hl:=xc l [] first r tG
  rw[bE] at hl;split at h
  ·rename_i hf;cases hz:z.closed with
   |none=>rw[hz] at h;cases h
   |some had=>
    rw[hz] at h;cases r with
    |nil=>cases h
    |cons w u=>
     have h:((nameOf w).bind λn=>if after had n=false then none else(fA [] u).bind λs=>if SIGNS<=had.length then none else some ⟨had,some ⟨n,s,[]⟩⟩)=some y:=h;cases hn:nameOf w with
     |none=>rw[hn] at h;cases h
     |some n=>
      rw[hn] at h;have h:(if after had n=false then none else(fA [] u).bind λs=>if SIGNS<=had.length then none else some ⟨had,some ⟨n,s,[]⟩⟩)=some y:=h;split at h
      ·cases h
      ·cases hs:fA [] u with
       |none=>rw[hs] at h;cases h
       |some s=>
        refine⟨had,w,n,s,u,rfl,?_,hn,hs⟩;rw[hl,hf,jC];rfl
  ·cases hz:z.now with
   |none=>rw[hz] at h;cases h
   |some d=>
    rw[hz] at h;simp only at h;split at h
    ·cases h
    ·rename_i gT;exfalso;have UI:=hc.resolve_left (by rw[hz];exact nofun);cases l with
     |nil=>exact gT rfl
     |cons x l=>
      have hx:c6 x=false:=UI;unfold ki at h;rw[be,show(x==35 ||x==46)=false from hx,d8] at h;cases h
theorem Lv{z:Rd}{r:Bytes}{had:Signs}(hz:z.closed=some had)(hr:r≠[])(hc:z.now=none\/Mo r=false):qW z r=match RF r with
  |none=>none
  |some ((n,s),b)=>if after had n=true/\had.length<512 then qW ⟨had,some ⟨n,s,[]⟩⟩ b else none:=by
 cases hs:RF r with
 |some p=>
  obtain⟨⟨n,s⟩,b⟩:=p;obtain⟨w,g1,g2,g3,g4,g5⟩:=N9 hs;have rS:(10:UInt8)∉sgn++(w++flat s):=by
   intro q;rcases bx.mp q with q|q
   ·exact absurd q (by decide)
   ·rcases bx.mp q with q|q
    ·exact(Ut g3).2 q
    ·exact Tn g5 q
  rw[g1,mI z b rS,Md hz g2 g3 g4 g5];simp only;by_cases h1:after had n=true
  ·rw[ae (by rw[h1];decide)];by_cases h2:had.length<512
   ·rw[ae (show ¬SIGNS<=had.length by show ¬512<=had.length;omega),ah ⟨h1,h2⟩];rfl
   ·rw[ah (show SIGNS<=had.length by show 512<=had.length;omega),ae (λq=>h2 q.2)];rfl
  ·grind
 |none=>
  show _=none;rcases yy r with h|⟨l,b,rfl,h⟩
  ·exact B2 z h hr
  ·rw[mI z b h];cases hl:iF z l with
   |none=>rfl
   |some y=>
    exfalso;have UI:z.now=none\/Mo (l++ [10])=false:=hc.imp id λq=>by
     cases l with
     |nil=>rfl
     |cons x l=>exact q
    obtain⟨acw,w,n,s,u,_,e,g1,g2⟩:=yx hl UI;rw[e,Oa g1 g2] at hs;cases hs
theorem NV{z:Rd}{r:Bytes}(hz:z.closed=none)(hc:z.now=none\/Mo r=false):qW z r=none:=by
 by_cases hr:r=[]
 ·rw[hr,xS,hz];rfl
 rcases yy r with h|⟨l,b,rfl,h⟩
 ·exact B2 z h hr
 ·rw[mI z b h];cases hl:iF z l with
  |none=>rfl
  |some y=>
   exfalso;have UI:z.now=none\/Mo (l++ [10])=false:=hc.imp id λq=>by
    cases l with
    |nil=>rfl
    |cons x l=>exact q
   obtain⟨acw,w,n,s,u,e,_⟩:=yx hl UI;rw[hz] at e;cases e
end LZ
namespace LZ
open Gh MR FZ LS
def bl(w:Bytes):List Bool:=w.map λc=>c==35
def Ka(acc:ac3):Prop:=acc.length<=32/\(acc.headD []).length<=32/\∀x∈acc,x.length=(acc.headD []).length
instance(acc:ac3):Decidable (Ka acc):=by unfold Ka;exact inferInstance
theorem R8{a b:ac3}(h:Ka (a++b)):Ka a:=by
 obtain⟨h1,h2,h3⟩:=h;rw[aw] at h1;cases a with
 |nil=>exact⟨aD _,aD _,λ_=>nofun⟩
 |cons x a=>exact⟨by omega,h2,λy hy=>h3 y (jn _ hy)⟩
theorem UR{w:Bytes}(h:w.all c6=true):(32:UInt8)∉w/\(10:UInt8)∉w:=by
 rw[bU] at h;exact⟨λq=>absurd (h _ q) (by decide),λq=>absurd (h _ q) (by decide)⟩
theorem Ph{done:Signs}{n:Name}{s:ac3}{acc:ac3}{w:Bytes}(hw:w.all c6=true)(gT:w≠[])(cR:Ka acc):iF ⟨done,some ⟨n,s,acc.map bl⟩⟩ w=if Ka (acc++ [w]) then some ⟨done,some ⟨n,s,(acc++ [w]).map bl⟩⟩ else none:=by
 unfold iF;rw[DT [] (UR hw).1,bE];have h1:w≠SIGN:=λq=>by rw[q] at hw;exact absurd hw (by decide)
 simp only;rw[ae h1,ae gT];have h2:ki w=some (bl w):=by
  unfold ki;have:w.all (λc=>c==35 ||c==46)=true:=hw;rw[ah this];rfl
 rw[h2];show(if sr ⟨n,s,acc.map bl⟩ w=false then none else if SIDE<=(acc.map bl).length then none else some (⟨done,some ⟨n,s,acc.map bl++ [bl w]⟩⟩:Rd))=_;rw[af];have e2:acc.map bl++ [bl w]=(acc++ [w]).map bl:=by rw[aN];rfl
 rw[e2];obtain⟨o1,o2,o3⟩:=cR;cases acc with
 |nil=>
  show(if decide (w.length<=SIDE)=false then none else _)=_;by_cases hl:w.length<=SIDE
  ·have ho:Ka ([]++ [w]):=⟨by show 1<=32;decide,hl,λx hx=>by rw[aE.mp hx];rfl⟩;rw[ae (by rw[ai hl];decide),ah ho];exact ae (show ¬SIDE<=0 by decide)
  ·rw[ah (ag hl),ae];exact λq=>hl q.2.1
 |cons x acc=>
  show(if (w.length==(bl x).length)=false then none else if 32<=(x::acc).length then none else _)=_;have hbx:(bl x).length=x.length:=af _;rw[hbx];by_cases hl:w.length=x.length
  ·rw[ae (by rw[gC.mpr hl];decide)];by_cases hm:32<=(x::acc).length
   ·rw[ah hm,ae];intro q;have:=q.1
    grind
   ·rw[ae hm,ah];refine⟨by rw[aw];show(x::acc).length+1<=32;omega,o2,λy hy=>?_⟩
    grind
  ·rw[ah (cc.mpr hl),ae];exact λq=>hl (q.2.2 w (cG _ aR))
theorem IF{z:Rd}{l:Bytes}{x:UInt8}{l':Bytes}(hl:l=x::l')(hx:c6 x=true)(ha:l.all c6=false):iF z l=none:=by
 cases h:iF z l with
 |none=>rfl
 |some y=>
  exfalso;unfold iF at h;cases tG:lu 32 [] l with
  |nil=>exact absurd tG (DU _ _ _)
  |cons first r=>
   rw[tG] at h;simp only at h;have Xh:=xc l [] first r tG
   rw[bE] at Xh;split at h
   ·rename_i hf;rw[hl,hf] at Xh;have e:x=115:=(iM Xh).1;subst e;exact absurd hx (by decide)
   ·cases hz:z.now with
    |none=>rw[hz] at h;cases h
    |some d=>
     rw[hz] at h;simp only at h;split at h
     ·cases h
     ·unfold ki at h;have:l.all (λc=>c==35 ||c==46)=false:=ha;rw[this] at h;cases h
theorem BY:∀(m:Nat) (r:Bytes) (acc w:ac3) (r':Bytes),r.length<=m->la acc r=some (w,r')->(∃u,w=acc++u)/\Mo r'=false
 |m,r,acc,w,r',hm,h=>by
  rw[la.eq_1] at h;split at h
  ·rename_i hc;split at h
   ·rename_i qz;have h1:=eh qz (by decide);have h2:=lr c6 r;cases m with
    |zero=>omega
    |succ m=>
     obtain⟨⟨u,g1⟩,g2⟩:=BY m _ _ w r' (by omega) h
     grind
   ·cases h
  ·rename_i hc;cases h;exact⟨⟨[],(aI _).symm⟩,by rwa[eT] at hc⟩
theorem AE{done:Signs}{n:Name}{s:ac3}:∀(m:Nat) (r:Bytes) (acc:ac3),r.length<=m->Ka acc->qW ⟨done,some ⟨n,s,acc.map bl⟩⟩ r=match la acc r with
  |none=>none
  |some (w,r')=>if Ka w then qW ⟨done,some ⟨n,s,w.map bl⟩⟩ r' else none
 |m,r,acc,hm,cR=>by
  rw[la.eq_1];by_cases hc:Mo r=true
  ·rw[dif_pos hc];have PF:r=r.takeWhile c6++r.dropWhile c6:=(Nb).symm;have gT:r.takeWhile c6≠[]:=by
    cases r with
    |nil=>cases hc
    |cons x r=>
     rw[bQ,ah (show c6 x=true from hc)];exact nofun
   by_cases qz:hd (r.dropWhile c6)=10
   ·rw[ah qz];have hr:=Dk (n:=10) (by decide) qz;have h1:=eh qz (by decide);have h2:=lr c6 r;have i9:=ze c6 r;have e:qW ⟨done,some ⟨n,s,acc.map bl⟩⟩ r=(iF ⟨done,some ⟨n,s,acc.map bl⟩⟩ (r.takeWhile c6)).bind λy=>qW y (r.dropWhile c6).tail:=by
     rw[<-mI _ _ (UR i9).2]
     grind
    rw[e,Ph i9 gT cR];cases m with
    |zero=>omega
    |succ m=>
     by_cases ho:Ka (acc++ [r.takeWhile c6])
     ·rw[ah ho];exact AE m _ _ (by omega) ho
     ·rw[ae ho];show none=_;cases hw:la (acc++ [r.takeWhile c6]) (r.dropWhile c6).tail with
      |none=>rfl
      |some p=>
       obtain⟨w,r'⟩:=p;obtain⟨⟨u,g1⟩,_⟩:=BY _ _ _ w r' (aA _) hw;simp only;rw[ae];intro q;rw[g1] at q;exact ho (R8 q)
   ·rw[ae qz];show _=none;rcases yy r with h|⟨l,b,e,h⟩
    ·exact B2 _ h (λq=>by rw[q] at hc;cases hc)
    ·rw[e,mI _ b h];have:iF ⟨done,some ⟨n,s,acc.map bl⟩⟩ l=none:=by
      cases l with
      |nil=>
       rw[e] at hc;exact absurd (show c6 10=true from hc) (by decide)
      |cons x l'=>
       have hx:c6 x=true:=by rw[e] at hc;exact hc
       refine IF rfl hx ?_;rw[Bool.eq_false_iff];intro ha;obtain⟨t1,t2⟩:=HF (w:=x::l') (r:=10::b) ha (λy hy=>by cases hy;rfl);rw[e,t2] at qz;exact qz rfl
     rw[this];rfl
  ·grind
theorem Hc{α:Type}(d:α)(p:α->Bool)(l:List α):((List.range l.length).any λx=>p (l.getD x d))=l.any p:=by
 induction l with
 |nil=>rfl
 |cons y l ih=>
  rw[aJ,lT,eX,lW,eX,<-ih];rfl
theorem WJ(x:Bytes):(bl x).any id=x.contains 35:=by
 unfold bl;rw[lW,List.contains_eq_any_beq]
 grind
def DG(n:Name)(s w:ac3):Dr:=⟨n,s,w.map bl⟩
theorem NJ{n:Name}{s w:ac3}(cR:Ka w)(gT:∀x∈w,x≠[])(h1:w≠[]):(DG n s w).sign.shape.tight=((w.headD []).contains 35&&((w.getLastD []).contains 35&&((w.map λx=>x.headD 0).contains 35&&(w.map λx=>x.getLastD 0).contains 35))):=by
 have Ux:(DG n s w).sign.shape.wide=(w.headD []).length:=by
  show((w.map bl).headD []).length=_;cases w with
  |nil=>rfl
  |cons x w=>exact af _
 have UD:(DG n s w).sign.shape.high=w.length:=af _;have SQ:∀y (x:Bytes),w[y]?=some x->(DG n s w).sign.shape.rowHas y=x.contains 35:=by
  intro y x hy;unfold Shape.rowHas Shape.ink;have e:(DG n s w).sign.shape.rows.getD y []=bl x:=by
   show(w.map bl).getD y []=_
   grind
  rw[e,Ux,<-cR.2.2 x (aL hy),<-WJ,show x.length=(bl x).length from(af _).symm];exact Hc false id (bl x)
 have ZU:∀(k:Nat) (g:Bytes->UInt8),(∀x∈w,(bl x).getD k false=(g x==35))->(DG n s w).sign.shape.columnHas k=(w.map g).contains 35:=by
  intro k g hg;unfold Shape.columnHas Shape.ink;rw[UD];have e1:((List.range w.length).any λy=>((DG n s w).sign.shape.rows.getD y []).getD k false)=(w.map bl).any λr=>r.getD k false:=by
   have:=Hc (α:=List Bool) [] (λr=>r.getD k false) (w.map bl);rw[af] at this;exact this
  grind
 unfold Shape.tight;rw[UD,Ux];have r0:(DG n s w).sign.shape.rowHas 0=(w.headD []).contains 35:=by
  cases w with
  |nil=>exact absurd rfl h1
  |cons x w=>exact SQ 0 x rfl
 have rl:(DG n s w).sign.shape.rowHas (w.length - 1)=(w.getLastD []).contains 35:=by
  grind
 have c0:(DG n s w).sign.shape.columnHas 0=(w.map λx=>x.headD 0).contains 35:=by
  refine ZU 0 (λx=>x.headD 0) λx hx=>?_
  have:=gT x hx;cases x with
  |nil=>exact absurd rfl this
  |cons c x=>rfl
 have cl:(DG n s w).sign.shape.columnHas ((w.headD []).length - 1)=(w.map λx=>x.getLastD 0).contains 35:=by
  refine ZU _ (λx=>x.getLastD 0) λx hx=>?_
  have h2:=gT x hx;have h3:=cR.2.2 x hx;rw[<-h3];rcases fY x with q|⟨xi,y,q⟩
  ·exact absurd q h2
  ·rw[fZ] at q;subst q;rw[jo,aw];show(bl (xi++ [y])).getD (xi.length+1 - 1) false=_;unfold bl
   grind
 rw[r0,rl,c0,cl]
end LZ
namespace LZ
open Gh MR FZ LS
def b9(s:Sg):Sign:=(DG s.name s.sounds s.rows).sign
theorem Vc(r:Bytes):Nd r=match RF r with
  |none=>none
  |some ((n,s),b)=>match la [] b with
   |none=>none
   |some (w,r4)=>if zp w=true then some (⟨n,s,w⟩,r4) else none:=by
 unfold Nd RF
 grind
theorem M0(had:List Sg)(n:Name):LS.after (had.map b9) n=vp (had.getLast?.map (·.name)) n:=by
 unfold LS.after;rw[List.getLast?_map];cases had.getLast? <;> rfl
theorem BQ(w:ac3):zp w=true↔(w≠[]/\Ka w/\((w.headD []).contains 35&&((w.getLastD []).contains 35&&((w.map λx=>x.headD 0).contains 35&&(w.map λx=>x.getLastD 0).contains 35)))=true):=by
 unfold zp Ka
 grind
theorem Bo{done:Signs}{n:Name}{s w:ac3}(cR:Ka w)(gT:∀x∈w,x≠[]):Rd.closed ⟨done,some (DG n s w)⟩=if zp w=true then some (done++ [b9 ⟨n,s,w⟩]) else none:=by
 show(if w.map bl=[] then none else if (DG n s w).sign.shape.tight=false then none else some (done++ [(DG n s w).sign]))=_;by_cases hw:w=[]
 ·subst hw;rfl
 ·rw[ae (λq=>hw (Ey.mp q)),NJ cR gT hw];by_cases hs:zp w=true
  ·rw[ah hs,((BQ w).mp hs).2.2,ae (by decide)];rfl
  ·rw[ae hs,ah];rw[Bool.eq_false_iff];exact λq=>hs ((BQ w).mpr ⟨hw,cR,q⟩)
theorem HV:∀(n:Nat) (r:Bytes) (had w:ac3) (r':Bytes),r.length<=n->(∀x∈had,x≠[])->la had r=some (w,r')->∀x∈w,x≠[]
 |n,r,had,w,r',hn,hh,h=>by
  rw[la.eq_1] at h;split at h
  ·rename_i hc;split at h
   ·rename_i qz;have h1:=eh qz (by decide);have h2:=lr c6 r;cases n with
    |zero=>omega
    |succ n=>
     refine HV n _ _ w r' (by omega) ?_ h;intro x hx;rcases bx.mp hx with hx|hx
     ·exact hh x hx
     ·rw[aE.mp hx];cases r with
      |nil=>cases hc
      |cons c r=>
       rw[bQ,ah (show c6 c=true from hc)];exact nofun
   ·cases h
  ·cases h;exact hh
theorem list_eq:∀(k:Nat) (had:List Sg) (r:Bytes) (z:Rd),k+had.length=512->z.closed=some (had.map b9)->(z.now=none\/Mo r=false)->(r=[]->had=[])->qW z r=(lA k had r).map (·.map b9)
 |k,had,r,z,hk,hz,hc,hr=>by
  by_cases hrn:r=[]
  ·have hh:=hr hrn;subst hrn;subst hh;rw[xS,hz];cases k with
   |zero=>rfl
   |succ k=>rfl
  ·rw[Lv hz hrn hc];have hlm:(had.map b9).length=had.length:=af _;cases k with
   |zero=>
    show _=none
    grind
   |succ k=>
    have e:lA (k+1) had r=match Nd r with
     |none=>none
     |some (s,r')=>if vp (had.getLast?.map (·.name)) s.name=true then(if r'=[] then some (had++ [s]) else lA k (had++ [s]) r') else none:=rfl
    rw[e,Vc];cases RF r with
    |none=>rfl
    |some p=>
     obtain⟨⟨n,s⟩,b⟩:=p;simp only;have Xi:(had.map b9).length<512:=by omega
     have vA:=AE (done:=had.map b9) (n:=n) (s:=s) _ b [] (aA _) ⟨aD _,aD _,λ_=>nofun⟩;rw[show([]:ac3).map bl=[] from rfl] at vA;rw[vA];cases hw:la [] b with
     |none=>
      simp only;split <;> rfl
     |some p=>
      obtain⟨w,r4⟩:=p;simp only;obtain⟨_,hc4⟩:=BY _ _ _ w r4 (aA _) hw;have gT:=HV _ b [] w r4 (aA _) (λ_=>nofun) hw;rw[M0];by_cases hs:zp w=true
      ·have cR:=((BQ w).mp hs).2.1;rw[ah hs,ah cR];simp only;by_cases hb:vp (had.getLast?.map (·.name)) n=true
       ·rw[ah ⟨hb,Xi⟩,ah hb];have yN:Rd.closed ⟨had.map b9,some (DG n s w)⟩=some ((had++ [(⟨n,s,w⟩:Sg)]).map b9):=by
         rw[Bo cR gT,ah hs,aN];rfl
        by_cases h4:r4=[]
        ·rw[ah h4,h4];show qW ⟨had.map b9,some (DG n s w)⟩ []=_;rw[xS,yN];show(if (had++ [(⟨n,s,w⟩:Sg)]).map b9=[] then none else some ((had++ [(⟨n,s,w⟩:Sg)]).map b9))=_;rw[ae (by simp)];rfl
        ·rw[ae h4];exact list_eq k (had++ [⟨n,s,w⟩]) r4 ⟨had.map b9,some (DG n s w)⟩ (by rw[aw];show k+(had.length+1)=512;omega) yN (.inr hc4) (λq=>absurd q h4)
       ·grind
      ·rw[ae hs];show _=none;split
       ·split
        ·rename_i cR;refine NV (z:=⟨had.map b9,some (DG n s w)⟩) ?_ (.inr hc4);rw[Bo cR gT,ae hs]
        ·rfl
       ·rfl
theorem Oj(b:Bytes):uD b=(lA 512 [] b).map (·.map b9):=list_eq 512 [] b ⟨[],none⟩ rfl rfl (.inl rfl) (λ_=>rfl)
end LZ
namespace MR
open Gh
def n9(s:Sg):Prop:=s.sounds.length<=8/\(∀w∈s.sounds,w.length<=8)/\zp s.rows=true/\(∀x∈s.rows,∀c∈x,c6 c=true)/\∀x∈s.rows,x≠[]
theorem NF(p:UInt8->Bool):∀(r:Bytes) (c:UInt8),c∈r.takeWhile p->p c=true
 | [],c,h=>by cases h
 |x::r,c,h=>by
  rw[bQ] at h;split at h
  ·rename_i hx;rcases ba.mp h with rfl|h
   ·exact hx
   ·exact NF p r c h
  ·cases h
theorem N8:∀(n:Nat) (r:Bytes) (had w:ac3) (r':Bytes),r.length<=n->had.length<=8->(∀x∈had,x.length<=8)->lz had r=some (w,r')->w.length<=8/\∀x∈w,x.length<=8
 |n,r,had,w,r',hn,hh,hx,h=>by
  rw[lz.eq_1] at h;split at h
  ·rename_i rT;split at h
   ·rename_i hc;have h1:=eh rT (by decide);have h2:=lr isSmall r.tail;cases n with
    |zero=>omega
    |succ n=>
     refine N8 n _ _ w r' (by omega) (by rw[aw];show had.length+1<=8;omega) (λx q=>?_) h
     grind
   ·cases h
  ·cases h;exact⟨hh,hx⟩
theorem Od:∀(n:Nat) (r:Bytes) (had w:ac3) (r':Bytes),r.length<=n->(∀x∈had,∀c∈x,c6 c=true)->la had r=some (w,r')->∀x∈w,∀c∈x,c6 c=true
 |n,r,had,w,r',hn,hh,h=>by
  rw[la.eq_1] at h;split at h
  ·rename_i hc;split at h
   ·rename_i qz;have h1:=eh qz (by decide);have h2:=lr c6 r;cases n with
    |zero=>omega
    |succ n=>
     refine Od n _ _ w r' (by omega) (λx q c hcx=>?_) h;rcases bx.mp q with q|q
     ·exact hh x q c hcx
     ·rw[aE.mp q] at hcx;exact NF _ r c hcx
   ·cases h
  ·cases h;exact hh
theorem Ya{r:Bytes}{s:Sg}{r':Bytes}(h:Nd r=some (s,r')):n9 s:=by
 unfold Nd at h;split at h
 ·split at h
  ·cases h
  ·split at h
   ·cases h
   ·split at h
    ·split at h
     ·cases h
     ·split at h
      ·rename_i n r2 _ _ s3 r3 hs _ _ w r4 hw hsh;cases h;have:=N8 _ _ _ _ _ (aA _) (aD _) (λ_ q=>absurd q de) hs;exact⟨this.1,this.2,hsh,Od _ _ _ _ _ (aA _) (λ_ q=>absurd q de) hw,LZ.HV _ _ _ _ _ (aA _) (λ_ q=>absurd q de) hw⟩
      ·cases h
    ·cases h
 ·cases h
theorem D7{a b c:Name}(h1:a.before b=true)(h2:b.before c=true):a.before c=true:=by
 simp only[Name.before,kN,aS,fi,gC,fW] at h1 h2 ⊢
 grind
theorem Bt{a b:Name}(h:a.before b=true):a≠b:=by
 rintro rfl;simp[Name.before] at h
def Ord(l:List Sg):Prop:=l.Pairwise λa b=>a.name.before b.name=true
theorem Fj{l:List Sg}{s:Sg}(h:Ord l)(hb:vp (l.getLast?.map (·.name)) s.name=true):Ord (l++ [s]):=by
 unfold Ord at h ⊢;rw[jm];refine⟨h,aaF _ _,λa ha b P7=>?_⟩;rw[aE.mp P7];rcases fY l with rfl|⟨l',z,rfl⟩
 ·cases ha
 ·rw[fZ] at h hb ha;rw[BA] at hb;rcases bx.mp ha with q|q
  ·exact D7 ((jm.mp h).2.2 a q z (aE.mpr rfl)) hb
  ·rw[aE.mp q];exact hb
theorem IE:∀(k:Nat) (had:List Sg) (r:Bytes) (l:List Sg),(∀s∈had,n9 s)->Ord had->lA k had r=some l->(∀s∈l,n9 s)/\Ord l/\l≠[]
 |0,_,_,_,_,_,h=>by cases h
 |k+1,had,r,l,h1,h2,h=>by
  unfold lA at h;split at h
  ·cases h
  ·rename_i s r' hs;split at h
   ·rename_i hb;have h1':∀x∈had++ [s],n9 x:=λx q=>by
     rcases bx.mp q with q|q
     ·exact h1 x q
     ·rw[aE.mp q];exact Ya hs
    split at h
    ·cases h;exact⟨h1',Fj h2 hb,by simp⟩
    ·exact IE k _ r' l h1' (Fj h2 hb) h
   ·cases h
theorem LP{l:List Sg}(h:Ord l):(l.map (·.name)).Nodup:=by
 unfold List.Nodup;rw[uc];exact h.imp λq=>Bt q
end MR
namespace ST2
open Gh
def ps(m:List May):List (List Nat):=m.filterMap id
def cnt(m:List May)(k:Nat):Nat:=(ps (m.take k)).length
def WG:Nat->List May->List Nat
 |_,[]=>[]
 |n,none::m=>n::WG n m
 |n,some _::m=>WG (n+1) m
def pa:List May->Nat->Option Nat
 | [],_=>none
 |none::m,i=>(pa m i).map (·+1)
 |some _::m,0=>some 0
 |some _::m,i+1=>(pa m i).map (·+1)
theorem oO:∀(m:List May) (i:Nat),placeAt m i=pa m i
 | [],i=>rfl
 |x::m,i=>by
  have ih:=oO m;unfold placeAt at ih ⊢;have e:(List.range (x::m).length).filter (λ(k:Nat)=>((x::m).getD k none).isSome)=(if x.isSome=true then [0] else [])++((List.range m.length).filter λ(k:Nat)=>(m.getD k none).isSome).map (·+1):=by
   rw[aJ,lT,jP];have e2:List.filter (λ(k:Nat)=>((x::m).getD k none).isSome) (List.map Nat.succ (List.range m.length))=((List.range m.length).filter λ(k:Nat)=>(m.getD k none).isSome).map (·+1):=by
    rw[List.filter_map];rfl
   grind
  rw[e];cases x with
  |none=>
   show(([]++_:ac2))[i]?=(pa m i).map (·+1);rw[bE,aM,ih]
  |some q=>
   cases i with
   |zero=>rfl
   |succ i=>
    show(((List.range m.length).filter λ(k:Nat)=>(m.getD k none).isSome).map (·+1))[i]?=(pa m i).map (·+1);rw[aM,ih]
theorem pS:∀{m:List May} {i a:Nat},pa m i=some a->(∃q,m[a]?=some (some q))/\cnt m a=i
 | [],_,_,h=>by cases h
 |none::m,i,a,h=>by
  unfold pa at h;cases hp:pa m i with
  |none=>rw[hp] at h;cases h
  |some b=>
   rw[hp] at h;cases h;obtain⟨h1,h2⟩:=pS hp;exact⟨h1,h2⟩
 |some q::m,0,a,h=>by
  cases h;exact⟨⟨q,rfl⟩,rfl⟩
 |some q::m,i+1,a,h=>by
  unfold pa at h;cases hp:pa m i with
  |none=>rw[hp] at h;cases h
  |some b=>
   rw[hp] at h;cases h;obtain⟨h1,h2⟩:=pS hp;refine⟨h1,?_⟩;show cnt m b+1=_;rw[h2]
theorem sG:∀{m:List May} {i:Nat},pa m i=none↔(ps m).length<=i
 | [],i=>⟨λ_=>aD _,λ_=>rfl⟩
 |none::m,i=>by
  show(pa m i).map (·+1)=none↔_;rw[xo,sG];rfl
 |some q::m,0=>by
  have:(ps (some q::m)).length=(ps m).length+1:=rfl;constructor
  ·intro h;cases h
  ·intro h;omega
 |some q::m,i+1=>by
  show(pa m i).map (·+1)=none↔_;rw[xo,sG];have:(ps (some q::m)).length=(ps m).length+1:=rfl;omega
theorem Ca(a b:List May):ps (a++b)=ps a++ps b:=cS
theorem mO(m:List May){a b:Nat}(h:a<=b):cnt m a<=cnt m b:=by
 unfold cnt;have:m.take b=m.take a++(m.drop a).take (b - a):=by
  rw[<-List.take_add,show a+(b - a)=b by omega]
 rw[this,Ca,aw];omega
theorem G5{m:List May}{a:Nat}{q:ac2}(h:m[a]?=some (some q)):cnt m (a+1)=cnt m a+1:=by
 unfold cnt;rw[bN,h,Ca,aw];rfl
theorem J0(m:List May)(k:Nat):ps (m.take k)=(ps m).take (cnt m k):=by
 have:ps m=ps (m.take k)++ps (m.drop k):=by rw[<-Ca,zw]
 unfold cnt;rw[this,List.take_left]
theorem wV:∀(m:List May) (n c:Nat),c∈WG n m↔∃k,m[k]?=some none/\c=n+cnt m k
 | [],n,c=>by
  constructor
  ·intro h;cases h
  ·rintro⟨k,h,_⟩;cases h
 |none::m,n,c=>by
  show c∈n::WG n m↔_;rw[ba,wV m n c];constructor
  ·rintro(rfl|⟨k,h1,h2⟩)
   ·exact⟨0,rfl,rfl⟩
   ·exact⟨k+1,h1,h2⟩
  ·rintro⟨k,h1,h2⟩;cases k with
   |zero=>exact .inl h2
   |succ k=>exact .inr ⟨k,h1,h2⟩
 |some q::m,n,c=>by
  show c∈WG (n+1) m↔_;rw[wV m (n+1) c];constructor
  ·rintro⟨k,h1,h2⟩;refine⟨k+1,h1,?_⟩;show c=n+(cnt m k+1);omega
  ·rintro⟨k,h1,h2⟩;cases k with
   |zero=>cases h1
   |succ k=>
    refine⟨k,h1,?_⟩;have:cnt (some q::m) (k+1)=cnt m k+1:=rfl;omega
theorem BJ{m:List May}{i j:Nat}(h:¬(i<=j/\j<(ps m).length)):stretch m i j=none:=by
 unfold stretch;rw[oO,oO];cases hi:pa m i with
 |none=>rfl
 |some a=>
  cases hj:pa m j with
  |none=>rfl
  |some b=>
   show(if a<=b then _ else _)=_;rw[ae];intro q;obtain⟨_,h1⟩:=pS hi;obtain⟨_,h2⟩:=pS hj;have h3:=mO m q;refine h ⟨by omega,?_⟩;have:¬(ps m).length<=j:=λz=>by rw[sG.mpr z] at hj;cases hj
   omega
theorem BI{m:List May}{i j:Nat}(h1:i<=j)(h2:j<(ps m).length):∃s,stretch m i j=some s/\(s.all Option.isSome=true↔∀c∈WG 0 m,¬(i<c/\c<=j))/\s.filterMap id=((ps m).drop i).take (j+1 - i):=by
 cases hi:pa m i with
 |none=>exact absurd (sG.mp hi) (by omega)
 |some a=>
 cases hj:pa m j with
 |none=>exact absurd (sG.mp hj) (by omega)
 |some b=>
 obtain⟨⟨qa,ha⟩,ca⟩:=pS hi;obtain⟨⟨qb,hb⟩,cb⟩:=pS hj;have sa:=G5 ha;have sb:=G5 hb;have Z8:a<=b:=by
  rcases qh b a with q|q
  ·have:=mO m (show b+1<=a from q);omega
  ·exact q
 refine⟨(m.drop a).take (b - a+1),?_,?_,?_⟩
 ·unfold stretch;rw[oO,oO,hi,hj];exact ah Z8
 ·rw[bU];constructor
  ·intro e c hc ⟨q1,q2⟩;obtain⟨k,hk,hck⟩:=(wV m 0 c).mp hc;have k1:a<k:=by
    rcases qh a k with q|q
    ·exact q
    ·have:=mO m q;omega
   have k2:k<b:=by
    rcases qh k b with q|q
    ·exact q
    ·rcases qh b k with q'|q'
     ·have:=mO m (show b+1<=k from q');omega
     ·grind
   have:(none:May)∈(m.drop a).take (b - a+1):=by
    refine aL (i:=k - a) ?_
    grind
   have:=e _ this;cases this
  ·intro e x hx;obtain⟨k,hk⟩:=jq hx;have PQ:k<b - a+1:=by
    grind
   rw[kz PQ,List.getElem?_drop] at hk;cases x with
   |some q=>rfl
   |none=>
    have hka:a+k≠a:=λz=>by rw[z,ha] at hk;cases hk
    have hkb:a+k≠b:=λz=>by rw[z,hb] at hk;cases hk
    have m1:=mO m (show a+1<=a+k by omega);have m2:=mO m (show a+k<=b by omega);exact absurd ⟨by omega,by omega⟩ (e _ ((wV m 0 _).mpr ⟨a+k,hk,rfl⟩))
 ·have e1:m.take (b+1)=m.take a++(m.drop a).take (b - a+1):=by
   rw[<-List.take_add,show a+(b - a+1)=b+1 by omega]
  have e2:=bb ps e1;rw[Ca,J0 m (b+1),J0 m a,sb,cb,ca] at e2;show ps ((m.drop a).take (b - a+1))=_;have e3:=bb (List.drop i) e2;rw[List.drop_left' (by rw[bh];omega),List.drop_take] at e3;exact e3.symm
end ST2
namespace ST2
open Gh MR
def mq(l:Signs):FT.It->List Nat
 | .stand s=>s.may l
 | .gap k q=>(gapMay l k q).getD []
 | .lost=>[]
theorem B1(l:Signs):∀out:List FT.It,ps (out.filterMap (FT.It.may l))=(dC out).map (mq l)
 | []=>rfl
 | .stand s::out=>by
  have ih:=B1 l out;show _::ps (out.filterMap (FT.It.may l))=_;rw[ih];rfl
 | .gap k q::out=>by
  have ih:=B1 l out;rw[cf];unfold dC at ih ⊢;rw[jP];have em:FT.It.may l (.gap k q)=(gapMay l k q).map some:=rfl;rw[em];by_cases hq:q=[1,2,3,4]
  ·have e1:∃z,gapMay l k q=some z:=by unfold gapMay;rw[ah hq];exact⟨_,rfl⟩
   obtain⟨z,hz⟩:=e1;rw[hz,ah (show nk (.gap k q)=true from ai hq),aK,<-ih];show z::ps (out.filterMap (FT.It.may l))=((gapMay l k q).getD [])::_;rw[hz];rfl
  ·have e1:gapMay l k q=none:=by unfold gapMay;rw[ae hq]
   rw[e1,ae (show ¬nk (.gap k q)=true from λz=>hq (bA z)),<-ih];rfl
 | .lost::out=>by
  have ih:=B1 l out;show ps (out.filterMap (FT.It.may l))=_;rw[ih];rfl
theorem sk(l:Signs):∀(out:List FT.It) (n:Nat),WG n (out.filterMap (FT.It.may l))=fJ n out
 | [],_=>rfl
 | .stand s::out,n=>sk l out (n+1)
 | .gap k q::out,n=>by
  rw[cf];have em:FT.It.may l (.gap k q)=(gapMay l k q).map some:=rfl;have eb:fJ n (.gap k q::out)=fJ (if nk (.gap k q)=true then n+1 else n) out:=rfl;rw[em,eb];by_cases hq:q=[1,2,3,4]
  ·have e1:∃z,gapMay l k q=some z:=by unfold gapMay;rw[ah hq];exact⟨_,rfl⟩
   obtain⟨z,hz⟩:=e1;rw[hz,ah (show nk (.gap k q)=true from ai hq)];exact sk l out (n+1)
  ·have e1:gapMay l k q=none:=by unfold gapMay;rw[ae hq]
   rw[e1,ae (show ¬nk (.gap k q)=true from λz=>hq (bA z))];exact sk l out n
 | .lost::out,n=>bb (n::·) (sk l out n)
theorem LB(l:Signs)(out:List FT.It):out.all (FT.It.known l)=(dC out).all (FT.It.known l):=by
 unfold dC;rw[List.all_filter]
 congr 1
 funext x
 cases x <;> simp[FT.It.known,nk]
end ST2
namespace DP
open Gh
theorem Bm(q:ac2)(m:List (List Nat))(z:Step)(r:List Step):costRead (q::m) (z::r)=z.cost q+costRead m r:=by
 unfold costRead;rw[fO,aK,List.sum_cons]
end DP
namespace DP
open Gh
def tY(l:Signs)(x:Lexicon):List (List Nat)->List Nat->Bytes->Bool->Option Nat
 | [],[],_,done=>if done=true then some 0 else none
 |q::m,s::k::e::r,had,_=>
  if q.contains s=false then none
  else if k≠8/\(soundsOf l s).length<=k then none
  else
   let said:=had++(if k=8 then [] else(soundsOf l s).getD k [])
   let c:=2*(q.findIdx λ(y:Nat)=>y==s)+(if k=8 then 7 else k)
   if e=0 then(tY l x m r said false).map λd=>c+d
   else if x.contains said=true/\e=wordNo x said+1 then(tY l x m r [] true).map λd=>c+3+d
   else none
 |_,_,_,_=>none
def QK(l:Signs)(x:Lexicon)(m:List (List Nat))(r:ac2)(had:Bytes)(done:Bool):Option Nat:=match stepsOf r with
 |none=>none
 |some z=>if (z.length==m.length&&((m.zip z).all (λ(y:List Nat×Step)=>y.1.contains y.2.sign&&(match y.2.sound with
   |some k=>decide (k<(soundsOf l y.2.sign).length)
   |none=>true))&&((match z.getLast? with
    |some y=>y.ends
    |none=>done)&&(wordsSaid l had z).all λ(w:Bytes)=>x.contains w)))=true/\rowOfReading l x had z=r then some (costRead m z) else none
theorem QJ(l:Signs)(x:Lexicon):∀(m:List (List Nat)) (r:ac2) (had:Bytes) (done:Bool),tY l x m r had done=QK l x m r had done
 | [],[],had,done=>by
  unfold tY QK;cases done <;> simp[stepsOf,wordsSaid,rowOfReading,costRead]
 | [],[_],_,_=>rfl
 | [],[_,_],_,_=>rfl
 | [],s::k::e::r,had,done=>by
  show none=_;unfold QK stepsOf;cases stepsOf r with
  |none=>rfl
  |some z=>
   show none=if _ then _ else _
   rw[ae];simp
 |q::m,[],had,done=>by
  show none=_;unfold QK;simp[stepsOf]
 |q::m,[_],_,_=>rfl
 |q::m,[_,_],_,_=>rfl
 |q::m,s::k::e::r,had,done=>by
  have ih:=λh d=>QJ l x m r h d
  unfold tY;simp only[ih];unfold QK;rw[stepsOf];cases hr:stepsOf r with
  |none=>
   simp only[oi]
   repeat' split
   all_goals rfl
  |some z=>
   simp only[bg];by_cases h1:q.contains s=false
   ·rw[ah h1];rw[ae];intro h;simp[fO,h1] at h;simp at h1;exact absurd h.1.2.1.1.1 h1
   ·rw[ae h1];have h1':q.contains s=true:=by
     cases hq:q.contains s with
     |true=>rfl
     |false=>exact absurd hq h1
    by_cases h2:k≠8/\(soundsOf l s).length<=k
    ·rw[ah h2,ae];intro h;simp[fO,h2.1] at h;have:=h.1.2.1.1.2;omega
    ·rw[ae h2]
     have hsd:(match (if k=8 then none else some k:Option Nat) with
       |some k=>decide (k<(soundsOf l s).length)
       |none=>true)=true:=by
      by_cases h8:k=8
      ·simp[h8]
      ·simp[h8];omega
     have Uz:∀b:Bool,Step.said l ⟨s,if k=8 then none else some k,b⟩=if k=8 then [] else(soundsOf l s).getD k []:=by
      intro b;unfold Step.said;by_cases h8:k=8
      ·simp[h8]
      ·simp[h8]
     have hgd:(if k=8 then none else some k:Option Nat).getD 8=k:=by
      by_cases h8:k=8
      ·simp[h8]
      ·simp[h8]
     have hg7:(if k=8 then none else some k:Option Nat).getD SILENT=if k=8 then 7 else k:=by
      by_cases h8:k=8
      ·simp[h8,SILENT]
      ·simp[h8]
     have UB:∀(y:Step) (d:Bool),(match (y::z).getLast? with |some v=>v.ends|none=>d)=(match z.getLast? with |some v=>v.ends|none=>y.ends):=by
      intro y d;cases z with
      |nil=>rfl
      |cons a z=>
       rw[List.getLast?_cons_cons];cases hz:(a::z).getLast? with
       |none=>simp at hz
       |some v=>rfl
     have hlen:((z.length+1==m.length+1):Bool)=(z.length==m.length):=by simp
     by_cases h0:e=0
     ·subst h0;rw[ah rfl];simp only[UB,fO,be,aJ,wordsSaid,rowOfReading,Uz,h1',hsd,hgd,Bm,Step.cost,hg7,hlen,iN,gz,bZ,if_false,Nat.add_zero];generalize (had++if k=8 then [] else(soundsOf l s).getD k [])=said;generalize (if k=8 then 7 else k)=c7;generalize (z.length==m.length&&_)=b;generalize rowOfReading l x said z=R;by_cases hR:b=true/\R=r
      ·rw[ah hR,ah ⟨hR.1,by rw[hR.2]⟩];rfl
      ·rw[ae hR,ae (λq=>hR ⟨q.1,by simpa using q.2⟩)];rfl
     ·have hb:(e !=0)=true:=by simp[h0]
      rw[ae h0];simp only[UB,fO,be,aJ,wordsSaid,rowOfReading,Uz,h1',hsd,hgd,Bm,Step.cost,hg7,hlen,iN,hb,T6];generalize (had++if k=8 then [] else(soundsOf l s).getD k [])=said;generalize (if k=8 then 7 else k)=c7;generalize rowOfReading l x [] z=R;generalize (z.length==m.length)=b1;generalize ((m.zip z).all _)=b2;generalize ((wordsSaid l [] z).all _)=b3;generalize (match z.getLast? with |some v=>v.ends|none=>true)=b4;by_cases hR:(b1&&(b2&&(b4&&b3)))=true/\R=r
      ·rw[ah hR];by_cases hw:x.contains said=true/\e=wordNo x said+1
       ·rw[ah hw,ah ⟨by rw[hw.1];simpa using hR.1,by rw[hR.2,hw.2]⟩];rfl
       ·rw[ae hw,ae];intro q;refine hw ⟨?_,?_⟩
        ·have:=q.1;simp only[aS] at this;exact this.2.2.2.1
        ·have:=q.2;simp at this;exact this.1.symm
      ·rw[ae hR];have:¬((b1&&(b2&&(b4&&(x.contains said&&b3))))=true/\s::k::(wordNo x said+1)::R=s::k::e::r):=by
        intro q;refine hR ⟨?_,?_⟩
        ·have:=q.1;simp only[aS] at this ⊢;exact⟨this.1,this.2.1,this.2.2.1,this.2.2.2.2⟩
        ·have:=q.2;simp at this;exact this.2
       rw[ae this];split <;> rfl
theorem QL(l:Signs)(x:Lexicon)(m:List (List Nat))(r:ac2):(match stepsOf r with
  |none=>none
  |some z=>if readsSo l x m z=true/\rowOfReading l x [] z=r then some (costRead m z) else none)=tY l x m r [] false:=by
 rw[QJ];rfl
end DP
namespace DP
open Gh
theorem tX(l:Signs)(x:Lexicon)(q:ac2)(m:List (List Nat))(s k e:Nat)(r:ac2)(had:Bytes)(d:Bool):tY l x (q::m) (s::k::e::r) had d= if q.contains s=false then none else if k≠8/\(soundsOf l s).length<=k then none else if e=0 then(tY l x m r (had++(if k=8 then [] else(soundsOf l s).getD k [])) false).map λz=>2*(q.findIdx λ(y:Nat)=>y==s)+(if k=8 then 7 else k)+z else if x.contains (had++(if k=8 then [] else(soundsOf l s).getD k []))=true/\e=wordNo x (had++(if k=8 then [] else(soundsOf l s).getD k []))+1 then(tY l x m r [] true).map λz=>2*(q.findIdx λ(y:Nat)=>y==s)+(if k=8 then 7 else k)+3+z else none:=rfl
theorem G7(l:Signs)(x:Lexicon):∀(m:List (List Nat)) (r:ac2) (had:Bytes),(∀w∈x,¬had <+:w)->tY l x m r had false=none
 | [],[],had,h=>rfl
 | [],_::_,had,h=>by unfold tY;rfl
 |_::_,[],had,h=>rfl
 |_::_,[_],had,h=>rfl
 |_::_,[_,_],had,h=>rfl
 |q::m,s::k::e::r,had,h=>by
  rw[tX];have h':∀w∈x,¬(had++(if k=8 then [] else(soundsOf l s).getD k [])) <+:w:=λw hw z=>h w hw (List.IsPrefix.trans (List.prefix_append _ _) z)
  split
  ·rfl
  split
  ·rfl
  split
  ·rw[G7 l x m r _ h'];rfl
  ·grind
theorem K2(l:Signs)(x:Lexicon):∀(m:List (List Nat)) (r:ac2) (had:Bytes) (d:Bool),r.length≠3*m.length->tY l x m r had d=none
 | [],[],_,_,h=>absurd rfl h
 | [],_::_,_,_,_=>by unfold tY;rfl
 |_::_,[],_,_,_=>rfl
 |_::_,[_],_,_,_=>rfl
 |_::_,[_,_],_,_,_=>rfl
 |q::m,s::k::e::r,had,d,h=>by
  have h':r.length≠3*m.length:=λz=>h (by rw[aJ,aJ,aJ,aJ,z];omega)
  have hm:∀had d,tY l x m r had d=none:=λhad d=>K2 l x m r had d h'
  rw[tX,hm,hm];simp only[oi,ite_self]
theorem G6(l:Signs)(x:Lexicon):∀(m:List (List Nat)) (r:ac2) (had:Bytes) (d:Bool),m≠[]->r.getLast?=some 0->tY l x m r had d=none
 | [],_,_,_,h,_=>absurd rfl h
 |_::_,[],_,_,_,_=>rfl
 |_::_,[_],_,_,_,_=>rfl
 |_::_,[_,_],_,_,_,_=>rfl
 |q::m,s::k::e::r,had,d,_,h=>by
  rw[tX];cases r with
  |nil=>
   have he:e=0:=by
    grind
   subst he;split
   ·rfl
   split
   ·rfl
   rw[ah rfl];cases m with
   |nil=>rfl
   |cons q' m=>rfl
  |cons y r=>
   have h':(y::r).getLast?=some 0:=by
    grind
   have hm:∀had d,tY l x m (y::r) had d=none:=λhad d=>by
    cases m with
    |nil=>unfold tY;rfl
    |cons q' m=>exact G6 l x (q'::m) (y::r) had d nofun h'
   grind
end DP
namespace ST2
open Gh
theorem Ez:∀{a b c:Bytes},wordBefore a b=true->wordBefore b c=true->wordBefore a c=true
 | [],[],_,h,_=>by cases h
 | [],_::_,[],_,h=>by cases h
 | [],_::_,_::_,_,_=>rfl
 |_::_,[],_,h,_=>by cases h
 |_::_,_::_,[],_,h=>by cases h
 |x::a,y::b,z::c,h1,h2=>by
  simp only[wordBefore,kN,aS,fi,gC,fW] at h1 h2 ⊢;rcases h1 with h1|⟨rfl,h1⟩
  ·grind
  ·rcases h2 with h2|⟨rfl,h2⟩
   ·exact .inl h2
   ·exact .inr ⟨rfl,Ez h1 h2⟩
theorem T9:∀{a b:Bytes},wordBefore a b=true->a≠b
 | [],_,h,e=>by subst e;cases h
 |x::a,b,h,e=>by
  subst e;simp only[wordBefore,kN,aS,fi,cK,true_and] at h;rcases h with h|h
  ·exact absurd h (by simp)
  ·exact T9 h rfl
theorem JB{X:ac3}{w:Bytes}(h:X.Pairwise λa b=>wordBefore a b=true)(hb:(match X.getLast? with |some y=>wordBefore y w|none=>true)=true):(X++ [w]).Pairwise λa b=>wordBefore a b=true:=by
 rw[jm];refine⟨h,aaF _ _,λa ha b P7=>?_⟩;rw[aE.mp P7];rcases fY X with rfl|⟨l',z,rfl⟩
 ·cases ha
 ·rw[fZ] at h hb ha;rw[BA] at hb;rcases bx.mp ha with q|q
  ·exact Ez ((jm.mp h).2.2 a q z (aE.mpr rfl)) hb
  ·rw[aE.mp q];exact hb
theorem tm:∀(r:Bytes) (X:Lexicon) (w:Bytes) (p:Nat) (Y:Lexicon),(X.Pairwise λa b=>wordBefore a b=true)->wordsAt X w p r=.ok Y->Y.Pairwise λa b=>wordBefore a b=true
 | [],X,w,p,Y,h,e=>by
  unfold wordsAt at e;split at e
  ·cases e;exact h
  ·cases e
 |c::r,X,w,p,Y,h,e=>by
  unfold wordsAt at e;split at e
  ·rename_i y hy;split at e
   ·exact tm r _ _ _ _ h e
   ·split at e
    ·rename_i hc;exact tm r _ _ _ _ (JB h (by rw[hy];exact hc.2.2)) e
    ·cases e
  ·rename_i hy;split at e
   ·exact tm r _ _ _ _ h e
   ·split at e
    ·exact tm r _ _ _ _ (JB h (by rw[hy])) e
    ·cases e
theorem Mf{b:Bytes}{X:Lexicon}(h:readLexicon b=.ok X):X.Nodup:=by
 have:=tm b [] [] 0 X .nil h;exact this.imp λq=>T9 q
end ST2
namespace ST2
open Gh MR
def asR(i j:Nat)(B T X:Bytes):Int ⊕ (List Sg×List Bytes×List (List Nat)):=
 if 1048576<B.length\/65536<T.length\/65536<X.length then .inl (-2)
 else match lA 512 [] B with
  |none=>.inl (-3)
  |some S=>match FT.iX T with
   |none=>.inl (-6)
   |some out=>match readLexicon X with
    | .error _=>.inl (-10)
    | .ok Y=>if (dC out).all (FT.It.known (S.map LZ.b9))=false then .inl (-9)
     else if ¬(i<=j/\j<(dC out).length) then .inl (-4)
     else if (fJ 0 out).any (λc=>decide (i<c/\c<=j))=true then .inl (-8)
     else .inr (S,Y,(((dC out).drop i).take (j+1 - i)).map (mq (S.map LZ.b9)))
theorem QT(i j:Nat)(B T X:Bytes)(f:Signs->Lexicon->List (List Nat)->GlyphI.Answer):GlyphI.ofStretch B T X i j f=match asR i j B T X with
  | .inl c=>GlyphI.number c
  | .inr (S,Y,M)=>f (S.map LZ.b9) Y M:=by
 unfold GlyphI.ofStretch asR;rw[show GlyphI.LIST=1048576 from rfl,show BYTES=65536 from rfl];by_cases h0:1048576<B.length\/65536<T.length\/65536<X.length
 ·rw[ah h0,ah h0]
 rw[ae h0,ae h0];have hl:=(LS.Ss B).trans (LZ.Oj B);have ht:=FT.LH T;cases hB:readList B with
 |error e=>
  rw[hB] at hl;cases hL:lA 512 [] B with
  |some S=>rw[hL] at hl;cases hl
  |none=>rfl
 |ok l=>
  rw[hB] at hl;cases hL:lA 512 [] B with
  |none=>rw[hL] at hl;cases hl
  |some S=>
  rw[hL] at hl;have hl:some l=some (S.map LZ.b9):=hl;cases hl;simp only;cases hT:readText T with
  |error e=>
   grind
  |ok TT=>
  rw[hT] at ht;have ht:FT.iX T=some (FT.tf TT):=ht;rw[ht];simp only;cases hX:readLexicon X with
  |error e=>rfl
  |ok Y=>
  simp only;rw[FT.NL,LB,FT.UZ];generalize FT.tf TT=out;by_cases hk:(dC out).all (FT.It.known (S.map LZ.b9))=false
  ·rw[ah hk,ah hk]
  rw[ae hk,ae hk];have yL:=B1 (S.map LZ.b9) out;have Wi:=sk (S.map LZ.b9) out 0;have hlen:(ps (out.filterMap (FT.It.may (S.map LZ.b9)))).length=(dC out).length:=by rw[yL,af]
  by_cases Hn:¬(i<=j/\j<(dC out).length)
  ·rw[ah Hn,BJ (by rw[hlen];exact Hn)]
  rw[ae Hn];have Hn:=jg.mp Hn;obtain⟨s,h1,h2,h3⟩:=BI (m:=out.filterMap (FT.It.may (S.map LZ.b9))) Hn.1 (by rw[hlen];exact Hn.2);rw[h1];simp only;rw[Wi] at h2;by_cases hb:(fJ 0 out).any (λc=>decide (i<c/\c<=j))=true
  ·grind
  ·rw[ae hb,ah (h2.mpr λc hc q=>hb (Nt.mpr ⟨c,hc,ai q⟩))];simp only;rw[h3,yL,XE,XF]
theorem vd(i j:Nat)(B T X:Bytes)(R:ac2):GlyphI.answer (.check B T X i j R)=if 65536<R.length then GlyphI.number (-2) else match asR i j B T X with
  | .inl c=>GlyphI.number c
  | .inr (S,Y,M)=>match DP.tY (S.map LZ.b9) Y M R [] false with
   |none=>GlyphI.number (-5)
   |some c=>GlyphI.number (c:Int):=by
 show(if GlyphI.ROW<R.length then GlyphI.number (-2) else _)=_;rw[show GlyphI.ROW=65536 from rfl];split
 ·rfl
 rw[QT];cases asR i j B T X with
 |inl c=>rfl
 |inr z=>
  obtain⟨S,Y,M⟩:=z;simp only;rw[<-DP.QL];cases stepsOf R with
  |none=>rfl
  |some y=>
   simp only;split <;> rfl
end ST2
namespace S
open PySem PySem.Spec PyProof.Rows L2 B Gh SM DK MR
section
open PySem.W (Codec)
abbrev St:=L2.St
theorem jh{N P:ac5}{sc:Scope}(h:N.Nodup/\(∀x∈P,sc.names.lookup x=some .local\/sc.names.lookup x=some .cell)/\∀y∈sc.names,y.2≠.free)(a:sc.kind=.function:=by rfl)(b:sc.isCoroutine=false:=by rfl)(c:sc.isGenerator=false:=by rfl)(d:N.take P.length=P:=by rfl):bz N P sc:=⟨a,b,c,h.1,d,h.2.1,h.2.2⟩
theorem _root_.L2.dR.m{k j:Nat}{A:Around}(hr:L2.dR k A)(h:j<=k:=by decide):L2.dR j A:=hr.mono h
theorem gc{X:Cx}{x:Str}{e:Expr}{te:TE}{pos pos':Pos}(i:Nat)(hN:X.N.Nodup)(he:PE X e te)(hi:X.N[i]?=some x:=by rfl)(hx:Loc X.env.scope x:=by exact Or.inl rfl)(hs:swapsWith e (some (.Name x pos')) pos.line X.env=pure false:=by rfl)(hf:X.fn x=true\/X.env.scope.names.lookup x=some .local:=by first |exact .inl rfl|exact .inr rfl|assumption):PS X (.Assign [.Name x pos'] e pos) (RD te (Bi i)):=Ie hN hi hx he hs hf
theorem qx{X:Cx}{x:Str}{pos:Pos}(i:Nat)(hN:X.N.Nodup)(hi:X.N[i]?=some x:=by rfl)(hx:Loc X.env.scope x:=by exact Or.inl rfl)(hf:X.fn x=true\/X.env.scope.names.lookup x=some .local:=by first |exact .inl rfl|exact .inr rfl|assumption):PG X (.Name x pos) (Bi i):=RR hN hi hx hf
def top(i:Nat):Stmt:=PySem.Challenge.pw_signsounds_s07_check.main.body.getD i (.Pass ⟨0,0,0,0⟩)
abbrev qS:Stmt:=top 12
theorem E1:bz ["byte"] ["byte"] (aO qS):=jh (by decide +kernel)
abbrev mY:Stmt:=top 13
theorem zJ:bz ["byte"] ["byte"] (aO mY):=jh (by decide +kernel)
abbrev oH:Stmt:=top 14
theorem BV:bz ["byte"] ["byte"] (aO oH):=jh (by decide +kernel)
abbrev ma:Stmt:=top 19
theorem oz:bz ["cursor","byte"] ["cursor"] (aO ma):=jh (by decide +kernel)
abbrev k7:Stmt:=top 20
theorem nN:bz ["cursor","found"] ["cursor"] (aO k7):=jh (by decide +kernel)
abbrev lZ:Stmt:=top 21
theorem kZ:bz ["cursor","most","number"] ["cursor","most"] (aO lZ):=jh (by decide +kernel)
abbrev oF:Stmt:=top 22
theorem kG:bz ["cursor","first","second","number"] ["cursor"] (aO oF):=jh (by decide +kernel)
abbrev j9:Stmt:=top 53
theorem jt:bz ["cursor","found","quarter"] ["cursor"] (aO j9):=jh (by decide +kernel)
abbrev iq:Stmt:=top 54
theorem ez:bz ["cursor","row","name","mirrored","damaged","uncertain"] ["cursor","row"] (aO iq):=jh (by decide +kernel)
abbrev qT:Stmt:=top 55
theorem oA:bz ["cursor","row","size","damaged"] ["cursor","row"] (aO qT):=jh (by decide +kernel)
abbrev mV:Stmt:=top 56
theorem zG:bz ["cursor","row"] ["cursor","row"] (aO mV):=jh (by decide +kernel)
abbrev mW:Stmt:=top 57
theorem zH:bz ["cursor","levels"] ["cursor","levels"] (aO mW):=jh (by decide +kernel)
abbrev oE:Stmt:=top 58
theorem iR:bz ["cursor","levels","inner","level","tie"] ["cursor","levels"] (aO oE):=jh (by decide +kernel)
abbrev m7:Stmt:=top 59
theorem gh:bz ["cursor","row","levels","piece","kind","right"] ["cursor","row"] (aO m7):=jh (by decide +kernel)
abbrev iT:Stmt:=top 60
theorem hZ:bz ["cursor","row","each_read","most","closer","number"] ["cursor","row","each_read","most","closer"] (aO iT):=jh (by decide +kernel)
abbrev oG:Stmt:=top 61
theorem BU:bz ["cursor","row"] ["cursor","row"] (aO oG):=jh (by decide +kernel)
abbrev xQ:Stmt:=top 62
theorem pO:bz ["text","cursor","row","line"] ["text"] (aO xQ):=jh (by decide +kernel)
abbrev ju:Stmt:=top 67
theorem sf:bz ["begun"] ["begun"] (aO ju):=jh (by decide +kernel)
abbrev iU:Stmt:=top 68
theorem qN:bz ["begun","before"] ["begun","before"] (aO iU):=jh (by decide +kernel)
abbrev md:Stmt:=top 69
theorem cV:bz ["text","before","begun","ended","place","byte"] ["text"] (aO md):=jh (by decide +kernel)
abbrev qP:Stmt:=top 70
theorem jR:bz ["text","found","begun","byte"] ["text"] (aO qP):=jh (by decide +kernel)
abbrev uA:Stmt:=top 73
theorem ip:bz ["rows","mirrored","damaged","middle","found","y","row","seen","left"] ["rows","mirrored","damaged"] (aO uA):=jh (by decide +kernel)
abbrev oI:Stmt:=top 74
theorem BW:bz ["cells","hidden"] ["cells","hidden"] (aO oI):=jh (by decide +kernel)
abbrev j8:Stmt:=top 75
theorem gM:bz ["signs","mirrored","damaged","found","number","sign"] ["signs","mirrored","damaged"] (aO j8):=jh (by decide +kernel)
abbrev qU:Stmt:=top 76
theorem E2:bz ["name"] ["name"] (aO qU):=jh (by decide +kernel)
abbrev j7:Stmt:=top 85
theorem gL:bz ["words","tree","number","letters"] ["words"] (aO j7):=jh (by decide +kernel)
abbrev mX:Stmt:=top 90
theorem zI:bz ["sign","sound"] ["sign","sound"] (aO mX):=jh (by decide +kernel)
abbrev l9:Stmt:=top 91
theorem k5:bz ["tree","node","letters","letter"] ["tree","node","letters"] (aO l9):=jh (by decide +kernel)
abbrev mf:Stmt:=top 92
theorem xJ:bz ["numbers","sign","sound"] ["numbers","sign","sound"] (aO mf):=jh (by decide +kernel)
abbrev me:Stmt:=top 93
theorem cn:bz ["row","stretch","tree","node","total","place","numbers","sign","sound","end","letters"] ["row","stretch"] (aO me):=jh (by decide +kernel)
abbrev lY:Stmt:=top 103
theorem kY:bz ["cursor","found","sound"] ["cursor"] (aO lY):=jh (by decide +kernel)
abbrev uB:Stmt:=top 104
theorem HS:bz ["byte"] ["byte"] (aO uB):=jh (by decide +kernel)
abbrev mZ:Stmt:=top 105
theorem qv:bz ["cursor","found"] ["cursor"] (aO mZ):=jh (by decide +kernel)
abbrev oC:Stmt:=top 106
theorem r9:bz ["cursor","found"] ["cursor"] (aO oC):=jh (by decide +kernel)
abbrev ir:Stmt:=top 107
theorem dY:bz ["rows","width","edges","row","edge"] ["rows"] (aO ir):=jh (by decide +kernel)
abbrev oB:Stmt:=top 108
theorem kF:bz ["cursor","name","sounds","rows"] ["cursor"] (aO oB):=jh (by decide +kernel)
abbrev qQ:Stmt:=top 109
theorem iD:bz ["text","cursor","found","before","sign"] ["text"] (aO qQ):=jh (by decide +kernel)
abbrev pP:Stmt:=top 125
theorem g0:bz ["i","j","b","t","x","signs","row","possible","places","place","before"] ["i","j","b","t","x"] (aO pP):=jh (by decide +kernel)
abbrev ia:Stmt:=top 126
theorem xK:bz ["i","j","b","t","x","r","pair","found"] ["i","j","b","t","x","r"] (aO ia):=jh (by decide +kernel)
abbrev iW:Stmt:=inClass (top 2) 0
theorem qO:bz ["self","text"] ["self","text"] (aO iW):=jh (by decide +kernel)
abbrev mj:Stmt:=inClass (top 2) 1
theorem xO:bz ["self"] ["self"] (aO mj):=jh (by decide +kernel)
abbrev mi:Stmt:=inClass (top 2) 2
theorem xN:bz ["self"] ["self"] (aO mi):=jh (by decide +kernel)
abbrev mh:Stmt:=inClass (top 2) 3
theorem xM:bz ["self","wanted"] ["self","wanted"] (aO mh):=jh (by decide +kernel)
abbrev iV:Stmt:=inClass (top 2) 4
theorem k6:bz ["self","wanted","each"] ["self","wanted"] (aO iV):=jh (by decide +kernel)
abbrev jx:Stmt:=inClass (top 50) 0
theorem si:bz ["self","name","size","mirrored","damaged","uncertain"] ["self","name","size","mirrored","damaged","uncertain"] (aO jx):=jh (by decide +kernel)
abbrev k8:Stmt:=inClass (top 51) 0
theorem vR:bz ["self"] ["self"] (aO k8):=jh (by decide +kernel)
abbrev jy:Stmt:=inClass (top 52) 0
theorem sj:bz ["self","closer"] ["self","closer"] (aO jy):=jh (by decide +kernel)
abbrev fC:Stmt:=inClass (top 77) 0
theorem fc:bz ["self","signs","number","sign"] ["self","signs"] (aO fC):=jh (by decide +kernel)
abbrev jv:Stmt:=inClass (top 77) 1
theorem sh:bz ["self","place"] ["self","place"] (aO jv):=jh (by decide +kernel)
abbrev jw:Stmt:=inClass (top 77) 2
theorem iS:bz ["self","place","marks","own"] ["self","place"] (aO jw):=jh (by decide +kernel)
abbrev fQ:Stmt:=inClass (top 77) 3
theorem fB:bz ["self","size","number","sign"] ["self","size"] (aO fQ):=jh (by decide +kernel)
abbrev ic:Stmt:=inClass (top 77) 4
theorem gN:bz ["self","name","number","sign"] ["self","name"] (aO ic):=jh (by decide +kernel)
abbrev gk:Stmt:=inClass (top 77) 5
theorem eD:bz ["self","place","found"] ["self","place"] (aO gk):=jh (by decide +kernel)
abbrev gY:Stmt:=inClass (top 77) 6
theorem jS:bz ["self","place","kind"] ["self","place"] (aO gY):=jh (by decide +kernel)
abbrev ka:Stmt:=inClass (top 84) 0
theorem ux:bz ["self"] ["self"] (aO ka):=jh (by decide +kernel)
abbrev oJ:Stmt:=inClass (top 84) 1
theorem kH:bz ["self","letters","what","node","letter"] ["self","letters","what"] (aO oJ):=jh (by decide +kernel)
abbrev ke:Stmt:=inClass (top 102) 0
theorem uz:bz ["self","name","sounds","rows"] ["self","name","sounds","rows"] (aO ke):=jh (by decide +kernel)
abbrev iu:Stmt:=inClass (top 111) 0
theorem qi:bz ["self","signs","words","places"] ["self","signs","words","places"] (aO iu):=jh (by decide +kernel)
structure CA where
 Cursor:Addr
 Place:Addr
 Row:Addr
 Level:Addr
 bw:Addr
 Tree:Addr
 Sign:Addr
 ik:Addr
structure Tx(mg:ac0)(K:Frag)(A:CA):Prop where
 mM:∃t,mg "NO_BYTE"=some (.int (-1) t)
 ll:∃t,mg "LINE_END"=some (.int 10 t)
 DA:∃t,mg "BLANK"=some (.int 32 t)
 jL:∃t,mg "FIRST_DIGIT"=some (.int 48 t)
 Dz:∃t,mg "LAST_DIGIT"=some (.int 57 t)
 wq:∃t,mg "FIRST_CAPITAL"=some (.int 65 t)
 yV:∃t,mg "LAST_CAPITAL"=some (.int 90 t)
 yW:∃t,mg "FIRST_LETTER"=some (.int 97 t)
 qC:∃t,mg "LAST_LETTER"=some (.int 122 t)
 GB:∃t,mg "NO_LETTER"=some (.int 0 t)
 jZ:∃t,mg "NO_NUMBER"=some (.int 0 t)
 yT:∃t,mg "MOST_IN_NAME"=some (.int 999 t)
 Dy:∃t,mg "MOST_LINES"=some (.int 512 t)
 yU:∃t,mg "MOST_IN_LINE"=some (.int 64 t)
 yS:∃t,mg "MOST_IN_RING"=some (.int 16 t)
 Ag:∃t,mg "MOST_PIECES"=some (.int 64 t)
 Dn:∃t,mg "WIDEST_GAP"=some (.int 32 t)
 Dq:∃t,mg "RING_OPENS"=some (.int 60 t)
 Ad:∃t,mg "RING_CLOSES"=some (.int 62 t)
 Tj:∃t,mg "OPENS"=some (.int 40 t)
 GG:∃t,mg "CLOSES"=some (.int 41 t)
 Du:∃t,mg "NESTS_OPEN"=some (.int 91 t)
 qB:∃t,mg "NESTS_CLOSE"=some (.int 93 t)
 Ae:∃t,mg "NEST_BEHIND"=some (.int 59 t)
 aal:∃t,mg "GAP"=some (.int 95 t)
 Ja:∃t,mg "MIRRORED"=some (.int 126 t)
 MI:∃t,mg "DAMAGED"=some (.int 37 t)
 Gy:∃t,mg "UNCERTAIN"=some (.int 63 t)
 yP:∃t,mg "UNTIED"=some (.int 0 t)
 rm:∃t,mg "TIGHTER_THAN_ALL"=some (.int 4 t)
 Gz:∃t,mg "SINGLE"=some (.int (-1) t)
 rn:∃t,mg "NO_PIECE"=some (.int 0 t)
 tK:∃t,mg "SIGN_PIECE"=some (.int 1 t)
 GF:∃t,mg "GAP_PIECE"=some (.int 2 t)
 o5:∃t,mg "MOST_LETTERS"=some (.int 32 t)
 Dv:∃t,mg "MOST_WORDS"=some (.int 4096 t)
 yR:∃t,mg "NO_FAULT"=some (.int (-1) t)
 Qk:∃t,mg "HIDDEN"=some (.int 0 t)
 Gx:∃t,mg "WORD_COST"=some (.int 3 t)
 pX:∃t,mg "NEVER"=some (.int 1000000000000 t)
 GC:∃t,mg "NO_END"=some (.int 0 t)
 fS:∃t,mg "NUMBERS_OF_PLACE"=some (.int 3 t)
 I0:∃t,mg "ROOT"=some (.int 0 t)
 GA:∃t,mg "SILENT"=some (.int 8 t)
 Ac:∃t,mg "SILENT_COST"=some (.int 7 t)
 n4:∃t,mg "COST_OF_SIGN_BEFORE"=some (.int 2 t)
 UM:∃t,mg "INK"=some (.int 35 t)
 Qj:∃t,mg "NO_INK"=some (.int 46 t)
 Dx:∃t,mg "MOST_SIGNS"=some (.int 512 t)
 Af:∃t,mg "MOST_SOUNDS"=some (.int 8 t)
 mN:∃t,mg "MOST_LETTERS_OF_SOUND"=some (.int 8 t)
 tN:∃t,mg "MOST_CELLS"=some (.int 32 t)
 tM:∃t,mg "MOST_LIST_BYTES"=some (.int 1048576 t)
 lK:∃t,mg "MOST_TEXT_BYTES"=some (.int 65536 t)
 rq:∃t,mg "MOST_ROW_NUMBERS"=some (.int 65536 t)
 qA:∃t,mg "NOT_REFUSED"=some (.int 0 t)
 yQ:∃t,mg "TOO_LONG"=some (.int (-2) t)
 wm:∃t,mg "NO_RIGHT_LIST"=some (.int (-3) t)
 GD:∃t,mg "NOT_THERE"=some (.int (-4) t)
 Dt:∃t,mg "NONE_FOUND"=some (.int (-5) t)
 wj:∃t,mg "NO_RIGHT_TEXT"=some (.int (-6) t)
 Ql:∃t,mg "BROKEN"=some (.int (-8) t)
 tL:∃t,mg "SIGN_NOT_LISTED"=some (.int (-9) t)
 Ds:∃t,mg "NO_LEXICON"=some (.int (-10) t)
 K5:mg "all"=none
 K4:mg "any"=none
 Jr:mg "dict"=none
 eJ:mg "enumerate"=none
 eI:mg "len"=none
 Jq:mg "list"=none
 QS:mg "max"=none
 QR:mg "min"=none
 qd:mg "range"=none
 rK:mg "reversed"=none
 QQ:mg "set"=none
 zc:mg "sorted"=none
 nD:mg "tuple"=none
 B4:∃a,mg "block_read"=some (.ref a)
 E7:∃a,mg "item_read"=some (.ref a)
 xT:∃a,mg "LOST"=some (.ref a)
 NP:∀a,mg "LOST"=some (.ref a)->∀H,dJ K H a (([46,46,46]:acZ).map V.int)
 iw:∃a,mg "QUARTERS"=some (.ref a)
 gD:∀a,mg "QUARTERS"=some (.ref a)->∀H,dJ K H a (([1,2,3,4]:acZ).map V.int)
 jK:∃a,mg "NEST_PLACES"=some (.ref a)
 zD:∀a,mg "NEST_PLACES"=some (.ref a)->∃as:List Addr,(∀H,dJ K H a (as.map V.ref))/\Paired (λ(p:Addr) (ns:acZ)=>∀H,dJ K H p (ns.map V.int)) as [[110,119],[110],[110,101],[119],[99],[101],[115,119],[115],[115,101]]
 B5:∃a,mg "TIES"=some (.ref a)
 U1:∀a,mg "TIES"=some (.ref a)->Q0 K a [(58,1),(42,2),(38,3)]
 gO:∃a,mg "SIGN_AND_BLANK"=some (.ref a)
 um:∀a,mg "SIGN_AND_BLANK"=some (.ref a)->∀H,dJ K H a (([115,105,103,110,32]:acZ).map V.int)
 bF:Bv K A.Cursor
 O8:mg "Cursor"=some (.ref A.Cursor)
 mm:dj K A.Cursor "text"
 jX:dj K A.Cursor "at"
 cB:Bv K A.Place
 Sn:mg "Place"=some (.ref A.Place)
 cZ:dj K A.Place "name"
 ni:dj K A.Place "size"
 eO:dj K A.Place "mirrored"
 ed:dj K A.Place "damaged"
 gu:dj K A.Place "uncertain"
 qD:Bv K A.Row
 YU:mg "Row"=some (.ref A.Row)
 fR:dj K A.Row "places"
 nh:dj K A.Row "breaks"
 ff:Bv K A.Level
 So:mg "Level"=some (.ref A.Level)
 cW:dj K A.Level "closer"
 nj:dj K A.Level "left"
 ig:dj K A.Level "loosest"
 bS:Bv K A.bw
 ID:mg "Possible"=some (.ref A.bw)
 eN:dj K A.bw "signs"
 eV:dj K A.bw "numbers"
 fH:dj K A.bw "looks"
 fI:dj K A.bw "known"
 iz:Bv K A.Tree
 VC:mg "Tree"=some (.ref A.Tree)
 eE:dj K A.Tree "below"
 jV:dj K A.Tree "held"
 jc:Bv K A.Sign
 VD:mg "Sign"=some (.ref A.Sign)
 jW:dj K A.Sign "name"
 ml:dj K A.Sign "sounds"
 iE:dj K A.Sign "rows"
 jD:Bv K A.ik
 Ma:mg "Stretch"=some (.ref A.ik)
 nP:dj K A.ik "signs"
 nO:dj K A.ik "words"
 jA:dj K A.ik "places"
end
variable{P:Program}{w:World}{K:Frag}{mg:ac0}{base:Heap}{A:CA}
def Aw(tx:Addr)(k:Nat):List (Str×V):=[("text",.ref tx),("at",.int k)]
structure CU where
 c:Addr
 tx:Addr
 b:Bytes
structure jE(K:Frag)(A:CA)(H:Hp)(u:CU)(r:Bytes):Prop where
 sq:cg K H u.tx ((ib u.b).map V.int)
 ob:∃dx k,H u.c=some (.ins A.Cursor dx (Aw u.tx k))/\u.b.drop k=r
abbrev KC(A:CA)(u:CU):Hp->Hp->Prop:=Kp (Pt A.Cursor u.c)
theorem jE.same{K:Frag}{A:CA}{H H':Hp}{u:CU}{r:Bytes}(h:jE K A H u r)(s:bJ H H'):jE K A H' u r:=by
 obtain⟨h2,dx,i,h1,h3⟩:=h;exact⟨s.seq h2,dx,i,s _ _ h1,h3⟩
theorem jE.uj{K:Frag}{A:CA}{H0 H:Hp}{u:CU}{p:Addr}{r r0:Bytes}{o:HO}(h:jE K A H u r)(h0:jE K A H0 u r0)(hp:H0 p=.none):jE K A (L2.upd H p o) u r:=by
 obtain⟨h2,dx,i,h1,h3⟩:=h;obtain⟨g2,Xs,i0,g1,g3⟩:=h0;refine⟨?_,dx,i,by rw[aH (bo g1 hp)];exact h1,h3⟩;rcases g2 with g2|g2
 ·have gT:u.tx≠p:=by
   rcases g2 with g2|⟨ob,g2⟩ <;> exact bo g2 hp
  rcases h2 with h2|h2
  ·rcases h2 with h2|⟨ob,h2⟩
   ·exact .inl (.inl (by rw[aH gT];exact h2))
   ·exact .inl (.inr ⟨ob,by rw[aH gT];exact h2⟩)
  ·exact .inr h2
 ·exact .inr g2
theorem jE.at{K:Frag}{A:CA}{H:Hp}{u:CU}{r:Bytes}(h:jE K A H u r):∃dx k,H u.c=some (.ins A.Cursor dx (Aw u.tx k)):=by
 obtain⟨_,dx,i,h1,_⟩:=h;exact⟨dx,i,h1⟩
def uu(K:Frag)(A:CA):Sp:=λvs H Q _=>∃(c tx:Addr),vs=[.ref c,.ref tx]/\∃(dx:Addr) (b:Bytes),H c=some (.ins A.Cursor dx [])/\cg K H tx ((ib b).map V.int)/\∀H',KC A ⟨c,tx,b⟩ H H'->jE K A H' ⟨c,tx,b⟩ b->Q .eZ H'
def j6(K:Frag)(A:CA):Sp:=λvs H Q _=>∃(u:CU),vs=[.ref u.c]/\∃r,jE K A H u r/\Q (.int (hd r)) H
def qL(K:Frag)(A:CA):Sp:=λvs H Q _=>∃(u:CU),vs=[.ref u.c]/\∃r,jE K A H u r/\∀H',KC A u H H'->jE K A H' u r.tail->Q .eZ H'
def js(K:Frag)(A:CA):Sp:=λvs H Q _=>∃(u:CU) (w:Int),vs=[.ref u.c,.int w]/\∃r,jE K A H u r/\∀H',KC A u H H'->jE K A H' u (tk r w)->Q (.bl (decide (hd r=w))) H'
def uq(K:Frag)(A:CA):Sp:=λvs H Q _=>∃(u:CU) (t:Addr),vs=[.ref u.c,.ref t]/\∃(r:Bytes) (ws:acZ),jE K A H u r/\dJ K H t (ws.map V.int)/\(∀v∈ws,0<=v)/\
 ∀H' r',KC A u H H'->jE K A H' u r'->(ib r=ws++ib r'->Q (.bl true) H')/\((∀r2,ib r≠ws++ib r2)->Q (.bl false) H')
theorem ra(D:Q4 K "Cursor.__init__" A.Cursor iW)(T:Tx mg K A):lB P w K mg base "Cursor" A.Cursor 1 ["self","text"] (uu K A):=by
 refine D.iO T.O8 qO (λ_ _ _ _ _ _ us hl=>match us,hl with | [_,_],_=>rfl) (λvs H Q E h=>by obtain⟨_,_,rfl,_⟩:=h;rfl) (λf dG Ar outer s H vs Q E hr h=>?_);obtain⟨c,tx,rfl,dx,b,hc,ht,k⟩:=h;refine⟨_,(aq (dH (pv 0) (pv 1) rfl) (aC (dH (pv 0) cF rfl))),?_⟩;refine⟨_,rfl,_,rfl,c,_,dx,_,rfl,hc,T.bF,T.mm,(uU rfl),?_⟩;refine⟨_,rfl,c,_,dx,_,rfl,ak,T.bF,T.jX,(uU rfl),?_⟩;have k1:KC A ⟨c,tx,b⟩ H (L2.upd H c (.ins A.Cursor dx [("text",.ref tx)])):=.wr hc ⟨rfl,dx,_,rfl⟩;have k2:=k1.trans (.wr (o:=.ins A.Cursor dx (Aw tx 0)) ak ⟨rfl,dx,_,rfl⟩);exact k _ k2 ⟨k2.seq ht Gb,dx,0,ak,rfl⟩
theorem aaz{b:Bytes}{k:Nat}{r:Bytes}(h:b.drop k=r):(decide ((k:Int)<(((ib b).map V.int).length:Nat))=true/\∃c r',r=c::r'/\Em ((ib b).map V.int) (k:Nat)=some (.int (c.toNat:Int))/\b.drop (k+1)=r')\/(decide ((k:Int)<(((ib b).map V.int).length:Nat))=false/\r=[]/\b.drop (k+1)=[]):=by
 rw[af,dI];by_cases hk:k<b.length
 ·left
  refine⟨ai (by omega),b[k],b.drop (k+1),?_,?_,rfl⟩
  ·rw[<-h,j3 hk]
  ·refine at_of (j:=k) rfl ?_;rw[aM];unfold ib;rw[aM,aZ hk];rfl
 ·right
  refine⟨ag (by omega),?_,aaQ (by omega)⟩;rw[<-h];exact aaQ (by omega)
theorem yg(D:K9 K "byte" "Cursor.byte" A.Cursor mj)(T:Tx mg K A):d4 P w K mg base A.Cursor "byte" 1 ["self"] (j6 K A):=by
 refine D.iO xO (λ_ _ _ _ _ _ us hl=>match us,hl with | [_],_=>rfl) (λvs H Q E h=>by obtain⟨_,rfl,_⟩:=h;rfl) (λf dG Ar outer s H vs Q E hr h=>?_);obtain⟨⟨c,tx,b⟩,rfl,r,hC,k⟩:=h;obtain⟨ht,dx,i,hc,Xb⟩:=id hC;refine⟨_,(aq (bR (bC Fk (bD (pv 0) rfl) (bV bG rfl T.eI B.dh (aj (bD (pv 0) rfl) aB)) (bL _)) (aC (aV (fu d5 (bD (pv 0) rfl) (bD (pv 0) rfl) (λ_ _=>rfl)))) bf) (aC (aV (dP rfl T.mM)))),?_⟩;refine⟨_,rfl,c,_,dx,_,_,rfl,hc,T.bF,T.jX,rfl,_,rfl,c,_,dx,_,_,rfl,hc,T.bF,T.mm,rfl,tx,_,rfl,.inl ht,_,_,rfl,rfl,_,rfl,?_⟩;rcases aaz Xb with ⟨e1,x,r',rfl,e2,_⟩|⟨e1,rfl,_⟩
 ·rw[e1];exact bI ⟨_,rfl,c,_,dx,_,_,rfl,hc,T.bF,T.mm,rfl,_,rfl,c,_,dx,_,_,rfl,hc,T.bF,T.jX,rfl,tx,_,_,_,rfl,rfl,ht,e2,k⟩
 ·rw[e1];exact bO k
theorem yf(D:K9 K "step" "Cursor.step" A.Cursor mi)(T:Tx mg K A):d4 P w K mg base A.Cursor "step" 1 ["self"] (qL K A):=by
 refine D.iO xN (λ_ _ _ _ _ _ us hl=>match us,hl with | [_],_=>rfl) (λvs H Q E h=>by obtain⟨_,rfl,_⟩:=h;rfl) (λf dG Ar outer s H vs Q E hr h=>?_);obtain⟨⟨c,tx,b⟩,rfl,r,hC,k⟩:=h;obtain⟨ht,dx,i,hc,Xb⟩:=id hC;refine⟨_,(aC (dH (pv 0) (ft lh (bD (pv 0) rfl) cF) rfl)),?_⟩;refine⟨_,rfl,c,_,dx,_,_,rfl,hc,T.bF,T.jX,rfl,_,_,rfl,rfl,_,rfl,c,_,dx,_,rfl,hc,T.bF,T.jX,(uU rfl),?_⟩;have k1:KC A ⟨c,tx,b⟩ H (L2.upd H c (.ins A.Cursor dx (Aw tx (i+1)))):=.wr hc ⟨rfl,dx,_,rfl⟩;have e:b.drop (i+1)=r.tail:=by
  rw[<-Xb,List.tail_drop]
 exact k _ k1 ⟨k1.seq ht Gb,dx,i+1,ak,e⟩
theorem ye(D:K9 K "took" "Cursor.took" A.Cursor mh)(T:Tx mg K A)(aY:d4 P w K mg base A.Cursor "byte" 1 ["self"] (j6 K A))(bX:d4 P w K mg base A.Cursor "step" 1 ["self"] (qL K A)):d4 P w K mg base A.Cursor "took" 2 ["self","wanted"] (js K A):=by
 refine D.iO xM (λ_ _ _ _ _ _ us hl=>match us,hl with | [_,_],_=>rfl) (λvs H Q E h=>by obtain⟨_,_,rfl,_⟩:=h;rfl) (λf dG Ar outer s H vs Q E hr h=>?_);obtain⟨⟨c,tx,b⟩,w,rfl,r,hC,k⟩:=h;obtain⟨ht,dx,i,hc,Xb⟩:=id hC;refine⟨_,(aq (bR (bC vn (cO (pv 0) T.bF aY hr.m) (pv 1) (bL _)) (aC (aV fw)) bf) (aq (cY (cO (pv 0) T.bF bX hr.m)) (aC (aV fw)))),?_⟩;refine⟨_,rfl,c,dx,_,rfl,hc,rfl,⟨c,tx,b⟩,rfl,r,hC,_,rfl,rfl,_,rfl,?_⟩;by_cases h1:hd r=w
 ·subst h1;unfold tk at k;rw[ah rfl,ai rfl] at k;refine Y1 rfl ⟨_,rfl,c,dx,_,rfl,hc,rfl,⟨c,tx,b⟩,rfl,r,hC,λH' k1 C1=>?_⟩;exact k H' k1 C1
 ·unfold tk at k;rw[ae h1,ag h1] at k;have e:(!decide (V.int (hd r)=V.int w))=true:=by
   rw[ag (λq=>h1 (V.int.inj q))];rfl
  rw[e];exact bI (k H (.refl _ H) hC)
theorem qZ(D:K9 K "took_all" "Cursor.took_all" A.Cursor iV)(T:Tx mg K A)(aU:d4 P w K mg base A.Cursor "took" 2 ["self","wanted"] (js K A)):d4 P w K mg base A.Cursor "took_all" 3 ["self","wanted"] (uq K A):=by
 refine D.iO k6 (λ_ _ _ _ _ _ us hl=>match us,hl with | [_,_],_=>rfl) (λvs H Q E h=>by obtain⟨_,_,rfl,_⟩:=h;rfl) (λf dG Ar outer s H vs Q E hr h=>?_);obtain⟨u,t,rfl,r,ws,hC,ht,hw,k⟩:=h;refine⟨_,(aq (iY bP rfl (Ce (pv 1)) (qx 2 k6.nd) (aC (bR (fo (cE (cy (pv 0) T.bF aU hr.m (aj (pv 2) aB)))) (aC (aV fw)) bf))) (aC (aV fw))),?_⟩
 refine⟨_,rfl,t,rfl,⟨_,ht⟩,DC (K:=K) (a:=t) (xs:=ws.map V.int) (λi σ H1=>∃(r1:Bytes) (v2:Option V),σ=[some (.ref u.c),some (.ref t),v2]/\KC A u H H1/\jE K A H1 u r1/\ib r=ws.take i++ib r1)
  ⟨r,none,rfl,.refl _ H,hC,rfl⟩ (λi σ H1 _ ⟨_,_,_,k1,_⟩=>k1.tup ht Pr) ?turn ?after⟩
 case turn=>
  rintro i x σ H1 hi ⟨r1,v2,rfl,k1,C1,e1⟩;rw[aM] at hi;cases Hm:ws[i]? with
  |none=>rw[Hm] at hi;cases hi
  |some y=>
   rw[Hm] at hi;cases hi;obtain⟨dx,j,hc⟩:=C1.at;have hy:0<=y:=hw y (aL Hm);refine⟨_,rfl,u.c,dx,_,rfl,hc,rfl,_,rfl,u,y,rfl,r1,C1,λH2 k2 C2=>⟨_,rfl,?_⟩⟩;unfold tk at C2;by_cases h1:hd r1=y
   ·rw[ai h1];rw[ah h1] at C2;refine bO ⟨r1.tail,_,rfl,k1.trans k2,C2,?_⟩;cases r1 with
    |nil=>exact absurd (show(-1:Int)=y from h1) (by omega)
    |cons z r1=>
     have hz:(z.toNat:Int)=y:=h1;rw[e1,bN,Hm,az,gS,hz];rfl
   ·rw[ag h1];rw[ae h1] at C2;refine bI ((k H2 r1 (k1.trans k2) C2).2 λr2 e2=>h1 ?_);have e3:ws=ws.take i++y::ws.drop (i+1):=by
     have gV:=(aG.mp Hm).1;have he:=(aG.mp Hm).2;rw[<-he,<-j3 gV,zw]
    rw[e1,e3,az] at e2;have hlen:(List.take i (List.take i ws++y::List.drop (i+1) ws)).length=(List.take i ws).length:=by rw[<-e3]
    rw[<-e3] at e2;have e4:=aaG e2;cases r1 with
    |nil=>rw[VQ] at e4;cases e4
    |cons z r1=>
     rw[gS,cj] at e4;exact(iM e4).1
 case after=>
  rintro σ H1 ⟨r1,v2,rfl,k1,C1,e1⟩;rw[af,cM] at e1;exact(k H1 r1 k1 C1).1 e1
def JN:Sp:=λvs H Q _=>∃n:Int,vs=[.int n]/\Q (.bl (decide (97<=n)&&decide (n<=122))) H
def JL:Sp:=λvs H Q _=>∃(a:Addr) (w:Bytes),vs=[.ref a]/\IL H a (ib w)/\w.length<=1000/\∀(H':Hp) (p:Addr),bJ H H'->IL H' p (ib (fill 32 w))->Q (.ref p) H'
def Uk:Sp:=λvs H Q _=>∃(a b:Addr) (w y:Bytes),vs=[.ref a,.ref b]/\IL H a (ib w)/\IL H b (ib y)/\w.length<=1000/\∀H':Hp,bJ H H'->Q (.bl (decide (w.length<=32)&&wordBefore y (fill 32 w))) H'
def JP(K:Frag):Sp:=λvs H Q _=>∃(a:Addr) (b:Bytes),vs=[.ref a]/\cg K H a ((ib b).map V.int)/\∀H':Hp,bJ H H'->Q (.int (o8 b)) H'
def AG(K:Frag):Sp:=λvs H Q _=>∃(a:Addr) (b:Bytes),vs=[.ref a]/\cg K H a ((ib b).map V.int)/\b.length<=100000/\∀(H':Hp) (p:Addr) (rs:ac1),bJ H H'->LL H' p rs ((rE [] b).map ib)->Q (.ref p) H'
theorem Cs(D:Df K mg "is_letter" oH)(T:Tx mg K A):e7 P w K mg base "is_letter" 1 ["byte"] JN:=by
 refine D.iO BV (λ_ _ _ _ _ _ us hl=>match us,hl with | [_],_=>rfl) (λvs H Q E h=>by obtain⟨n,rfl,_⟩:=h;rfl) (λf dG A outer s H vs Q E hr h=>?_);obtain⟨n,rfl,k⟩:=h;refine⟨_,(aC (aV (sE kq kq (dP rfl T.yW) (pv 0) (dP rfl T.qC)))),?_⟩;refine⟨_,rfl,_,_,rfl,rfl,_,rfl,Mn (λh1=>⟨_,_,rfl,rfl,?_⟩) (λh1=>?_)⟩
 ·rw[h1] at k;exact k
 ·rw[eT] at h1;rw[h1] at k;exact k
theorem R7(D:Df K mg "last_word_from" ju)(T:Tx mg K A):e7 P w K mg base "last_word_from" 1 ["begun"] JL:=by
 refine D.iO sf (λ_ _ _ _ _ _ us hl=>match us,hl with | [_],_=>rfl) (λvs H Q E h=>by obtain⟨_,_,rfl,_⟩:=h;rfl) (λf dG A outer s H vs Q E hr h=>?_);obtain⟨a,w,rfl,ha,hw,k⟩:=h;refine⟨_,(aC (aV (ft Cm (pv 0) (ft OE (dD (aj (dP rfl T.qC) aB)) (ft Il (dP rfl T.o5) (bV bG rfl T.eI B.dh (aj (pv 0) aB))))))),?_⟩;refine⟨_,rfl,(F1 rfl),λp1 h1=>⟨_,rfl,_,_,rfl,.inl (ha.same (aF h1)).sq,_,_,rfl,rfl,_,_,_,rfl,rfl,ak,?_,?_,?_,λp2 h2=>⟨_,_,_,_,rfl,rfl,(ha.same (aF h1)).same (aF h2),ak,?_,λp3 h3=>?_⟩⟩⟩
 ·rw[af,dI];omega
 ·rw[af,dI];omega
 ·rw[af,dI];show 1*((32:Int) - (w.length:Int)).toNat<=sizeLine;have:(100:Nat)<=sizeLine:=by decide
  omega
 ·rw[af,dI,len_rep,fX];have:(2000:Nat)<=sizeLine:=by decide
  omega
 ·refine k _ p3 (((aF h1).trans (aF h2)).trans (aF h3)) ?_;show upd _ _ _ _=_;rw[ak];refine bb (λq=>some (HO.lst q)) ?_;rw[af,dI];have e:((32:Int) - (w.length:Int)).toNat=32 - w.length:=by omega
  rw[e];unfold SM.fill;rw[oY,aN];refine bb (_++ ·) ?_;generalize 32 - w.length=m
  induction m with
  |zero=>rfl
  |succ m ih=>
   rw[dq,dq,jf,ih];rfl
theorem Vv(D:Df K mg "can_become_word" iU)(T:Tx mg K A)(jF:e7 P w K mg base "last_word_from" 1 ["begun"] JL):e7 P w K mg base "can_become_word" 2 ["begun","before"] Uk:=by
 refine D.iO qN (λ_ _ _ _ _ _ us hl=>match us,hl with | [_,_],_=>rfl) (λvs H Q E h=>by obtain⟨_,_,_,_,rfl,_⟩:=h;rfl) (λf dG A outer s H vs Q E hr h=>?_);obtain⟨a,b,w,y,rfl,ha,hb,hw,k⟩:=h;refine⟨_,(aC (aV (Vo (i5 kq (bV bG rfl T.eI B.dh (aj (pv 0) aB)) (dP rfl T.o5) (bL _)) (Ij (i5 (LC.Vs hr.HD) (bB jF hr.m rfl (aj (pv 0) aB)) (pv 1) (bL _)))))),?_⟩;refine⟨_,rfl,_,_,rfl,.inl ha.sq,_,_,rfl,rfl,_,rfl,?_⟩;rw[af,dI];by_cases h1:w.length<=32
 ·have e1:decide ((w.length:Int)<=32)=true:=ai (by omega);rw[e1];refine bI ⟨_,rfl,_,_,rfl,ha,hw,λH' p sm hp=>⟨_,rfl,_,_,_,_,rfl,rfl,hp.sq,(hb.same sm).sq,?_⟩⟩;rw[cmp_gt];have:=k H' sm;rw[ai h1,iN] at this;exact this
 ·have e1:decide ((w.length:Int)<=32)=false:=ag (by omega);rw[e1];refine bO ?_;have:=k H (bJ.refl H);rw[ag h1,d8] at this;exact this
theorem b10{c:UInt8}:((c.toNat:Int)=10)↔c=10:=by
 constructor
 ·intro h;exact b8.mp (show c.toNat=10 by omega)
 ·rintro rfl;rfl
theorem Uv{b:Bytes}{i:Nat}{x:V}(h:((ib b).map V.int)[i]?=some x):∃c,b[i]?=some c/\x=V.int (c.toNat:Int):=by
 rw[aM] at h;unfold ib at h;rw[aM] at h;cases e:b[i]? with
 |none=>
  rw[e] at h;cases h
 |some c=>
  rw[e] at h;exact⟨c,rfl,(aX h).symm⟩
theorem OG(D:Df K mg "fault_place" md)(T:Tx mg K A)(fh:e7 P w K mg base "is_letter" 1 ["byte"] JN)(je:e7 P w K mg base "can_become_word" 2 ["begun","before"] Uk):e7 P w K mg base "fault_place" 3 ["text"] (JP K):=by
 refine D.iO cV (λ_ _ _ _ _ _ us hl=>match us,hl with | [_],_=>rfl) (λvs H Q E h=>by obtain⟨_,_,rfl,_⟩:=h;rfl) (λf dG A outer s H vs Q E hr h=>?_);obtain⟨a,b,rfl,ha,k⟩:=h;refine⟨_,(aq (gc 1 cV.nd (dD aB)) (aq (gc 2 cV.nd (dD aB)) (aq (gc 3 cV.nd cF) (aq (iY bP rfl (lG rfl T.eJ (aj (pv 0) aB)) (uG rfl (eB (qx 4 cV.nd) (eB (qx 5 cV.nd) lH))) (aC (bR (bC gI (pv 5) (dP rfl T.ll) (bL _)) (aq (bR (bC (LC.Vr hr.HD) (pv 2) (pv 1) (bL _)) (aC (aV (pv 4))) bf) (aq (gc 1 cV.nd (pv 2)) (aq (gc 2 cV.nd (dD aB)) (aC (gc 3 cV.nd (ft lh (pv 3) cF)))))) (aq (bR (PW.pt (qw (bC gI (pv 3) (dP rfl T.Dv) (bL _)) (oN (fo (cE (bB fh hr.m rfl (aj (pv 5) aB))))))) (aC (aV (pv 4))) bf) (aq (gc 2 cV.nd (ft Cm (pv 2) (dD (aj (pv 5) aB)))) (aC (bR (fo (cE (bB je hr.m rfl (aj (pv 2) (aj (pv 1) aB))))) (aC (aV (pv 4))) bf))))))) (aq (bR (PW.pt (qw (bC gI (pv 3) cF (bL _)) (oN (bC sI (bV bG rfl T.eI B.dh (aj (pv 2) aB)) cF (bL _))))) (aC (aV (bV bG rfl T.eI B.dh (aj (pv 0) aB)))) bf) (aC (aV (dP rfl T.yR)))))))),?_⟩;refine⟨aD _,λpb Mt=>⟨aD _,λpg Xe=>?_⟩⟩;have s1:bJ H (upd H pb (.lst [])):=aF Mt;have s2:=s1.trans (aF (o:=.lst []) Xe)
 refine⟨_,rfl,a,_,rfl,s2.seq ha,o7 (K:=K) (a:=a) (xs:=(ib b).map V.int) (λi σ H'=>∃(X:Lexicon) (w:Bytes) (qb qg:Addr) (v4 v5:Option V),σ=[some (.ref a),some (.ref qb),some (.ref qg),some (.int (X.length:Nat)),v4,v5]/\bJ H H'/\IL H' qb (ib (gg X))/\IL H' qg (ib w)/\oa X w/\readLexicon b=wordsAt X w i (b.drop i))
  ?start (λi σ H' _ ⟨_,_,_,_,_,_,_,s5,_⟩=>s5.seq ha) ?turn ?after⟩
 case start=>
  exact⟨[],[],pb,pg,none,none,rfl,s2,by show upd _ _ _ _=_;rw[aH (bo ak Xe),ak];rfl,ak,oa.start,rfl⟩
 case turn=>
  rintro i x σ H1 Tp hi ⟨X,w,qb,qg,v4,v5,rfl,s5,hb,hg,I,vB⟩ hT;obtain⟨c,hc,rfl⟩:=Uv hi;rw[drop_cons hc] at vB;have s6:bJ H1 (upd H1 Tp (.tup [.int i,.int (c.toNat:Int)])):=aF hT;have s7:=s5.trans s6;have ret:readLexicon b=.error i->∀H',bJ H H'->Q (.int i) H':=λe H' sm=>by
   have:=k H' sm;unfold o8 at this;rw[e] at this;exact this
  refine⟨Tp,_,rfl,dJ.of ak,rfl,_,_,rfl,_,_,rfl,rfl,⟨_,rfl,rfl,_,rfl,Mn (λh1=>?_) (λh1=>?_)⟩⟩
  ·have IW:c=10:=b10.mp (V.int.inj (bA h1));subst IW;rw[Js] at vB;refine⟨_,rfl,_,rfl,qg,qb,_,_,rfl,rfl,(hg.same s6).sq,(hb.same s6).sq,_,rfl,?_⟩;rw[QI];cases hw:wordBefore (gg X) w with
   |false=>
    rw[hw] at vB;exact bI ⟨_,rfl,ret vB _ s7⟩
   |true=>
    rw[hw,ah rfl] at vB;refine bO ⟨_,rfl,aD _,λp3 h3=>⟨_,rfl,_,_,rfl,rfl,X++ [w],[],qg,p3,some (.int i),some (.int ((10:UInt8).toNat:Int)),?_,s7.trans (aF h3),?_,ak,I.put hw,vB⟩⟩
    ·have e:((X++ [w]).length:Int)=(X.length:Int)+1:=by
      rw[aw];rfl
     rw[e];rfl
    ·rw[IG];exact(hg.same s6).same (aF h3)
  ·have IW:c≠10:=λq=>h1 (ai (bb V.int (b10.mpr q)))
   rw[D8 I i c _ IW] at vB;refine⟨_,rfl,rfl,_,rfl,?_⟩;by_cases hX:X.length<4096
   ·have e0:decide (V.int (X.length:Nat)=V.int 4096)=false:=ag λq=>by
     have:=V.int.inj q;omega
    rw[e0];refine bO ⟨_,rfl,_,rfl,_,rfl,?_⟩;have eS:(decide ((97:Int)<=(c.toNat:Int))&&decide ((c.toNat:Int)<=122))=isSmall c:=by
     unfold isSmall;rw[show decide ((97:Int)<=(c.toNat:Int))=decide (97<=c.toNat) from dN.mpr (by omega),show decide ((c.toNat:Int)<=122)=decide (c.toNat<=122) from dN.mpr (by omega)]
    rw[eS];cases hS:isSmall c with
    |false=>
     rw[hS,ae (λq=>absurd q.2.1 aT)] at vB;exact bI ⟨_,rfl,ret vB _ s7⟩
    |true=>
     refine bO ⟨_,rfl,_,rfl,(F1 rfl),λp1 h2=>?_⟩;have s8:=aF (o:=.lst [.int (c.toNat:Int)]) h2;refine⟨_,_,_,_,rfl,rfl,(hg.same s6).same s8,ak,?_,λp2 h3=>?_⟩
     ·rw[af,dI];show w.length+1<=sizeLine;have:(2000:Nat)<=sizeLine:=by decide
      have:=I.wl;omega
     ·have s9:=aF (o:=.lst ((ib w).map V.int++ [.int (c.toNat:Int)])) h3;have eg:(ib w).map V.int++ [V.int (c.toNat:Int)]=(ib (w++ [c])).map V.int:=by
       rw[oY,aN];rfl
      rw[eg] at s9 ⊢;have Wc:IL (upd (upd (upd H1 Tp (.tup [.int i,.int (c.toNat:Int)])) p1 (.lst [.int (c.toNat:Int)])) p2 (.lst ((ib (w++ [c])).map V.int))) p2 (ib (w++ [c])):=ak;have Nh:(w++ [c]).length<=1000:=by
       rw[aw];show w.length+1<=1000;have:=I.wl;omega
      refine⟨_,rfl,_,rfl,p2,qb,w++ [c],gg X,rfl,Wc,((hb.same s6).same s8).same s9,Nh,λH2 WZ=>⟨_,rfl,?_⟩⟩;have Yf:=((s7.trans s8).trans s9).trans WZ;cases hW:(decide ((w++ [c]).length<=32)&&wordBefore (gg X) (fill 32 (w++ [c]))) with
      |false=>
       have hn:¬(X.length<4096/\isSmall c=true/\w.length<32/\wordBefore (gg X) (fill 32 (w++ [c]))=true):=λq=>by
        rw[q.2.2.2,Bool.and_true,ai (by rw[aw];exact q.2.2.1)] at hW;cases hW
       rw[ae hn] at vB;exact bI ⟨_,rfl,ret vB _ Yf⟩
      |true=>
       rw[aS,bY,aw] at hW;have hp:X.length<4096/\isSmall c=true/\w.length<32/\wordBefore (gg X) (fill 32 (w++ [c]))=true:=⟨hX,hS,hW.1,hW.2⟩;rw[ah hp] at vB;exact bO ⟨X,w++ [c],qb,p2,_,_,rfl,Yf,(((hb.same s6).same s8).same s9).same WZ,Wc.same WZ,I.more hX hS hW.1,vB⟩
   ·have e0:decide (V.int (X.length:Nat)=V.int 4096)=true:=ai (bb V.int (by have:=I.xl;omega));rw[e0];rw[ae (λq=>hX q.1)] at vB;exact bI (bI ⟨_,rfl,ret vB _ s7⟩)
 case after=>
  rintro σ H1 ⟨X,w,qb,qg,v4,v5,rfl,s5,hb,hg,I,vB⟩;rw[af,dI,vP,wordsAt] at vB;refine⟨_,rfl,rfl,_,rfl,?_⟩;have ret:readLexicon b=.error b.length->∃v:V,([some (V.ref a),some (V.ref qb),some (V.ref qg),some (V.int (X.length:Nat)),v4,v5]:List (Option V))[0]?=some (some v)/\∃p ys,[v]=[V.ref p]/\(cg K H1 p ys\/dJ K H1 p ys)/\Q (.int (ys.length:Nat)) H1:=λe=>by
   have:=k H1 s5;unfold o8 at this;rw[e] at this;refine⟨_,rfl,a,_,rfl,.inl (s5.seq ha),?_⟩;rw[af,dI];exact this
  cases X with
  |nil=>
   rw[ae (λq=>absurd q.2 (by simp))] at vB;exact bI (bI (ret vB))
  |cons y X=>
   have e0:decide (V.int ((y::X).length:Nat)=V.int 0)=false:=ag λq=>by
    have:=V.int.inj q;rw[aJ] at this;omega
   rw[e0];refine bO ⟨_,rfl,qg,_,rfl,.inl hg.sq,_,_,rfl,rfl,_,rfl,?_⟩;rw[af,dI];cases w with
   |nil=>
    rw[ah ⟨rfl,rfl⟩] at vB;refine bO ?_;have:=k H1 s5;unfold o8 at this;rw[vB] at this;exact this
   |cons d w=>
    rw[ae (λq=>absurd q.1 (by simp))] at vB;have e1:decide ((0:Int)<((d::w).length:Nat))=true:=ai (by rw[aJ];omega);rw[e1];exact bI (ret vB)
theorem Fl(D:Df K mg "words_of" qP)(T:Tx mg K A):e7 P w K mg base "words_of" 1 ["text"] (AG K):=by
 refine D.iO jR (λ_ _ _ _ _ _ us hl=>match us,hl with | [_],_=>rfl) (λvs H Q E h=>by obtain⟨_,_,rfl,_⟩:=h;rfl) (λf dG A outer s H vs Q E hr h=>?_);obtain⟨a,b,rfl,ha,hlen,k⟩:=h;refine⟨_,(aq (gc 1 jR.nd (dD aB)) (aq (gc 2 jR.nd (dD aB)) (aq (iY bP rfl (lF (pv 0)) (qx 3 jR.nd) (aC (bR (bC gI (pv 3) (dP rfl T.ll) (bL _)) (aq (cY (jU bp bu bq dc (pv 1) (aj (pv 2) aB))) (aC (gc 2 jR.nd (dD aB)))) (aC (cY (jU bp bu bq dc (pv 2) (aj (pv 3) aB))))))) (aC (aV (pv 1)))))),?_⟩;refine⟨aD _,λpf lJ=>⟨aD _,λpg Xe=>?_⟩⟩;have s1:bJ H (upd H pf (.lst [])):=aF lJ;have s2:=s1.trans (aF (o:=.lst []) Xe);have nfg:pf≠pg:=bo ak Xe
 refine⟨_,rfl,a,rfl,⟨_,s2.seq ha⟩,GJ (K:=K) (a:=a) (xs:=(ib b).map V.int) (λi σ H'=>∃(W:ac3) (w:Bytes) (rs:ac1) (qg:Addr) (v3:Option V),σ=[some (.ref a),some (.ref pf),some (.ref qg),v3]/\bJ H H'/\H qg=none/\LL H' pf rs (W.map ib)/\IL H' qg (ib w)/\pf≠qg/\pf∉rs/\qg∉rs/\W.length<=i/\w.length<=i/\rE [] b=W++rE w (b.drop i))
  ?start (λi σ H' _ ⟨_,_,_,_,_,_,s5,_⟩=>s5.seq ha) ?turn ?after⟩
 case start=>
  exact⟨[],[],[],pg,none,rfl,s2,(s1.free Xe),⟨by rw[aH nfg,ak];rfl,.nil⟩,ak,nfg,by simp,by simp,aD _,aD _,rfl⟩
 case turn=>
  rintro i x σ H1 hi ⟨W,w,rs,qg,v3,rfl,s5,nq,L,hg,n1,n2,n3,l1,l2,tG⟩;obtain⟨c,hc,rfl⟩:=Uv hi;have hib:i<b.length:=(aG.mp hc).1;rw[drop_cons hc] at tG;have Ef:rs.length=W.length:=by
   have:=bc L.at_;rw[af] at this;exact this
  have Z3:(100001:Nat)<sizeLine:=by decide
  refine⟨_,rfl,rfl,_,rfl,Mn (λh1=>?_) (λh1=>?_)⟩
  ·have IW:c=10:=b10.mp (V.int.inj (bA h1));subst IW;have P6:rE [] b=W++ [w]++rE [] (b.drop (i+1)):=by
    rw[tG,az];rfl
   refine⟨_,rfl,.inl ⟨rfl,_,cg.of L.lst⟩,_,rfl,pf,_,_,rfl,rfl,L.lst,(by rw[af];omega),aD _,λp3 h3=>?_⟩;have nf3:pf≠p3:=bo ak h3;have h3':H1 p3=none:=by rw[aH (cv nf3)] at h3;exact h3
   have nq3:qg≠p3:=bo hg h3';refine⟨W++ [w],[],rs++ [qg],p3,_,rfl,BX (BX s5 lJ) (s5.free h3'),s5.free h3',⟨?_,?_⟩,ak,nf3,?_,?_,?_,aD _,P6⟩
   ·rw[aH nf3,ak,aN];rfl
   ·rw[aN];refine fG (mJ L.at_ λr ns hr h=>?_) ?_
    ·show upd _ _ _ r=_;rw[aH (bo h h3'),aH (λq:r=pf=>n2 (q▸hr))];exact h
    ·show upd _ _ _ qg=_;rw[aH nq3,aH (cv n1)];exact hg
   ·intro m;rcases bx.mp m with q|q
    ·exact n2 q
    ·exact n1 (aE.mp q)
   ·intro m;rcases bx.mp m with q|q
    ·obtain⟨j,hj⟩:=List.mem_iff_getElem?.mp q;have hjl:j<rs.length:=(aG.mp hj).1;have hjw:j<(W.map ib).length:=by rw[af];omega
     obtain⟨r,e1,e2⟩:=kf L.at_ (aZ hjw);rw[hj] at e1;cases e1;exact bo e2 h3' rfl
    ·exact nq3 (aE.mp q).symm
   ·rw[aw];show W.length+1<=i+1;omega
  ·have IW:c≠10:=λq=>h1 (ai (bb V.int (b10.mpr q)))
   have P6:rE [] b=W++rE (w++ [c]) (b.drop (i+1)):=by
    rw[tG];show W++(if c=10 then _ else _)=_;rw[ae IW]
   refine⟨_,rfl,.inl ⟨rfl,_,hg.sq⟩,_,rfl,qg,_,_,rfl,rfl,hg,(by rw[af,dI];omega),?_⟩;refine⟨W,w++ [c],rs,qg,_,rfl,BX s5 nq,nq,⟨?_,mJ L.at_ λr ns hr h=>?_⟩,?_,n1,n2,n3,by omega,?_,P6⟩
   ·rw[aH n1];exact L.lst
   ·show upd _ _ _ r=_;rw[aH (λq:r=qg=>n3 (q▸hr))];exact h
   ·show upd _ _ _ _=_;rw[ak,oY,aN];rfl
   ·rw[aw];show w.length+1<=i+1;omega
 case after=>
  rintro σ H1 ⟨W,w,rs,qg,v3,rfl,s5,nq,L,hg,n1,n2,n3,l1,l2,tG⟩;rw[af,dI,vP] at tG;have e:rE [] b=W:=by rw[tG];exact aI _
  refine⟨_,rfl,k H1 pf rs s5 ?_⟩;rw[e];exact L
def isS:Bytes->Bool
 | []=>false
 |c::_=>isSmall c
def SA:Bytes->Bool
 | []=>false
 |c::_=>isDigit c
def Y2:Bytes->Bool
 | []=>false
 |c::_=>isBig c
theorem Pq(r:Bytes):(decide ((97:Int)<=hd r)&&decide (hd r<=122))=isS r:=by
 cases r with
 |nil=>rfl
 |cons c r=>
  unfold hd isS isSmall
  grind
theorem Sz(r:Bytes):(decide ((48:Int)<=hd r)&&decide (hd r<=57))=SA r:=by
 cases r with
 |nil=>rfl
 |cons c r=>
  unfold hd SA isDigit
  grind
theorem SD(r:Bytes):(decide ((65:Int)<=hd r)&&decide (hd r<=90))=Y2 r:=by
 cases r with
 |nil=>rfl
 |cons c r=>
  unfold hd Y2 isBig
  grind
def N0:Sp:=λvs H Q _=>∃n:Int,vs=[.int n]/\Q (.bl (decide (48<=n)&&decide (n<=57))) H
def N4:Sp:=λvs H Q _=>∃n:Int,vs=[.int n]/\Q (.bl (decide (65<=n)&&decide (n<=90))) H
def xG(K:Frag)(A:CA):Sp:=λvs H Q _=>∃(u:CU),vs=[.ref u.c]/\∃r,jE K A H u r/\∀H',KC A u H H'->jE K A H' u (gd r).2->Q (.int ((gd r).1.toNat:Int)) H'
def ur(K:Frag)(A:CA):Sp:=λvs H Q _=>∃(u:CU),vs=[.ref u.c]/\∃r,jE K A H u r/\r.length<=10000000/\∀H' p,KC A u H H'->jE K A H' u (r.dropWhile isSmall)->H' p=some (.tup ((ib (r.takeWhile isSmall)).map V.int))->Q (.ref p) H'
def xF(K:Frag)(A:CA):Sp:=λvs H Q _=>∃(u:CU) (m:Int),vs=[.ref u.c,.int m]/\∃(r:Bytes) (mn:Nat),m=(mn:Int)/\mn<=1000/\jE K A H u r/\∀H',KC A u H H'->jE K A H' u (dZ mn r).2->Q (.int ((dZ mn r).1:Int)) H'
def HL(K:Frag)(A:CA):Sp:=λvs H Q _=>∃(u:CU),vs=[.ref u.c]/\∃r,jE K A H u r/\(A1 r=none->∀H' r',KC A u H H'->jE K A H' u r'->Q .eZ H')/\(∀n r',A1 r=some (n,r')->∀H' p,KC A u H H'->jE K A H' u r'->H' p=some (.tup ((vo n).map V.int))->Q (.ref p) H')
theorem Fo(D:Df K mg "is_digit" qS)(T:Tx mg K A):e7 P w K mg base "is_digit" 1 ["byte"] (N0):=by
 refine D.iO E1 (λ_ _ _ _ _ _ us hl=>match us,hl with | [_],_=>rfl) (λvs H Q E h=>by obtain⟨_,rfl,_⟩:=h;rfl) (λf dG Ar outer s H vs Q E hr h=>?_);obtain⟨n,rfl,k⟩:=h;refine⟨_,(aC (aV (sE kq kq (dP rfl T.jL) (pv 0) (dP rfl T.Dz)))),?_⟩;refine⟨_,rfl,_,_,rfl,rfl,_,rfl,Mn (λh1=>⟨_,_,rfl,rfl,?_⟩) (λh1=>?_)⟩
 ·rw[h1] at k;exact k
 ·rw[eT] at h1;rw[h1] at k;exact k
theorem zP(D:Df K mg "is_capital" mY)(T:Tx mg K A):e7 P w K mg base "is_capital" 1 ["byte"] (N4):=by
 refine D.iO zJ (λ_ _ _ _ _ _ us hl=>match us,hl with | [_],_=>rfl) (λvs H Q E h=>by obtain⟨_,rfl,_⟩:=h;rfl) (λf dG Ar outer s H vs Q E hr h=>?_);obtain⟨n,rfl,k⟩:=h;refine⟨_,(aC (aV (sE kq kq (dP rfl T.wq) (pv 0) (dP rfl T.yV)))),?_⟩;refine⟨_,rfl,_,_,rfl,rfl,_,rfl,Mn (λh1=>⟨_,_,rfl,rfl,?_⟩) (λh1=>?_)⟩
 ·rw[h1] at k;exact k
 ·rw[eT] at h1;rw[h1] at k;exact k
theorem yb(D:Df K mg "letter_read" ma)(T:Tx mg K A)(fh:e7 P w K mg base "is_letter" 1 ["byte"] (JN))(aY:d4 P w K mg base A.Cursor "byte" 1 ["self"] (j6 K A))(bX:d4 P w K mg base A.Cursor "step" 1 ["self"] (qL K A)):e7 P w K mg base "letter_read" 2 ["cursor"] (xG K A):=by
 refine D.iO oz (λ_ _ _ _ _ _ us hl=>match us,hl with | [_],_=>rfl) (λvs H Q E h=>by obtain⟨_,rfl,_⟩:=h;rfl) (λf dG Ar outer s H vs Q E hr h=>?_);obtain⟨u,rfl,r,hC,k⟩:=h;obtain⟨dx,i,hc⟩:=hC.at;refine⟨_,(aq (gc 1 oz.nd (cO (pv 0) T.bF aY hr.m)) (aq (bR (fo (cE (bB fh hr.m rfl (aj (pv 1) aB)))) (aC (aV (dP rfl T.GB))) bf) (aq (cY (cO (pv 0) T.bF bX hr.m)) (aC (aV (pv 1)))))),?_⟩;refine⟨_,rfl,u.c,dx,_,rfl,hc,rfl,u,rfl,r,hC,?_⟩;refine⟨_,rfl,_,rfl,_,rfl,?_⟩;rw[Pq];cases r with
 |nil=>exact bI (k H (.refl _ H) hC)
 |cons x r=>
  show if (!isSmall x)=true then _ else _
  have e:gd (x::r)=if isSmall x=true then(x,r) else(0,x::r):=rfl
  cases hx:isSmall x with
  |true=>
   rw[e,hx] at k;refine bO ⟨_,rfl,u.c,dx,_,rfl,hc,rfl,u,rfl,_,hC,λH' k1 C1=>⟨_,rfl,k H' k1 C1⟩⟩
  |false=>
   rw[e,hx] at k;exact bI (k H (.refl _ H) hC)
theorem Ry{r:Bytes}{x:UInt8}(h:isSmall x=true):(x::r).takeWhile isSmall=x::r.takeWhile isSmall/\(x::r).dropWhile isSmall=r.dropWhile isSmall:=by
 rw[bQ,ej,ah h,ah h];exact⟨rfl,rfl⟩
theorem Rx{r:Bytes}(h:isS r=false):r.takeWhile isSmall=[]/\r.dropWhile isSmall=r:=by
 cases r with
 |nil=>exact⟨rfl,rfl⟩
 |cons x r=>
  have hx:isSmall x=false:=h;rw[bQ,ej,ae (by rw[hx];decide),ae (by rw[hx];decide)];exact⟨rfl,rfl⟩
theorem vT(D:Df K mg "letters_read" k7)(T:Tx mg K A)(fh:e7 P w K mg base "is_letter" 1 ["byte"] (JN))(aY:d4 P w K mg base A.Cursor "byte" 1 ["self"] (j6 K A))(fq:e7 P w K mg base "letter_read" 2 ["cursor"] (xG K A)):e7 P w K mg base "letters_read" 3 ["cursor"] (ur K A):=by
 refine D.iO nN (λ_ _ _ _ _ _ us hl=>match us,hl with | [_],_=>rfl) (λvs H Q E h=>by obtain⟨_,rfl,_⟩:=h;rfl) (λf dG Ar outer s H vs Q E hr h=>?_);obtain⟨u,rfl,r,hC,hlen,k⟩:=h;refine⟨_,(aq (gc 1 nN.nd (dD aB)) (aq (jT bP (cE (bB fh hr.m rfl (aj (cO (pv 0) T.bF aY hr.m) aB))) (aC (cY (jU bp bu bq dc (pv 1) (aj (bB fq hr.m rfl (aj (pv 0) aB)) aB))))) (aC (aV (kR jM rfl T.nD B.pq (aj (pv 1) aB)))))),?_⟩;refine⟨aD _,λpf lJ=>?_⟩;refine⟨λm σ H1=>∃(r1 acc:Bytes),m=r1.length/\σ=[some (.ref u.c),some (.ref pf)]/\KC A u H H1/\jE K A H1 u r1/\H1 pf=some (.lst ((ib acc).map V.int))/\acc++r1.takeWhile isSmall=r.takeWhile isSmall/\r1.dropWhile isSmall=r.dropWhile isSmall/\acc.length+r1.length<=10000000,⟨_,r,[],rfl,rfl,.new lJ,hC.same (aF lJ),ak,rfl,rfl,by show 0+r.length<=10000000;omega⟩,?_⟩;rintro m σ H1 ⟨r1,acc,rfl,rfl,k1,C1,hf,e1,e2,hl⟩;obtain⟨dx,i,hc⟩:=C1.at;refine⟨_,rfl,u.c,dx,_,rfl,hc,rfl,u,rfl,r1,C1,_,rfl,_,rfl,?_⟩;rw[Pq];cases hS:isS r1 with
 |true=>
  cases r1 with
  |nil=>cases hS
  |cons x r1=>
   have hx:isSmall x=true:=hS;have e3:gd (x::r1)=(x,r1):=by
    show(if isSmall x=true then(x,r1) else(0,x::r1))=_;rw[ah hx]
   obtain⟨w1,w2⟩:=Ry (r:=r1) hx;rw[w1] at e1;rw[w2] at e2;rw[aJ] at hl;refine bI ⟨λeU H'=>∃(r2 acc:Bytes),r2.length<(x::r1).length/\eU=[some (.ref u.c),some (.ref pf)]/\KC A u H H'/\jE K A H' u r2/\H' pf=some (.lst ((ib acc).map V.int))/\acc++r2.takeWhile isSmall=r.takeWhile isSmall/\r2.dropWhile isSmall=r.dropWhile isSmall/\acc.length+r2.length<=10000000,λeU H' ⟨r2,ac,q1,q⟩=>⟨_,q1,r2,ac,rfl,q⟩,?_⟩;refine⟨_,rfl,.inl ⟨rfl,_,cg.of hf⟩,_,rfl,u,rfl,_,C1,λH2 k2 C2=>?_⟩;have Mz:H2 pf=some (.lst ((ib acc).map V.int)):=k2.kp _ _ hf λ⟨_,_,_,e⟩=>nomatch e
   rw[e3] at C2 ⊢;refine⟨pf,_,_,rfl,rfl,Mz,?_,?_⟩
   ·rw[af,dI];have:(10000001:Nat)<sizeLine:=by decide
    omega
   ·refine⟨r1,acc++ [x],by rw[aJ];omega,rfl,(k1.trans k2).uj lJ,C2.uj hC lJ,?_,?_,e2,?_⟩
    ·rw[ak,oY,aN];rfl
    ·rw[az];exact e1
    ·rw[aw];show acc.length+1+r1.length<=10000000;omega
 |false=>
  obtain⟨w1,w2⟩:=Rx hS;rw[w1,aI] at e1;rw[w2] at e2;refine bO ⟨_,rfl,pf,_,rfl,.inl ⟨cg.of hf,λp hp=>?_⟩⟩;refine k _ p (k1.trans (.new hp)) ((e2▸C1).same (aF hp)) ?_;rw[ak,e1]
theorem LX{m n:Nat}{x:UInt8}{r:Bytes}(h:isDigit x=true):gP m n (x::r)=if m<n*10+(x.toNat - 48) then(0,x::r) else gP m (n*10+(x.toNat - 48)) r:=by
 show(if isDigit x=true then _ else _)=_;rw[ah h]
theorem LW{m n:Nat}{r:Bytes}(h:SA r=false):gP m n r=(n,r):=by
 cases r with
 |nil=>rfl
 |cons x r=>
  show(if isDigit x=true then _ else _)=_;rw[ae (by rw[show isDigit x=false from h];decide)]
theorem Tv{x:UInt8}(h:isDigit x=true):48<=x.toNat/\x.toNat<=57:=by
 unfold isDigit at h;rw[aS,bY,bY] at h;exact h
theorem x9(D:Df K mg "number_read" lZ)(T:Tx mg K A)(rP:e7 P w K mg base "is_digit" 1 ["byte"] (N0))(aY:d4 P w K mg base A.Cursor "byte" 1 ["self"] (j6 K A))(bX:d4 P w K mg base A.Cursor "step" 1 ["self"] (qL K A)):e7 P w K mg base "number_read" 2 ["cursor","most"] (xF K A):=by
 refine D.iO kZ (λ_ _ _ _ _ _ us hl=>match us,hl with | [_,_],_=>rfl) (λvs H Q E h=>by obtain⟨_,_,rfl,_⟩:=h;rfl) (λf dG Ar outer s H vs Q E hr h=>?_);obtain⟨u,m,rfl,r,mn,rfl,hm,hC,k⟩:=h;obtain⟨dx,i,hc⟩:=hC.at;refine⟨_,(aq (bR (bC gI (cO (pv 0) T.bF aY hr.m) (dP rfl T.jL) (bL _)) (aC (aV (dP rfl T.jZ))) bf) (aq (gc 2 kZ.nd (dP rfl T.jZ)) (aq (jT bP (cE (bB rP hr.m rfl (aj (cO (pv 0) T.bF aY hr.m) aB))) (aq (gc 2 kZ.nd (ft Il (ft lh (ft uH (pv 2) cF) (cO (pv 0) T.bF aY hr.m)) (dP rfl T.jL))) (aq (bR (bC sI (pv 2) (pv 1) (bL _)) (aC (aV (dP rfl T.jZ))) bf) (aC (cY (cO (pv 0) T.bF bX hr.m)))))) (aC (aV (pv 2)))))),?_⟩;refine⟨_,rfl,u.c,dx,_,rfl,hc,rfl,u,rfl,r,hC,rfl,_,rfl,?_⟩;unfold dZ at k;by_cases h0:hd r=48
 ·rw[ah h0] at k;rw[ai (bb V.int h0)];exact bI (k H (.refl _ H) hC)
 rw[ae h0] at k;rw[ag (λq=>h0 (V.int.inj q))];refine bO ?_;refine⟨λq σ H1=>∃(r1:Bytes) (n:Nat),q=r1.length/\σ=[some (.ref u.c),some (.int mn),some (.int n)]/\KC A u H H1/\jE K A H1 u r1/\n<=mn/\gP mn n r1=gP mn 0 r,⟨_,r,0,rfl,rfl,.refl _ H,hC,aD _,rfl⟩,?_⟩;rintro q σ H1 ⟨r1,n,rfl,rfl,k1,C1,hn,e1⟩;obtain⟨dx,i,hc⟩:=C1.at;refine⟨_,rfl,u.c,dx,_,rfl,hc,rfl,u,rfl,r1,C1,_,rfl,_,rfl,?_⟩;rw[Sz];cases hS:SA r1 with
 |true=>
  cases r1 with
  |nil=>cases hS
  |cons x r1=>
   have hx:isDigit x=true:=hS;obtain⟨d1,d2⟩:=Tv hx;rw[LX hx] at e1;refine bI ⟨λeU H'=>∃(r2:Bytes) (n:Nat),r2.length<(x::r1).length/\eU=[some (.ref u.c),some (.int mn),some (.int n)]/\KC A u H H'/\jE K A H' u r2/\n<=mn/\gP mn n r2=gP mn 0 r,λeU H' ⟨r2,n2,q1,q⟩=>⟨_,q1,r2,n2,rfl,q⟩,?_⟩;refine⟨_,rfl,_,_,rfl,rfl,.inl ⟨by omega,by omega⟩,_,rfl,u.c,dx,_,rfl,hc,rfl,u,rfl,_,C1,_,_,rfl,rfl,_,_,rfl,rfl,?_⟩;have ev:(n:Int)*10+hd (x::r1) - 48=((n*10+(x.toNat - 48):Nat):Int):=by
    show(n:Int)*10+(x.toNat:Int) - 48=_;omega
   dsimp only;rw[ev];generalize hv:n*10+(x.toNat - 48)=v at e1;refine⟨_,rfl,_,rfl,_,_,rfl,rfl,_,rfl,?_⟩;by_cases h1:mn<v
   ·rw[ah h1] at e1;rw[ai (show(mn:Int)<(v:Nat) by omega)];rw[<-e1] at k;exact bI (k H1 k1 C1)
   ·rw[ae h1] at e1;rw[ag (show ¬(mn:Int)<(v:Nat) by omega)];refine bO ⟨_,rfl,u.c,dx,_,rfl,hc,rfl,u,rfl,_,C1,λH2 k2 C2=>?_⟩;exact⟨r1,v,by rw[aJ];omega,rfl,k1.trans k2,C2,by omega,e1⟩
 |false=>
  rw[LW hS] at e1;rw[<-e1] at k;exact bO ⟨_,rfl,k H1 k1 C1⟩
theorem Cq(D:Df K mg "name_read" oF)(T:Tx mg K A)(nI:e7 P w K mg base "is_capital" 1 ["byte"] (N4))(aY:d4 P w K mg base A.Cursor "byte" 1 ["self"] (j6 K A))(bX:d4 P w K mg base A.Cursor "step" 1 ["self"] (qL K A))(fq:e7 P w K mg base "letter_read" 2 ["cursor"] (xG K A))(gi:e7 P w K mg base "number_read" 2 ["cursor","most"] (xF K A)):e7 P w K mg base "name_read" 3 ["cursor"] (HL K A):=by
 refine D.iO kG (λ_ _ _ _ _ _ us hl=>match us,hl with | [_],_=>rfl) (λvs H Q E h=>by obtain⟨_,rfl,_⟩:=h;rfl) (λf dG Ar outer s H vs Q E hr h=>?_);obtain⟨u,rfl,r,hC,k1,k2⟩:=h;obtain⟨dx,i,hc⟩:=hC.at;refine⟨_,(aq (gc 1 kG.nd (cO (pv 0) T.bF aY hr.m)) (aq (bR (fo (cE (bB nI hr.m rfl (aj (pv 1) aB)))) (aC (aV cN)) bf) (aq (cY (cO (pv 0) T.bF bX hr.m)) (aq (gc 2 kG.nd (bB fq hr.m rfl (aj (pv 0) aB))) (aq (gc 3 kG.nd (bB gi hr.m rfl (aj (pv 0) (aj (dP rfl T.yT) aB)))) (aq (bR (bC gI (pv 3) (dP rfl T.jZ) (bL _)) (aC (aV cN)) bf) (aC (aV (gH (aj (pv 1) (aj (pv 2) (aj (pv 3) (aj (bB fq hr.m rfl (aj (pv 0) aB)) aB))))))))))))),?_⟩;refine⟨_,rfl,u.c,dx,_,rfl,hc,rfl,u,rfl,r,hC,?_⟩;refine⟨_,rfl,_,rfl,_,rfl,?_⟩;rw[SD];cases r with
 |nil=>exact bI (k1 rfl H _ (.refl _ H) hC)
 |cons x r=>
  have e0:A1 (x::r)=if isBig x=true then(if (dZ 999 (gd r).2).1=0 then none else some (⟨x,(gd r).1,(dZ 999 (gd r).2).1,(gd (dZ 999 (gd r).2).2).1⟩,(gd (dZ 999 (gd r).2).2).2)) else none:=rfl
  show if (!isBig x)=true then _ else _
  cases hx:isBig x with
  |false=>
   rw[e0,hx] at k1;exact bI (k1 rfl H _ (.refl _ H) hC)
  |true=>
   rw[e0,hx] at k1 k2;refine bO ⟨_,rfl,u.c,dx,_,rfl,hc,rfl,u,rfl,_,hC,λH1 q1 C1=>?_⟩;refine⟨_,rfl,u,rfl,_,C1,λH2 q2 C2=>?_⟩;refine⟨_,rfl,u,_,rfl,_,999,rfl,by decide,C2,λH3 q3 C3=>?_⟩;have e1:(List.tail (x::r))=r:=rfl;rw[e1] at C2 C3 ⊢;generalize hN:dZ 999 (gd r).2=nr at C3 k1 k2 ⊢;refine⟨_,rfl,rfl,_,rfl,?_⟩;by_cases hz:nr.1=0
   ·rw[ah rfl,ah hz] at k1;rw[ai (bb V.int (show(nr.1:Int)=0 by omega))];exact bI (k1 rfl H3 _ ((q1.trans q2).trans q3) C3)
   ·rw[ah rfl,ae hz] at k2;rw[ag (λq=>hz (by have:=V.int.inj q;omega))];refine bO ⟨_,rfl,_,rfl,_,rfl,_,rfl,u,rfl,_,C3,λH4 q4 C4=>?_⟩;refine⟨(F1 rfl),λp hp=>?_⟩;exact k2 _ _ rfl _ p ((((q1.trans q2).trans q3).trans q4).trans (.new hp)) (C4.same (aF hp)) ak
section
open FT (FU FK FM FS)
structure RO where
 rw:Addr
 pl:Addr
 br:Addr
def qV(q:ac2):List V:=q.map λ(n:Nat)=>V.int n
def YB(n:V)(k:Int)(m:Bool)(d:Addr)(s:Bool):List (Str×V):=[("name",n),("size",.int k),("mirrored",.bl m),("damaged",.ref d),("uncertain",.bl s)]
def jj(A:CA)(H:Hp)(a:Addr):FT.It->Prop
 | .stand s=>∃dx tn td,H a=some (.ins A.Place dx (YB (.ref tn) 0 s.mirrored td s.unsure))/\H tn=some (.tup ((vo s.name).map V.int))/\H td=some (.tup (qV s.quarters))
 | .gap k q=>∃dx td,H a=some (.ins A.Place dx (YB .eZ (k:Nat) false td false))/\H td=some (.tup (qV q))
 | .lost=>False
def roF(o:RO):List (Str×V):=[("places",.ref o.pl),("breaks",.ref o.br)]
structure vJ(A:CA)(H:Hp)(o:RO)(out:List FT.It):Prop where
 rw:∃dx,H o.rw=some (.ins A.Row dx (roF o))
 pl:∃as:List Addr,H o.pl=some (.lst (as.map V.ref))/\Paired (jj A H) as (dC out)
 br:H o.br=some (.lst (qV (fJ 0 out)))
def NX(K:Frag)(u:CU)(p:Addr):Prop:=∀H1 x,cg K H1 u.tx ((ib u.b).map V.int)->cg K (L2.upd H1 p x) u.tx ((ib u.b).map V.int)
theorem NX.of{K:Frag}{H:Hp}{u:CU}{p:Addr}(h:cg K H u.tx ((ib u.b).map V.int))(hp:H p=.none):NX K u p:=λH1 x g=>by
 rcases h with h|h
 ·have gT:u.tx≠p:=by
   rcases h with h|⟨ob,h⟩ <;> exact bo h hp
  rcases g with g|g
  ·rcases g with g|⟨ob,g⟩
   ·exact .inl (.inl (by rw[aH gT];exact g))
   ·exact .inl (.inr ⟨ob,by rw[aH gT];exact g⟩)
  ·exact .inr g
 ·exact .inr h
def SR(A:CA)(u:CU)(o:RO):Sel:=λb x=>Pt A.Cursor u.c b x\/(b=o.pl/\∃ys,x=.lst ys)\/(b=o.br/\∃ys,x=.lst ys)
abbrev KR(A:CA)(u:CU)(o:RO):Hp->Hp->Prop:=Kp (SR A u o)
theorem KR.of{A:CA}{u:CU}{o:RO}{H H':Hp}(k:KC A u H H'):KR A u o H H':=k.mono λ_ _ s=>.inl s
structure RS(K:Frag)(A:CA)(H:Hp)(u:CU)(o:RO)(r:Bytes)(out:List FT.It):Prop where
 cur:jE K A H u r
 row:vJ A H o out
 n1:NX K u o.pl
 n2:NX K u o.br
 nb:o.pl≠o.br
theorem uZ{C D dx ex:Addr}{f g:List (Str×V)}(h:f.map (·.1)≠g.map (·.1)):HO.ins C dx f≠HO.ins D ex g:=λz=>by
 injection z with _ _ z;exact h (bb _ z)
theorem Ox{C D dx ex tx d:Addr}{n:V}{k:Int}{m s:Bool}{j:Nat}:HO.ins C dx (YB n k m d s)≠HO.ins D ex (Aw tx j):=uZ (by show(["name","size","mirrored","damaged","uncertain"]:ac5)≠(["text","at"]:ac5);decide)
theorem Vh{C D dx ex tx:Addr}{o:RO}{j:Nat}:HO.ins C dx (roF o)≠HO.ins D ex (Aw tx j):=uZ (by show(["places","breaks"]:ac5)≠(["text","at"]:ac5);decide)
theorem jj.same{A:CA}{H H':Hp}{a:Addr}{i:FT.It}(h:jj A H a i)(s:bJ H H'):jj A H' a i:=by
 cases i with
 |stand t=>
  obtain⟨dx,tn,td,h1,h2,h3⟩:=h;exact⟨dx,tn,td,s _ _ h1,s _ _ h2,s _ _ h3⟩
 |gap k q=>
  obtain⟨dx,td,h1,h3⟩:=h;exact⟨dx,td,s _ _ h1,s _ _ h3⟩
 |lost=>exact h
theorem jj.NA{A:CA}{H:Hp}{a p:Addr}{i:FT.It}{ys:List V}{x:HO}(h:jj A H a i)(hp:H p=some (.lst ys)):jj A (L2.upd H p x) a i:=by
 cases i with
 |stand t=>
  obtain⟨dx,tn,td,h1,h2,h3⟩:=h;exact⟨dx,tn,td,by rw[aH (bW h1 hp nofun)];exact h1,by rw[aH (bW h2 hp nofun)];exact h2,by rw[aH (bW h3 hp nofun)];exact h3⟩
 |gap k q=>
  obtain⟨dx,td,h1,h3⟩:=h;exact⟨dx,td,by rw[aH (bW h1 hp nofun)];exact h1,by rw[aH (bW h3 hp nofun)];exact h3⟩
 |lost=>exact h
theorem jj.kc{A:CA}{H H':Hp}{u:CU}{a:Addr}{i:FT.It}(h:jj A H a i)(k:KC A u H H'){Xs:Addr}{j:Nat}(hc:H u.c=some (.ins A.Cursor Xs (Aw u.tx j))):jj A H' a i:=by
 have nt:∀p xs,¬Pt A.Cursor u.c p (.tup xs):=λp xs ⟨_,_,_,e⟩=>nomatch e
 cases i with
 |stand t=>
  obtain⟨dx,tn,td,h1,h2,h3⟩:=h;exact⟨dx,tn,td,k.kp _ _ h1 (λq=>bW h1 hc Ox q.1),k.kp _ _ h2 (nt _ _),k.kp _ _ h3 (nt _ _)⟩
 |gap n q=>
  obtain⟨dx,td,h1,h3⟩:=h;exact⟨dx,td,k.kp _ _ h1 (λq=>bW h1 hc Ox q.1),k.kp _ _ h3 (nt _ _)⟩
 |lost=>exact h
theorem vJ.same{A:CA}{H H':Hp}{o:RO}{out:List FT.It}(h:vJ A H o out)(s:bJ H H'):vJ A H' o out:=by
 obtain⟨⟨dx,h1⟩,⟨as,h2,h3⟩,h4⟩:=h;exact⟨⟨dx,s _ _ h1⟩,⟨as,s _ _ h2,Paired.ee h3 λ_ _ q=>q.same s⟩,s _ _ h4⟩
theorem RS.same{K:Frag}{A:CA}{H H':Hp}{u:CU}{o:RO}{r:Bytes}{out:List FT.It}(h:RS K A H u o r out)(s:bJ H H'):RS K A H' u o r out:=⟨h.cur.same s,h.row.same s,h.n1,h.n2,h.nb⟩
theorem vJ.kc{A:CA}{H H':Hp}{u:CU}{o:RO}{out:List FT.It}(h:vJ A H o out)(k:KC A u H H'){Xs:Addr}{j:Nat}(hc:H u.c=some (.ins A.Cursor Xs (Aw u.tx j))):vJ A H' o out:=by
 obtain⟨⟨dx,h1⟩,⟨as,h2,h3⟩,h4⟩:=h;exact⟨⟨dx,k.kp _ _ h1 (λq=>bW h1 hc Vh q.1)⟩,⟨as,k.kp _ _ h2 (λ⟨_,_,_,e⟩=>nomatch e),Paired.ee h3 λ_ _ q=>q.kc k hc⟩,k.kp _ _ h4 (λ⟨_,_,_,e⟩=>nomatch e)⟩
theorem RS.kc{K:Frag}{A:CA}{H H':Hp}{u:CU}{o:RO}{r r':Bytes}{out:List FT.It}(h:RS K A H u o r out)(k:KC A u H H')(c:jE K A H' u r'):RS K A H' u o r' out:=by
 obtain⟨dx,j,hc⟩:=h.cur.at;exact⟨c,h.row.kc k hc,h.n1,h.n2,h.nb⟩
theorem RS.put{K:Frag}{A:CA}{H:Hp}{u:CU}{o:RO}{r:Bytes}{out:List FT.It}{i:FT.It}{a:Addr}{as:ac1}(h:RS K A H u o r out)(hp:nk i=true)(hl:H o.pl=some (.lst (as.map V.ref)))(hs:Paired (jj A H) as (dC out))(ha:jj A H a i): RS K A (L2.upd H o.pl (.lst (as.map V.ref++ [.ref a]))) u o r (out++ [i]):=by
 obtain⟨⟨sq,dx,j,hc,yM⟩,⟨⟨dw,h1⟩,_,h4⟩,n1,n2,nb⟩:=h;have hi:i≠.lost:=λq=>by subst q;cases hp
 refine⟨⟨n1 _ _ sq,dx,j,by rw[aH (bW hc hl nofun)];exact hc,yM⟩,⟨⟨dw,by rw[aH (bW h1 hl nofun)];exact h1⟩,⟨as++ [a],?_,?_⟩,?_⟩,n1,n2,nb⟩
 ·rw[ak,aN];rfl
 ·rw[uF,ah hp];exact fG (Paired.ee hs λ_ _ q=>q.NA hl) (ha.NA hl)
 ·rw[aH (cv nb),mQ _ _ _ hi];exact h4
theorem RS.skip{K:Frag}{A:CA}{H:Hp}{u:CU}{o:RO}{r:Bytes}{out:List FT.It}{i:FT.It}(h:RS K A H u o r out)(hp:nk i=false)(hi:i≠.lost):RS K A H u o r (out++ [i]):=by
 obtain⟨c,⟨h1,⟨as,h2,h3⟩,h4⟩,n1,n2,nb⟩:=h;refine⟨c,⟨h1,⟨as,h2,?_⟩,?_⟩,n1,n2,nb⟩
 ·rw[uF,ae (by rw[hp];decide)];exact h3
 ·rw[mQ _ _ _ hi];exact h4
def ox(A:CA):Sp:=λvs H Q _=>∃(a:Addr) (n k m d s:V),vs=[.ref a,n,k,m,d,s]/\∃dx,H a=some (.ins A.Place dx [])/\∀H',Kp (atS a) H H'->H' a=some (.ins A.Place dx [("name",n),("size",k),("mirrored",m),("damaged",d),("uncertain",s)])->Q .eZ H'
def qM(K:Frag)(A:CA):Sp:=λvs H Q _=>∃(u:CU),vs=[.ref u.c]/\∃r,jE K A H u r/\(qR r=none->∀H' r',KC A u H H'->jE K A H' u r'->Q .eZ H')/\(∀q r',qR r=some (q,r')->∀H' p,KC A u H H'->jE K A H' u r'->H' p=some (.tup (qV q))->Q (.ref p) H')
def EO(K:Frag)(A:CA):Sp:=λvs H Q _=>∃(u:CU) (o:RO),vs=[.ref u.c,.ref o.rw]/\∃r out,RS K A H u o r out/\out.length<=10000000/\(Sk r=none->∀H',KR A u o H H'->Q (.bl false) H')/\(∀s r',Sk r=some (s,r')->∀H',KR A u o H H'->RS K A H' u o r' (out++ [.stand s])->Q (.bl true) H')
def Ui(K:Frag)(A:CA):Sp:=λvs H Q _=>∃(u:CU) (o:RO),vs=[.ref u.c,.ref o.rw]/\∃r out,RS K A H u o r out/\out.length<=10000000/\(Th r=none->∀H',KR A u o H H'->Q (.bl false) H')/\(∀k q r',Th r=some ((k,q),r')->∀H',KR A u o H H'->RS K A H' u o r' (out++ [.gap k q])->Q (.bl true) H')
def kd:FT.It->Int
 | .stand _=>1
 | .gap _ _=>2
 | .lost=>0
def JK(K:Frag)(A:CA):Sp:=λvs H Q _=>∃(u:CU) (o:RO),vs=[.ref u.c,.ref o.rw]/\∃r out,RS K A H u o r out/\out.length<=10000000/\(Nf r=none->∀H',KR A u o H H'->Q (.int 0) H')/\(∀i r',Nf r=some (i,r')->∀H',KR A u o H H'->RS K A H' u o r' (out++ [i])->Q (.int (kd i)) H')
theorem sN(D:Q4 K "Place.__init__" A.Place jx)(T:Tx mg K A):lB P w K mg base "Place" A.Place 1 ["self","name","size","mirrored","damaged","uncertain"] (ox A):=by
 refine D.iO T.Sn si (λ_ _ _ _ _ _ us hl=>match us,hl with | [_,_,_,_,_,_],_=>rfl) (λvs H Q E h=>by obtain⟨_,_,_,_,_,_,rfl,_⟩:=h;rfl) (λf dG Ar outer s H vs Q E hr h=>?_);obtain⟨a,n,z,m,d,s,rfl,dx,ha,k⟩:=h;refine⟨_,(aq (dH (pv 0) (pv 1) rfl) (aq (dH (pv 0) (pv 2) rfl) (aq (dH (pv 0) (pv 3) rfl) (aq (dH (pv 0) (pv 4) rfl) (aC (dH (pv 0) (pv 5) rfl)))))),?_⟩;refine⟨_,rfl,_,rfl,a,_,dx,_,rfl,ha,T.cB,T.cZ,(uU rfl),?_⟩;refine⟨_,rfl,_,rfl,a,_,dx,_,rfl,ak,T.cB,T.ni,(uU rfl),?_⟩;refine⟨_,rfl,_,rfl,a,_,dx,_,rfl,ak,T.cB,T.eO,(uU rfl),?_⟩;refine⟨_,rfl,_,rfl,a,_,dx,_,rfl,ak,T.cB,T.ed,(uU rfl),?_⟩;refine⟨_,rfl,_,rfl,a,_,dx,_,rfl,ak,T.cB,T.gu,(uU rfl),?_⟩;refine k _ ?_ ak;exact((((Kp.wr ha rfl).trans (.wr ak rfl)).trans (.wr ak rfl)).trans (.wr ak rfl)).trans (.wr ak rfl)
theorem at4{i:Nat}{x:V}(h:(([1,2,3,4]:acZ).map V.int)[i]?=some x):i<4/\x=.int ((i+1:Nat):Int):=by
 match i,h with
 |0,h=>exact⟨by decide,(aX h).symm⟩
 |1,h=>exact⟨by decide,(aX h).symm⟩
 |2,h=>exact⟨by decide,(aX h).symm⟩
 |3,h=>exact⟨by decide,(aX h).symm⟩
 |n+4,h=>simp at h
theorem aas{i:Nat}(h:i<4):([1,2,3,4]:ac2).drop i=(i+1)::([1,2,3,4]:ac2).drop (i+1):=by
 match i,h with
 |0,_=>rfl
 |1,_=>rfl
 |2,_=>rfl
 |3,_=>rfl
theorem uL(D:Df K mg "quarters_read" j9)(T:Tx mg K A)(aU:d4 P w K mg base A.Cursor "took" 2 ["self","wanted"] (js K A)):e7 P w K mg base "quarters_read" 3 ["cursor"] (qM K A):=by
 refine D.iO jt (λ_ _ _ _ _ _ us hl=>match us,hl with | [_],_=>rfl) (λvs H Q E h=>by obtain⟨_,rfl,_⟩:=h;rfl) (λf dG Ar outer s H vs Q E hr h=>?_);obtain⟨u,rfl,r,hC,k1,k2⟩:=h;obtain⟨dx,i,hc⟩:=hC.at;refine⟨_,(aq (bR (fo (cE (cy (pv 0) T.bF aU hr.m (aj (dP rfl T.MI) aB)))) (aC (aV (gH aB))) bf) (aq (gc 1 jt.nd (dD aB)) (aq (iY bP rfl (Ce (Oz rfl T.iw)) (qx 2 jt.nd) (aC (bR (cE (cy (pv 0) T.bF aU hr.m (aj (ft lh (dP rfl T.jL) (pv 2)) aB))) (aC (cY (jU bp bu bq dc (pv 1) (aj (pv 2) aB)))) bf))) (aq (bR (bC gI (bV bG rfl T.eI B.dh (aj (pv 1) aB)) cF (bL _)) (aC (aV cN)) bf) (aC (aV (kR jM rfl T.nD B.pq (aj (pv 1) aB)))))))),?_⟩;refine⟨_,rfl,u.c,dx,_,rfl,hc,rfl,u,37,rfl,r,hC,λH1 q1 C1=>⟨_,rfl,?_⟩⟩;unfold tk at C1;unfold qR at k1 k2;by_cases h1:hd r=37
 ·rw[ai h1];rw[ah h1] at C1 k1 k2;refine bO ⟨aD _,λpf lJ=>?_⟩;have SU:H pf=none:=q1.free lJ;intro qa yK
  refine⟨qa,rfl,⟨_,T.gD qa yK _⟩,DC (K:=K) (a:=qa) (xs:=([1,2,3,4]:acZ).map V.int) (λi σ H2=>∃(r1:Bytes) (acc:ac2) (v2:Option V),σ=[some (.ref u.c),some (.ref pf),v2]/\KC A u H H2/\jE K A H2 u r1/\H2 pf=some (.lst (qV acc))/\acc.length<=i/\(acc++(qs (([1,2,3,4]:ac2).drop i) r1).1,(qs (([1,2,3,4]:ac2).drop i) r1).2)=qs [1,2,3,4] r.tail)
   ⟨r.tail,[],none,rfl,q1.trans (.new lJ),C1.same (aF lJ),ak,aD _,rfl⟩ (λi σ H2 _ _=>T.gD qa yK _) ?turn ?after⟩
  case turn=>
   rintro i x σ H2 hi ⟨r1,acc,v2,rfl,q2,C2,hf,hl,e1⟩;obtain⟨hi4,rfl⟩:=at4 hi;rw[aas hi4] at e1;obtain⟨dx,j,hc⟩:=C2.at;refine⟨_,rfl,u.c,dx,_,rfl,hc,rfl,_,rfl,_,_,rfl,rfl,u,_,rfl,r1,C2,λH3 q3 C3=>⟨_,rfl,?_⟩⟩;have Bg:H3 pf=some (.lst (qV acc)):=q3.kp _ _ hf λ⟨_,_,_,e⟩=>nomatch e
   unfold tk at C3;unfold qs at e1;by_cases h2:hd r1=48+((i+1:Nat):Int)
   ·rw[ai h2];rw[ah h2] at C3 e1;refine bI ⟨_,rfl,.inl ⟨rfl,_,cg.of Bg⟩,_,rfl,pf,_,_,rfl,rfl,Bg,?_,?_⟩
    ·unfold qV;rw[af];have:(10:Nat)<sizeLine:=by decide
     omega
    ·refine⟨r1.tail,acc++ [i+1],_,rfl,(q2.trans q3).uj SU,C3.uj hC SU,?_,?_,?_⟩
     ·rw[ak];unfold qV;rw[aN];rfl
     ·rw[aw];show acc.length+1<=i+1;omega
     ·rw[az];exact e1
   ·rw[ag h2];rw[ae h2] at C3 e1;exact bO ⟨r1,acc,_,rfl,q2.trans q3,C3,Bg,by omega,e1⟩
  case after=>
   rintro σ H2 ⟨r1,acc,v2,rfl,q2,C2,hf,hl,e1⟩;have e2:(([1,2,3,4]:ac2).drop (([1,2,3,4]:acZ).map V.int).length)=[]:=rfl;rw[e2] at e1;have e3:qs [1,2,3,4] r.tail=(acc,r1):=by
    rw[<-e1];show(acc++ [],r1)=(acc,r1);rw[aI]
   rw[e3] at k1 k2;refine⟨_,rfl,pf,_,rfl,.inl (cg.of hf),rfl,_,rfl,?_⟩;unfold qV;rw[af];cases acc with
   |nil=>exact bI (k1 rfl H2 r1 q2 C2)
   |cons y acc=>
    rw[ag (λq=>by have:=V.int.inj q;rw[aJ] at this;omega)];refine bO ⟨_,rfl,pf,_,rfl,.inl ⟨cg.of hf,λp hp=>?_⟩⟩;exact k2 _ _ rfl _ p (q2.trans (.new hp)) (C2.same (aF hp)) ak
 ·rw[ag h1];rw[ae h1] at C1 k2;refine bI ⟨aD _,λp hp=>?_⟩;exact k2 [] r rfl _ p (q1.trans (.new hp)) (C1.same (aF hp)) ak
theorem xU(q:ac2):qV q=(q.map λ(n:Nat)=>(n:Int)).map V.int:=by
 unfold qV;rw[cC];rfl
theorem vw:∀{a b:ac2},a.map (λ(n:Nat)=>(n:Int))=b.map (λ(n:Nat)=>(n:Int))->a=b
 | [],[],_=>rfl
 | [],_::_,h=>by cases h
 |_::_,[],h=>by cases h
 |x::a,y::b,h=>by
  rw[aK,aK] at h;obtain⟨h1,h2⟩:=iM h;rw[vw h2,show x=y by omega]
theorem jJ{p:Addr}:decide (V.ref p=V.eZ)=false:=ag nofun
theorem qk(D:Df K mg "marked_sign_read" iq)(T:Tx mg K A)(iG:e7 P w K mg base "name_read" 3 ["cursor"] (HL K A))(aU:d4 P w K mg base A.Cursor "took" 2 ["self","wanted"] (js K A))(e9:e7 P w K mg base "quarters_read" 3 ["cursor"] (qM K A))(fV:lB P w K mg base "Place" A.Place 1 ["self","name","size","mirrored","damaged","uncertain"] (ox A)):e7 P w K mg base "marked_sign_read" 4 ["cursor","row"] (EO K A):=by
 refine D.iO ez (λ_ _ _ _ _ _ us hl=>match us,hl with | [_,_],_=>rfl) (λvs H Q E h=>by obtain⟨_,_,rfl,_⟩:=h;rfl) (λf dG Ar outer s H vs Q E hr h=>?_);obtain⟨u,o,rfl,r,out,R0,hlen,k1,k2⟩:=h;refine⟨_,(aq (gc 2 ez.nd (bB iG hr.m rfl (aj (pv 0) aB))) (aq (bR (bC lg (pv 2) cN (bL _)) (aC (aV fw)) bf) (aq (gc 3 ez.nd (cy (pv 0) T.bF aU hr.m (aj (dP rfl T.Ja) aB))) (aq (gc 4 ez.nd (bB e9 hr.m rfl (aj (pv 0) aB))) (aq (bR (bC lg (pv 4) cN (bL _)) (aC (aV fw)) bf) (aq (gc 5 ez.nd (cy (pv 0) T.bF aU hr.m (aj (dP rfl T.Gy) aB))) (aq (cY (jU bp bu bq dc (bD (pv 1) rfl) (aj (g6 fV hr.m rfl (aj (pv 2) (aj cF (aj (pv 3) (aj (pv 4) (aj (pv 5) aB)))))) aB))) (aC (aV fw))))))))),?_⟩;refine⟨_,rfl,u,rfl,r,R0.cur,λe H1 r1 q1 C1=>?_,λn r1 e H1 p q1 C1 hp=>?_⟩
 ·refine⟨_,rfl,rfl,_,rfl,bI ?_⟩;exact k1 (by unfold Sk;rw[e]) H1 (KR.of q1)
 ·refine⟨_,rfl,rfl,_,rfl,?_⟩;rw[jJ];have R1:=R0.kc q1 C1;obtain⟨dx,j,hc⟩:=C1.at;refine bO ⟨_,rfl,u.c,dx,_,rfl,hc,rfl,u,126,rfl,r1,C1,λH2 q2 C2=>?_⟩;have R2:=R1.kc q2 C2;have wb:H2 p=some (.tup ((vo n).map V.int)):=q2.kp _ _ hp λ⟨_,_,_,z⟩=>nomatch z
  refine⟨_,rfl,u,rfl,_,C2,λe2 H3 r3 q3 C3=>?_,λq r3 e2 H3 pd q3 C3 IV=>?_⟩
  ·refine⟨_,rfl,rfl,_,rfl,bI ?_⟩;exact k1 (by unfold Sk;rw[e];simp only;rw[e2]) H3 (KR.of ((q1.trans q2).trans q3))
  ·refine⟨_,rfl,rfl,_,rfl,?_⟩;rw[jJ];have R3:=R2.kc q3 C3;have zu:H3 p=some (.tup ((vo n).map V.int)):=q3.kp _ _ wb λ⟨_,_,_,z⟩=>nomatch z
   obtain⟨dx,j,hc⟩:=C3.at;refine bO ⟨_,rfl,u.c,dx,_,rfl,hc,rfl,u,63,rfl,r3,C3,λH4 q4 C4=>?_⟩;have R4:=R3.kc q4 C4;have Kv:H4 p=some (.tup ((vo n).map V.int)):=q4.kp _ _ zu λ⟨_,_,_,z⟩=>nomatch z
   have We:H4 pd=some (.tup (qV q)):=q4.kp _ _ IV λ⟨_,_,_,z⟩=>nomatch z
   obtain⟨dw,Rc⟩:=R4.row.rw;obtain⟨as,iK,oh⟩:=R4.row.pl;refine⟨_,rfl,o.rw,_,dw,_,_,rfl,Rc,T.qD,T.fR,rfl,.inl ⟨rfl,_,cg.of iK⟩,?_⟩;refine⟨_,rfl,_,rfl,_,rfl,_,rfl,?_⟩;intro x uf nx FD Se;have s5:bJ H4 (L2.upd (L2.upd H4 uf (.own x)) x (.ins A.Place uf [])):=e8 nx FD;refine⟨x,_,_,_,_,_,rfl,uf,ak,λH5 q5 SH=>⟨rfl,?_⟩⟩;have s6:bJ H4 H5:=λb v e=>q5.kp b v (s5 b v e) λz=>by
    have zz:b=x:=z;subst zz;rw[nx] at e;cases e
   have R5:=R4.same s6;have IK:=s6 _ _ iK;have VZ:Paired (jj A H5) as (dC out):=Paired.ee oh λ_ _ z=>z.same s6
   refine⟨o.pl,_,_,rfl,rfl,IK,?_,?_⟩
   ·rw[af,bc oh];have h1:(dC out).length<=out.length:=zx _ _;have:(10000001:Nat)<sizeLine:=by decide
    omega
   ·refine k2 ⟨n,decide (hd r1=126),q,decide (hd r3=63)⟩ (tk r3 63) (by unfold Sk;rw[e];simp only;rw[e2]) _ ?_ (R5.put rfl IK VZ ⟨uf,p,pd,SH,s6 _ _ Kv,s6 _ _ We⟩);exact((KR.of (((q1.trans q2).trans q3).trans q4)).trans (.same s6)).trans (.wr IK (.inr (.inl ⟨rfl,_,rfl⟩)))
theorem Fp(D:Df K mg "gap_read" qT)(T:Tx mg K A)(gi:e7 P w K mg base "number_read" 2 ["cursor","most"] (xF K A))(e9:e7 P w K mg base "quarters_read" 3 ["cursor"] (qM K A))(fV:lB P w K mg base "Place" A.Place 1 ["self","name","size","mirrored","damaged","uncertain"] (ox A)):e7 P w K mg base "gap_read" 4 ["cursor","row"] (Ui K A):=by
 refine D.iO oA (λ_ _ _ _ _ _ us hl=>match us,hl with | [_,_],_=>rfl) (λvs H Q E h=>by obtain⟨_,_,rfl,_⟩:=h;rfl) (λf dG Ar outer s H vs Q E hr h=>?_);obtain⟨u,o,rfl,r,out,R0,hlen,k1,k2⟩:=h;refine⟨_,(aq (gc 2 oA.nd (bB gi hr.m rfl (aj (pv 0) (aj (dP rfl T.Dn) aB)))) (aq (bR (bC gI (pv 2) (dP rfl T.jZ) (bL _)) (aC (aV fw)) bf) (aq (gc 3 oA.nd (bB e9 hr.m rfl (aj (pv 0) aB))) (aq (bR (bC (OF (hr.units)) (pv 3) (Oz rfl T.iw) (bL _)) (aC (cY (jU bp bu bq dc (bD (pv 1) rfl) (aj (g6 fV hr.m rfl (aj cN (aj (pv 2) (aj fw (aj (pv 3) (aj fw aB)))))) aB)))) bf) (aC (aV (i5 RY (pv 3) cN (bL _)))))))),?_⟩;unfold Th at k1 k2;refine⟨_,rfl,u,_,rfl,r,32,rfl,by decide,R0.cur,λH1 q1 C1=>?_⟩;have R1:=R0.kc q1 C1;refine⟨_,rfl,rfl,_,rfl,?_⟩;by_cases hz:(dZ 32 r).1=0
 ·rw[ah hz] at k1;rw[ai (bb V.int (show(((dZ 32 r).1:Nat):Int)=0 by omega))];exact bI (k1 rfl H1 (KR.of q1))
 rw[ae hz] at k1 k2;rw[ag (λq=>hz (by have:=V.int.inj q;omega))];refine bO ⟨_,rfl,u,rfl,_,C1,λe2 H3 r3 q3 C3=>?_,λq r3 e2 H3 pd q3 C3 IV=>?_⟩
 ·refine⟨_,rfl,λqa yK=>⟨.none,.tuple (([1,2,3,4]:acZ).map .int),.eZ,.tup (T.gD qa yK _) (fT _),(by decide),fP _,_,rfl,?_⟩⟩;rw[show PyData.eqv .none (.tuple (([1,2,3,4]:acZ).map .int))=false by rw[PyData.eqv]];refine bO ⟨_,rfl,rfl,?_⟩;exact k1 (by rw[e2]) H3 (KR.of (q1.trans q3))
 ·have R3:=R1.kc q3 C3;have k2':=k2 (dZ 32 r).1 q r3 (by rw[e2]);refine⟨_,rfl,λqa yK=>⟨.tuple ((q.map λ(n:Nat)=>(n:Int)).map .int),.tuple (([1,2,3,4]:acZ).map .int),.tup (dJ.of (by rw[IV,xU])) (fT _),.tup (T.gD qa yK _) (fT _),fP _,fP _,_,rfl,?_⟩⟩;rw[u5];by_cases h4:q=[1,2,3,4]
  ·subst h4;rw[ai (show([1,2,3,4]:ac2).map (λ(n:Nat)=>(n:Int))=[1,2,3,4] from rfl)];obtain⟨dw,Rc⟩:=R3.row.rw;obtain⟨as,iK,oh⟩:=R3.row.pl;refine bI ⟨_,rfl,o.rw,_,dw,_,_,rfl,Rc,T.qD,T.fR,rfl,.inl ⟨rfl,_,cg.of iK⟩,?_⟩;refine⟨_,rfl,_,rfl,?_⟩;intro x uf nx FD Se;have s5:bJ H3 (L2.upd (L2.upd H3 uf (.own x)) x (.ins A.Place uf [])):=e8 nx FD;refine⟨x,_,_,_,_,_,rfl,uf,ak,λH5 q5 SH=>⟨rfl,?_⟩⟩;have s6:bJ H3 H5:=λb v e=>q5.kp b v (s5 b v e) λz=>by
    have zz:b=x:=z;subst zz;rw[nx] at e;cases e
   have R5:=R3.same s6;have IK:=s6 _ _ iK;have VZ:Paired (jj A H5) as (dC out):=Paired.ee oh λ_ _ z=>z.same s6
   refine⟨o.pl,_,_,rfl,rfl,IK,?_,?_⟩
   ·rw[af,bc oh];have h1:(dC out).length<=out.length:=zx _ _;have:(10000001:Nat)<sizeLine:=by decide
    omega
   ·refine⟨_,rfl,rfl,?_⟩;refine k2' _ ?_ (R5.put rfl IK VZ ⟨uf,pd,SH,s6 _ _ IV⟩);exact((KR.of (q1.trans q3)).trans (.same s6)).trans (.wr IK (.inr (.inl ⟨rfl,_,rfl⟩)))
  ·rw[ag (show ¬(q.map λ(n:Nat)=>(n:Int))=[1,2,3,4] from λe=>h4 (vw (b:=[1,2,3,4]) e))];refine bO ⟨_,rfl,rfl,?_⟩;exact k2' H3 (KR.of (q1.trans q3)) (R3.skip (ag h4) nofun)
theorem zM(D:Df K mg "piece_read" mV)(T:Tx mg K A)(aU:d4 P w K mg base A.Cursor "took" 2 ["self","wanted"] (js K A))(rQ:e7 P w K mg base "gap_read" 4 ["cursor","row"] (Ui K A))(iB:e7 P w K mg base "marked_sign_read" 4 ["cursor","row"] (EO K A)):e7 P w K mg base "piece_read" 5 ["cursor","row"] (JK K A):=by
 refine D.iO zG (λ_ _ _ _ _ _ us hl=>match us,hl with | [_,_],_=>rfl) (λvs H Q E h=>by obtain⟨_,_,rfl,_⟩:=h;rfl) (λf dG Ar outer s H vs Q E hr h=>?_);obtain⟨u,o,rfl,r,out,R0,hlen,k1,k2⟩:=h;obtain⟨dx,j,hc⟩:=R0.cur.at;refine⟨_,(aq (bR (cE (cy (pv 0) T.bF aU hr.m (aj (dP rfl T.aal) aB))) (aC (aV (lb (cE (bB rQ hr.m rfl (aj (pv 0) (aj (pv 1) aB)))) (dP rfl T.GF) (dP rfl T.rn)))) bf) (aC (aV (lb (cE (bB iB hr.m rfl (aj (pv 0) (aj (pv 1) aB)))) (dP rfl T.tK) (dP rfl T.rn))))),?_⟩;refine⟨_,rfl,u.c,dx,_,rfl,hc,rfl,u,95,rfl,r,R0.cur,λH1 q1 C1=>⟨_,rfl,?_⟩⟩;unfold tk at C1;unfold Nf at k1 k2;by_cases h1:hd r=95
 ·rw[ai h1];rw[ah h1] at C1 k1 k2;have R1:=R0.kc q1 C1;refine bI ⟨_,rfl,_,rfl,u,o,rfl,_,out,R1,hlen,λe H2 q2=>⟨_,rfl,bO ?_⟩,λz q r' e H2 q2 R2=>⟨_,rfl,bI ?_⟩⟩
  ·exact k1 (by rw[e]) H2 ((KR.of q1).trans q2)
  ·exact k2 (.gap z q) r' (by rw[e]) H2 ((KR.of q1).trans q2) R2
 ·rw[ag h1];rw[ae h1] at C1 k1 k2;have R1:=R0.kc q1 C1;refine bO ⟨_,rfl,_,rfl,u,o,rfl,_,out,R1,hlen,λe H2 q2=>⟨_,rfl,bO ?_⟩,λs r' e H2 q2 R2=>⟨_,rfl,bI ?_⟩⟩
  ·exact k1 (by rw[e]) H2 ((KR.of q1).trans q2)
  ·exact k2 (.stand s) r' (by rw[e]) H2 ((KR.of q1).trans q2) R2
end
section
open FZ
open FT (FU FK FM FS)
def UQ:FK->Int
 | .block=> -1
 | .paren=>41
 | .nest=>93
def uW(c l m:Int):List (Str×V):=[("closer",.int c),("left",.int l),("loosest",.int m)]
def QZ(A:CA)(H:Hp)(a:Addr)(u:FU):Prop:=∃dx,H a=some (.ins A.Level dx (uW (UQ u.kind) (g8 u) (jY u)))
def FV(as:ac1):List V:=as.reverse.map V.ref
theorem yu(a:Addr)(as:ac1):FV (a::as)=FV as++ [.ref a]:=by
 unfold FV;rw[Le,aN];rfl
theorem Kg(as:ac1):(FV as).length=as.length:=by
 unfold FV;rw[af,j5]
structure rV(K:Frag)(A:CA)(H0 H:Hp)(u:CU)(o:RO)(lv:Addr)(us:List FU)(r:Bytes)(out:List FT.It):Prop where
 r0:∃r0 zL,RS K A H0 u o r0 zL
 rs:RS K A H u o r out
 kp:KR A u o H0 H
 nl:H0 lv=.none
 ls:∃as,H lv=some (.lst (FV as))/\Paired (QZ A H) as us/\as.Nodup/\∀a∈as,H0 a=.none
theorem CT{C D dx ex tx:Addr}{c l m:Int}{j:Nat}:HO.ins C dx (uW c l m)≠HO.ins D ex (Aw tx j):=uZ (by show(["closer","left","loosest"]:ac5)≠(["text","at"]:ac5);decide)
theorem Ow{C D dx ex d:Addr}{n:V}{k:Int}{b s:Bool}{c l m:Int}:HO.ins C dx (YB n k b d s)≠HO.ins D ex (uW c l m):=uZ (by show(["name","size","mirrored","damaged","uncertain"]:ac5)≠(["closer","left","loosest"]:ac5);decide)
theorem jj.aaR{A:CA}{H:Hp}{a p C Xs:Addr}{i:FT.It}{c l m:Int}{x:HO}(h:jj A H a i)(hp:H p=some (.ins C Xs (uW c l m))):jj A (L2.upd H p x) a i:=by
 cases i with
 |stand t=>
  obtain⟨dx,tn,td,h1,h2,h3⟩:=h;exact⟨dx,tn,td,by rw[aH (bW h1 hp Ow)];exact h1,by rw[aH (bW h2 hp nofun)];exact h2,by rw[aH (bW h3 hp nofun)];exact h3⟩
 |gap k q=>
  obtain⟨dx,td,h1,h3⟩:=h;exact⟨dx,td,by rw[aH (bW h1 hp Ow)];exact h1,by rw[aH (bW h3 hp nofun)];exact h3⟩
 |lost=>exact h
theorem RS.wrl{K:Frag}{A:CA}{H0 H:Hp}{u:CU}{o:RO}{r r0:Bytes}{out zL:List FT.It}{p:Addr}{x:HO}(R0:RS K A H0 u o r0 zL)(hp:H0 p=.none)(R:RS K A H u o r out)(iK:∀a i,jj A H a i->jj A (L2.upd H p x) a i):RS K A (L2.upd H p x) u o r out:=by
 obtain⟨⟨dw,h1⟩,⟨as,h2,h3⟩,h4⟩:=R.row;obtain⟨⟨dw0,g1⟩,⟨as0,g2,g3⟩,g4⟩:=R0.row;exact⟨R.cur.uj R0.cur hp,⟨⟨dw,by rw[aH (bo g1 hp)];exact h1⟩,⟨as,by rw[aH (bo g2 hp)];exact h2,Paired.ee h3 iK⟩,by rw[aH (bo g4 hp)];exact h4⟩,R.n1,R.n2,R.nb⟩
theorem rV.same{K:Frag}{A:CA}{H0 H H':Hp}{u:CU}{o:RO}{lv:Addr}{us:List FU}{r:Bytes}{out:List FT.It}(h:rV K A H0 H u o lv us r out)(s:bJ H H'):rV K A H0 H' u o lv us r out:=by
 obtain⟨r0,rs,kp,nl,as,h1,h2,h3,h4⟩:=h;exact⟨r0,rs.same s,kp.trans (.same s),nl,as,s _ _ h1,Paired.ee h2 λ_ _ ⟨dx,q⟩=>⟨dx,s _ _ q⟩,h3,h4⟩
theorem rV.kr{K:Frag}{A:CA}{H0 H H':Hp}{u:CU}{o:RO}{lv:Addr}{us:List FU}{r r':Bytes}{out nY:List FT.It}(h:rV K A H0 H u o lv us r out)(k:KR A u o H H')(R:RS K A H' u o r' nY):rV K A H0 H' u o lv us r' nY:=by
 obtain⟨⟨r0,zL,R0⟩,rs,kp,nl,as,h1,h2,h3,h4⟩:=h;obtain⟨dx,j,hc⟩:=rs.cur.at;obtain⟨_,⟨as0,g2,_⟩,g4⟩:=R0.row;have n1:lv≠o.pl:=λq=>by subst q;rw[nl] at g2;cases g2
 have n2:lv≠o.br:=λq=>by subst q;rw[nl] at g4;cases g4
 refine⟨⟨r0,zL,R0⟩,R,kp.trans k,nl,as,k.kp _ _ h1 (λz=>?_),Paired.ee h2 λa f ⟨dl,q⟩=>⟨dl,k.kp _ _ q (λz=>?_)⟩,h3,h4⟩
 ·rcases z with ⟨_,_,_,e⟩|⟨e,_⟩|⟨e,_⟩
  ·cases e
  ·exact n1 e
  ·exact n2 e
 ·rcases z with ⟨e,_⟩|⟨_,_,e⟩|⟨_,_,e⟩
  ·exact bW q hc CT e
  ·cases e
  ·cases e
theorem rV.kc{K:Frag}{A:CA}{H0 H H':Hp}{u:CU}{o:RO}{lv:Addr}{us:List FU}{r r':Bytes}{out:List FT.It}(h:rV K A H0 H u o lv us r out)(k:KC A u H H')(c:jE K A H' u r'):rV K A H0 H' u o lv us r' out:=h.kr (KR.of k) (h.rs.kc k c)
theorem rV.push{K:Frag}{A:CA}{H0 H H5:Hp}{u:CU}{o:RO}{lv x dx:Addr}{us:List FU}{r:Bytes}{out:List FT.It}(h:rV K A H0 H u o lv us r out)(s:bJ H H5)(nx:H x=.none){k:FK}(hx:H5 x=some (.ins A.Level dx (uW (UQ k) 0 4))):∃as,H5 lv=some (.lst (FV as))/\as.length=us.length/\rV K A H0 (L2.upd H5 lv (.lst (FV as++ [.ref x]))) u o lv (FU.new k::us) r out:=by
 have nx0:=h.kp.free nx;obtain⟨_,_,_,_,as,g1,g2,g3,g4⟩:=h;have hx0:x∉as:=λq=>by
  have:∀{as:ac1} {us:List FU},Paired (QZ A H) as us->x∉as:=λ{as us} hp=>by
   induction hp with
   |nil=>exact λq=>by cases q
   |cons q _ ih=>
    obtain⟨dl,q⟩:=q;intro z;rcases ba.mp z with z|z
    ·subst z;rw[nx] at q;cases q
    ·exact ih z
  exact this g2 q
 obtain⟨⟨r0,zL,R0⟩,rs,kp,nl,_,_,_,_,_⟩:=rV.same ⟨‹_›,‹_›,‹_›,‹_›,as,g1,g2,g3,g4⟩ s;have h1:=s _ _ g1;have h2:Paired (QZ A H5) as us:=Paired.ee g2 λ_ _ ⟨dl,q⟩=>⟨dl,s _ _ q⟩
 refine⟨as,h1,bc g2,⟨r0,zL,R0⟩,R0.wrl nl rs (λa i q=>q.NA h1),kp.uj nl,nl,x::as,by rw[ak,yu],?_,cz.mpr ⟨hx0,g3⟩,?_⟩
 ·refine .cons ⟨dx,?_⟩ (Paired.ee h2 λ_ _ ⟨dl,q⟩=>⟨dl,?_⟩)
  ·rw[aH (bW hx h1 nofun)];exact hx
  ·rw[aH (bW q h1 nofun)];exact q
 ·intro a ha;rcases ba.mp ha with rfl|ha
  ·exact nx0
  ·exact g4 a ha
def oy(A:CA):Sp:=λvs H Q _=>∃(a:Addr) (c:Int),vs=[.ref a,.int c]/\∃dx,H a=some (.ins A.Level dx [])/\∀H',Kp (atS a) H H'->H' a=some (.ins A.Level dx (uW c 0 4))->Q .eZ H'
def BK(K:Frag)(A:CA):Sp:=λvs H Q _=>∃(u:CU) (o:RO) (lv:Addr),vs=[.ref u.c,.ref lv]/\∃H0 us r out,rV K A H0 H u o lv us r out/\us.length+r.length<=10000000/\(i6 us r=none->∀H',KR A u o H0 H'->Q (.bl false) H')/\(∀ws r',i6 us r=some (ws,r')->∀H',rV K A H0 H' u o lv ws r' out->Q (.bl true) H')
def NW(K:Frag)(A:CA):Sp:=λvs H Q _=>∃(u:CU) (o:RO) (lv:Addr),vs=[.ref u.c,.ref lv]/\∃H0 us r out,rV K A H0 H u o lv us r out/\us.length+r.length<=10000000/\(gX us (-1) r=none->∀H',KR A u o H0 H'->Q (.bl false) H')/\(∀ws r',gX us (-1) r=some (ws,r')->∀H',rV K A H0 H' u o lv ws r' out->Q (.bl true) H')
theorem sO(D:Q4 K "Level.__init__" A.Level jy)(T:Tx mg K A):lB P w K mg base "Level" A.Level 1 ["self","closer"] (oy A):=by
 refine D.iO T.So sj (λ_ _ _ _ _ _ us hl=>match us,hl with | [_,_],_=>rfl) (λvs H Q E h=>by obtain⟨_,_,rfl,_⟩:=h;rfl) (λf dG Ar outer s H vs Q E hr h=>?_);obtain⟨a,c,rfl,dx,ha,k⟩:=h;refine⟨_,(aq (dH (pv 0) (pv 1) rfl) (aq (dH (pv 0) (dP rfl T.yP) rfl) (aC (dH (pv 0) (dP rfl T.rm) rfl)))),?_⟩;refine⟨_,rfl,_,rfl,a,_,dx,_,rfl,ha,T.ff,T.cW,(uU rfl),?_⟩;refine⟨_,rfl,a,_,dx,_,rfl,ak,T.ff,T.nj,(uU rfl),?_⟩;refine⟨_,rfl,a,_,dx,_,rfl,ak,T.ff,T.ig,(uU rfl),?_⟩;refine k _ ?_ ak;exact((Kp.wr ha rfl).trans (.wr ak rfl)).trans (.wr ak rfl)
def Vx:List (List Int):=[[110,119],[110],[110,101],[119],[99],[101],[115,119],[115],[115,101]]
theorem Vw:PLACES.map ib=Vx:=by decide
theorem KS{H:Hp}:∀{as:ac1} {JA:List (List Int)},Paired (λ(p:Addr) (ns:acZ)=>∀H,dJ K H p (ns.map V.int)) as JA->nS K H (as.map V.ref) (JA.map λns=>PyData.tuple (ns.map .int))
 |_,_,.nil=>.nil
 |_,_,.cons q t=>.cons (.tup (q H) (fT _)) (KS t)
theorem zd(w:acZ):∀JA:List (List Int),((JA.map λns=>PyData.tuple (ns.map .int)).any λy=>PyData.eqv y (.tuple (w.map .int)))=decide (w∈JA)
 | []=>by simp
 |x::JA=>by
  rw[aK,eX,zd w JA,u5];by_cases h:x=w
  ·subst h;rw[ai rfl,Bool.true_or,ai aR]
  ·rw[ag h,ui];by_cases h2:w∈JA
   ·rw[ai h2,ai (aP _ h2)]
   ·rw[ag h2,ag (λq=>(ba.mp q).elim (λq=>h q.symm) h2)]
theorem tD:∀{a b:Bytes},ib a=ib b->a=b
 | [],[],_=>rfl
 | [],_::_,h=>by rw[gS] at h;cases h
 |_::_,[],h=>by rw[gS] at h;cases h
 |x::a,y::b,h=>by
  rw[gS,gS] at h;obtain⟨h1,h2⟩:=iM h;rw[tD h2,b8.mp (show x.toNat=y.toNat by omega)]
theorem Kd(w:Bytes):(ib w∈Vx)=(w∈PLACES):=by
 rw[<-Vw];refine propext ⟨λh=>?_,λh=>List.mem_map_of_mem h⟩;obtain⟨x,h1,h2⟩:=cH.mp h;exact tD h2▸h1
theorem zN(D:Df K mg "nest_begun" mW)(T:Tx mg K A)(gx:lB P w K mg base "Level" A.Level 1 ["self","closer"] (oy A))(fK:e7 P w K mg base "letters_read" 3 ["cursor"] (ur K A)):e7 P w K mg base "nest_begun" 4 ["cursor","levels"] (BK K A):=by
 refine D.iO zH (λ_ _ _ _ _ _ us hl=>match us,hl with | [_,_],_=>rfl) (λvs H Q E h=>by obtain⟨_,_,_,rfl,_⟩:=h;rfl) (λf dG Ar outer s H vs Q E hr h=>?_);obtain⟨u,o,lv,rfl,H0,us,r,out,L0,hlen,k1,k2⟩:=h;obtain⟨as0,V3,_⟩:=L0.ls;refine⟨_,(aq (cY (jU bp bu bq dc (pv 1) (aj (g6 gx hr.m rfl (aj (dP rfl T.qB) aB)) aB))) (aC (aV (i5 (x6 hr) (bB fK hr.m rfl (aj (pv 0) aB)) (Oz rfl T.jK) rfl)))),?_⟩;refine⟨_,rfl,.inl ⟨rfl,_,cg.of V3⟩,?_⟩;intro x uf nx FD Se;have s5:bJ H (L2.upd (L2.upd H uf (.own x)) x (.ins A.Level uf [])):=e8 nx FD;refine⟨x,_,rfl,uf,ak,λH5 q5 SH=>⟨rfl,?_⟩⟩;have s6:bJ H H5:=λb v e=>q5.kp b v (s5 b v e) λz=>by
  have zz:b=x:=z;subst zz;rw[nx] at e;cases e
 obtain⟨as,Dd,Xi,L6⟩:=L0.push (k:=.nest) s6 nx SH;refine⟨lv,_,_,rfl,rfl,Dd,?_,?_⟩
 ·rw[Kg,Xi];have:(10000001:Nat)<sizeLine:=by decide
  omega
 refine⟨_,rfl,u,rfl,r,L6.rs.cur,by omega,λH7 p q7 C7 hp=>?_⟩;have L7:=L6.kc q7 C7;intro qa yK;obtain⟨ns,VW,Xc⟩:=T.zD qa yK;refine⟨.tuple ((ib (r.takeWhile isSmall)).map PyData.int),Vx.map (λns:List Int=>PyData.tuple (ns.map PyData.int)),.tup (dJ.of hp) (fT _),.inr (.tup (VW _) (KS Xc)),fP _,by rfl,?_⟩;show Q (.bl (List.any _ _)) H7;rw[zd];unfold i6 at k1 k2;by_cases hm:r.takeWhile isSmall∈PLACES
 ·rw[ah hm] at k2;rw[ai ((Kd _).symm▸hm)];exact k2 _ _ rfl H7 L7
 ·rw[ae hm] at k1;rw[ag (λq=>hm (Kd _▸q))];exact k1 rfl H7 L7.kp
end
section
open FZ
open FT (FU FK FM FS)
theorem BE{H:Hp}{a:Addr}{x y:HO}:L2.upd (L2.upd H a x) a y=L2.upd H a y:=by
 funext b
 by_cases h:b=a
 ·subst h;rw[ak,ak]
 ·rw[aH h,aH h,aH h]
theorem rV.top{K:Frag}{A:CA}{H0 H:Hp}{u:CU}{o:RO}{lv:Addr}{f:FU}{us:List FU}{r:Bytes}{out:List FT.It}(h:rV K A H0 H u o lv (f::us) r out): ∃a as dx,H lv=some (.lst (FV as++ [.ref a]))/\as.length=us.length/\H a=some (.ins A.Level dx (uW (UQ f.kind) (g8 f) (jY f)))/\H0 a=.none/\ (∀g:FU,g.kind=f.kind->rV K A H0 (L2.upd H a (.ins A.Level dx (uW (UQ g.kind) (g8 g) (jY g)))) u o lv (g::us) r out)/\ rV K A H0 (L2.upd H lv (.lst (FV as))) u o lv us r out/\(L2.upd H lv (.lst (FV as))) a=some (.ins A.Level dx (uW (UQ f.kind) (g8 f) (jY f))):=by
 obtain⟨⟨r0,zL,R0⟩,rs,kp,nl,as,h1,h2,h3,h4⟩:=h;cases h2 with
 |cons q t=>
  rename_i a as;obtain⟨dx,q⟩:=q;rw[cz] at h3;rw[yu] at h1;have Z9:=h4 a aR;refine⟨a,as,dx,h1,bc t,q,Z9,λg _=>?_,?_,?_⟩
  ·refine⟨⟨r0,zL,R0⟩,R0.wrl Z9 rs (λ_ _ z=>z.aaR q),kp.uj Z9,nl,a::as,?_,?_,cz.mpr h3,h4⟩
   ·rw[aH (bW h1 q nofun),yu];exact h1
   ·refine .cons ⟨dx,ak⟩ (mJ t λb v hb ⟨dl,z⟩=>⟨dl,?_⟩);rw[aH (show b≠a from λe=>h3.1 (by rw[<-e];exact hb))];exact z
  ·refine⟨⟨r0,zL,R0⟩,R0.wrl nl rs (λ_ _ z=>z.NA h1),kp.uj nl,nl,as,ak,?_,h3.2,λb hb=>h4 b (aP _ hb)⟩;exact Paired.ee t λb v ⟨dl,z⟩=>⟨dl,by rw[aH (bW z h1 nofun)];exact z⟩
  ·rw[aH (bW q h1 nofun)];exact q
theorem rV.nil{K:Frag}{A:CA}{H0 H:Hp}{u:CU}{o:RO}{lv:Addr}{r:Bytes}{out:List FT.It}(h:rV K A H0 H u o lv [] r out):H lv=some (.lst []):=by
 obtain⟨_,_,_,_,as,h1,h2,_⟩:=h;cases h2;exact h1
theorem Pg(h:Int):(((B.look [(58,1),(42,2),(38,3)] h).map V.int).getD (.int 0))=.int (gb h):=by
 unfold B.look gb
 grind
theorem Sv{xs:List V}{v:V}:(xs++ [v])[(xs++ [v]).length - 1]?=some v:=by
 grind
theorem Cp(D:Df K mg "part_tied" oE)(T:Tx mg K A)(aY:d4 P w K mg base A.Cursor "byte" 1 ["self"] (j6 K A))(bX:d4 P w K mg base A.Cursor "step" 1 ["self"] (qL K A))(aU:d4 P w K mg base A.Cursor "took" 2 ["self","wanted"] (js K A))(gU:e7 P w K mg base "nest_begun" 4 ["cursor","levels"] (BK K A)):e7 P w K mg base "part_tied" 5 ["cursor","levels"] (NW K A):=by
 refine D.iO iR (λ_ _ _ _ _ _ us hl=>match us,hl with | [_,_],_=>rfl) (λvs H Q E h=>by obtain⟨_,_,_,rfl,_⟩:=h;rfl) (λf dG Ar outer s H vs Q E hr h=>?_);obtain⟨u,o,lv,rfl,H0,us,r,out,L0,hlen,k1,k2⟩:=h;refine⟨_,(aq (gc 2 iR.nd (dP rfl T.Gz)) (aq (jT bP (bC sI (bV bG rfl T.eI B.dh (aj (pv 1) aB)) cF (bL _)) (aq (gc 3 iR.nd (fu d5 (pv 1) (J6 BG cF) (λ_ _=>rfl))) (aq (gc 4 iR.nd (OC (Oz rfl T.B5) (cO (pv 0) T.bF aY hr.m) (dP rfl T.yP) ⟨rfl,rfl,rfl,rfl⟩)) (aq (bR (bC kq (bV (MW rfl) rfl T.QS B.WI (aj (bD (pv 3) rfl) (aj (pv 4) aB))) (pv 2) (bL _)) (aC (aV fw)) bf) (aq (bR (bC vn (pv 4) (dP rfl T.yP) (bL _)) (aq (cY (cO (pv 0) T.bF bX hr.m)) (aq (dH (pv 3) (pv 4) rfl) (aq (dH (pv 3) (bV (MV rfl) rfl T.QR B.WH (aj (bD (pv 3) rfl) (aj (pv 4) aB))) rfl) (aC (aV fw))))) bf) (aq (cY (Vn bp PySem.F.slot_list_pop PySem.F.type_list_pop VB (pv 1))) (aq (bR (PW.pt (B7 (bC gI (bD (pv 3) rfl) (dP rfl T.qB) (bL _)) (wO (cE (cy (pv 0) T.bF aU hr.m (aj (dP rfl T.Ae) aB)))))) (aC (aV (bB gU hr.m rfl (aj (pv 0) (aj (pv 1) aB))))) bf) (aq (bR (PW.pt (B7 (bC vn (bD (pv 3) rfl) (dP rfl T.mM) (bL _)) (wO (fo (cE (cy (pv 0) T.bF aU hr.m (aj (bD (pv 3) rfl) aB))))))) (aC (aV fw)) bf) (aC (gc 2 iR.nd (lb (bC gI (bD (pv 3) rfl) (dP rfl T.GG) (bL _)) (bD (pv 3) rfl) (dP rfl T.Gz)))))))))))) (aC (aV fw)))),?_⟩;refine⟨λm σ H1=>∃(Lk:List FU) (r1:Bytes) (n:Int) (v3 v4:Option V),m=Lk.length/\σ=[some (.ref u.c),some (.ref lv),some (.int n),v3,v4]/\rV K A H0 H1 u o lv Lk r1 out/\gX us (-1) r=gX Lk n r1/\Lk.length+r1.length<=10000000,⟨_,us,r, -1,_,_,rfl,rfl,L0,rfl,hlen⟩,?_⟩;rintro m σ H1 ⟨Lk,r1,n,v3,v4,rfl,rfl,L1,e1,hl⟩;cases Lk with
 |nil=>
  refine⟨_,rfl,lv,_,rfl,.inl (cg.of L1.nil),_,_,rfl,rfl,_,rfl,bO ?_⟩;exact k2 [] r1 e1 H1 L1
 |cons f Lk=>
  obtain⟨a,as,dl,SY,Gv,ha,Z9,acP,Lp,Wl⟩:=L1.top;obtain⟨dx,j,hc⟩:=L1.rs.cur.at;refine⟨_,rfl,lv,_,rfl,.inl (cg.of SY),_,_,rfl,rfl,_,rfl,?_⟩;rw[ai (show((((FV as++ [V.ref a]).length:Nat):Int)> 0) by rw[aw];show(((FV as).length+1:Nat):Int)> 0;omega)];refine bI ⟨λeU H'=>∃(og:List FU) (r2:Bytes) (n:Int) (v3 v4:Option V),og.length<(f::Lk).length/\eU=[some (.ref u.c),some (.ref lv),some (.int n),v3,v4]/\rV K A H0 H' u o lv og r2 out/\gX us (-1) r=gX og n r2/\og.length+r2.length<=10000000,λeU H' ⟨og,r2,n,v3,v4,q1,q⟩=>⟨_,q1,og,r2,n,v3,v4,rfl,q⟩,?_⟩
  revert e1 k1 k2
  generalize gX us (-1) r=tv;intro k1 k2 e1;unfold gX at e1;rw[aJ] at hl;refine⟨_,rfl,_,rfl,lv,_,_,_,rfl,rfl,cg.of SY,t7 _ _,?_⟩;intro qa yK;refine⟨qa,_,rfl,T.U1 qa yK,_,rfl,u.c,dx,_,rfl,hc,rfl,u,rfl,r1,L1.rs.cur,_,rfl,?_⟩;rw[Pg];refine⟨_,rfl,a,_,dl,_,_,rfl,ha,T.ff,T.nj,rfl,_,rfl,_,_,rfl,_,rfl,_,_,rfl,rfl,_,rfl,?_⟩;rw[show(if gb (hd r1)> g8 f then gb (hd r1) else g8 f)=max (g8 f) (gb (hd r1)) by split <;> omega];by_cases hm:max (g8 f) (gb (hd r1))<=n
  ·rw[ah hm] at e1;rw[ai hm];exact bI (k1 e1 H1 L1.kp)
  rw[ae hm] at e1;rw[ag hm];refine bO ⟨_,rfl,rfl,_,rfl,?_⟩;have hv:=JC (hd r1);by_cases ht:gb (hd r1)=0
  ·rw[ae (λq=>q ht)] at e1;rw[show(!decide (V.int (gb (hd r1))=V.int 0))=false by rw[ht];rfl];refine bO ?_;refine⟨_,rfl,.inl ⟨rfl,_,cg.of SY⟩,lv,_,_,rfl,rfl,SY,Sv,?_⟩;rw[BB];obtain⟨dx,j,hc⟩:=Lp.rs.cur.at;refine⟨_,rfl,a,_,dl,_,_,rfl,Wl,T.ff,T.cW,rfl,rfl,_,rfl,?_⟩;have keep:∀{H2 H3:Hp} {r2:Bytes},rV K A H0 H2 u o lv Lk r2 out->KC A u H2 H3->H2 a=some (.ins A.Level dl (uW (UQ f.kind) (g8 f) (jY f)))->H3 a=some (.ins A.Level dl (uW (UQ f.kind) (g8 f) (jY f))):=λ{H2 H3 r2} M q h=>by
    obtain⟨dx,j,hc⟩:=M.rs.cur.at;exact q.kp _ _ h λz=>bW h hc CT z.1
   cases hk:f.kind with
   |block=>
    rw[hk] at e1;rw[hk] at Wl;refine bO (bO ?_);refine⟨_,rfl,a,_,dl,_,_,rfl,Wl,T.ff,T.cW,rfl,rfl,_,rfl,?_⟩;refine bO (bO ?_);refine⟨_,rfl,a,_,dl,_,_,rfl,Wl,T.ff,T.cW,rfl,rfl,_,rfl,?_⟩;refine bO ?_;exact⟨Lk,r1, -1,_,_,by rw[aJ];omega,rfl,Lp,e1,by omega⟩
   |paren=>
    rw[hk] at e1;refine bO (bO ?_);have Wj:=Wl;rw[hk] at Wj;refine⟨_,rfl,a,_,dl,_,_,rfl,Wj,T.ff,T.cW,rfl,rfl,_,rfl,?_⟩;refine bI ⟨_,rfl,u.c,dx,_,rfl,hc,rfl,_,rfl,a,_,dl,_,_,rfl,Wj,T.ff,T.cW,rfl,u,41,rfl,r1,Lp.rs.cur,λH3 q3 C3=>⟨_,rfl,?_⟩⟩;have M3:=Lp.kc q3 C3;have UK:=keep Lp q3 Wl;rw[hk] at UK;unfold tk at M3;simp only at e1;by_cases Tg:hd r1=41
    ·rw[ah Tg] at M3 e1;rw[ai Tg];refine bO ⟨_,rfl,a,_,dl,_,_,rfl,UK,T.ff,T.cW,rfl,rfl,_,rfl,?_⟩;refine bI ⟨_,rfl,a,_,dl,_,_,rfl,UK,T.ff,T.ig,rfl,?_⟩;exact⟨Lk,r1.tail,jY f,_,_,by rw[aJ];omega,rfl,M3,e1,by rw[fN];omega⟩
    ·rw[ae Tg] at e1;rw[ag Tg];exact bI (k1 e1 H3 M3.kp)
   |nest=>
    rw[hk] at e1;simp only at e1;refine bI ⟨_,rfl,u.c,dx,_,rfl,hc,rfl,u,59,rfl,r1,Lp.rs.cur,λH2 q2 C2=>⟨_,rfl,?_⟩⟩;have M2:=Lp.kc q2 C2;have Xm:=keep Lp q2 Wl;unfold tk at M2;by_cases Te:hd r1=59
    ·rw[ah Te] at M2 e1;rw[ai Te];refine bI ⟨_,rfl,_,rfl,u,o,lv,rfl,H0,Lk,r1.tail,out,M2,by rw[fN];omega,λe H3 q3=>k1 (e1.trans e) H3 q3,λws r' e H3 M3=>k2 ws r' (e1.trans e) H3 M3⟩
    ·rw[ae Te] at M2 e1;rw[ag Te];have Wm:=Xm;rw[hk] at Wm;obtain⟨dx,j,hc⟩:=M2.rs.cur.at;refine bO ⟨_,rfl,a,_,dl,_,_,rfl,Wm,T.ff,T.cW,rfl,rfl,_,rfl,?_⟩;refine bI ⟨_,rfl,u.c,dx,_,rfl,hc,rfl,_,rfl,a,_,dl,_,_,rfl,Wm,T.ff,T.cW,rfl,u,93,rfl,r1,M2.rs.cur,λH3 q3 C3=>⟨_,rfl,?_⟩⟩;have M3:=M2.kc q3 C3;have UK:=keep M2 q3 Xm;rw[hk] at UK;unfold tk at M3;by_cases Tc:hd r1=93
     ·rw[ah Tc] at M3 e1;rw[ai Tc];refine bO ⟨_,rfl,a,_,dl,_,_,rfl,UK,T.ff,T.cW,rfl,rfl,_,rfl,?_⟩;refine bO ?_;exact⟨Lk,r1.tail, -1,_,_,by rw[aJ];omega,rfl,M3,e1,by rw[fN];omega⟩
     ·rw[ae Tc] at e1;rw[ag Tc];exact bI (k1 e1 H3 M3.kp)
  ·rw[ah ht] at e1;rw[show(!decide (V.int (gb (hd r1))=V.int 0))=true by rw[ag (λq=>ht (V.int.inj q))];rfl];have VR:gb (hd r1)=1\/gb (hd r1)=2\/gb (hd r1)=3:=hv.resolve_left ht;refine bI ⟨_,rfl,u.c,dx,_,rfl,hc,rfl,u,rfl,r1,L1.rs.cur,λH2 q2 C2=>?_⟩;have M2:=L1.kc q2 C2;have ab0:H2 lv=some (.lst (FV as++ [.ref a])):=q2.kp _ _ SY λ⟨_,_,_,z⟩=>nomatch z
   have ha':H2 a=some (.ins A.Level dl (uW (UQ f.kind) (g8 f) (jY f))):=q2.kp _ _ ha λz=>bW ha hc CT z.1
   obtain⟨a2,as2,dl2,ZA,_,Xm,_,Zl,_⟩:=M2.top;have ea:a2=a:=by
    rw[ab0] at ZA;injection ZA with z;injection z with z;have:=(List.append_inj' z rfl).2;injection this with z;injection z with z;exact z.symm
   subst ea;have edl:dl2=dl:=by
    grind
   subst edl;refine⟨_,rfl,_,rfl,a2,_,dl2,_,rfl,Xm,T.ff,T.nj,(uU rfl),?_⟩;refine⟨_,rfl,a2,_,dl2,_,_,rfl,ak,T.ff,T.ig,rfl,_,rfl,_,_,rfl,_,rfl,a2,_,dl2,_,rfl,ak,T.ff,T.ig,(uU rfl),?_⟩;have M4:=Zl (Ic f (gb (hd r1))) (uE f _);rw[Pk VR,Pe VR,uE] at M4;rw[BE,show(if gb (hd r1)<jY f then gb (hd r1) else jY f)=min (jY f) (gb (hd r1)) by split <;> omega];exact k2 _ _ e1 _ M4
end
section
open FZ
open FT (FU FK FM FS)
def BM(K:Frag)(A:CA):Sp:=λvs H Q _=>∃(u:CU) (o:RO),vs=[.ref u.c,.ref o.rw]/\∃(f:FS) (r:Bytes),RS K A H u o r f.out/\f.out.length+r.length<=9000000/\(resB {f with stack:=[FU.new .block],pieces:=0} r=none->∀H',KR A u o H H'->Q (.bl false) H')/\(∀nY r',resB {f with stack:=[FU.new .block],pieces:=0} r=HX {f with out:=nY} r'->nY.length+r'.length<=f.out.length+r.length->∀H',KR A u o H H'->RS K A H' u o r' nY->Q (.bl true) H')
theorem OD{r r':Bytes}:Nf r≠some (.lost,r'):=λh=>by
 unfold Nf at h;split at h
 ·split at h <;> cases h
 ·split at h <;> cases h
theorem same_none{H H':Hp}{a:Addr}(s:bJ H H')(h:H' a=.none):H a=.none:=by
 cases q:H a with
 |none=>rfl
 |some x=>rw[s _ _ q] at h;cases h
theorem zR(D:Df K mg "block_read" m7)(T:Tx mg K A)(aU:d4 P w K mg base A.Cursor "took" 2 ["self","wanted"] (js K A))(gx:lB P w K mg base "Level" A.Level 1 ["self","closer"] (oy A))(gU:e7 P w K mg base "nest_begun" 4 ["cursor","levels"] (BK K A))(pF:e7 P w K mg base "part_tied" 5 ["cursor","levels"] (NW K A))(nG:e7 P w K mg base "piece_read" 5 ["cursor","row"] (JK K A)):e7 P w K mg base "block_read" 6 ["cursor","row"] (BM K A):=by
 refine D.iO gh (λ_ _ _ _ _ _ us hl=>match us,hl with | [_,_],_=>rfl) (λvs H Q E h=>by obtain⟨_,_,rfl,_⟩:=h;rfl) (λf dG Ar outer s H vs Q E hr h=>?_);obtain⟨u,o,rfl,f,r,R0,hlen,k1,k2⟩:=h;refine⟨_,(aq (gc 2 gh.nd (dD (aj (g6 gx hr.m rfl (aj (dP rfl T.mM) aB)) aB))) (aq (iY bP rfl (pR rfl T.qd (aj (dP rfl T.Ag) aB)) (qx 3 gh.nd) (aq (jT bP (cE (cy (pv 0) T.bF aU hr.m (aj (dP rfl T.Tj) aB))) (aC (cY (jU bp bu bq dc (pv 2) (aj (g6 gx hr.m rfl (aj (dP rfl T.GG) aB)) aB))))) (aq (gc 4 gh.nd (bB nG hr.m rfl (aj (pv 0) (aj (pv 1) aB)))) (aq (bR (bC gI (pv 4) (dP rfl T.rn) (bL _)) (aC (aV fw)) bf) (aq (bR (PW.pt (B7 (bC gI (pv 4) (dP rfl T.tK) (bL _)) (wO (cE (cy (pv 0) T.bF aU hr.m (aj (dP rfl T.Du) aB)))))) (aC (gc 5 gh.nd (bB gU hr.m rfl (aj (pv 0) (aj (pv 2) aB))))) (aC (gc 5 gh.nd (bB pF hr.m rfl (aj (pv 0) (aj (pv 2) aB)))))) (aq (bR (fo (cE (pv 5))) (aC (aV fw)) bf) (aC (bR (bC gI (bV bG rfl T.eI B.dh (aj (pv 2) aB)) cF (bL _)) (aC (aV fw)) bf)))))))) (aC (aV fw)))),?_⟩;intro x uf nx FD Se;have s5:bJ H (L2.upd (L2.upd H uf (.own x)) x (.ins A.Level uf [])):=e8 nx FD;refine⟨x,_,rfl,uf,ak,λH5 q5 SH=>⟨rfl,?_⟩⟩;have s6:bJ H H5:=λb v e=>q5.kp b v (s5 b v e) λz=>by
  have zz:b=x:=z;subst zz;rw[nx] at e;cases e
 refine⟨(F1 rfl),λlv SY=>?_⟩;have s7:bJ H (L2.upd H5 lv (.lst [.ref x])):=λb v e=>aF SY b v (s6 b v e)
 have hx6:(L2.upd H5 lv (.lst [.ref x])) x=some (.ins A.Level uf (uW (-1) 0 4)):=aF SY _ _ SH
 have L0:rV K A H (L2.upd H5 lv (.lst [.ref x])) u o lv [FU.new .block] r f.out:=⟨⟨r,f.out,R0⟩,R0.same s7,.same s7,same_none s6 SY,[x],ak,.cons ⟨uf,hx6⟩ .nil,cz.mpr ⟨(λq=>by cases q),lU⟩,λa ha=>by
  rcases ba.mp ha with rfl|ha
  ·exact nx
  ·cases ha⟩
 refine⟨_,rfl,by decide,by decide,pY (λi σ H1=>∃(us:List FU) (r1:Bytes) (da:List FT.It) (v3 v4 v5:Option V),σ=[some (.ref u.c),some (.ref o.rw),some (.ref lv),v3,v4,v5]/\rV K A H H1 u o lv us r1 da/\Wf us/\resB {f with stack:=[FU.new .block],pieces:=0} r=resB {f with stack:=us,pieces:=i,out:=da} r1/\da.length+r1.length<=f.out.length+r.length/\us.length+r1.length<=1+r.length)
  ⟨[FU.new .block],r,f.out,_,_,_,rfl,L0,rfl,rfl,aA _,aA _⟩ ?turn ?after⟩
 case after=>
  rintro σ H1 ⟨us,r1,da,v3,v4,v5,rfl,M1,w1,e1,Eg,zv⟩;exact k1 (by rw[e1];exact GH {f with pieces:=_,out:=da} (by show ¬64<64;decide) r1 us) H1 M1.kp
 case turn=>
  rintro i σ H1 hi ⟨us,r1,da,v3,v4,v5,rfl,M1,w1,e1,Eg,zv⟩;refine⟨λm σ H2=>∃(og:List FU) (r2:Bytes),m=r2.length/\σ=[some (.ref u.c),some (.ref o.rw),some (.ref lv),some (.int (0+(i:Nat))),v4,v5]/\rV K A H H2 u o lv og r2 da/\Wf og/\resB {f with stack:=[FU.new .block],pieces:=0} r=resB {f with stack:=og,pieces:=i,out:=da} r2/\da.length+r2.length<=f.out.length+r.length/\og.length+r2.length<=1+r.length,⟨_,us,r1,rfl,rfl,M1,w1,e1,Eg,zv⟩,?_⟩;rintro m σ H2 ⟨og,r2,rfl,rfl,M2,w2,e2,Eg,zv⟩;obtain⟨dx,j,hc⟩:=M2.rs.cur.at;refine⟨_,rfl,u.c,dx,_,rfl,hc,rfl,u,40,rfl,r2,M2.rs.cur,λH3 q3 C3=>⟨_,rfl,?_⟩⟩;have M3:=M2.kc q3 C3;unfold tk at M3;by_cases Ab:hd r2=40
  ·rw[ah Ab] at M3;rw[ai Ab];refine bI ⟨λeU H'=>∃(WV:List FU) (r3:Bytes),r3.length<r2.length/\eU=[some (.ref u.c),some (.ref o.rw),some (.ref lv),some (.int (0+(i:Nat))),v4,v5]/\rV K A H H' u o lv WV r3 da/\Wf WV/\resB {f with stack:=[FU.new .block],pieces:=0} r=resB {f with stack:=WV,pieces:=i,out:=da} r3/\da.length+r3.length<=f.out.length+r.length/\WV.length+r3.length<=1+r.length,λeU H' ⟨WV,r3,z1,z⟩=>⟨_,z1,WV,r3,rfl,z⟩,?_⟩;obtain⟨as0,V3,_⟩:=M3.ls;refine⟨_,rfl,.inl ⟨rfl,_,cg.of V3⟩,?_⟩;intro x uf nx FD Se;have s5:bJ H3 (L2.upd (L2.upd H3 uf (.own x)) x (.ins A.Level uf [])):=e8 nx FD;refine⟨x,_,rfl,uf,ak,λH5 q5 SH=>⟨rfl,?_⟩⟩;have s6:bJ H3 H5:=λb v e=>q5.kp b v (s5 b v e) λz=>by
    have zz:b=x:=z;subst zz;rw[nx] at e;cases e
   obtain⟨as,Dd,Xi,M6⟩:=M3.push (k:=.paren) s6 nx SH;have Xa:=o4 Ab (by decide);refine⟨lv,_,_,rfl,rfl,Dd,?_,?_⟩
   ·rw[Kg,Xi];have:(10000001:Nat)<sizeLine:=by decide
    omega
   ·refine⟨FU.new .paren::og,r2.tail,by omega,rfl,M6,w2.push (by decide),?_,by omega,by rw[aJ];omega⟩;rw[e2];cases r2 with
    |nil=>exact absurd (show(-1:Int)=40 from Ab) (by decide)
    |cons c r2=>
     have Wh:c=40:=(PZ 40 (by decide)).mp Ab;subst Wh;exact AY {f with stack:=og,pieces:=i,out:=da} r2
  ·rw[ae Ab] at M3;rw[ag Ab];refine bO ⟨_,rfl,_,rfl,u,o,rfl,r2,da,M3.rs,by omega,λe4 H4 q4=>?_,λit r3 e4 H4 q4 R4=>?_⟩
   ·refine⟨_,rfl,rfl,_,rfl,bI ?_⟩;exact k1 (by rw[e2,iA {f with pieces:=i,out:=da} og w2 hi r2 Ab,e4]) H4 (M3.kp.trans q4)
   have M4:=M3.kr q4 R4;have iK:=RX e4;obtain⟨dx,j,hc⟩:=M4.rs.cur.at;cases it with
   |lost=>exact absurd e4 OD
   |gap kk q=>
    refine⟨_,rfl,rfl,_,rfl,bO ?_⟩;refine⟨_,rfl,rfl,_,rfl,bO (bO ?_)⟩;refine⟨_,rfl,_,rfl,u,o,lv,rfl,H,og,r3,_,M4,by omega,λe6 H5 q5=>?_,λws r4 e6 H5 M5=>?_⟩
    ·refine⟨_,rfl,_,rfl,bI ?_⟩;exact k1 (by rw[e2,iA {f with pieces:=i,out:=da} og w2 hi r2 Ab,e4];show after _ (pw og (.gap kk q) r3)=none;rw[show pw og (.gap kk q) r3=none from e6];rfl) H5 q5
    ·refine⟨_,rfl,_,rfl,bO ?_⟩;have e5:resB {f with stack:=[FU.new .block],pieces:=0} r=after {f with pieces:=i+1,out:=da++ [.gap kk q]} (some (ws,r4)):=by
      rw[e2,iA {f with pieces:=i,out:=da} og w2 hi r2 Ab,e4];show after _ (pw og (.gap kk q) r3)=_;rw[(show pw og (.gap kk q) r3=some (ws,r4) from e6)]
     have nQ:=zb (show pw og (.gap kk q) r3=some (ws,r4) from e6);have Z0:=D6 (show pw og (.gap kk q) r3=some (ws,r4) from e6);have ZW:=D5 w2 (show pw og (.gap kk q) r3=some (ws,r4) from e6);cases ws with
     |nil=>
      refine⟨_,rfl,lv,_,rfl,.inl (cg.of M5.nil),rfl,_,rfl,bI ?_⟩;exact k2 (da++ [.gap kk q]) r4 (by rw[e5];exact m8 {f with out:=da++ [.gap kk q]} f.stack (i+1) f.mode r4) (by rw[aw];show da.length+1+r4.length<=_;omega) H5 M5.kp M5.rs
     |cons g ws=>
      obtain⟨a,as,dl,Dd,Gv,_⟩:=M5.top;refine⟨_,rfl,lv,_,rfl,.inl (cg.of Dd),rfl,_,rfl,?_⟩;rw[ag (λq=>by have:=V.int.inj q;rw[aw] at this;have h1:(((FV as).length+1:Nat):Int)=0:=this;omega)];refine bO ?_;exact⟨g::ws,r4,da++ [.gap kk q],_,_,_,rfl,M5,ZW.resolve_left nofun,e5,by rw[aw];show da.length+1+r4.length<=_;omega,by omega⟩
   |stand sd=>
    refine⟨_,rfl,rfl,_,rfl,bO ?_⟩;refine⟨_,rfl,rfl,_,rfl,bI ?_⟩;refine⟨_,rfl,u.c,dx,_,rfl,hc,rfl,u,91,rfl,r3,M4.rs.cur,λH4' q4' C4=>⟨_,rfl,?_⟩⟩;have M4':=M4.kc q4' C4;unfold tk at M4';have Nl:pw og (.stand sd) r3=if hd r3=91 then i6 og r3.tail else gX og (-1) r3:=rfl
    by_cases Td:hd r3=91
    ·rw[ah Td] at M4' Nl;rw[ai Td];have hr3:=o4 Td (by decide);refine bI ⟨_,rfl,_,rfl,u,o,lv,rfl,H,og,r3.tail,_,M4',by omega,λe6 H5 q5=>?_,λws r4 e6 H5 M5=>?_⟩
     ·refine⟨_,rfl,_,rfl,bI ?_⟩;exact k1 (by rw[e2,iA {f with pieces:=i,out:=da} og w2 hi r2 Ab,e4];show after _ (pw og (.stand sd) r3)=none;rw[Nl,e6];rfl) H5 q5
     ·refine⟨_,rfl,_,rfl,bO ?_⟩;have e5:resB {f with stack:=[FU.new .block],pieces:=0} r=after {f with pieces:=i+1,out:=da++ [.stand sd]} (some (ws,r4)):=by
       rw[e2,iA {f with pieces:=i,out:=da} og w2 hi r2 Ab,e4]
       grind
      have nQ:=zb (Nl.trans e6);have Z0:=D6 (Nl.trans e6);have ZW:=D5 w2 (Nl.trans e6);cases ws with
      |nil=>
       refine⟨_,rfl,lv,_,rfl,.inl (cg.of M5.nil),rfl,_,rfl,bI ?_⟩;exact k2 (da++ [.stand sd]) r4 (by rw[e5];exact m8 {f with out:=da++ [.stand sd]} f.stack (i+1) f.mode r4) (by rw[aw];show da.length+1+r4.length<=_;omega) H5 M5.kp M5.rs
      |cons g ws=>
       obtain⟨a,as,dl,Dd,Gv,_⟩:=M5.top;refine⟨_,rfl,lv,_,rfl,.inl (cg.of Dd),rfl,_,rfl,?_⟩;rw[ag (λq=>by have:=V.int.inj q;rw[aw] at this;have h1:(((FV as).length+1:Nat):Int)=0:=this;omega)];refine bO ?_;exact⟨g::ws,r4,da++ [.stand sd],_,_,_,rfl,M5,ZW.resolve_left nofun,e5,by rw[aw];show da.length+1+r4.length<=_;omega,by omega⟩
    ·rw[ae Td] at M4' Nl;rw[ag Td];refine bO ⟨_,rfl,_,rfl,u,o,lv,rfl,H,og,r3,_,M4',by omega,λe6 H5 q5=>?_,λws r4 e6 H5 M5=>?_⟩
     ·refine⟨_,rfl,_,rfl,bI ?_⟩;exact k1 (by rw[e2,iA {f with pieces:=i,out:=da} og w2 hi r2 Ab,e4];show after _ (pw og (.stand sd) r3)=none;rw[Nl,e6];rfl) H5 q5
     ·refine⟨_,rfl,_,rfl,bO ?_⟩;have e5:resB {f with stack:=[FU.new .block],pieces:=0} r=after {f with pieces:=i+1,out:=da++ [.stand sd]} (some (ws,r4)):=by
       rw[e2,iA {f with pieces:=i,out:=da} og w2 hi r2 Ab,e4]
       grind
      have nQ:=zb (Nl.trans e6);have Z0:=D6 (Nl.trans e6);have ZW:=D5 w2 (Nl.trans e6);cases ws with
      |nil=>
       refine⟨_,rfl,lv,_,rfl,.inl (cg.of M5.nil),rfl,_,rfl,bI ?_⟩;exact k2 (da++ [.stand sd]) r4 (by rw[e5];exact m8 {f with out:=da++ [.stand sd]} f.stack (i+1) f.mode r4) (by rw[aw];show da.length+1+r4.length<=_;omega) H5 M5.kp M5.rs
      |cons g ws=>
       obtain⟨a,as,dl,Dd,Gv,_⟩:=M5.top;refine⟨_,rfl,lv,_,rfl,.inl (cg.of Dd),rfl,_,rfl,?_⟩;rw[ag (λq=>by have:=V.int.inj q;rw[aw] at this;have h1:(((FV as).length+1:Nat):Int)=0:=this;omega)];refine bO ?_;exact⟨g::ws,r4,da++ [.stand sd],_,_,_,rfl,M5,ZW.resolve_left nofun,e5,by rw[aw];show da.length+1+r4.length<=_;omega,by omega⟩
end
section
open FZ
open FT (FU FK FM FS)
def pN(P:Program)(w:World)(K:Frag)(mg:ac0)(base:Heap)(A:CA)(kk:Nat):Sp:=λvs H Q _=>∃(u:CU) (o:RO) (fa:Addr) (most:Nat) (mr:Int),vs=[.ref u.c,.ref o.rw,.ref fa,.int most,.int mr]/\∃(sp:Sp) (G E:Nat->List FT.It->Bytes->Option (List FT.It)) (F:List FT.It->Bytes->Option (List FT.It)) (Vu:Nat->Bytes->Prop) (B:Nat) (out:List FT.It) (r:Bytes),
 Clf P w K mg base fa kk sp/\0<most/\most<1000/\RS K A H u o r out/\out.length+r.length<=B/\Vu 0 r/\(∀i r,Vu (i+1) r)/\
 (∀i out r,E i out r=if hd r=mr then F out r.tail else if hd r=32 then(if i+1<most then G (i+1) out r.tail else none) else none)/\
 (∀i out r H1 Q',i<most->Vu i r->RS K A H1 u o r out->out.length+r.length<=B->(G i out r=none->∀H',KR A u o H1 H'->Q' (.bl false) H')->(∀nY r',G i out r=E i nY r'->nY.length+r'.length<=out.length+r.length->∀H',KR A u o H1 H'->RS K A H' u o r' nY->Q' (.bl true) H')->sp [.ref u.c,.ref o.rw] H1 Q' E0)/\
 (G 0 out r=none->∀H',KR A u o H H'->Q (.bl false) H')/\
 (∀nY r',G 0 out r=F nY r'->nY.length+r'.length<=out.length+r.length->∀H',KR A u o H H'->RS K A H' u o r' nY->Q (.bl true) H')
def HN(K:Frag)(A:CA):Sp:=λvs H Q _=>∃(u:CU) (o:RO),vs=[.ref u.c,.ref o.rw]/\∃(l e:Nat) (r:Bytes) (out:List FT.It),RS K A H u o r out/\l<512/\(r≠[]\/e≠0\/l=0)/\out.length+r.length<=9000000/\(res (fr out l e) r=none->∀H',KR A u o H H'->Q (.bl false) H')/\(∀nY r',res (fr out l e) r=B3 nY l e r'->nY.length+r'.length<=out.length+r.length->∀H',KR A u o H H'->RS K A H' u o r' nY->Q (.bl true) H')
theorem xf:∀(l:List FT.It) (n:Nat),(fJ n l).length<=l.length
 | [],_=>aA _
 | .lost::l,n=>Nat.succ_le_succ (xf l n)
 | .stand s::l,n=>bK (xf l _) (nV _)
 | .gap k q::l,n=>bK (xf l _) (nV _)
theorem RS.lost{K:Frag}{A:CA}{H:Hp}{u:CU}{o:RO}{r:Bytes}{out:List FT.It}(h:RS K A H u o r out):RS K A (L2.upd H o.br (.lst (qV (fJ 0 out)++ [.int ((dC out).length:Nat)]))) u o r (out++ [.lost]):=by
 obtain⟨⟨sq,dx,j,hc,yM⟩,⟨⟨dw,h1⟩,⟨as,h2,h3⟩,h4⟩,n1,n2,nb⟩:=h;refine⟨⟨n2 _ _ sq,dx,j,by rw[aH (bW hc h4 nofun)];exact hc,yM⟩,⟨⟨dw,by rw[aH (bW h1 h4 nofun)];exact h1⟩,⟨as,by rw[aH nb];exact h2,?_⟩,?_⟩,n1,n2,nb⟩
 ·rw[uF,ae (show ¬nk .lost=true by decide)];exact Paired.ee h3 λ_ _ q=>q.NA h4
 ·rw[ak,mR];unfold qV;rw[aN,dE];rfl
namespace SevA
theorem kg(D:Df K mg "several_read" iT)(T:Tx mg K A)(aU:d4 P w K mg base A.Cursor "took" 2 ["self","wanted"] (js K A)):e7 P w K mg base "several_read" 7 ["cursor","row","each_read","most","closer"] (pN P w K mg base A 6):=by
 refine D.iO hZ (λ_ _ _ _ _ _ us hl=>match us,hl with | [_,_,_,_,_],_=>rfl) (λvs H Q E h=>by obtain⟨_,_,_,_,_,rfl,_⟩:=h;rfl) (λf dG Ar outer s H vs Q E hr h=>?_);obtain⟨u,o,fa,most,mr,rfl,sp,G,E',F,Vu,B,out,r,Wg,hm0,hm,hR,hlen,ok0,oks,hE,each,k1,k2⟩:=h;refine⟨_,(aq (iY bP rfl (pR rfl T.qd (aj (pv 3) aB)) (qx 5 hZ.nd) (aq (bR (fo (cE (Fh (pv 2) (aj (pv 0) (aj (pv 1) aB))))) (aC (aV fw)) bf) (aq (bR (cE (cy (pv 0) T.bF aU hr.m (aj (pv 4) aB))) (aC (aV fw)) bf) (aC (bR (fo (cE (cy (pv 0) T.bF aU hr.m (aj (dP rfl T.DA) aB)))) (aC (aV fw)) bf))))) (aC (aV fw))),?_⟩;refine⟨_,rfl,_,rfl,by omega,by omega,?_⟩;rw[show(Int.toNat (most:Int))=most from fm most];refine pY (λi σ H1=>∃(da:List FT.It) (r1:Bytes) (v5:Option V),σ=[some (.ref u.c),some (.ref o.rw),some (.ref fa),some (.int most),some (.int mr),v5]/\KR A u o H H1/\RS K A H1 u o r1 da/\(i<most->G 0 out r=G i da r1/\Vu i r1)/\(most<=i->G 0 out r=none)/\da.length+r1.length<=out.length+r.length)
  ⟨out,r,_,rfl,.refl _ H,hR,λ_=>⟨rfl,ok0⟩,λq=>by omega,aA _⟩ ?turn ?after
 case after=>
  rintro σ H1 ⟨da,r1,v5,rfl,q1,R1,e1,e2,hl⟩;exact k1 (e2 (aA _)) H1 q1
 case turn=>
  rintro i σ H1 hi ⟨da,r1,v5,rfl,q1,R1,e1,_,hl⟩;obtain⟨e1,o1⟩:=e1 hi;refine⟨_,rfl,fa,6,sp,rfl,Wg,hr.mono (by decide),_,rfl,_,rfl,each i da r1 H1 _ hi o1 R1 (by omega) (λe H2 q2=>⟨_,rfl,bI ?_⟩) (λsH r2 e zv H2 q2 R2=>⟨_,rfl,bO ?_⟩)⟩
  ·exact k1 (e1.trans e) H2 (q1.trans q2)
  rw[hE] at e;have LK:=q1.trans q2;obtain⟨dx,j,hc⟩:=R2.cur.at;refine⟨_,rfl,u.c,dx,_,rfl,hc,rfl,_,rfl,u,mr,rfl,r2,R2.cur,λH3 q3 C3=>⟨_,rfl,?_⟩⟩;have R3:=R2.kc q3 C3;have Hk:=LK.trans (KR.of q3);have Ks:r2.tail.length<=r2.length:=by rw[fN];omega
  unfold tk at R3;by_cases yN:hd r2=mr
  ·rw[ah yN] at R3 e;rw[ai yN];exact bI (k2 _ _ (e1.trans e) (by omega) H3 Hk R3)
  rw[ae yN] at R3 e;rw[ag yN];obtain⟨dx,j,hc⟩:=R3.cur.at;refine bO ⟨_,rfl,u.c,dx,_,rfl,hc,rfl,u,32,rfl,r2,R3.cur,λH4 q4 C4=>⟨_,rfl,?_⟩⟩;have R4:=R3.kc q4 C4;have Ib:=Hk.trans (KR.of q4);unfold tk at R4;by_cases rT:hd r2=32
  ·rw[ah rT] at R4 e;rw[ai rT];refine bO ⟨sH,r2.tail,_,rfl,Ib,R4,λq=>⟨?_,oks _ _⟩,λq=>?_,by omega⟩
   ·rw[ah q] at e;exact e1.trans e
   ·rw[ae (by omega)] at e;exact e1.trans e
  ·rw[ae rT] at e;rw[ag rT];exact bI (k1 (e1.trans e) H4 Ib)
end SevA
theorem Cr(D:Df K mg "item_read" oG)(T:Tx mg K A)(aY:d4 P w K mg base A.Cursor "byte" 1 ["self"] (j6 K A))(aU:d4 P w K mg base A.Cursor "took" 2 ["self","wanted"] (js K A))(d6:d4 P w K mg base A.Cursor "took_all" 3 ["self","wanted"] (uq K A))(kL:e7 P w K mg base "block_read" 6 ["cursor","row"] (BM K A))(eW:e7 P w K mg base "several_read" 7 ["cursor","row","each_read","most","closer"] (pN P w K mg base A 6)):e7 P w K mg base "item_read" 8 ["cursor","row"] (HN K A):=by
 refine D.iO BU (λ_ _ _ _ _ _ us hl=>match us,hl with | [_,_],_=>rfl) (λvs H Q E h=>by obtain⟨_,_,rfl,_⟩:=h;rfl) (λf dG Ar outer s H vs Q E hr h=>?_);obtain⟨u,o,rfl,l,e,r,out,R0,Kx,cR,hlen,k1,k2⟩:=h;obtain⟨dx,j,hc⟩:=R0.cur.at;refine⟨_,(aq (bR (bC gI (cO (pv 0) T.bF aY hr.m) (fu uY (Oz rfl T.xT) cF (λ_ _=>rfl)) (bL _)) (aq (cY (jU bp bu bq dc (bD (pv 1) rfl) (aj (bV bG rfl T.eI B.dh (aj (bD (pv 1) rfl) aB)) aB))) (aC (aV (cy (pv 0) T.bF d6 hr.m (aj (Oz rfl T.xT) aB))))) bf) (aq (bR (cE (cy (pv 0) T.bF aU hr.m (aj (dP rfl T.Dq) aB))) (aC (aV (bB eW hr.m rfl (aj (pv 0) (aj (pv 1) (aj (Oz rfl T.B4) (aj (dP rfl T.yS) (aj (dP rfl T.Ad) aB)))))))) bf) (aC (aV (bB kL hr.m rfl (aj (pv 0) (aj (pv 1) aB))))))),?_⟩;refine⟨_,rfl,u.c,dx,_,rfl,hc,rfl,u,rfl,r,R0.cur,λqa yK=>⟨qa,_,_,_,rfl,rfl,T.NP qa yK _,rfl,rfl,_,rfl,?_⟩⟩;by_cases Tf:hd r=46
 ·rw[ai (bb V.int Tf)];obtain⟨dw,Rc⟩:=R0.row.rw;obtain⟨as,iK,oh⟩:=R0.row.pl;have Wi:=R0.row.br;refine bI ⟨_,rfl,o.rw,_,dw,_,_,rfl,Rc,T.qD,T.nh,rfl,.inl ⟨rfl,_,cg.of Wi⟩,_,rfl,o.rw,_,dw,_,_,rfl,Rc,T.qD,T.fR,rfl,o.pl,_,rfl,.inl (cg.of iK),o.br,_,_,rfl,rfl,Wi,?_,?_⟩
  ·unfold qV;rw[af];have:=xf out 0;have:(10000001:Nat)<sizeLine:=by decide
   omega
  rw[af,bc oh];have R1:=R0.lost;have q1:KR A u o H (L2.upd H o.br (.lst (qV (fJ 0 out)++ [.int ((dC out).length:Nat)]))):=.wr Wi (.inr (.inr ⟨rfl,_,rfl⟩));obtain⟨dx,j,hc⟩:=R1.cur.at;refine⟨_,rfl,u.c,dx,_,rfl,hc,rfl,λqb hqb=>⟨u,qb,rfl,r,[46,46,46],R1.cur,T.NP qb hqb _,(by decide),λH2 r2 q2 C2=>⟨λe2=>?_,λe2=>?_⟩⟩⟩
  ·have e3:r=46::46::46::r2:=tD (by rw[e2,gS,gS,gS];rfl);refine k2 (out++ [.lost]) r2 (by rw[e3];exact Mm Kx r2) ?_ H2 (q1.trans (KR.of q2)) (R1.kc q2 C2);rw[e3,aw];show out.length+1+r2.length<=out.length+(r2.length+1+1+1);omega
  ·exact k1 (F9 Kx Tf λr2 e3=>e2 r2 (by rw[e3,gS,gS,gS];rfl)) H2 (q1.trans (KR.of q2))
 ·rw[ag (λq=>Tf (V.int.inj q))];refine bO ⟨_,rfl,u.c,dx,_,rfl,hc,rfl,u,60,rfl,r,R0.cur,λH1 q1 C1=>⟨_,rfl,?_⟩⟩;have R1:=R0.kc q1 C1;unfold tk at R1;by_cases Nn:hd r=60
  ·rw[ah Nn] at R1;rw[ai Nn];have ht:=o4 Nn (by decide);rw[Ml Kx Nn] at k1 k2;refine bI ⟨_,rfl,_,rfl,λfa ZM=>⟨u,o,fa,16,62,rfl,BM K A,λn out r=>resB (bk out l e (some n)) r,λn out r=>HX (bk out l e (some n)) r,λout r=>B3 out l e r,λ_ _=>True,9000000,out,r.tail,kL.clf ZM,by decide,by decide,R1,by omega,trivial,λ_ _=>trivial,λi out r=>Qy out l e i 0 _ _ r,?_,?_,?_⟩⟩
   ·intro i da r1 H2 Q' hi _ R2 zv k3 k4;exact⟨u,o,rfl,bk da l e (some i),r1,R2,zv,k3,k4⟩
   ·exact λz H2 q2=>k1 z H2 ((KR.of q1).trans q2)
   ·exact λsH r2 z hz H2 q2 R2=>k2 sH r2 z (by omega) H2 ((KR.of q1).trans q2) R2
  ·rw[ae Nn] at R1;rw[ag Nn];rw[II Kx Nn Tf cR] at k1 k2;refine bO ⟨_,rfl,_,rfl,u,o,rfl,bk out l e none,r,R1,hlen,λz H2 q2=>k1 z H2 ((KR.of q1).trans q2),λsH r2 z hz H2 q2 R2=>k2 sH r2 (z.trans (GO sH l e 0 _ _ r2)) hz H2 ((KR.of q1).trans q2) R2⟩
namespace SevB
theorem kg(D:Df K mg "several_read" iT)(T:Tx mg K A)(aU:d4 P w K mg base A.Cursor "took" 2 ["self","wanted"] (js K A)):e7 P w K mg base "several_read" 9 ["cursor","row","each_read","most","closer"] (pN P w K mg base A 8):=by
 refine D.iO hZ (λ_ _ _ _ _ _ us hl=>match us,hl with | [_,_,_,_,_],_=>rfl) (λvs H Q E h=>by obtain⟨_,_,_,_,_,rfl,_⟩:=h;rfl) (λf dG Ar outer s H vs Q E hr h=>?_);obtain⟨u,o,fa,most,mr,rfl,sp,G,E',F,Vu,B,out,r,Wg,hm0,hm,hR,hlen,ok0,oks,hE,each,k1,k2⟩:=h;refine⟨_,(aq (iY bP rfl (pR rfl T.qd (aj (pv 3) aB)) (qx 5 hZ.nd) (aq (bR (fo (cE (Fh (pv 2) (aj (pv 0) (aj (pv 1) aB))))) (aC (aV fw)) bf) (aq (bR (cE (cy (pv 0) T.bF aU hr.m (aj (pv 4) aB))) (aC (aV fw)) bf) (aC (bR (fo (cE (cy (pv 0) T.bF aU hr.m (aj (dP rfl T.DA) aB)))) (aC (aV fw)) bf))))) (aC (aV fw))),?_⟩;refine⟨_,rfl,_,rfl,by omega,by omega,?_⟩;rw[show(Int.toNat (most:Int))=most from fm most];refine pY (λi σ H1=>∃(da:List FT.It) (r1:Bytes) (v5:Option V),σ=[some (.ref u.c),some (.ref o.rw),some (.ref fa),some (.int most),some (.int mr),v5]/\KR A u o H H1/\RS K A H1 u o r1 da/\(i<most->G 0 out r=G i da r1/\Vu i r1)/\(most<=i->G 0 out r=none)/\da.length+r1.length<=out.length+r.length)
  ⟨out,r,_,rfl,.refl _ H,hR,λ_=>⟨rfl,ok0⟩,λq=>by omega,aA _⟩ ?turn ?after
 case after=>
  rintro σ H1 ⟨da,r1,v5,rfl,q1,R1,e1,e2,hl⟩;exact k1 (e2 (aA _)) H1 q1
 case turn=>
  rintro i σ H1 hi ⟨da,r1,v5,rfl,q1,R1,e1,_,hl⟩;obtain⟨e1,o1⟩:=e1 hi;refine⟨_,rfl,fa,8,sp,rfl,Wg,hr.mono (by decide),_,rfl,_,rfl,each i da r1 H1 _ hi o1 R1 (by omega) (λe H2 q2=>⟨_,rfl,bI ?_⟩) (λsH r2 e zv H2 q2 R2=>⟨_,rfl,bO ?_⟩)⟩
  ·exact k1 (e1.trans e) H2 (q1.trans q2)
  rw[hE] at e;have LK:=q1.trans q2;obtain⟨dx,j,hc⟩:=R2.cur.at;refine⟨_,rfl,u.c,dx,_,rfl,hc,rfl,_,rfl,u,mr,rfl,r2,R2.cur,λH3 q3 C3=>⟨_,rfl,?_⟩⟩;have R3:=R2.kc q3 C3;have Hk:=LK.trans (KR.of q3);have Ks:r2.tail.length<=r2.length:=by rw[fN];omega
  unfold tk at R3;by_cases yN:hd r2=mr
  ·rw[ah yN] at R3 e;rw[ai yN];exact bI (k2 _ _ (e1.trans e) (by omega) H3 Hk R3)
  rw[ae yN] at R3 e;rw[ag yN];obtain⟨dx,j,hc⟩:=R3.cur.at;refine bO ⟨_,rfl,u.c,dx,_,rfl,hc,rfl,u,32,rfl,r2,R3.cur,λH4 q4 C4=>⟨_,rfl,?_⟩⟩;have R4:=R3.kc q4 C4;have Ib:=Hk.trans (KR.of q4);unfold tk at R4;by_cases rT:hd r2=32
  ·rw[ah rT] at R4 e;rw[ai rT];refine bO ⟨sH,r2.tail,_,rfl,Ib,R4,λq=>⟨?_,oks _ _⟩,λq=>?_,by omega⟩
   ·rw[ah q] at e;exact e1.trans e
   ·rw[ae (by omega)] at e;exact e1.trans e
  ·rw[ae rT] at e;rw[ag rT];exact bI (k1 (e1.trans e) H4 Ib)
end SevB
end
section
open FZ
open FT (FU FK FM FS)
def AJ(A:CA):Sp:=λvs H Q _=>∃(a:Addr),vs=[.ref a]/\∃dx,H a=some (.ins A.Row dx [])/\∀H' p q,Kp (atS a) H H'->H p=.none->H q=.none->p≠q->H' a=some (.ins A.Row dx [("places",.ref p),("breaks",.ref q)])->H' p=some (.lst [])->H' q=some (.lst [])->Q .eZ H'
def JJ(K:Frag)(A:CA):Sp:=λvs H Q _=>∃(tx:Addr),vs=[.ref tx]/\∃(b:Bytes),cg K H tx ((ib b).map V.int)/\b.length<=9000000/\(FT.iX b=none->∀H',bJ H H'->Q .eZ H')/\(∀out,FT.iX b=some out->out.length<=b.length->∀H' o,bJ H H'->vJ A H' o out->Q (.ref o.rw) H')
theorem vU(D:Q4 K "Row.__init__" A.Row k8)(T:Tx mg K A):lB P w K mg base "Row" A.Row 1 ["self"] (AJ A):=by
 refine D.iO T.YU vR (λ_ _ _ _ _ _ us hl=>match us,hl with | [_],_=>rfl) (λvs H Q E h=>by obtain⟨_,rfl,_⟩:=h;rfl) (λf dG Ar outer s H vs Q E hr h=>?_);obtain⟨a,rfl,dx,ha,k⟩:=h;refine⟨_,(aq (dH (pv 0) (dD aB) rfl) (aC (dH (pv 0) (dD aB) rfl))),?_⟩;refine⟨aD _,λp hp=>⟨_,rfl,a,_,dx,_,rfl,aF hp _ _ ha,T.qD,T.fR,(uU rfl),?_⟩⟩;refine⟨aD _,λq hq=>⟨_,rfl,a,_,dx,_,rfl,aF hq _ _ ak,T.qD,T.nh,(uU rfl),?_⟩⟩;have Mu:p≠a:=λz=>by subst z;rw[ha] at hp;cases hp
 have yK:q≠a:=λz=>by subst z;rw[ak] at hq;cases hq
 have Zn:p≠q:=λz=>by
  subst z;rw[aH Mu,ak] at hq;cases hq
 have Xd:H q=.none:=by
  rw[aH yK,aH (cv Zn)] at hq;exact hq
 refine k _ p q ?_ hp Xd Zn ak ?_ ?_
 ·exact(((Kp.new hp).trans (.wr (aF hp _ _ ha) rfl)).trans (.new hq)).trans (.wr (aF hq _ _ ak) rfl)
 ·rw[aH Mu,aH Zn,aH Mu,ak]
 ·rw[aH yK,ak]
theorem Dj{r:Bytes}:hd r= -1↔r=[]:=by
 cases r with
 |nil=>exact⟨λ_=>rfl,λ_=>rfl⟩
 |cons c r=>exact⟨λq=>absurd (show(c.toNat:Int)= -1 from q) (by omega),nofun⟩
theorem LQ(D:Df K mg "row_of" xQ)(T:Tx mg K A)(eC:lB P w K mg base "Cursor" A.Cursor 1 ["self","text"] (uu K A))(aY:d4 P w K mg base A.Cursor "byte" 1 ["self"] (j6 K A))(ua:lB P w K mg base "Row" A.Row 1 ["self"] (AJ A))(pG:e7 P w K mg base "item_read" 8 ["cursor","row"] (HN K A))(eW:e7 P w K mg base "several_read" 9 ["cursor","row","each_read","most","closer"] (pN P w K mg base A 8)):e7 P w K mg base "row_of" 10 ["text"] (JJ K A):=by
 refine D.iO pO (λ_ _ _ _ _ _ us hl=>match us,hl with | [_],_=>rfl) (λvs H Q E h=>by obtain⟨_,rfl,_⟩:=h;rfl) (λf dG Ar outer s H vs Q E hr h=>?_);obtain⟨tx,rfl,b,hb,hlen,k1,k2⟩:=h;refine⟨_,(aq (gc 1 pO.nd (g6 eC hr.m rfl (aj (pv 0) aB))) (aq (gc 2 pO.nd (AV ua hr.m rfl)) (aq (iY bP rfl (pR rfl T.qd (aj (dP rfl T.Dy) aB)) (qx 3 pO.nd) (aq (bR (fo (cE (bB eW hr.m rfl (aj (pv 1) (aj (pv 2) (aj (Oz rfl T.E7) (aj (dP rfl T.yU) (aj (dP rfl T.ll) aB)))))))) (aC (aV cN)) bf) (aC (bR (bC gI (cO (pv 1) T.bF aY hr.m) (dP rfl T.mM) (bL _)) (aC (aV (pv 2))) bf)))) (aC (aV cN))))),?_⟩;refine⟨_,rfl,?_⟩;intro x dx nx FD Se;have s1:bJ H (L2.upd (L2.upd H dx (.own x)) x (.ins A.Cursor dx [])):=e8 nx FD;refine⟨x,tx,rfl,dx,b,ak,s1.seq hb,λH2 q2 C2=>⟨rfl,?_⟩⟩;have s2:bJ H H2:=λa v e=>q2.kp a v (s1 a v e) λz=>by
  have zz:a=x:=z.1;subst zz;rw[nx] at e;cases e
 intro y dy ny ndy ney;have s3:bJ H2 (L2.upd (L2.upd H2 dy (.own y)) y (.ins A.Row dy [])):=e8 ny ndy;refine⟨y,rfl,dy,ak,λH4 p q q4 hp hq Zn hy4 Kv hq4=>⟨rfl,?_⟩⟩;have s4:bJ H2 H4:=λa v e=>q4.kp a v (s3 a v e) λz=>by
  have zz:a=y:=z;subst zz;rw[ny] at e;cases e
 have hp0:H2 p=.none:=same_none s3 hp;have Xd:H2 q=.none:=same_none s3 hq;have R4:RS K A H4 ⟨x,tx,b⟩ ⟨y,p,q⟩ b []:=⟨C2.same s4,⟨⟨dy,hy4⟩,⟨[],Kv,.nil⟩,hq4⟩,NX.of C2.sq hp0,NX.of C2.sq Xd,Zn⟩;have s5:bJ H H4:=λa v e=>s4 a v (s2 a v e)
 have fin:∀{H':Hp},KR A ⟨x,tx,b⟩ ⟨y,p,q⟩ H H'->bJ H H':=λ{H'} k=>k.jr λa v z=>by
  rcases z with ⟨z,_⟩|⟨z,_⟩|⟨z,_⟩
  ·rw[z];exact nx
  ·rw[z];exact same_none s2 hp0
  ·rw[z];exact same_none s2 Xd
 refine⟨_,rfl,by decide,by decide,pY (λi σ H1=>∃(da:List FT.It) (r1:Bytes) (v3:Option V),σ=[some (.ref tx),some (.ref x),some (.ref y),v3]/\KR A ⟨x,tx,b⟩ ⟨y,p,q⟩ H H1/\RS K A H1 ⟨x,tx,b⟩ ⟨y,p,q⟩ r1 da/\FT.iX b=res (fr da i 0) r1/\(r1≠[]\/i=0)/\da.length+r1.length<=b.length)
  ⟨[],b,_,rfl,.same s5,R4,Qo b,.inr rfl,by show 0+b.length<=b.length;omega⟩ ?turn ?after⟩
 case after=>
  rintro σ H1 ⟨da,r1,v3,rfl,q1,R1,e1,gT,hl⟩;exact k1 (e1.trans (Me (gT.resolve_right (by show ¬(512:Nat)=0;decide)))) H1 (fin q1)
 case turn=>
  rintro i σ H1 hi ⟨da,r1,v3,rfl,q1,R1,e1,gT,hl⟩;have hi:i<512:=hi;refine⟨_,rfl,_,rfl,λfa ZM=>⟨⟨x,tx,b⟩,⟨y,p,q⟩,fa,64,10,rfl,HN K A,λe out r=>res (fr out i e) r,λe out r=>B3 out i e r,λout r=>res (fr out (i+1) 0) r,λe r=>r≠[]\/e≠0\/i=0,9000000,da,r1,pG.clf ZM,by decide,by decide,R1,by omega,gT.elim .inl (λz=>.inr (.inr z)),λe r=>.inr (.inl (Nat.succ_ne_zero e)),λe out r=>rfl,?_,?_,?_⟩⟩
  ·intro e sH r2 H2 Q' he cR R2 zv k3 k4;exact⟨_,_,rfl,i,e,r2,sH,R2,hi,cR,zv,k3,k4⟩
  ·exact λz H2 q2=>⟨_,rfl,bI (k1 (e1.trans z) H2 (fin (q1.trans q2)))⟩
  ·intro sH r2 z hz H2 q2 R2;refine⟨_,rfl,bO ?_⟩;obtain⟨dx,j,hc⟩:=R2.cur.at;refine⟨_,rfl,x,dx,_,rfl,hc,rfl,⟨x,tx,b⟩,rfl,r2,R2.cur,rfl,_,rfl,?_⟩;by_cases hn:hd r2= -1
   ·rw[ai (bb V.int hn)];have hr:=Dj.mp hn;subst hr;refine bI ⟨_,rfl,?_⟩;exact k2 sH (e1.trans (z.trans (Pj sH i))) (by omega) H2 ⟨y,p,q⟩ (fin (q1.trans q2)) R2.row
   ·rw[ag (λz=>hn (V.int.inj z))];exact bO ⟨sH,r2,_,rfl,q1.trans q2,R2,e1.trans z,.inl (λz=>hn (Dj.mpr z)),by omega⟩
end
def TX(Z:ac7)(H:Hp)(p:Addr)(s:ac3):Prop:=∃as:List Addr,H p=some (.lst (as.map V.ref))/\Paired (λ(a:Addr) (x:Bytes)=>H a=some (.tup ((ib x).map V.int))) as s/\Z p
def K8(Z:ac7)(H:Hp)(p:Addr)(s:ac3):Prop:=∃as:List Addr,H p=some (.lst (as.map V.ref))/\Paired (λ(a:Addr) (x:Bytes)=>H a=some (.lst ((ib x).map V.int))) as s/\(∀a∈as,a≠p/\Z a)/\Z p
def EM(K:Frag)(A:CA):Sp:=λvs H Q _=>∃(u:CU),vs=[.ref u.c]/\∃r,jE K A H u r/\r.length<=9000000/\(lz [] r=none->∀H',KC A u H H'->Q .eZ H')/\(∀s r',lz [] r=some (s,r')->∀H' p,KC A u H H'->jE K A H' u r'->TX (λq=>H q=.none) H' p s->r'.length<=r.length->Q (.ref p) H')
def N2:Sp:=λvs H Q _=>∃(n:Int),vs=[.int n]/\Q (.bl (decide (n=35) ||decide (n=46))) H
def JR(K:Frag)(A:CA):Sp:=λvs H Q _=>∃(u:CU),vs=[.ref u.c]/\∃r,jE K A H u r/\r.length<=10000000/\∀H' p,KC A u H H'->H p=.none->jE K A H' u (r.dropWhile c6)->H' p=some (.lst ((ib (r.takeWhile c6)).map V.int))->Q (.ref p) H'
def NZ(K:Frag)(A:CA):Sp:=λvs H Q _=>∃(u:CU),vs=[.ref u.c]/\∃r,jE K A H u r/\r.length<=9000000/\(la [] r=none->∀H' p,KC A u H H'->K8 (λq=>H q=.none) H' p []->Q (.ref p) H')/\(∀s r',la [] r=some (s,r')->∀H' p,KC A u H H'->jE K A H' u r'->K8 (λq=>H q=.none) H' p s->s.length+r'.length<=r.length->Q (.ref p) H')
def xE(A:CA):Sp:=λvs H Q _=>∃(a:Addr) (n s r:V),vs=[.ref a,n,s,r]/\∃dx,H a=some (.ins A.Sign dx [])/\∀H',Kp (atS a) H H'->H' a=some (.ins A.Sign dx [("name",n),("sounds",s),("rows",r)])->Q .eZ H'
theorem F2:∀JA:List (List Int),PyData.canLayAll0 (JA.map λns=>PyData.tuple (ns.map PyData.int))=true
 | []=>rfl
 |x::JA=>by
  rw[aK,PyData.canLayAll0,PyData.canLay0,lay_ints,F2 JA];rfl
theorem Qz{K:Frag}{H:Hp}:∀{as:ac1} {s:ac3},Paired (λ(a:Addr) (x:Bytes)=>H a=some (.tup ((ib x).map V.int))) as s->nS K H (as.map V.ref) ((s.map ib).map λns=>PyData.tuple (ns.map PyData.int))
 |_,_,.nil=>.nil
 |_,_,.cons q t=>.cons (.tup (dJ.of q) (fT _)) (Qz t)
theorem O2(w:Bytes)(s:ac3):(ib w∈s.map ib)=(w∈s):=by
 refine propext ⟨λh=>?_,λh=>List.mem_map_of_mem h⟩;obtain⟨x,h1,h2⟩:=cH.mp h;exact tD h2▸h1
theorem Pu(r:Bytes):(decide (hd r=35) ||decide (hd r=46))=Mo r:=by
 cases r with
 |nil=>rfl
 |cons c r=>
  show(decide ((c.toNat:Int)=35) ||decide ((c.toNat:Int)=46))=(c==35 ||c==46);have h:∀n:Nat,n<256->decide ((c.toNat:Int)=(n:Int))=(c==UInt8.ofNat n):=λn hn=>by
   by_cases q:c=UInt8.ofNat n
   ·rw[ai (show(c.toNat:Int)=(n:Int) from(FZ.PZ (r:=[]) n hn).mpr q),gC.mpr q]
   ·rw[ag (show ¬(c.toNat:Int)=(n:Int) from λz=>q ((FZ.PZ (r:=[]) n hn).mp z)),cc.mpr q]
  have h1:decide ((c.toNat:Int)=35)=(c==35):=h 35 (by decide);have h2:decide ((c.toNat:Int)=46)=(c==46):=h 46 (by decide);rw[h1,h2]
theorem uN(D:Q4 K "Sign.__init__" A.Sign ke)(T:Tx mg K A):lB P w K mg base "Sign" A.Sign 1 ["self","name","sounds","rows"] (xE A):=by
 refine D.iO T.VD uz (λ_ _ _ _ _ _ us hl=>match us,hl with | [_,_,_,_],_=>rfl) (λvs H Q E h=>by obtain⟨_,_,_,_,rfl,_⟩:=h;rfl) (λf dG Ar outer s H vs Q E hr h=>?_);obtain⟨a,n,s,r,rfl,dx,ha,k⟩:=h;refine⟨_,(aq (dH (pv 0) (pv 1) rfl) (aq (dH (pv 0) (pv 2) rfl) (aC (dH (pv 0) (pv 3) rfl)))),?_⟩;refine⟨_,rfl,_,rfl,a,_,dx,_,rfl,ha,T.jc,T.jW,(uU rfl),?_⟩;refine⟨_,rfl,_,rfl,a,_,dx,_,rfl,ak,T.jc,T.ml,(uU rfl),?_⟩;refine⟨_,rfl,_,rfl,a,_,dx,_,rfl,ak,T.jc,T.iE,(uU rfl),?_⟩;refine k _ ?_ ak;exact((Kp.wr ha rfl).trans (.wr ak rfl)).trans (.wr ak rfl)
theorem x8(D:Df K mg "sounds_read" lY)(T:Tx mg K A)(aU:d4 P w K mg base A.Cursor "took" 2 ["self","wanted"] (js K A))(fK:e7 P w K mg base "letters_read" 3 ["cursor"] (ur K A)):e7 P w K mg base "sounds_read" 4 ["cursor"] (EM K A):=by
 refine D.iO kY (λ_ _ _ _ _ _ us hl=>match us,hl with | [_],_=>rfl) (λvs H Q E h=>by obtain⟨_,rfl,_⟩:=h;rfl) (λf dG Ar outer s H vs Q E hr h=>?_);obtain⟨u,rfl,r,hC,hlen,kn,ks⟩:=h;refine⟨_,(aq (gc 1 kY.nd (dD aB)) (aq (jT bP (cE (cy (pv 0) T.bF aU hr.m (aj (dP rfl T.DA) aB))) (aq (gc 2 kY.nd (bB fK hr.m rfl (aj (pv 0) aB))) (aq (bR (PW.pt (qw (fo (xV kq kq cF (bV bG rfl T.eI B.dh (aj (pv 2) aB)) (dP rfl T.mN))) (qw (bC (x6 hr) (pv 2) (pv 1) rfl) (oN (bC gI (bV bG rfl T.eI B.dh (aj (pv 1) aB)) (dP rfl T.Af) (bL _)))))) (aC (aV cN)) bf) (aC (cY (jU bp bu bq dc (pv 1) (aj (pv 2) aB))))))) (aC (aV (pv 1))))),?_⟩;refine⟨aD _,λpf lJ=>?_⟩;refine⟨λm σ H1=>∃(r1:Bytes) (had:ac3) (v2:Option V),m=r1.length/\σ=[some (.ref u.c),some (.ref pf),v2]/\KC A u H H1/\jE K A H1 u r1/\TX (λq=>H q=.none) H1 pf had/\lz [] r=lz had r1/\had.length+r1.length<=r.length,⟨_,r,[],_,rfl,rfl,.new lJ,hC.same (aF lJ),⟨[],ak,.nil,lJ⟩,rfl,by show 0+r.length<=r.length;omega⟩,?_⟩;rintro m σ H1 ⟨r1,had,v2,rfl,rfl,q1,C1,⟨as,hf,hp,hz⟩,e1,hl⟩;obtain⟨dx,i,hc⟩:=C1.at;refine⟨_,rfl,u.c,dx,_,rfl,hc,rfl,u,32,rfl,r1,C1,λH2 q2 C2=>⟨_,rfl,?_⟩⟩;have Mz:H2 pf=some (.lst (as.map V.ref)):=q2.kp _ _ hf λ⟨_,_,_,e⟩=>nomatch e
 have wb:Paired (λ(a:Addr) (x:Bytes)=>H2 a=some (.tup ((ib x).map V.int))) as had:=Paired.ee hp λ_ _ z=>q2.kp _ _ z λ⟨_,_,_,e⟩=>nomatch e
 rw[lz.eq_1 had r1] at e1;unfold tk at C2;by_cases rT:hd r1=32
 ·rw[dif_pos rT] at e1;rw[ah rT] at C2;rw[ai rT];have ht:=eh rT (by decide);have hdw:=lr isSmall r1.tail;refine bI ⟨λeU H'=>∃(r2:Bytes) (had:ac3) (v2:Option V),r2.length<r1.length/\eU=[some (.ref u.c),some (.ref pf),v2]/\KC A u H H'/\jE K A H' u r2/\TX (λq=>H q=.none) H' pf had/\lz [] r=lz had r2/\had.length+r2.length<=r.length,λeU H' ⟨r2,ha,v2,z1,z⟩=>⟨_,z1,r2,ha,v2,rfl,z⟩,?_⟩;refine⟨_,rfl,u,rfl,r1.tail,C2,by omega,λH3 p q3 C3 hw=>?_⟩;have Bg:H3 pf=some (.lst (as.map V.ref)):=q3.kp _ _ Mz λ⟨_,_,_,e⟩=>nomatch e
  have zu:Paired (λ(a:Addr) (x:Bytes)=>H3 a=some (.tup ((ib x).map V.int))) as had:=Paired.ee wb λ_ _ z=>q3.kp _ _ z λ⟨_,_,_,e⟩=>nomatch e
  have Hk:=(q1.trans q2).trans q3;have hlw:((ib (r1.tail.takeWhile isSmall)).map V.int).length=(r1.tail.takeWhile isSmall).length:=by rw[af,dI]
  refine⟨_,rfl,p,_,rfl,.inr (dJ.of hw),_,_,rfl,rfl,_,rfl,?_⟩;rw[hlw];by_cases c1:1<=(r1.tail.takeWhile isSmall).length
  ·rw[ai (show(1:Int)<=((r1.tail.takeWhile isSmall).length:Nat) by omega)];refine bI ⟨_,_,rfl,rfl,_,rfl,?_⟩;by_cases c2:(r1.tail.takeWhile isSmall).length<=8
   ·rw[ai (show(((r1.tail.takeWhile isSmall).length:Nat):Int)<=8 by omega)];refine bO ⟨_,rfl,_,rfl,.tuple ((ib (r1.tail.takeWhile isSmall)).map PyData.int),(had.map ib).map (λns:List Int=>PyData.tuple (ns.map PyData.int)),.tup (dJ.of hw) (fT _),.inl (.lst (cg.of Bg) (Qz zu)),fP _,F2 _,_,rfl,?_⟩;show if (List.any _ _)=true then _ else _
    rw[zd];by_cases c3:(r1.tail.takeWhile isSmall)∈had
    ·rw[ai ((O2 _ _).symm▸c3)];rw[ae (λz=>z.2.1 c3)] at e1;exact bI (bI (kn e1 H3 Hk))
    ·rw[ag (λz=>c3 (O2 _ _▸z))];refine bO ⟨_,rfl,pf,_,rfl,.inl (cg.of Bg),rfl,_,rfl,?_⟩;have Gv:(as.map V.ref).length=had.length:=by rw[af,bc zu]
     rw[Gv];by_cases c4:had.length=8
     ·rw[ai (bb V.int (show(had.length:Int)=8 by omega))];rw[ae (λz=>z.2.2 c4)] at e1;exact bI (kn e1 H3 Hk)
     ·rw[ag (λz=>c4 (by have:=V.int.inj z;omega))];rw[ah ⟨⟨c1,c2⟩,c3,c4⟩] at e1;refine bO ⟨_,rfl,.inl ⟨rfl,_,cg.of Bg⟩,_,rfl,pf,_,_,rfl,rfl,Bg,?_,?_⟩
      ·rw[Gv];have:(10000001:Nat)<sizeLine:=by decide
       omega
      ·refine⟨r1.tail.dropWhile isSmall,had++ [r1.tail.takeWhile isSmall],_,by omega,rfl,Hk.uj lJ,C3.uj hC lJ,⟨as++ [p],?_,?_,lJ⟩,e1,by rw[aw];show had.length+1+_<=_;omega⟩
       ·rw[ak,aN];rfl
       ·exact fG (Paired.ee zu λa x z=>by rw[aH (bW z Bg nofun)];exact z) (by rw[aH (bW hw Bg nofun)];exact hw)
   ·rw[ag (show ¬(((r1.tail.takeWhile isSmall).length:Nat):Int)<=8 by omega)];rw[ae (λz=>c2 z.1.2)] at e1;exact bI (bI (kn e1 H3 Hk))
  ·rw[ag (show ¬(1:Int)<=((r1.tail.takeWhile isSmall).length:Nat) by omega)];rw[ae (λz=>c1 z.1.1)] at e1;exact bO ⟨_,rfl,bI (bI (kn e1 H3 Hk))⟩
 ·rw[dif_neg rT] at e1;rw[ae rT] at C2;rw[ag rT];refine bO ⟨_,rfl,?_⟩;exact ks had r1 e1 H2 pf (q1.trans q2) C2 ⟨as,Mz,wb,lJ⟩ (by omega)
theorem Ip(D:Df K mg "is_cell" uB)(T:Tx mg K A):e7 P w K mg base "is_cell" 1 ["byte"] (N2):=by
 refine D.iO HS (λ_ _ _ _ _ _ us hl=>match us,hl with | [_],_=>rfl) (λvs H Q E h=>by obtain⟨_,rfl,_⟩:=h;rfl) (λf dG Ar outer s H vs Q E hr h=>?_);obtain⟨n,rfl,k⟩:=h;refine⟨_,(aC (aV (Us (i5 gI (pv 0) (dP rfl T.UM) (bL _)) (Ij (i5 gI (pv 0) (dP rfl T.Qj) (bL _)))))),?_⟩;have e:∀m:Int,decide (V.int n=V.int m)=decide (n=m):=λm=>by
  by_cases q:n=m
  ·rw[ai q,ai (bb V.int q)]
  ·rw[ag q,ag (λz=>q (V.int.inj z))]
 refine⟨_,rfl,rfl,_,rfl,Mn (λh1=>?_) (λh1=>⟨_,rfl,rfl,?_⟩)⟩
 ·rw[e] at h1;rw[h1] at k;exact k
 ·rw[e,eT] at h1;rw[h1] at k;rw[e];exact k
theorem TH{r:Bytes}{x:UInt8}(h:c6 x=true):(x::r).takeWhile c6=x::r.takeWhile c6/\(x::r).dropWhile c6=r.dropWhile c6:=by
 rw[bQ,ah h,ej,ah h];exact⟨rfl,rfl⟩
theorem TF{r:Bytes}(h:Mo r=false):r.takeWhile c6=[]/\r.dropWhile c6=r:=by
 cases r with
 |nil=>exact⟨rfl,rfl⟩
 |cons x r=>
  rw[bQ,ae (by rw[show c6 x=false from h];decide),ej,ae (by rw[show c6 x=false from h];decide)];exact⟨rfl,rfl⟩
theorem zQ(D:Df K mg "cells_read" mZ)(T:Tx mg K A)(kW:e7 P w K mg base "is_cell" 1 ["byte"] (N2))(aY:d4 P w K mg base A.Cursor "byte" 1 ["self"] (j6 K A))(bX:d4 P w K mg base A.Cursor "step" 1 ["self"] (qL K A)):e7 P w K mg base "cells_read" 2 ["cursor"] (JR K A):=by
 refine D.iO qv (λ_ _ _ _ _ _ us hl=>match us,hl with | [_],_=>rfl) (λvs H Q E h=>by obtain⟨_,rfl,_⟩:=h;rfl) (λf dG Ar outer s H vs Q E hr h=>?_);obtain⟨u,rfl,r,hC,hlen,k⟩:=h;refine⟨_,(aq (gc 1 qv.nd (dD aB)) (aq (jT bP (cE (bB kW hr.m rfl (aj (cO (pv 0) T.bF aY hr.m) aB))) (aq (cY (jU bp bu bq dc (pv 1) (aj (cO (pv 0) T.bF aY hr.m) aB))) (aC (cY (cO (pv 0) T.bF bX hr.m))))) (aC (aV (pv 1))))),?_⟩;refine⟨aD _,λpf lJ=>?_⟩;refine⟨λm σ H1=>∃(r1 acc:Bytes),m=r1.length/\σ=[some (.ref u.c),some (.ref pf)]/\KC A u H H1/\jE K A H1 u r1/\H1 pf=some (.lst ((ib acc).map V.int))/\acc++r1.takeWhile c6=r.takeWhile c6/\r1.dropWhile c6=r.dropWhile c6/\acc.length+r1.length<=10000000,⟨_,r,[],rfl,rfl,.new lJ,hC.same (aF lJ),ak,rfl,rfl,by show 0+r.length<=10000000;omega⟩,?_⟩;rintro m σ H1 ⟨r1,acc,rfl,rfl,k1,C1,hf,e1,e2,hl⟩;obtain⟨dx,i,hc⟩:=C1.at;refine⟨_,rfl,u.c,dx,_,rfl,hc,rfl,u,rfl,r1,C1,_,rfl,_,rfl,?_⟩;rw[Pu];cases hS:Mo r1 with
 |true=>
  cases r1 with
  |nil=>cases hS
  |cons x r1=>
   have hx:c6 x=true:=hS;obtain⟨w1,w2⟩:=TH (r:=r1) hx;rw[w1] at e1;rw[w2] at e2;rw[aJ] at hl;refine bI ⟨λeU H'=>∃(r2 acc:Bytes),r2.length<(x::r1).length/\eU=[some (.ref u.c),some (.ref pf)]/\KC A u H H'/\jE K A H' u r2/\H' pf=some (.lst ((ib acc).map V.int))/\acc++r2.takeWhile c6=r.takeWhile c6/\r2.dropWhile c6=r.dropWhile c6/\acc.length+r2.length<=10000000,λeU H' ⟨r2,ac,q1,q⟩=>⟨_,q1,r2,ac,rfl,q⟩,?_⟩;refine⟨_,rfl,.inl ⟨rfl,_,cg.of hf⟩,_,rfl,u.c,dx,_,rfl,hc,rfl,u,rfl,_,C1,pf,_,_,rfl,rfl,hf,?_,?_⟩
   ·rw[af,dI];have:(10000001:Nat)<sizeLine:=by decide
    omega
   have C1':=C1.uj (o:=.lst ((ib acc).map V.int++ [V.int (hd (x::r1))])) hC lJ;obtain⟨dx,i,hc⟩:=C1'.at;refine⟨_,rfl,u.c,dx,_,rfl,hc,rfl,u,rfl,_,C1',λH3 k3 C3=>?_⟩;refine⟨r1,acc++ [x],by rw[aJ];omega,rfl,(k1.uj lJ).trans k3,C3,?_,?_,e2,?_⟩
   ·have z:=k3.kp _ _ ak λ⟨_,_,_,e⟩=>nomatch e
    rw[oY,aN];exact z
   ·rw[az];exact e1
   ·rw[aw];show acc.length+1+r1.length<=10000000;omega
 |false=>
  obtain⟨w1,w2⟩:=TF hS;rw[w1,aI] at e1;rw[w2] at e2;refine bO ⟨_,rfl,?_⟩;refine k _ pf k1 lJ (e2▸C1) ?_;rw[hf,e1]
theorem Co(D:Df K mg "rows_read" oC)(T:Tx mg K A)(kW:e7 P w K mg base "is_cell" 1 ["byte"] (N2))(aY:d4 P w K mg base A.Cursor "byte" 1 ["self"] (j6 K A))(aU:d4 P w K mg base A.Cursor "took" 2 ["self","wanted"] (js K A))(nL:e7 P w K mg base "cells_read" 2 ["cursor"] (JR K A)):e7 P w K mg base "rows_read" 3 ["cursor"] (NZ K A):=by
 refine D.iO r9 (λ_ _ _ _ _ _ us hl=>match us,hl with | [_],_=>rfl) (λvs H Q E h=>by obtain⟨_,rfl,_⟩:=h;rfl) (λf dG Ar outer s H vs Q E hr h=>?_);obtain⟨u,rfl,r,hC,hlen,kn,ks⟩:=h;refine⟨_,(aq (gc 1 r9.nd (dD aB)) (aq (jT bP (cE (bB kW hr.m rfl (aj (cO (pv 0) T.bF aY hr.m) aB))) (aq (cY (jU bp bu bq dc (pv 1) (aj (bB nL hr.m rfl (aj (pv 0) aB)) aB))) (aC (bR (fo (cE (cy (pv 0) T.bF aU hr.m (aj (dP rfl T.ll) aB)))) (aC (aV (dD aB))) bf)))) (aC (aV (pv 1))))),?_⟩;refine⟨aD _,λpf lJ=>?_⟩;refine⟨λm σ H1=>∃(r1:Bytes) (had:ac3),m=r1.length/\σ=[some (.ref u.c),some (.ref pf)]/\KC A u H H1/\jE K A H1 u r1/\K8 (λq=>H q=.none) H1 pf had/\la [] r=la had r1/\had.length+r1.length<=r.length,⟨_,r,[],rfl,rfl,.new lJ,hC.same (aF lJ),⟨[],ak,.nil,λa ha=>(nomatch ha),lJ⟩,rfl,by show 0+r.length<=r.length;omega⟩,?_⟩;rintro m σ H1 ⟨r1,had,rfl,rfl,q1,C1,⟨as,hf,hp,hn,hz⟩,e1,hl⟩;obtain⟨dx,i,hc⟩:=C1.at;refine⟨_,rfl,u.c,dx,_,rfl,hc,rfl,u,rfl,r1,C1,_,rfl,_,rfl,?_⟩;rw[Pu];rw[la.eq_1 had r1] at e1;have hdw:=lr c6 r1;cases hS:Mo r1 with
 |true=>
  rw[dif_pos hS] at e1;refine bI ⟨λeU H'=>∃(r2:Bytes) (had:ac3),r2.length<r1.length/\eU=[some (.ref u.c),some (.ref pf)]/\KC A u H H'/\jE K A H' u r2/\K8 (λq=>H q=.none) H' pf had/\la [] r=la had r2/\had.length+r2.length<=r.length,λeU H' ⟨r2,ha,z1,z⟩=>⟨_,z1,r2,ha,rfl,z⟩,?_⟩;refine⟨_,rfl,.inl ⟨rfl,_,cg.of hf⟩,_,rfl,u,rfl,r1,C1,by omega,λH2 p q2 np C2 wb=>?_⟩;have Mz:H2 pf=some (.lst (as.map V.ref)):=q2.kp _ _ hf λ⟨_,_,_,e⟩=>nomatch e
  have hpp:p≠pf:=λz=>by subst z;rw[hf] at np;cases np
  have Mu:Paired (λ(a:Addr) (x:Bytes)=>H2 a=some (.lst ((ib x).map V.int))) as had:=Paired.ee hp λ_ _ z=>q2.kp _ _ z λ⟨_,_,_,e⟩=>nomatch e
  refine⟨pf,_,_,rfl,rfl,Mz,?_,?_⟩
  ·rw[af,bc hp];have:(10000001:Nat)<sizeLine:=by decide
   omega
  have C2':=C2.uj (o:=.lst (as.map V.ref++ [V.ref p])) hC lJ;have LK:KC A u H (L2.upd H2 pf (.lst (as.map V.ref++ [V.ref p]))):=(q1.trans q2).uj lJ;obtain⟨dx,i,hc⟩:=C2'.at;refine⟨_,rfl,u.c,dx,_,rfl,hc,rfl,u,10,rfl,_,C2',λH3 q3 C3=>⟨_,rfl,?_⟩⟩;unfold tk at C3;by_cases qz:hd (r1.dropWhile c6)=10
  ·rw[ah qz] at e1 C3;rw[ai qz];have ht:=eh qz (by decide);refine bO ⟨(r1.dropWhile c6).tail,had++ [r1.takeWhile c6],by omega,rfl,LK.trans q3,C3,⟨as++ [p],?_,?_,?_,lJ⟩,e1,by rw[aw];show had.length+1+_<=_;omega⟩
   ·have z:=q3.kp _ _ ak λ⟨_,_,_,e⟩=>nomatch e
    rw[aN];exact z
   ·refine fG (mJ Mu λa x ha z=>q3.kp _ _ (by rw[aH (hn a ha).1];exact z) λ⟨_,_,_,e⟩=>nomatch e) (q3.kp _ _ (by rw[aH hpp];exact wb) λ⟨_,_,_,e⟩=>nomatch e)
   ·intro a ha;rcases bx.mp ha with ha|ha
    ·exact hn a ha
    ·rw[aE.mp ha];exact⟨hpp,q1.free np⟩
  ·rw[ae qz] at e1;rw[ag qz];refine bI ⟨aD _,λpe hpe=>?_⟩;exact kn e1 _ pe ((LK.trans q3).trans (.new hpe)) ⟨[],ak,.nil,λa ha=>(nomatch ha),(LK.trans q3).free hpe⟩
 |false=>
  rw[dif_neg (by rw[hS];decide)] at e1;exact bO ⟨_,rfl,ks had r1 e1 H1 pf q1 C1 ⟨as,hf,hp,hn,hz⟩ (by omega)⟩
def LI(H:Hp)(a:Addr)(x:acZ):Prop:=H a=some (.lst (x.map V.int))
theorem gq{α β:Type}{F:α->β->Prop}:∀{kh:List α} {kJ:List β} {i:Nat} {a:α},Paired F kh kJ->kh[i]?=some a->∃b,kJ[i]?=some b/\F a b
 |_,_,i,a,.nil,h=>by simp at h
 |_,_,0,a,.cons q _,h=>by
  cases h;exact⟨_,rfl,q⟩
 |_,_,i+1,a,.cons _ t,h=>gq (i:=i) t h
theorem Pl{K:Frag}{H1:Hp}{p D:Addr}{as:ac1}{w:List (List Int)}{gf:List Int->V}{g:TG}{tt:TT}{te:TE}{vs:ac2}{σ:St}{Qd:Hp->Prop}(hp:H1 p=some (.lst (as.map V.ref)))(oh:Paired (LI H1) as w)(hD:H1 D=.none)(hlen:w.length<=10000000) (hs:∀(a:Addr) (x:acZ) (H':Hp) (N:Hp->Prop),x∈w->LI H' a x->(∃acc,H' D=some (.lst acc)/\acc.length<sizeLine/\N (L2.upd H' D (.lst (acc++ [gf x]))))->g (.ref a) (wipe σ vs) H' λiJ H2=>wipe iJ vs=wipe σ vs/\tt iJ H2 λb H3=>if b=true then te iJ H3 λy H4=>∃acc,H4 D=some (.lst acc)/\acc.length<sizeLine/\N (L2.upd H4 D (.lst (acc++ [y]))) else N H3) (hd:Qd (L2.upd H1 D (.lst (w.map gf)))): ∃W:Nat->Nat->Hp->Prop,(∃m,W 0 m (L2.upd H1 D (.lst [])))/\∀i m H,W i m H-> ((Q2 K p).stop i H/\Qd H)\/((Q2 K p).go i H/\∃Nx:Hp->Prop,(∀H',Nx H'->∃m',m'<m/\W (i+1) m' H')/\∀x H',(Q2 K p).Nc i H x H'->g x (wipe σ vs) H' λiJ H2=>wipe iJ vs=wipe σ vs/\tt iJ H2 λb H3=>
    if b=true then te iJ H3 λy H4=>∃acc,H4 D=some (.lst acc)/\acc.length<sizeLine/\Nx (L2.upd H4 D (.lst (acc++ [y]))) else Nx H3):=by
 refine wY (K:=K) (a:=p) (xs:=as.map V.ref) (λi H'=>H'=L2.upd H1 D (.lst ((w.take i).map gf))) rfl ?_ ?_ ?_
 ·rintro i H' _ rfl;exact cg.of (by rw[aH (bo hp hD)];exact hp)
 ·rintro i x H' hi rfl;rw[aM] at hi;cases ha:as[i]? with
  |none=>rw[ha] at hi;cases hi
  |some a=>
   rw[ha] at hi;cases hi;obtain⟨b,hb,hl⟩:=gq oh ha;refine hs a b _ _ (aL hb) (by unfold LI;rw[aH (bo hl hD)];exact hl) ⟨(w.take i).map gf,ak,?_,?_⟩
   ·rw[af,bh];have:(10000001:Nat)<sizeLine:=by decide
    omega
   ·rw[BE,bN,hb,aN];rfl
 ·rintro H' rfl;rw[af,bc oh,cM];exact hd
theorem VH{K:Frag}{H1:Hp}{p D:Addr}{as:ac1}{w:List (List Int)}{gf:List Int->V}{g:TG}{tt:TT}{te:TE}{vs:ac2}{σ:St}{Qd:Hp->Prop}(hp:H1 p=some (.tup (as.map V.ref)))(oh:Paired (LI H1) as w)(hD:H1 D=.none)(hlen:w.length<=10000000) (hs:∀(a:Addr) (x:acZ) (H':Hp) (N:Hp->Prop),x∈w->LI H' a x->(∃acc,H' D=some (.lst acc)/\acc.length<sizeLine/\N (L2.upd H' D (.lst (acc++ [gf x]))))->g (.ref a) (wipe σ vs) H' λiJ H2=>wipe iJ vs=wipe σ vs/\tt iJ H2 λb H3=>if b=true then te iJ H3 λy H4=>∃acc,H4 D=some (.lst acc)/\acc.length<sizeLine/\N (L2.upd H4 D (.lst (acc++ [y]))) else N H3) (hd:Qd (L2.upd H1 D (.lst (w.map gf)))): ∃W:Nat->Nat->Hp->Prop,(∃m,W 0 m (L2.upd H1 D (.lst [])))/\∀i m H,W i m H-> ((Q1 K p).stop i H/\Qd H)\/((Q1 K p).go i H/\∃Nx:Hp->Prop,(∀H',Nx H'->∃m',m'<m/\W (i+1) m' H')/\∀x H',(Q1 K p).Nc i H x H'->g x (wipe σ vs) H' λiJ H2=>wipe iJ vs=wipe σ vs/\tt iJ H2 λb H3=>
    if b=true then te iJ H3 λy H4=>∃acc,H4 D=some (.lst acc)/\acc.length<sizeLine/\Nx (L2.upd H4 D (.lst (acc++ [y]))) else Nx H3):=by
 refine VG (K:=K) (a:=p) (xs:=as.map V.ref) (λi H'=>H'=L2.upd H1 D (.lst ((w.take i).map gf))) rfl ?_ ?_ ?_
 ·rintro i H' _ rfl;exact dJ.of (by rw[aH (bo hp hD)];exact hp)
 ·rintro i x H' hi rfl;rw[aM] at hi;cases ha:as[i]? with
  |none=>rw[ha] at hi;cases hi
  |some a=>
   rw[ha] at hi;cases hi;obtain⟨b,hb,hl⟩:=gq oh ha;refine hs a b _ _ (aL hb) (by unfold LI;rw[aH (bo hl hD)];exact hl) ⟨(w.take i).map gf,ak,?_,?_⟩
   ·rw[af,bh];have:(10000001:Nat)<sizeLine:=by decide
    omega
   ·rw[BE,bN,hb,aN];rfl
 ·rintro H' rfl;rw[af,bc oh,cM];exact hd
theorem yJ(n:Int):∀ns:List Int,rR (.int n) (ns.map V.int)=decide (n∈ns)
 | []=>by simp[rR]
 |x::ns=>by
  show(Qx (.int x) (.int n) ||rR (.int n) (ns.map V.int))=_;rw[yJ n ns];show((x==n) ||decide (n∈ns))=_
  grind
theorem u1(ns:acZ):(ns.map V.int).all lM=true:=by
 rw[List.all_map,bU];intro x _;rfl
theorem Sm(c:UInt8)(x:Bytes):decide ((c.toNat:Int)∈ib x)=x.contains c:=by
 rw[List.contains_eq_mem]
 congr 1
 refine propext ⟨λh=>?_,λh=>?_⟩
 ·unfold ib at h;obtain⟨y,h1,h2⟩:=cH.mp h;rw[<-b8.mp (show y.toNat=c.toNat by omega)];exact h1
 ·unfold ib;exact cH.mpr ⟨c,h,rfl⟩
theorem K8.li{H:Hp}{as:ac1}{w:ac3}(h:Paired (λ(a:Addr) (x:Bytes)=>H a=some (.lst ((ib x).map V.int))) as w):Paired (LI H) as (w.map ib):=by
 induction h with
 |nil=>exact .nil
 |cons q _ ih=>exact .cons q ih
theorem xW{α β:Type}{F:α->β->Prop}:∀{wi:List β} {as:List α} {x:β},Paired F as (wi++ [x])->∃asi a,as=asi++ [a]/\F a x
 | [],_,_,.cons q .nil=>⟨[],_,rfl,q⟩
 |_::wi,_,_,.cons q t=>by
  obtain⟨asi,a,rfl,h⟩:=xW (wi:=wi) t;exact⟨_::asi,a,rfl,h⟩
theorem TR{x:acZ}(h:x≠[]):Em (x.map V.int) 0=some (.int (x.headD 0)):=by
 cases x with
 |nil=>exact absurd rfl h
 |cons y x=>exact at_of (j:=0) rfl rfl
theorem TQ{x:acZ}(h:x≠[]):Em (x.map V.int) (-1)=some (.int (x.getLastD 0)):=by
 rcases fY x with q|⟨xi,y,q⟩
 ·exact absurd q h
 ·subst q;rw[fZ,aN,jo];exact t7 _ _
theorem SF(x:Bytes):(ib x).headD 0=((x.headD 0).toNat:Int):=by
 cases x <;> rfl
theorem SE(x:Bytes):(ib x).getLastD 0=((x.getLastD 0).toNat:Int):=by
 rcases fY x with q|⟨xi,y,q⟩
 ·subst q;rfl
 ·subst q;rw[fZ,oY,jo];show(ib xi++ [(y.toNat:Int)]).getLastD 0=_;rw[jo]
theorem Y3{x:Bytes}(h:x≠[]):ib x≠[]:=by
 cases x with
 |nil=>exact absurd rfl h
 |cons y x=>exact nofun
def JI(K:Frag)(A:CA):Sp:=λvs H Q _=>∃(p:Addr),vs=[.ref p]/\∃Z w,K8 Z H p w/\w.length<=10000000/\(∀x∈w,x≠[])/\∀H',bJ H H'->Q (.bl (zp w)) H'
theorem Fn(D:Df K mg "is_shape" ir)(T:Tx mg K A):e7 P w K mg base "is_shape" 1 ["rows"] (JI K A):=by
 refine D.iO dY (λ_ _ _ _ _ _ us hl=>match us,hl with | [_],_=>rfl) (λvs H Q E h=>by obtain⟨_,rfl,_⟩:=h;rfl) (λf dG Ar outer s H vs Q E hr h=>?_);obtain⟨p,rfl,Z,w,⟨as,hp,oh,_⟩,hlen,gT,k⟩:=h;refine⟨_,(aq (bR (fo (xV kq kq cF (bV bG rfl T.eI B.dh (aj (pv 0) aB)) (dP rfl T.tN))) (aC (aV fw)) bf) (aq (Ie (i:=1) dY.nd rfl (Or.inr rfl) (bV bG rfl T.eI B.dh (aj (fu d5 (pv 0) cF (λ_ _=>rfl)) aB))) (aq (bR (PW.pt (qw (bC sI (pv 1) (dP rfl T.tN) (bL _)) (oN (cE (bV (QG rfl) rfl T.K4 B.QN (aj (sD (own:=[("row",3)]) rfl dY.nd (lF (pv 0)) (g9 (by show wH ["rows","width","edges","row","edge"] (aO ir) _ _=true;decide +kernel)) (λ_ _ _ _ _=>(qx 3 dY.nd)) (λ_ _ _ _ _=>lE) (λ_ _ _ _ _=>(i5 vn (bV (yB (K:=K) rfl) rfl T.eI B.dh (aj (pv 3) aB)) (pv 1) (bL _)))) aB)))))) (aC (aV fw)) bf) (aq (gc 2 dY.nd (gH (aj (fu d5 (pv 0) cF (λ_ _=>rfl)) (aj (fu d5 (pv 0) (J6 BG cF) (λ_ _=>rfl)) (aj (sD (own:=[("row",3)]) rfl dY.nd (lF (pv 0)) (g9 (by show wH ["rows","width","edges","row","edge"] (aO ir) _ _=true;decide +kernel)) (λ_ _ _ _ _=>(qx 3 dY.nd)) (λ_ _ _ _ _=>lE) (λ_ _ _ _ _=>(fu (yI (K:=K) rfl) (pv 3) cF (λ_ _=>rfl)))) (aj (sD (own:=[("row",3)]) rfl dY.nd (lF (pv 0)) (g9 (by show wH ["rows","width","edges","row","edge"] (aO ir) _ _=true;decide +kernel)) (λ_ _ _ _ _=>(qx 3 dY.nd)) (λ_ _ _ _ _=>lE) (λ_ _ _ _ _=>(fu (yI (K:=K) rfl) (pv 3) (J6 BG cF) (λ_ _=>rfl)))) aB)))))) (aC (aV (bV (QH rfl) rfl T.K5 B.QO (aj (sD (own:=[("edge",4)]) rfl dY.nd (Ce (pv 2)) (g9 (by show wH ["rows","width","edges","row","edge"] (aO ir) _ _=true;decide +kernel)) (λ_ _ _ _ _=>(qx 4 dY.nd)) (λ_ _ _ _ _=>lE) (λ_ _ _ _ _=>(i5 (Im (K:=K) rfl) (dP rfl T.UM) (pv 4) rfl))) aB)))))))),?_⟩;have Gv:(as.map V.ref).length=w.length:=by rw[af,bc oh]
 refine⟨_,rfl,p,_,rfl,.inl (cg.of hp),_,_,rfl,rfl,_,rfl,?_⟩;rw[Gv];by_cases c1:1<=w.length
 ·rw[ai (show(1:Int)<=(w.length:Nat) by omega)];refine bI ⟨_,_,rfl,rfl,_,rfl,?_⟩;by_cases c2:w.length<=32
  ·rw[ai (show(w.length:Int)<=32 by omega)];refine bO ?_;rcases fY w with q|⟨wi,xl,q⟩
   ·subst q;exact absurd c1 (by decide)
   rw[fZ] at q;obtain⟨asi,al,eas,acv⟩:=xW (q▸oh);have hxl:xl≠[]:=gT xl (by rw[q];exact cG _ aR);have hgl:w.getLastD []=xl:=by rw[q,jo]
   cases w with
   |nil=>exact absurd c1 (by decide)
   |cons x0 w=>
   cases oh with
   |cons h0 abS=>
   rename_i a0 En _;have hx0:x0≠[]:=gT x0 aR;have oh:Paired (λ(a:Addr) (x:Bytes)=>H a=some (.lst ((ib x).map V.int))) (a0::En) (x0::w):=.cons h0 abS;have Xh:Paired (LI H) (a0::En) ((x0::w).map ib):=K8.li oh;have Z6:Em ((a0::En).map V.ref) 0=some (.ref a0):=at_of (j:=0) rfl rfl;have acs:Em ((a0::En).map V.ref) (-1)=some (.ref al):=by
    rw[eas,aN];exact t7 _ _
   have Rf:((x0::w).map ib).length<=10000000:=by rw[af];exact hlen
   have Zx:∀x∈(x0::w).map ib,x≠[]:=λx hx=>by
    obtain⟨y,h1,h2⟩:=cH.mp hx;rw[<-h2];exact Y3 (gT y h1)
   refine⟨_,rfl,p,_,_,_,rfl,rfl,cg.of hp,Z6,a0,_,rfl,.inl (cg.of h0),?_⟩;refine⟨_,rfl,_,_,rfl,rfl,_,rfl,?_⟩;have hlw:((ib x0).map V.int).length=x0.length:=by rw[af,dI]
   rw[hlw];by_cases c3:x0.length<=32
   ·rw[ag (show ¬(x0.length:Int)> 32 by omega)];refine bO ⟨_,rfl,p,rfl,⟨_,cg.of hp⟩,λD hD=>Pl (gf:=λx=>.bl (!decide (V.int ((x.map V.int).length:Nat)=V.int (x0.length:Nat)))) hp Xh hD Rf ?_ ?_⟩
    ·intro a x H' N hx ha hN;exact⟨rfl,bI (B:=N H') ⟨_,rfl,a,_,rfl,.inl (cg.of ha),_,rfl,rfl,hN⟩⟩
    refine⟨D,((x0::w).map ib).map (λx=>!decide (V.int ((x.map V.int).length:Nat)=V.int (x0.length:Nat))),rfl,cg.of (by rw[ak];simp only[cC];rfl),_,rfl,?_⟩;have ea:((((x0::w).map ib).map (λx=>!decide (V.int ((x.map V.int).length:Nat)=V.int (x0.length:Nat)))).any id)=!((x0::w).all λx=>decide (x.length=x0.length)):=by
     rw[cC,lW]
     induction (x0::w) with
     |nil=>rfl
     |cons y l ih=>
      rw[eX,ih,be,Bool.not_and]
      congr 1
      show(!decide (V.int (((ib y).map V.int).length:Nat)=V.int (x0.length:Nat)))=_;rw[af,dI]
      grind
    rw[ea];have s2:bJ H (L2.upd H D (.lst (((x0::w).map ib).map λx=>.bl (!decide (V.int ((x.map V.int).length:Nat)=V.int (x0.length:Nat)))))):=aF hD;cases c4:((x0::w).all λx=>decide (x.length=x0.length)) with
    |false=>
     have e:zp (x0::w)=false:=by
      unfold zp;rw[show((x0::w).headD [])=x0 from rfl,c4];simp
     rw[e] at k;exact bI (k _ s2)
    |true=>
     refine bO ?_;generalize L2.upd H D (.lst (((x0::w).map ib).map λx=>.bl (!decide (V.int ((x.map V.int).length:Nat)=V.int (x0.length:Nat)))))=H2 at s2 ⊢;have wb:=s2 _ _ hp;have h02:=s2 _ _ h0;have zv:=s2 _ _ acv;have ZD:Paired (LI H2) (a0::En) ((x0::w).map ib):=Paired.ee Xh λa x z=>s2 _ _ z
     refine⟨_,rfl,p,_,_,_,rfl,rfl,cg.of wb,Z6,_,rfl,_,rfl,p,_,_,_,rfl,rfl,cg.of wb,acs,?_⟩;refine⟨_,rfl,p,rfl,⟨_,cg.of wb⟩,λD1 Xq=>Pl (gf:=λx=>.int (x.headD 0)) wb ZD Xq Rf ?_ ?_⟩
     ·intro a x H' N hx ha hN;exact⟨rfl,bI (B:=N H') ⟨_,rfl,a,_,_,_,rfl,rfl,cg.of ha,TR (Zx x hx),hN⟩⟩
     have s3:=aF (o:=.lst (((x0::w).map ib).map λx=>.int (x.headD 0))) Xq;have aaj:(L2.upd H2 D1 (.lst (((x0::w).map ib).map λx=>.int (x.headD 0)))) D1=some (.lst (((x0::w).map ib).map λx=>.int (x.headD 0))):=ak;generalize L2.upd H2 D1 (.lst (((x0::w).map ib).map λx=>.int (x.headD 0)))=H3 at s3 aaj ⊢;have zu:=s3 _ _ wb;have ab3:Paired (LI H3) (a0::En) ((x0::w).map ib):=Paired.ee ZD λa x z=>s3 _ _ z
     refine⟨_,rfl,p,rfl,⟨_,cg.of zu⟩,λD2 Ho=>Pl (gf:=λx=>.int (x.getLastD 0)) zu ab3 Ho Rf ?_ ?_⟩
     ·intro a x H' N hx ha hN;exact⟨rfl,bI (B:=N H') ⟨_,rfl,_,rfl,a,_,_,_,rfl,rfl,cg.of ha,TQ (Zx x hx),hN⟩⟩
     have s4:=aF (o:=.lst (((x0::w).map ib).map λx=>.int (x.getLastD 0))) Ho;have aai:(L2.upd H3 D2 (.lst (((x0::w).map ib).map λx=>.int (x.getLastD 0)))) D2=some (.lst (((x0::w).map ib).map λx=>.int (x.getLastD 0))):=ak;generalize L2.upd H3 D2 (.lst (((x0::w).map ib).map λx=>.int (x.getLastD 0)))=H4 at s4 aai ⊢;refine⟨(F1 rfl),λq hq=>?_⟩;have s5:=aF (o:=.tup [V.ref a0,V.ref al,V.ref D1,V.ref D2]) hq;have Ni:(L2.upd H4 q (.tup [V.ref a0,V.ref al,V.ref D1,V.ref D2])) q=some (.tup [V.ref a0,V.ref al,V.ref D1,V.ref D2]):=ak;generalize L2.upd H4 q (.tup [V.ref a0,V.ref al,V.ref D1,V.ref D2])=H5 at s5 Ni ⊢;have hE:Paired (LI H5) [a0,al,D1,D2] [ib x0,ib xl,((x0::w).map ib).map (λx=>x.headD 0),((x0::w).map ib).map (λx=>x.getLastD 0)]:=by
      refine .cons (s5 _ _ (s4 _ _ (s3 _ _ h02))) (.cons (s5 _ _ (s4 _ _ (s3 _ _ zv))) (.cons ?_ (.cons ?_ .nil)))
      ·unfold LI;rw[s5 _ _ (s4 _ _ aaj)];simp only[cC];rfl
      ·unfold LI;rw[s5 _ _ aai];simp only[cC];rfl
     refine⟨_,rfl,q,rfl,⟨_,dJ.of Ni⟩,λD3 Wr=>VH (as:=[a0,al,D1,D2]) (gf:=λx=>.bl (rR (.int 35) (x.map V.int))) Ni hE Wr (by show 4<=10000000;decide) ?_ ?_⟩
     ·intro a x H' N hx ha hN;exact⟨rfl,bI (B:=N H') ⟨_,rfl,a,_,rfl,.inl (cg.of ha),rfl,u1 _,hN⟩⟩
     refine⟨D3,([ib x0,ib xl,((x0::w).map ib).map (λx=>x.headD 0),((x0::w).map ib).map (λx=>x.getLastD 0)]).map (λx=>rR (.int 35) (x.map V.int)),rfl,cg.of (by rw[ak];rfl),?_⟩;have e1:((x0::w).map ib).map (λx=>x.headD 0)=ib ((x0::w).map λx=>x.headD 0):=by
      unfold ib;rw[cC,cC];exact pJ λx _=>SF x
     have e2:((x0::w).map ib).map (λx=>x.getLastD 0)=ib ((x0::w).map λx=>x.getLastD 0):=by
      unfold ib;rw[cC,cC];exact pJ λx _=>SE x
     have e:zp (x0::w)=(([ib x0,ib xl,((x0::w).map ib).map (λx=>x.headD 0),((x0::w).map ib).map (λx=>x.getLastD 0)]).map (λx=>rR (.int 35) (x.map V.int))).all id:=by
      rw[e1,e2];show _=(rR (.int 35) ((ib x0).map V.int)&&(rR (.int 35) ((ib xl).map V.int)&&(rR (.int 35) ((ib ((x0::w).map λx=>x.headD 0)).map V.int)&&(rR (.int 35) ((ib ((x0::w).map λx=>x.getLastD 0)).map V.int)&&true))));have m:∀y:Bytes,rR (.int 35) ((ib y).map V.int)=y.contains 35:=λy=>by
       rw[yJ];exact Sm 35 y
      rw[m,m,m,m];unfold zp
      grind
     rw[<-e];exact k _ λb v z=>aF Wr b v (s5 b v (s4 b v (s3 b v (s2 b v z))))
   ·rw[ai (show(x0.length:Int)> 32 by omega)];have e:zp (x0::w)=false:=by
     unfold zp
     grind
    rw[e] at k;exact bI (bI (k H (λ_ _ z=>z)))
  ·rw[ag (show ¬(w.length:Int)<=32 by omega)];have e:zp w=false:=by
    unfold zp;rw[ag c2];simp
   rw[e] at k;exact bI (k H (λ_ _ z=>z))
 ·rw[ag (show ¬(1:Int)<=(w.length:Nat) by omega)];have e:zp w=false:=by
   unfold zp;rw[ag c1];rfl
  rw[e] at k;exact bO ⟨_,rfl,bI (k H (λ_ _ z=>z))⟩
def gJ(A:CA)(Z:ac7)(H:Hp)(a:Addr)(s:Sg):Prop:=∃dx tn sl rl,H a=some (.ins A.Sign dx [("name",.ref tn),("sounds",.ref sl),("rows",.ref rl)])/\H tn=some (.tup ((vo s.name).map V.int))/\TX Z H sl s.sounds/\K8 Z H rl s.rows/\∀x∈s.rows,x≠[]
theorem TX.mono{Z Z':ac7}{H H':Hp}{p:Addr}{s:ac3}(h:TX Z H p s)(hz:∀q,Z q->Z' q)(k1:∀q xs,Z q->H q=some (.lst xs)->H' q=some (.lst xs))(k2:∀q xs,H q=some (.tup xs)->H' q=some (.tup xs)):TX Z' H' p s:=by
 obtain⟨as,h1,h2,h3⟩:=h;exact⟨as,k1 _ _ h3 h1,Paired.ee h2 λ_ _ z=>k2 _ _ z,hz _ h3⟩
theorem K8.mono{Z Z':ac7}{H H':Hp}{p:Addr}{s:ac3}(h:K8 Z H p s)(hz:∀q,Z q->Z' q)(k1:∀q xs,Z q->H q=some (.lst xs)->H' q=some (.lst xs)):K8 Z' H' p s:=by
 obtain⟨as,h1,h2,h3,h4⟩:=h;exact⟨as,k1 _ _ h4 h1,mJ h2 λa _ ha z=>k1 _ _ (h3 a ha).2 z,λa ha=>⟨(h3 a ha).1,hz _ (h3 a ha).2⟩,hz _ h4⟩
theorem gJ.mono{A:CA}{Z Z':ac7}{H H':Hp}{a:Addr}{s:Sg}(h:gJ A Z H a s)(hz:∀q,Z q->Z' q)(k1:∀q xs,Z q->H q=some (.lst xs)->H' q=some (.lst xs))(k2:∀q xs,H q=some (.tup xs)->H' q=some (.tup xs))(k3:∀q dx a b c,H q=some (.ins A.Sign dx [("name",a),("sounds",b),("rows",c)])->H' q=some (.ins A.Sign dx [("name",a),("sounds",b),("rows",c)])):gJ A Z' H' a s:=by
 obtain⟨dx,tn,sl,rl,h1,h2,h3,h4,h5⟩:=h;exact⟨dx,tn,sl,rl,k3 _ _ _ _ _ h1,k2 _ _ h2,h3.mono hz k1 k2,h4.mono hz k1,h5⟩
theorem gJ.same{A:CA}{Z Z':ac7}{H H':Hp}{a:Addr}{s:Sg}(h:gJ A Z H a s)(hz:∀q,Z q->Z' q)(k:bJ H H'):gJ A Z' H' a s:=h.mono hz (λ_ _ _ z=>k _ _ z) (λ_ _ z=>k _ _ z) (λ_ _ _ _ _ z=>k _ _ z)
theorem Vb{C D dx ex tx:Addr}{a b c:V}{j:Nat}:HO.ins C dx [("name",a),("sounds",b),("rows",c)]≠HO.ins D ex (Aw tx j):=uZ (by show(["name","sounds","rows"]:ac5)≠(["text","at"]:ac5);decide)
theorem gJ.kc{K:Frag}{A:CA}{Z:ac7}{H H':Hp}{u:CU}{r:Bytes}{a:Addr}{s:Sg}(h:gJ A Z H a s)(k:KC A u H H')(C:jE K A H u r):gJ A Z H' a s:=by
 obtain⟨dx,i,hc⟩:=C.at;exact h.mono (λ_ z=>z) (λ_ _ _ z=>k.kp _ _ z λ⟨_,_,_,e⟩=>nomatch e) (λ_ _ z=>k.kp _ _ z λ⟨_,_,_,e⟩=>nomatch e) (λ_ _ _ _ _ z=>k.kp _ _ z λq=>bW z hc Vb q.1)
theorem gJ.wr{A:CA}{Z:ac7}{H:Hp}{a p:Addr}{s:Sg}{xs:List V}{o:HO}(h:gJ A Z H a s)(hp:H p=some (.lst xs))(hz:∀q,Z q->q≠p):gJ A Z (L2.upd H p o) a s:=
 h.mono (λ_ z=>z) (λq _ zq z=>by rw[aH (hz q zq)];exact z) (λ_ _ z=>by rw[aH (bW z hp nofun)];exact z) (λ_ _ _ _ _ z=>by rw[aH (bW z hp nofun)];exact z)
def NY(K:Frag)(A:CA):Sp:=λvs H Q _=>∃(u:CU),vs=[.ref u.c]/\∃r,jE K A H u r/\r.length<=9000000/\(Nd r=none->∀H',KC A u H H'->Q .eZ H')/\(∀s r',Nd r=some (s,r')->∀H' a,KC A u H H'->jE K A H' u r'->gJ A (λq=>H q=.none) H' a s->r'.length<r.length->Q (.ref a) H')
def AH(K:Frag)(A:CA):Sp:=λvs H Q _=>∃(tx:Addr),vs=[.ref tx]/\∃(b:Bytes),cg K H tx ((ib b).map V.int)/\b.length<=9000000/\(lA 512 [] b=none->∀H',bJ H H'->Q .eZ H')/\(∀l,lA 512 [] b=some l->∀H' p as,bJ H H'->H' p=some (.lst (as.map V.ref))->Paired (gJ A (λq=>q≠p) H') as l->l.length<=512->Q (.ref p) H')
theorem JW:∀(n:Nat) (r:Bytes) (had w:ac3) (r':Bytes),r.length<=n->(∀x∈had,x≠[])->la had r=some (w,r')->∀x∈w,x≠[]
 |n,r,had,w,r',hn,hh,h=>by
  rw[la.eq_1] at h;split at h
  ·rename_i hc;split at h
   ·rename_i qz;have h1:=eh qz (by decide);have h2:=lr c6 r;cases n with
    |zero=>
     cases r with
     |nil=>cases hc
     |cons c r=>simp at hn
    |succ n=>
     refine JW n _ _ w r' (by omega) ?_ h;intro x hx;rcases bx.mp hx with hx|hx
     ·exact hh x hx
     ·rw[aE.mp hx];cases r with
      |nil=>cases hc
      |cons c r=>
       rw[bQ,ah (show c6 c=true from hc)];exact nofun
   ·cases h
  ·cases h;exact hh
def Jp(had:List Sg):List Int:=match had.getLast? with
 |none=>[]
 |some s=>vo s.name
theorem xy{a b:UInt8}:decide ((a.toNat:Int)<=(b.toNat:Int))=!decide (b<a):=by
 by_cases h:b<a
 ·rw[ai h,ag];rfl;have:=fW.mp h;omega
 ·rw[ag h,ai];rfl;have:¬b.toNat<a.toNat:=λq=>h (fW.mpr q)
  omega
theorem AB{a b:UInt8}:((a.toNat:Int)=(b.toNat:Int))↔a=b:=⟨λh=>b8.mp (by omega),λh=>by rw[h]⟩
theorem HE(a:UInt8):decide (a<a)=false:=ag λh=>by
 have:=fW.mp h;omega
theorem Mg(n m:Name):LT.lexLe (vo n) (vo m)=!(m.before n):=by
 unfold vo Name.before;rw[LT.lj,LT.lj,LT.lj,LT.lj,LT.qy];by_cases h1:n.big=m.big
 ·rw[ah (AB.mpr h1),h1,HE,cK,ui,iN];by_cases h2:n.small=m.small
  ·rw[ah (AB.mpr h2),h2,HE,cK,ui,iN];by_cases h3:n.number=m.number
   ·rw[ah (show(n.number:Int)=(m.number:Nat) by omega),h3,ag (c9 _),cK,ui,iN];by_cases h4:n.kind=m.kind
    ·rw[ah (AB.mpr h4),h4,HE];rfl
    ·rw[ae (λq=>h4 (AB.mp q)),xy]
   ·grind
  ·rw[ae (λq=>h2 (AB.mp q)),xy,cc.mpr (cv h2),d8,Hj]
 ·rw[ae (λq=>h1 (AB.mp q)),xy,cc.mpr (cv h1),d8,Hj]
theorem VF(s:Sg)(had:List Sg):LT.lexLe (vo s.name) (Jp had)=!(vp (had.getLast?.map (·.name)) s.name):=by
 unfold Jp;cases had.getLast? with
 |none=>rfl
 |some z=>exact Mg s.name z.name
theorem Cn(D:Df K mg "sign_read" oB)(T:Tx mg K A)(aU:d4 P w K mg base A.Cursor "took" 2 ["self","wanted"] (js K A))(d6:d4 P w K mg base A.Cursor "took_all" 3 ["self","wanted"] (uq K A))(iG:e7 P w K mg base "name_read" 3 ["cursor"] (HL K A))(mw:e7 P w K mg base "sounds_read" 4 ["cursor"] (EM K A))(pE:e7 P w K mg base "rows_read" 3 ["cursor"] (NZ K A))(rO:e7 P w K mg base "is_shape" 1 ["rows"] (JI K A))(mD:lB P w K mg base "Sign" A.Sign 1 ["self","name","sounds","rows"] (xE A)):e7 P w K mg base "sign_read" 5 ["cursor"] (NY K A):=by
 refine D.iO kF (λ_ _ _ _ _ _ us hl=>match us,hl with | [_],_=>rfl) (λvs H Q E h=>by obtain⟨_,rfl,_⟩:=h;rfl) (λf dG Ar outer s H vs Q E hr h=>?_);obtain⟨u,rfl,r,hC,hlen,kn,ks⟩:=h;obtain⟨dx,j,hc⟩:=hC.at;refine⟨_,(aq (bR (fo (cE (cy (pv 0) T.bF d6 hr.m (aj (Oz rfl T.gO) aB)))) (aC (aV cN)) bf) (aq (gc 1 kF.nd (bB iG hr.m rfl (aj (pv 0) aB))) (aq (bR (bC lg (pv 1) cN (bL _)) (aC (aV cN)) bf) (aq (gc 2 kF.nd (bB mw hr.m rfl (aj (pv 0) aB))) (aq (bR (PW.pt (qw (bC lg (pv 2) cN (bL _)) (oN (fo (cE (cy (pv 0) T.bF aU hr.m (aj (dP rfl T.ll) aB))))))) (aC (aV cN)) bf) (aq (gc 3 kF.nd (bB pE hr.m rfl (aj (pv 0) aB))) (aq (bR (fo (cE (bB rO hr.m rfl (aj (pv 3) aB)))) (aC (aV cN)) bf) (aC (aV (g6 mD hr.m rfl (aj (pv 1) (aj (pv 2) (aj (pv 3) aB))))))))))))),?_⟩;refine⟨_,rfl,u.c,dx,_,rfl,hc,rfl,λqb hqb=>⟨u,qb,rfl,r,[115,105,103,110,32],hC,T.um qb hqb _,(by decide),λH1 r1 q1 C1=>⟨λe=>⟨_,rfl,bO ?_⟩,λe=>⟨_,rfl,bI ?_⟩⟩⟩⟩
 case refine_2=>
  refine kn ?_ H1 q1;unfold Nd;rw[ae];intro z;rw[d7] at z;obtain⟨t,rfl⟩:=z;exact e t (by rw[oY];rfl)
 have er:r=sgn++r1:=tD (by rw[e,oY];rfl);have erl:r.length=5+r1.length:=by rw[er,aw];rfl
 have eg:Nd r=match A1 r1 with
   |none=>none
   |some (n,r2)=>match lz [] r2 with
    |none=>none
    |some (s,r3)=>if hd r3=10 then(match la [] r3.tail with
     |none=>none
     |some (w,r4)=>if zp w=true then some (⟨n,s,w⟩,r4) else none) else none:=by
  unfold Nd;rw[er,ah (d7.mpr ⟨r1,rfl⟩)];rfl
 rw[eg] at kn ks;refine⟨_,rfl,u,rfl,r1,C1,λe2 H2 r2 q2 C2=>?_,λn r2 e2 H2 pn q2 C2 hn=>?_⟩
 ·refine⟨_,rfl,rfl,_,rfl,bI ?_⟩;exact kn (by rw[e2]) H2 (q1.trans q2)
 have zv:=FZ.Kc e2;rw[e2] at kn ks;simp only at kn ks;refine⟨_,rfl,rfl,_,rfl,?_⟩;rw[jJ];have LK:=q1.trans q2;refine bO ⟨_,rfl,u,rfl,r2,C2,by omega,λe3 H3 q3=>?_,λs r3 e3 H3 ps q3 C3 hs hl3=>?_⟩
 ·refine⟨_,rfl,rfl,_,rfl,bI (bI ?_)⟩;exact kn (by rw[e3]) H3 (LK.trans q3)
 rw[e3] at kn ks;simp only at kn ks;have Hk:=LK.trans q3;have hn3:H3 pn=some (.tup ((vo n).map V.int)):=q3.kp _ _ hn λ⟨_,_,_,z⟩=>nomatch z
 refine⟨_,rfl,rfl,_,rfl,?_⟩;rw[jJ];obtain⟨dx,j,hc⟩:=C3.at;refine bO ⟨_,rfl,u.c,dx,_,rfl,hc,rfl,u,10,rfl,r3,C3,λH4 q4 C4=>⟨_,rfl,?_⟩⟩;have Ib:=Hk.trans q4;have hn4:H4 pn=some (.tup ((vo n).map V.int)):=q4.kp _ _ hn3 λ⟨_,_,_,z⟩=>nomatch z
 have Zi:TX (λq=>H q=.none) H4 ps s:=hs.mono (λq z=>LK.free z) (λ_ _ _ z=>q4.kp _ _ z λ⟨_,_,_,e⟩=>nomatch e) (λ_ _ z=>q4.kp _ _ z λ⟨_,_,_,e⟩=>nomatch e);unfold tk at C4;by_cases qz:hd r3=10
 ·rw[ah qz] at C4 kn ks;rw[ai qz];have ht:=eh qz (by decide);refine bO ⟨_,rfl,u,rfl,r3.tail,C4,by omega,λe5 H5 p q5 L5=>?_,λw r4 e5 H5 p q5 C5 L5 Xi=>?_⟩
  ·refine⟨_,rfl,p,rfl,_,[],L5,aD _,λ_ z=>(nomatch z),λH6 s6=>⟨_,rfl,bI ?_⟩⟩;exact kn (by rw[e5]) H6 ((Ib.trans q5).trans (.same s6))
  rw[e5] at kn ks;simp only at kn ks;have gT:=JW _ r3.tail [] w r4 (aA _) (λ_=>nofun) e5;have hn5:H5 pn=some (.tup ((vo n).map V.int)):=q5.kp _ _ hn4 λ⟨_,_,_,z⟩=>nomatch z
  have hs5:TX (λq=>H q=.none) H5 ps s:=Zi.mono (λq z=>z) (λ_ _ _ z=>q5.kp _ _ z λ⟨_,_,_,e⟩=>nomatch e) (λ_ _ z=>q5.kp _ _ z λ⟨_,_,_,e⟩=>nomatch e);refine⟨_,rfl,p,rfl,_,w,L5,by omega,gT,λH6 s6=>⟨_,rfl,?_⟩⟩;have q16:=(Ib.trans q5).trans (.same s6);cases hsh:zp w with
  |false=>
   rw[hsh,ae (by decide)] at kn;exact bI (kn rfl H6 q16)
  |true=>
   rw[hsh,ah rfl] at ks;refine bO ⟨_,rfl,_,rfl,_,rfl,?_⟩;intro x uf nx FD Se;have s7:bJ H6 (L2.upd (L2.upd H6 uf (.own x)) x (.ins A.Sign uf [])):=e8 nx FD;refine⟨x,_,_,_,rfl,uf,ak,λH7 q7 hx7=>⟨rfl,?_⟩⟩;have s8:bJ H6 H7:=λb v e=>q7.kp b v (s7 b v e) λz=>by
    have zz:b=x:=z;subst zz;rw[nx] at e;cases e
   have Yd:bJ H5 H7:=λb v e=>s8 b v (s6 b v e)
   refine ks ⟨n,s,w⟩ r4 rfl H7 x (q16.trans (.same s8)) (C5.same Yd) ⟨uf,pn,ps,p,hx7,Yd _ _ hn5,hs5.mono (λ_ z=>z) (λ_ _ _ z=>Yd _ _ z) (λ_ _ z=>Yd _ _ z),L5.mono (λq z=>Ib.free z) (λ_ _ _ z=>Yd _ _ z),gT⟩ (by omega)
 ·rw[ae qz] at kn;rw[ag qz];exact bI (kn rfl H4 Ib)
theorem Mb(k:Nat)(had:List Sg)(r:Bytes):lA (k+1) had r=match Nd r with
  |none=>none
  |some (s,r')=>if vp (had.getLast?.map (·.name)) s.name=true then(if r'=[] then some (had++ [s]) else lA k (had++ [s]) r') else none:=rfl
theorem MY(had:List Sg)(s:Sg):Jp (had++ [s])=vo s.name:=by
 unfold Jp;rw[BA]
theorem Fm(D:Df K mg "signs_of" qQ)(T:Tx mg K A)(eC:lB P w K mg base "Cursor" A.Cursor 1 ["self","text"] (uu K A))(aY:d4 P w K mg base A.Cursor "byte" 1 ["self"] (j6 K A))(pD:e7 P w K mg base "sign_read" 5 ["cursor"] (NY K A)):e7 P w K mg base "signs_of" 6 ["text"] (AH K A):=by
 refine D.iO iD (λ_ _ _ _ _ _ us hl=>match us,hl with | [_],_=>rfl) (λvs H Q E h=>by obtain⟨_,rfl,_⟩:=h;rfl) (λf dG Ar outer s H vs Q E hr h=>?_);obtain⟨tx,rfl,b,hb,hlen,k1,k2⟩:=h;refine⟨_,(aq (gc 1 iD.nd (g6 eC hr.m rfl (aj (pv 0) aB))) (aq (gc 2 iD.nd (dD aB)) (aq (gc 3 iD.nd (gH aB)) (aq (jT bP (bC Fk (bV bG rfl T.eI B.dh (aj (pv 2) aB)) (dP rfl T.Dx) (bL _)) (aq (gc 4 iD.nd (bB pD hr.m rfl (aj (pv 1) aB))) (aq (bR (PW.pt (qw (bC lg (pv 4) cN (bL _)) (oN (bC (LT.Vq hr.HD) (bD (pv 4) rfl) (pv 3) (bL _))))) (aC (aV cN)) bf) (aq (cY (jU bp bu bq dc (pv 2) (aj (pv 4) aB))) (aq (gc 3 iD.nd (bD (pv 4) rfl)) (aC (bR (bC gI (cO (pv 1) T.bF aY hr.m) (dP rfl T.mM) (bL _)) (aC (aV (pv 2))) bf))))))) (aC (aV cN)))))),?_⟩;refine⟨_,rfl,?_⟩;intro x dx nx FD Se;have s1:bJ H (L2.upd (L2.upd H dx (.own x)) x (.ins A.Cursor dx [])):=e8 nx FD;refine⟨x,tx,rfl,dx,b,ak,s1.seq hb,λH2 q2 C2=>⟨rfl,?_⟩⟩;have s2:bJ H H2:=λa v e=>q2.kp a v (s1 a v e) λz=>by
  have zz:a=x:=z.1;subst zz;rw[nx] at e;cases e
 refine⟨aD _,λpf lJ=>⟨aD _,λpb Mt=>?_⟩⟩;have SU:H pf=.none:=same_none s2 lJ;have s3:bJ H (L2.upd (L2.upd H2 pf (.lst [])) pb (.tup [])):=λa v e=>aF Mt a v (aF lJ a v (s2 a v e))
 have fin:∀{H':Hp},KC A ⟨x,tx,b⟩ H H'->bJ H H':=λ{H'} k=>k.jr λa v z=>by
  rw[z.1];exact nx
 have C3:=(C2.same (aF (o:=.lst []) lJ)).same (aF (o:=.tup []) Mt);have abV:(L2.upd (L2.upd H2 pf (.lst [])) pb (.tup [])) pf=some (.lst (([]:ac1).map V.ref)):=aF Mt _ _ ak
 refine⟨λm σ H1=>∃(r1:Bytes) (had:List Sg) (as:ac1) (bt:Addr) (v4:Option V),m=r1.length/\σ=[some (.ref tx),some (.ref x),some (.ref pf),some (.ref bt),v4]/\KC A ⟨x,tx,b⟩ H H1/\jE K A H1 ⟨x,tx,b⟩ r1/\H1 pf=some (.lst (as.map V.ref))/\Paired (gJ A (λq=>q≠pf) H1) as had/\H1 bt=some (.tup ((Jp had).map V.int))/\lA 512 [] b=lA (512 - had.length) had r1/\had.length<=512/\r1.length<=b.length,
  ⟨_,b,[],[],pb,_,rfl,rfl,.same s3,C3,abV,.nil,ak,rfl,aD _,aA _⟩,?_⟩
 rintro m σ H1 ⟨r1,had,as,bt,v4,rfl,rfl,q1,C1,hf,hp,ZY,e1,hl,Ef⟩;have Gv:(as.map V.ref).length=had.length:=by rw[af,bc hp]
 refine⟨_,rfl,pf,_,rfl,.inl (cg.of hf),_,_,rfl,rfl,_,rfl,?_⟩;rw[Gv];by_cases c1:had.length<512
 ·rw[ai (show(had.length:Int)<512 by omega)];obtain⟨kk,V7⟩:∃kk,512 - had.length=kk+1:=⟨511 - had.length,by omega⟩;rw[V7,Mb kk had r1] at e1;refine bI ⟨λeU H'=>∃(r2:Bytes) (had:List Sg) (as:ac1) (bt:Addr) (v4:Option V),r2.length<r1.length/\eU=[some (.ref tx),some (.ref x),some (.ref pf),some (.ref bt),v4]/\KC A ⟨x,tx,b⟩ H H'/\jE K A H' ⟨x,tx,b⟩ r2/\H' pf=some (.lst (as.map V.ref))/\Paired (gJ A (λq=>q≠pf) H') as had/\H' bt=some (.tup ((Jp had).map V.int))/\lA 512 [] b=lA (512 - had.length) had r2/\had.length<=512/\r2.length<=b.length,λeU H' ⟨r2,hd,as,bt,v4,z1,z⟩=>⟨_,z1,r2,hd,as,bt,v4,rfl,z⟩,?_⟩;refine⟨_,rfl,⟨x,tx,b⟩,rfl,r1,C1,by omega,λe2 H3 q3=>?_,λs r2 e2 H3 a q3 C3 hs zv=>?_⟩
  ·refine⟨_,rfl,rfl,_,rfl,bI (bI ?_)⟩;rw[e2] at e1;exact k1 e1 H3 (fin (q1.trans q3))
  rw[e2] at e1;simp only at e1;have qp:gJ A (λq=>q≠pf) H3 a s:=hs.mono (λq z w=>by subst w;rw[hf] at z;cases z) (λ_ _ _ z=>z) (λ_ _ z=>z) (λ_ _ _ _ _ z=>z);have zu:Paired (gJ A (λq=>q≠pf) H3) as had:=Paired.ee hp λ_ _ z=>z.kc q3 C1
  have Bg:H3 pf=some (.lst (as.map V.ref)):=q3.kp _ _ hf λ⟨_,_,_,e⟩=>nomatch e
  have acq:H3 bt=some (.tup ((Jp had).map V.int)):=q3.kp _ _ ZY λ⟨_,_,_,e⟩=>nomatch e
  have Hk:=q1.trans q3;obtain⟨ds,tn,sl,rl,ha,SK,_⟩:=id qp;refine⟨_,rfl,rfl,_,rfl,?_⟩;rw[jJ];refine bO ⟨_,rfl,a,_,ds,_,_,rfl,ha,T.jc,T.jW,rfl,_,rfl,tn,bt,_,_,rfl,rfl,dJ.of SK,dJ.of acq,_,rfl,?_⟩;rw[VF];cases hb4:vp (had.getLast?.map (·.name)) s.name with
  |false=>
   rw[hb4,ae (by decide)] at e1;exact bI (k1 e1 H3 (fin Hk))
  |true=>
   rw[hb4,ah rfl] at e1;refine bO ⟨_,rfl,.inl ⟨rfl,_,cg.of Bg⟩,_,rfl,pf,_,_,rfl,rfl,Bg,?_,?_⟩
   ·rw[Gv];have:(10000001:Nat)<sizeLine:=by decide
    omega
   have w4:∀{q:Addr} {z:Sg},gJ A (λq=>q≠pf) H3 q z->gJ A (λq=>q≠pf) (L2.upd H3 pf (.lst (as.map V.ref++ [.ref a]))) q z:=λh=>h.wr Bg (λ_ z=>z)
   have ha4:(L2.upd H3 pf (.lst (as.map V.ref++ [.ref a]))) a=some (.ins A.Sign ds [("name",.ref tn),("sounds",.ref sl),("rows",.ref rl)]):=by rw[aH (bW ha Bg nofun)];exact ha
   have SI:(L2.upd H3 pf (.lst (as.map V.ref++ [.ref a]))) tn=some (.tup ((vo s.name).map V.int)):=by rw[aH (bW SK Bg nofun)];exact SK
   have C4:=C3.uj (o:=.lst (as.map V.ref++ [.ref a])) C2 lJ;have Ib:KC A ⟨x,tx,b⟩ H (L2.upd H3 pf (.lst (as.map V.ref++ [.ref a]))):=Hk.uj SU;have hf4:(L2.upd H3 pf (.lst (as.map V.ref++ [.ref a]))) pf=some (.lst ((as++ [a]).map V.ref)):=by rw[ak,aN];rfl
   have Kv:Paired (gJ A (λq=>q≠pf) (L2.upd H3 pf (.lst (as.map V.ref++ [.ref a])))) (as++ [a]) (had++ [s]):=fG (Paired.ee zu λ_ _ z=>w4 z) (w4 qp);obtain⟨dx,j,hc⟩:=C4.at;refine⟨_,rfl,a,_,ds,_,_,rfl,ha4,T.jc,T.jW,rfl,?_⟩;refine⟨_,rfl,x,dx,_,rfl,hc,rfl,⟨x,tx,b⟩,rfl,r2,C4,rfl,_,rfl,?_⟩;by_cases hn:hd r2= -1
   ·rw[ai (bb V.int hn)];rw[ah (Dj.mp hn)] at e1;refine bI ⟨_,rfl,?_⟩;exact k2 _ e1 _ pf (as++ [a]) (fin Ib) hf4 Kv (by rw[aw];show had.length+1<=512;omega)
   ·rw[ag (λz=>hn (V.int.inj z))];rw[ae (λz=>hn (Dj.mpr z))] at e1;refine bO ⟨r2,had++ [s],as++ [a],tn,_,zv,rfl,Ib,C4,hf4,Kv,by rw[MY];exact SI,?_,by rw[aw];show had.length+1<=512;omega,by omega⟩;rw[e1,aw];show lA kk _ _=lA (512 - (had.length+1)) _ _;rw[show 512 - (had.length+1)=kk by omega]
 ·rw[ag (show ¬(had.length:Int)<512 by omega)];rw[show 512 - had.length=0 by omega] at e1;exact bO (k1 e1 H1 (fin q1))
def qu(A:CA):Sp:=λvs H Q _=>∃(a:Addr) (n s r:V),vs=[.ref a,n,s,r]/\∃dx,H a=some (.ins A.ik dx [])/\∀H',Kp (atS a) H H'->H' a=some (.ins A.ik dx [("signs",n),("words",s),("places",r)])->Q .eZ H'
def YV(s:Sg)(z:Nat):Option Bytes:=if z=8 then some [] else s.sounds[z]?
def N6(K:Frag):Sp:=λvs H Q _=>∃(c:Addr) (h:Bool),vs=[.ref c,.bl h]/\∃ns:List Int,cg K H c (ns.map V.int)/\ns.length<=1000/\∀H' p,bJ H H'->H' p=some (.tup ((if h=true then List.replicate ns.length 0 else ns).map V.int))->Q (.ref p) H'
def JQ(K:Frag):Sp:=λvs H Q _=>∃(c:Addr),vs=[.ref c]/\∃n:Name,dJ K H c ((vo n).map V.int)/\∀H' p,bJ H H'->dJ K H' p (([(n.big.toNat:Int),(n.small.toNat:Int)]).map V.int)->Q (.ref p) H'
def ER(A:CA):Sp:=λvs H Q _=>∃(a:Addr) (z:Nat),vs=[.ref a,.int z]/\∃(Z:ac7) (s:Sg),gJ A Z H a s/\(YV s z=none->Q .eZ H)/\(∀w,YV s z=some w->∀H' p,bJ H H'->H' p=some (.tup ((ib w).map V.int))->Q (.ref p) H')
theorem ql(D:Q4 K "Stretch.__init__" A.ik iu)(T:Tx mg K A):lB P w K mg base "Stretch" A.ik 1 ["self","signs","words","places"] (qu A):=by
 refine D.iO T.Ma qi (λ_ _ _ _ _ _ us hl=>match us,hl with | [_,_,_,_],_=>rfl) (λvs H Q E h=>by obtain⟨_,_,_,_,rfl,_⟩:=h;rfl) (λf dG Ar outer s H vs Q E hr h=>?_);obtain⟨a,n,s,r,rfl,dx,ha,k⟩:=h;refine⟨_,(aq (dH (pv 0) (pv 1) rfl) (aq (dH (pv 0) (pv 2) rfl) (aC (dH (pv 0) (pv 3) rfl)))),?_⟩;refine⟨_,rfl,_,rfl,a,_,dx,_,rfl,ha,T.jD,T.nP,(uU rfl),?_⟩;refine⟨_,rfl,_,rfl,a,_,dx,_,rfl,ak,T.jD,T.nO,(uU rfl),?_⟩;refine⟨_,rfl,_,rfl,a,_,dx,_,rfl,ak,T.jD,T.jA,(uU rfl),?_⟩;refine k _ ?_ ak;exact((Kp.wr ha rfl).trans (.wr ak rfl)).trans (.wr ak rfl)
theorem Oh(n:Nat):(List.replicate n [V.int 0]).flatten=(List.replicate n (0:Int)).map V.int:=by
 induction n with
 |zero=>rfl
 |succ n ih=>
  rw[dq,jf,ih,dq,aK];rfl
theorem Ct(D:Df K mg "half_seen" oI)(T:Tx mg K A):e7 P w K mg base "half_seen" 1 ["cells","hidden"] (N6 K):=by
 refine D.iO BW (λ_ _ _ _ _ _ us hl=>match us,hl with | [_,_],_=>rfl) (λvs H Q E h=>by obtain⟨_,_,rfl,_⟩:=h;rfl) (λf dG Ar outer s H vs Q E hr h=>?_);obtain⟨c,h,rfl,ns,hc,hlen,k⟩:=h;refine⟨_,(aC (aV (kR jM rfl T.nD B.pq (aj (lb (cE (pv 1)) (ft OE (dD (aj (dP rfl T.Qk) aB)) (bV bG rfl T.eI B.dh (aj (pv 0) aB))) (pv 0)) aB)))),?_⟩;have hl:(ns.map V.int).length=ns.length:=af _;refine⟨_,rfl,_,rfl,?_⟩;cases h with
 |true=>
  refine bI ⟨(F1 rfl),λp1 h1=>⟨_,rfl,c,_,rfl,.inl ((aF h1).seq hc),?_⟩⟩;rw[hl];refine⟨_,_,_,rfl,rfl,ak,by omega,by omega,?_,λp2 h2=>?_⟩
  ·show 1*(Int.toNat (ns.length:Int))<=sizeLine;have:(2000:Nat)<=sizeLine:=by decide
   omega
  refine⟨p2,_,rfl,.inl ⟨cg.of ak,λp3 h3=>?_⟩⟩;refine k _ p3 (((aF h1).trans (aF h2)).trans (aF h3)) ?_;rw[ak,fm,Oh];rfl
 |false=>
  refine bO ⟨_,rfl,c,_,rfl,.inl ⟨hc,λp3 h3=>?_⟩⟩;exact k _ p3 (aF h3) ak
theorem Fs(D:Df K mg "class_of" qU)(T:Tx mg K A):e7 P w K mg base "class_of" 1 ["name"] (JQ K):=by
 refine D.iO E2 (λ_ _ _ _ _ _ us hl=>match us,hl with | [_],_=>rfl) (λvs H Q E h=>by obtain⟨_,rfl,_⟩:=h;rfl) (λf dG Ar outer s H vs Q E hr h=>?_);obtain⟨c,rfl,n,hc,k⟩:=h;refine⟨_,(aC (aV (sC Va (pv 0) Cc (sx cF)))),?_⟩;refine⟨_,rfl,2,rfl,c,_,rfl,hc,(by show ¬((0:Nat)=0/\(2:Nat)=4);decide),λp hp=>?_⟩;exact k _ p (aF hp) (dJ.of ak)
theorem zO(D:Df K mg "letters_of" mX)(T:Tx mg K A):e7 P w K mg base "letters_of" 1 ["sign","sound"] (ER A):=by
 refine D.iO zI (λ_ _ _ _ _ _ us hl=>match us,hl with | [_,_],_=>rfl) (λvs H Q E h=>by obtain⟨_,_,rfl,_⟩:=h;rfl) (λf dG Ar outer s H vs Q E hr h=>?_);obtain⟨a,z,rfl,Z,s,hs,k1,k2⟩:=h;obtain⟨dx,tn,sl,rl,ha,_,⟨as,zt,hp,_⟩,_⟩:=hs;have Gv:(as.map V.ref).length=s.sounds.length:=by rw[af,bc hp]
 refine⟨_,(aq (bR (bC gI (pv 1) (dP rfl T.GA) (bL _)) (aC (aV (gH aB))) bf) (aq (bR (bC YE (pv 1) (bV bG rfl T.eI B.dh (aj (bD (pv 0) rfl) aB)) (bL _)) (aC (aV cN)) bf) (aC (aV (fu d5 (bD (pv 0) rfl) (pv 1) (λ_ _=>rfl)))))),?_⟩;refine⟨_,rfl,rfl,_,rfl,?_⟩;unfold YV at k1 k2;by_cases h8:z=8
 ·rw[ai (bb V.int (show(z:Int)=8 by omega))];rw[ah h8] at k2;exact bI ⟨aD _,λp hp=>k2 [] rfl _ p (aF hp) ak⟩
 rw[ag (λq=>h8 (by have:=V.int.inj q;omega))];rw[ae h8] at k1 k2;refine bO ⟨_,rfl,_,rfl,a,_,dx,_,_,rfl,ha,T.jc,T.ml,rfl,sl,_,rfl,.inl (cg.of zt),_,_,rfl,rfl,_,rfl,?_⟩;rw[Gv];by_cases hz:s.sounds.length<=z
 ·rw[ai (show(z:Int)>=(s.sounds.length:Int) by omega)];exact bI (k1 (zy hz))
 ·rw[ag (show ¬(z:Int)>=(s.sounds.length:Int) by omega)];have e1:s.sounds[z]?=some s.sounds[z]:=aZ (by omega);obtain⟨q,VW,Xc⟩:=kf hp e1;refine bO ⟨_,rfl,a,_,dx,_,_,rfl,ha,T.jc,T.ml,rfl,_,rfl,sl,_,_,_,rfl,rfl,cg.of zt,at_of (j:=z) rfl (by rw[aM,VW];rfl),?_⟩;exact k2 _ e1 H q (λ_ _ z=>z) Xc
def ES:Sp:=λvs H Q _=>∃(nb:Addr) (sg snd:Int),vs=[.ref nb,.int sg,.int snd]/\∃(ns:acZ) (j:Nat),Ep H nb (ns.map V.int)/\ns[j]?=some sg/\(∀m,m<j->ns[m]?≠some sg)/\Q (.int (2*(j:Nat)+(if snd=8 then 7 else snd))) H
theorem yd(D:Df K mg "choice_cost" mf)(T:Tx mg K A):e7 P w K mg base "choice_cost" 1 ["numbers","sign","sound"] (ES):=by
 refine D.iO xJ (λ_ _ _ _ _ _ us hl=>match us,hl with | [_,_,_],_=>rfl) (λvs H Q E h=>by obtain⟨_,_,_,rfl,_⟩:=h;rfl) (λf dG Ar outer s H vs Q E hr h=>?_);obtain⟨nb,sg,snd,rfl,ns,j,hF,hj,hm,k⟩:=h;have hn:dJ K H nb (ns.map V.int):=hF.sq;refine⟨_,(aC (aV (ft lh (ft uH (dP rfl T.n4) (Vm PySem.F.plainAttrs_tuple Xz PySem.F.type_tuple_index L4 (pv 0) (aj (pv 1) aB))) (lb (bC gI (pv 2) (dP rfl T.GA) (bL _)) (dP rfl T.Ac) (pv 2))))),?_⟩;have flat:=u1 ns;refine⟨_,rfl,⟨nb,_,rfl,hF⟩,_,rfl,nb,_,.int sg,j,.int sg,rfl,rfl,hn,rfl,flat,(by rw[aM,hj];rfl),(by show(sg==sg)=true;exact cK sg),?_,?_⟩
 ·intro m z Xf hz;rw[aM] at hz;cases hq:ns[m]? with
  |none=>rw[hq] at hz;cases hz
  |some y=>
   rw[hq] at hz;cases hz;show(y==sg)=false;exact cc.mpr λq=>hm m Xf (by rw[hq,q])
 refine⟨_,_,rfl,rfl,.inl (by decide),_,rfl,rfl,_,rfl,?_⟩;by_cases h8:snd=8
 ·rw[ai (bb V.int h8)];rw[ah h8] at k;exact bI ⟨_,_,rfl,rfl,k⟩
 ·rw[ag (λq=>h8 (V.int.inj q))];rw[ae h8] at k;exact bO ⟨_,rfl,_,_,rfl,rfl,k⟩
def IP(h:Bool)(ns:acZ):List Int:=if h=true then List.replicate ns.length 0 else ns
def i7(mid n:Nat)(m:Bool)(q:ac2)(y:Nat)(x:acZ):List Int×List Int:=
 (IP (decide ((if y<n / 2 then 1 else 3)∈q)) ((if m=true then x.reverse else x).take mid),IP (decide ((if y<n / 2 then 2 else 4)∈q)) ((if m=true then x.reverse else x).drop mid))
def FX(rows:List (List Int))(m:Bool)(q:ac2):List (List Int×List Int):=rows.mapIdx λy x=>i7 ((rows.headD []).length / 2) rows.length m q y x
def wI(H:Hp)(a:Addr)(p:List Int×List Int):Prop:=∃a1 a2,H a=some (.tup [.ref a1,.ref a2])/\H a1=some (.tup (p.1.map V.int))/\H a2=some (.tup (p.2.map V.int))
theorem wI.keep{H H':Hp}{a:Addr}{p:List Int×List Int}(h:wI H a p)(k:∀q xs,H q=some (.tup xs)->H' q=some (.tup xs)):wI H' a p:=by
 obtain⟨a1,a2,h1,h2,h3⟩:=h;exact⟨a1,a2,k _ _ h1,k _ _ h2,k _ _ h3⟩
abbrev KE:Hp->Hp->Prop:=Kp (λ_ _=>False)
def HM(K:Frag):Sp:=λvs H Q _=>∃(rl:Addr) (m:Bool) (dm:Addr),vs=[.ref rl,.bl m,.ref dm]/\∃(as:ac1) (rows:List (List Int)) (q:ac2),H rl=some (.lst (as.map V.ref))/\Paired (LI H) as rows/\rows≠[]/\rows.length<=32/\(∀x∈rows,x.length<=32/\x.length=(rows.headD []).length)/\dJ K H dm (qV q)/\
 ∀H' p ps,bJ H H'->H' p=some (.tup (ps.map V.ref))->Paired (wI H') ps (FX rows m q)->Q (.ref p) H'
theorem cp{K:Frag}{H H':Hp}{a:Addr}{xs:List V}(e:bJ H H')(h:dJ K H a xs):dJ K H' a xs:=by
 rcases h with h|h
 ·rcases h with h|⟨o,h⟩
  ·exact .inl (.inl (e _ _ h))
  ·exact .inl (.inr ⟨o,e _ _ h⟩)
 ·exact .inr h
theorem nu(n:Nat)(q:ac2):rR (.int n) (qV q)=decide (n∈q):=by
 rw[xU,yJ]
 grind
theorem kK(q:ac2):(qV q).all lM=true:=by
 rw[xU];exact u1 _
theorem tU(ns:acZ)(k:Nat)(h:k<=ns.length):wF (ns.map V.int) none (some (k:Int))=(ns.take k).map V.int:=by
 unfold wF;rw[HT.E3,HT.wN,af,zm h,Nat.sub_zero,List.drop_zero,XE]
theorem tV(ns:acZ)(k:Nat)(h:k<=ns.length):wF (ns.map V.int) (some (k:Int)) none=(ns.drop k).map V.int:=by
 unfold wF;rw[HT.E3,HT.wN,af,zm h,XF];exact xt (by rw[cA,af];omega)
theorem Io(D:Df K mg "look_of" uA)(T:Tx mg K A)(lQ:e7 P w K mg base "half_seen" 1 ["cells","hidden"] (N6 K)):e7 P w K mg base "look_of" 2 ["rows","mirrored","damaged"] (HM K):=by
 refine D.iO ip (λ_ _ _ _ _ _ us hl=>match us,hl with | [_,_,_],_=>rfl) (λvs H Q E h=>by obtain⟨_,_,_,rfl,_⟩:=h;rfl) (λf dG Ar outer s H vs Q E hr h=>?_);obtain⟨rl,m,dm,rfl,as,rows,q,Ef,vA,gT,Eg,zv,S6,k⟩:=h;refine⟨_,(aq (gc 3 ip.nd (ft J9 (bV bG rfl T.eI B.dh (aj (fu d5 (pv 0) cF (λ_ _=>rfl)) aB)) cF)) (aq (gc 4 ip.nd (dD aB)) (aq (iY bP rfl (lG rfl T.eJ (aj (pv 0) aB)) (uG rfl (eB (qx 5 ip.nd) (eB (qx 6 ip.nd) lH))) (aq (gc 7 ip.nd (lb (cE (pv 1)) (LR.Ik rfl rfl rfl T.Jq T.rK (aj (pv 6) aB)) (pv 6))) (aq (gc 8 ip.nd (lb (bC Fk (pv 5) (ft J9 (bV bG rfl T.eI B.dh (aj (pv 0) aB)) cF) (bL _)) (fu uY (Oz rfl T.iw) cF (λ_ _=>rfl)) (fu uY (Oz rfl T.iw) cF (λ_ _=>rfl)))) (aC (cY (jU bp bu bq dc (pv 4) (aj (gH (aj (bB lQ hr.m rfl (aj (sC BO (pv 7) Cc (sx (pv 3))) (aj (i5 uI (pv 8) (pv 2) rfl) aB))) (aj (bB lQ hr.m rfl (aj (sC BO (pv 7) (sx (pv 3)) Cc) (aj (i5 uI (ft lh (pv 8) cF) (pv 2) rfl) aB))) aB))) aB))))))) (aC (aV (kR jM rfl T.nD B.pq (aj (pv 4) aB))))))),?_⟩;cases rows with
 |nil=>exact absurd rfl gT
 |cons x0 rows=>
 cases vA with
 |cons h0 VT=>
 rename_i a0 En;have vA:Paired (LI H) (a0::En) (x0::rows):=.cons h0 VT;refine⟨_,rfl,rl,_,_,_,rfl,rfl,cg.of Ef,at_of (j:=0) rfl rfl,a0,x0.map V.int,rfl,.inl (cg.of h0),_,_,rfl,rfl,⟨by decide,by decide⟩,?_⟩;have hmd:∀y∈x0::rows,x0.length / 2<=y.length:=λy hy=>by have:y.length=x0.length:=(zv y hy).2;omega
 dsimp only;rw[show((((x0.map V.int).length:Nat):Int) / 2)=((x0.length / 2:Nat):Int) by rw[af];omega];refine⟨aD _,λpf lJ=>?_⟩
 refine⟨_,rfl,rl,_,rfl,cg.of (aF lJ _ _ Ef),o7 (K:=K) (a:=rl) (xs:=(a0::En).map V.ref) (λi σ H1=>∃(Ro:ac1) (v5 v6 v7 v8:Option V),σ=[some (.ref rl),some (.bl m),some (.ref dm),some (.int ((x0.length / 2:Nat):Int)),some (.ref pf),v5,v6,v7,v8]/\KE H H1/\H1 pf=some (.lst (Ro.map V.ref))/\Paired (wI H1) Ro ((FX (x0::rows) m q).take i))
  ⟨[],_,_,_,_,rfl,.new lJ,ak,.nil⟩ (λi σ H1 _ ⟨_,_,_,_,_,_,q1,_⟩=>cg.of (q1.kp _ _ Ef λz=>z)) ?turn ?after⟩
 case after=>
  rintro σ H1 ⟨Ro,v5,v6,v7,v8,rfl,q1,hf,oh⟩;refine⟨_,rfl,pf,_,rfl,.inl ⟨cg.of hf,λp hp=>?_⟩⟩;have s1:bJ H H1:=q1.jr λ_ _ z=>z.elim
  refine k _ p Ro (s1.trans (aF hp)) ak ?_;have e:(FX (x0::rows) m q).take (((a0::En).map V.ref).length)=FX (x0::rows) m q:=by
   refine xt ?_;unfold FX;rw[List.length_mapIdx,af,bc vA];exact aA _
  rw[e] at oh;exact Paired.ee oh λ_ _ z=>z.keep λb xs zz=>aF hp _ _ zz
 case turn=>
  rintro i x σ H0 Tp hi ⟨Ro,v5,v6,v7,v8,rfl,q0,hf0,abR⟩ hT;rw[aM] at hi;cases ha:(a0::En)[i]? with
  |none=>rw[ha] at hi;cases hi
  |some a=>
  rw[ha] at hi;cases hi;obtain⟨y,Ra,Y8⟩:=gq vA ha;have sT:bJ H0 (L2.upd H0 Tp (.tup [.int i,.ref a])):=aF hT;refine⟨Tp,_,rfl,dJ.of ak,rfl,_,_,rfl,_,_,rfl,rfl,?_⟩;generalize hH1:L2.upd H0 Tp (.tup [.int i,.ref a])=H1 at sT ⊢;have q1:KE H H1:=q0.trans (.same sT);have s1:bJ H H1:=q1.jr λ_ _ z=>z.elim
  have hf:=sT _ _ hf0;have oh:Paired (wI H1) Ro ((FX (x0::rows) m q).take i):=Paired.ee abR λ_ _ z=>z.keep λb xs zz=>sT _ _ zz
  have Zk:=s1 _ _ Ef;have Gr:=cp s1 S6;have hya:H1 a=some (.lst (y.map V.int)):=s1 _ _ Y8;have W6:y.length<=32:=(zv y (aL Ra)).1;have Nk:i<(x0::rows).length:=(aG.mp Ra).1;have hLi:(FX (x0::rows) m q)[i]?=some (i7 (x0.length / 2) (x0::rows).length m q i y):=by
   unfold FX;rw[List.getElem?_mapIdx,Ra];rfl
  have ZK:((((a0::En).map V.ref).length:Nat):Int) / 2=(((x0::rows).length / 2:Nat):Int):=by
   rw[af,bc vA];omega
  refine⟨_,rfl,_,rfl,?_⟩;cases m with
  |true=>
   refine bI ⟨_,rfl,a,_,rfl,cg.of hya,λsa abK=>?_⟩;have sS:bJ H1 (L2.upd H1 sa (.lst (y.map V.int).reverse)):=aF abK;have SN:cg K (L2.upd H1 sa (.lst (y.map V.int).reverse)) sa (y.reverse.map V.int):=cg.of (by rw[ak,List.map_reverse]);have ZN:=sS _ _ hf;have zt:y.reverse.length<=32:=by rw[j5];exact W6
   have C9:x0.length / 2<=y.reverse.length:=by rw[j5];exact hmd y (aL Ra)
   refine⟨_,rfl,_,rfl,rl,_,rfl,.inl (sS.seq (cg.of Zk)),_,_,rfl,rfl,⟨by decide,by decide⟩,_,_,rfl,rfl,_,rfl,?_⟩;dsimp only;rw[ZK];by_cases hy:i<(x0::rows).length / 2
   ·rw[ai (show(i:Int)<(((x0::rows).length / 2:Nat):Int) by omega)];refine bI λqa yK=>⟨qa,_,_,_,rfl,rfl,T.gD qa yK _,rfl,?_⟩
    refine⟨_,rfl,.inl ⟨rfl,_,cg.of ZN⟩,?_⟩;refine⟨_,rfl,_,rfl,_,rfl,sa,_,rfl,SN,λp1 h1=>?_⟩;rw[tU _ _ C9];have t1:=aF (o:=.lst ((y.reverse.take (x0.length / 2)).map V.int)) h1;refine⟨_,rfl,_,rfl,dm,_,rfl,.inr (cp t1 (cp sS Gr)),rfl,kK _,p1,_,rfl,y.reverse.take (x0.length / 2),cg.of ak,by rw[bh];omega,λH5 pa t2 Mu=>?_⟩;refine⟨_,rfl,_,rfl,_,rfl,sa,_,rfl,t2.seq (t1.seq SN),λp2 h2=>?_⟩;rw[tV _ _ C9];have t3:=aF (o:=.lst ((y.reverse.drop (x0.length / 2)).map V.int)) h2;refine⟨_,rfl,_,_,rfl,rfl,_,rfl,dm,_,rfl,.inr (cp t3 (cp t2 (cp t1 (cp sS Gr)))),rfl,kK _,p2,_,rfl,y.reverse.drop (x0.length / 2),cg.of ak,by rw[cA];omega,λH7 pb t4 Mt=>?_⟩;refine⟨(F1 rfl),λpt VX=>?_⟩;have t5:=aF (o:=.tup [.ref pa,.ref pb]) VX;have tA:bJ H1 (L2.upd H7 pt (.tup [.ref pa,.ref pb])):=λb v z=>t5 b v (t4 b v (t3 b v (t2 b v (t1 b v (sS b v z)))))
    have IT:=tA _ _ hf;refine⟨pf,_,_,rfl,rfl,IT,by rw[af,bc oh,bh];have:(1000:Nat)<sizeLine:=(by decide);omega,?_⟩;refine⟨Ro++ [pt],_,_,_,_,rfl,(q1.trans (.same tA)).uj lJ,by rw[ak,aN];rfl,?_⟩;rw[bN,hLi];refine fG (Paired.ee oh λ_ _ z=>z.keep λb xs zz=>by rw[aH (bW (tA _ _ zz) IT nofun)];exact tA _ _ zz) ?_;refine wI.keep (H:=L2.upd H7 pt (.tup [.ref pa,.ref pb])) ⟨pa,pb,ak,?_,?_⟩ (λb xs zz=>by rw[aH (bW zz IT nofun)];exact zz)
    ·rw[t5 _ _ (t4 _ _ (t3 _ _ Mu))];show some (HO.tup ((IP (rR (.int 1) (qV q)) (y.reverse.take (x0.length / 2))).map V.int))=_;rw[show rR (.int 1) (qV q)=_ from nu 1 q];unfold i7;rw[ah hy,ah hy];rfl
    ·rw[t5 _ _ Mt];show some (HO.tup ((IP (rR (.int (1+1)) (qV q)) (y.reverse.drop (x0.length / 2))).map V.int))=_;rw[show rR (.int (1+1)) (qV q)=_ from nu (1+1) q];unfold i7;rw[ah hy,ah hy];rfl
   ·rw[ag (show ¬(i:Int)<(((x0::rows).length / 2:Nat):Int) by omega)];refine bO λqa yK=>⟨qa,_,_,_,rfl,rfl,T.gD qa yK _,rfl,?_⟩
    refine⟨_,rfl,.inl ⟨rfl,_,cg.of ZN⟩,?_⟩;refine⟨_,rfl,_,rfl,_,rfl,sa,_,rfl,SN,λp1 h1=>?_⟩;rw[tU _ _ C9];have t1:=aF (o:=.lst ((y.reverse.take (x0.length / 2)).map V.int)) h1;refine⟨_,rfl,_,rfl,dm,_,rfl,.inr (cp t1 (cp sS Gr)),rfl,kK _,p1,_,rfl,y.reverse.take (x0.length / 2),cg.of ak,by rw[bh];omega,λH5 pa t2 Mu=>?_⟩;refine⟨_,rfl,_,rfl,_,rfl,sa,_,rfl,t2.seq (t1.seq SN),λp2 h2=>?_⟩;rw[tV _ _ C9];have t3:=aF (o:=.lst ((y.reverse.drop (x0.length / 2)).map V.int)) h2;refine⟨_,rfl,_,_,rfl,rfl,_,rfl,dm,_,rfl,.inr (cp t3 (cp t2 (cp t1 (cp sS Gr)))),rfl,kK _,p2,_,rfl,y.reverse.drop (x0.length / 2),cg.of ak,by rw[cA];omega,λH7 pb t4 Mt=>?_⟩;refine⟨(F1 rfl),λpt VX=>?_⟩;have t5:=aF (o:=.tup [.ref pa,.ref pb]) VX;have tA:bJ H1 (L2.upd H7 pt (.tup [.ref pa,.ref pb])):=λb v z=>t5 b v (t4 b v (t3 b v (t2 b v (t1 b v (sS b v z)))))
    have IT:=tA _ _ hf;refine⟨pf,_,_,rfl,rfl,IT,by rw[af,bc oh,bh];have:(1000:Nat)<sizeLine:=(by decide);omega,?_⟩;refine⟨Ro++ [pt],_,_,_,_,rfl,(q1.trans (.same tA)).uj lJ,by rw[ak,aN];rfl,?_⟩;rw[bN,hLi];refine fG (Paired.ee oh λ_ _ z=>z.keep λb xs zz=>by rw[aH (bW (tA _ _ zz) IT nofun)];exact tA _ _ zz) ?_;refine wI.keep (H:=L2.upd H7 pt (.tup [.ref pa,.ref pb])) ⟨pa,pb,ak,?_,?_⟩ (λb xs zz=>by rw[aH (bW zz IT nofun)];exact zz)
    ·rw[t5 _ _ (t4 _ _ (t3 _ _ Mu))];show some (HO.tup ((IP (rR (.int 3) (qV q)) (y.reverse.take (x0.length / 2))).map V.int))=_;rw[show rR (.int 3) (qV q)=_ from nu 3 q];unfold i7;rw[ae hy,ae hy];rfl
    ·rw[t5 _ _ Mt];show some (HO.tup ((IP (rR (.int (3+1)) (qV q)) (y.reverse.drop (x0.length / 2))).map V.int))=_;rw[show rR (.int (3+1)) (qV q)=_ from nu (3+1) q];unfold i7;rw[ae hy,ae hy];rfl
  |false=>
   refine bO ⟨_,rfl,?_⟩;have sS:bJ H1 H1:=λ_ _ z=>z
   have SN:cg K H1 a (y.map V.int):=cg.of hya;have ZN:=hf;have zt:y.length<=32:=W6;have C9:x0.length / 2<=y.length:=hmd y (aL Ra);refine⟨_,rfl,_,rfl,rl,_,rfl,.inl (sS.seq (cg.of Zk)),_,_,rfl,rfl,⟨by decide,by decide⟩,_,_,rfl,rfl,_,rfl,?_⟩;dsimp only;rw[ZK];by_cases hy:i<(x0::rows).length / 2
   ·rw[ai (show(i:Int)<(((x0::rows).length / 2:Nat):Int) by omega)];refine bI λqa yK=>⟨qa,_,_,_,rfl,rfl,T.gD qa yK _,rfl,?_⟩
    refine⟨_,rfl,.inl ⟨rfl,_,cg.of ZN⟩,?_⟩;refine⟨_,rfl,_,rfl,_,rfl,a,_,rfl,SN,λp1 h1=>?_⟩;rw[tU _ _ C9];have t1:=aF (o:=.lst ((y.take (x0.length / 2)).map V.int)) h1;refine⟨_,rfl,_,rfl,dm,_,rfl,.inr (cp t1 (cp sS Gr)),rfl,kK _,p1,_,rfl,y.take (x0.length / 2),cg.of ak,by rw[bh];omega,λH5 pa t2 Mu=>?_⟩;refine⟨_,rfl,_,rfl,_,rfl,a,_,rfl,t2.seq (t1.seq SN),λp2 h2=>?_⟩;rw[tV _ _ C9];have t3:=aF (o:=.lst ((y.drop (x0.length / 2)).map V.int)) h2;refine⟨_,rfl,_,_,rfl,rfl,_,rfl,dm,_,rfl,.inr (cp t3 (cp t2 (cp t1 (cp sS Gr)))),rfl,kK _,p2,_,rfl,y.drop (x0.length / 2),cg.of ak,by rw[cA];omega,λH7 pb t4 Mt=>?_⟩;refine⟨(F1 rfl),λpt VX=>?_⟩;have t5:=aF (o:=.tup [.ref pa,.ref pb]) VX;have tA:bJ H1 (L2.upd H7 pt (.tup [.ref pa,.ref pb])):=λb v z=>t5 b v (t4 b v (t3 b v (t2 b v (t1 b v (sS b v z)))))
    have IT:=tA _ _ hf;refine⟨pf,_,_,rfl,rfl,IT,by rw[af,bc oh,bh];have:(1000:Nat)<sizeLine:=(by decide);omega,?_⟩;refine⟨Ro++ [pt],_,_,_,_,rfl,(q1.trans (.same tA)).uj lJ,by rw[ak,aN];rfl,?_⟩;rw[bN,hLi];refine fG (Paired.ee oh λ_ _ z=>z.keep λb xs zz=>by rw[aH (bW (tA _ _ zz) IT nofun)];exact tA _ _ zz) ?_;refine wI.keep (H:=L2.upd H7 pt (.tup [.ref pa,.ref pb])) ⟨pa,pb,ak,?_,?_⟩ (λb xs zz=>by rw[aH (bW zz IT nofun)];exact zz)
    ·rw[t5 _ _ (t4 _ _ (t3 _ _ Mu))];show some (HO.tup ((IP (rR (.int 1) (qV q)) (y.take (x0.length / 2))).map V.int))=_;rw[show rR (.int 1) (qV q)=_ from nu 1 q];unfold i7;rw[ah hy,ah hy];rfl
    ·rw[t5 _ _ Mt];show some (HO.tup ((IP (rR (.int (1+1)) (qV q)) (y.drop (x0.length / 2))).map V.int))=_;rw[show rR (.int (1+1)) (qV q)=_ from nu (1+1) q];unfold i7;rw[ah hy,ah hy];rfl
   ·rw[ag (show ¬(i:Int)<(((x0::rows).length / 2:Nat):Int) by omega)];refine bO λqa yK=>⟨qa,_,_,_,rfl,rfl,T.gD qa yK _,rfl,?_⟩
    refine⟨_,rfl,.inl ⟨rfl,_,cg.of ZN⟩,?_⟩;refine⟨_,rfl,_,rfl,_,rfl,a,_,rfl,SN,λp1 h1=>?_⟩;rw[tU _ _ C9];have t1:=aF (o:=.lst ((y.take (x0.length / 2)).map V.int)) h1;refine⟨_,rfl,_,rfl,dm,_,rfl,.inr (cp t1 (cp sS Gr)),rfl,kK _,p1,_,rfl,y.take (x0.length / 2),cg.of ak,by rw[bh];omega,λH5 pa t2 Mu=>?_⟩;refine⟨_,rfl,_,rfl,_,rfl,a,_,rfl,t2.seq (t1.seq SN),λp2 h2=>?_⟩;rw[tV _ _ C9];have t3:=aF (o:=.lst ((y.drop (x0.length / 2)).map V.int)) h2;refine⟨_,rfl,_,_,rfl,rfl,_,rfl,dm,_,rfl,.inr (cp t3 (cp t2 (cp t1 (cp sS Gr)))),rfl,kK _,p2,_,rfl,y.drop (x0.length / 2),cg.of ak,by rw[cA];omega,λH7 pb t4 Mt=>?_⟩;refine⟨(F1 rfl),λpt VX=>?_⟩;have t5:=aF (o:=.tup [.ref pa,.ref pb]) VX;have tA:bJ H1 (L2.upd H7 pt (.tup [.ref pa,.ref pb])):=λb v z=>t5 b v (t4 b v (t3 b v (t2 b v (t1 b v (sS b v z)))))
    have IT:=tA _ _ hf;refine⟨pf,_,_,rfl,rfl,IT,by rw[af,bc oh,bh];have:(1000:Nat)<sizeLine:=(by decide);omega,?_⟩;refine⟨Ro++ [pt],_,_,_,_,rfl,(q1.trans (.same tA)).uj lJ,by rw[ak,aN];rfl,?_⟩;rw[bN,hLi];refine fG (Paired.ee oh λ_ _ z=>z.keep λb xs zz=>by rw[aH (bW (tA _ _ zz) IT nofun)];exact tA _ _ zz) ?_;refine wI.keep (H:=L2.upd H7 pt (.tup [.ref pa,.ref pb])) ⟨pa,pb,ak,?_,?_⟩ (λb xs zz=>by rw[aH (bW zz IT nofun)];exact zz)
    ·rw[t5 _ _ (t4 _ _ (t3 _ _ Mu))];show some (HO.tup ((IP (rR (.int 3) (qV q)) (y.take (x0.length / 2))).map V.int))=_;rw[show rR (.int 3) (qV q)=_ from nu 3 q];unfold i7;rw[ae hy,ae hy];rfl
    ·rw[t5 _ _ Mt];show some (HO.tup ((IP (rR (.int (3+1)) (qV q)) (y.drop (x0.length / 2))).map V.int))=_;rw[show rR (.int (3+1)) (qV q)=_ from nu (3+1) q];unfold i7;rw[ae hy,ae hy];rfl
def hV:Option Nat->V
 |none=>.eZ
 |some n=>.int n
def Ba(P:List (List Int))(u:acZ)(c:Int):Option V:=(P.findIdx? λx=>x==u++ [c]).map λ(j:Nat)=>V.int j
structure Hd(A:CA)(H:Hp)(t:Addr)(P:List (List Int))(W:List (Option Nat)):Prop where
 ob:∃dx bl hl,H t=some (.ins A.Tree dx [("below",.ref bl),("held",.ref hl)])/\bl≠hl/\H hl=some (.lst (W.map hV))/\∃ds:List Addr,H bl=some (.lst (ds.map V.ref))/\ds.Nodup/\Paired (λd u=>∃kvs,H d=some (.dK kvs)/\kvs.length<=10000000/\∀c:Int,dB kvs (.inl c)=Ba P u c) ds P
 len:W.length=P.length
 root:P[0]?=some []
 nd:P.Nodup
 cl:∀(u:acZ) (c:Int),u++ [c]∈P->u∈P
theorem t6:∀{P:List (List Int)},P.Nodup->∀{i j:Nat} {u:acZ},P[i]?=some u->P[j]?=some u->i=j
 | [],_,i,j,u,hi,_=>by simp at hi
 |x::P,h,0,0,u,_,_=>rfl
 |x::P,h,0,j+1,u,hi,hj=>by
  cases hi;exact absurd (aL (show P[j]?=some x from hj)) (cz.mp h).1
 |x::P,h,i+1,0,u,hi,hj=>by
  cases hj;exact absurd (aL (show P[i]?=some x from hi)) (cz.mp h).1
 |x::P,h,i+1,j+1,u,hi,hj=>by
  rw[t6 (cz.mp h).2 (show P[i]?=some u from hi) (show P[j]?=some u from hj)]
theorem yG{P:List (List Int)}{u:acZ}{c:Int}{v:V}(h:Ba P u c=some v):∃j:Nat,v=.int j/\P[j]?=some (u++ [c]):=by
 unfold Ba at h;cases hf:P.findIdx? (λx=>x==u++ [c]) with
 |none=>rw[hf] at h;cases h
 |some j=>
  rw[hf] at h;cases h;obtain⟨h1,h2,_⟩:=dW.mp hf;exact⟨j,rfl,by rw[aZ h1,eq_of_beq h2]⟩
theorem F3{P:List (List Int)}{u:acZ}{c:Int}(h:Ba P u c=none):u++ [c]∉P:=by
 unfold Ba at h;rw[xo,rW] at h;intro q;have:=h _ q;rw[cK] at this;cases this
theorem Hd.pre{A:CA}{H:Hp}{t:Addr}{P:List (List Int)}{W:List (Option Nat)}(h:Hd A H t P W):∀(r u:acZ),u++r∈P->u∈P:=by
 intro r
 induction r with
 |nil=>intro u q;rwa[aI] at q
 |cons c r ih=>
  intro u q;refine h.cl u c (ih (u++ [c]) ?_);rw[az];exact q
theorem Hd.same{A:CA}{H H':Hp}{t:Addr}{P:List (List Int)}{W:List (Option Nat)}(h:Hd A H t P W)(s:bJ H H'):Hd A H' t P W:=by
 obtain⟨⟨dx,bl,hl,h1,h2,h3,ds,h4,h5,h6⟩,g1,g2,g3,g4⟩:=h;exact⟨⟨dx,bl,hl,s _ _ h1,h2,s _ _ h3,ds,s _ _ h4,h5,Paired.ee h6 λ_ _ ⟨kvs,q,r⟩=>⟨kvs,s _ _ q,r⟩⟩,g1,g2,g3,g4⟩
def ET(K:Frag)(A:CA):Sp:=λvs H Q _=>∃(t:Addr) (i:Nat) (w:Addr),vs=[.ref t,.int i,.ref w]/\∃(P:List (List Int)) (W:List (Option Nat)) (u ws:acZ),Hd A H t P W/\P[i]?=some u/\dJ K H w (ws.map V.int)/\(u++ws∉P->Q .eZ H)/\(∀j:Nat,P[j]?=some (u++ws)->Q (.int j) H)
theorem ya(D:Df K mg "node_behind" l9)(T:Tx mg K A):e7 P w K mg base "node_behind" 1 ["tree","node","letters"] (ET K A):=by
 refine D.iO k5 (λ_ _ _ _ _ _ us hl=>match us,hl with | [_,_,_],_=>rfl) (λvs H Q E h=>by obtain⟨_,_,_,rfl,_⟩:=h;rfl) (λf dG Ar outer s H vs Q E hr h=>?_);obtain⟨t,i,wa,rfl,N,W,u,ws,hT,hi,hw,k1,k2⟩:=h;obtain⟨dx,bl,hl,ht,_,_,ds,nQ,_,IU⟩:=hT.ob;refine⟨_,(aq (iY bP rfl (Ce (pv 2)) (qx 3 k5.nd) (aq (bR (B9 (AW (Gf hr) (pv 3) (fu d5 (bD (pv 0) rfl) (pv 1) (λ_ _=>rfl)))) (aC (aV cN)) bf) (aC (gc 1 k5.nd (J8 (Gf hr) (fu d5 (bD (pv 0) rfl) (pv 1) (λ_ _=>rfl)) (pv 3) (λ_ _=>rfl)))))) (aC (aV (pv 1)))),?_⟩
 refine⟨_,rfl,wa,rfl,⟨_,hw⟩,DC (K:=K) (a:=wa) (xs:=ws.map V.int) (λk σ H1=>∃(j:Nat) (v3:Option V),σ=[some (.ref t),some (.int j),some (.ref wa),v3]/\H1=H/\N[j]?=some (u++ws.take k))
  ⟨i,_,rfl,rfl,by rw[By,aI];exact hi⟩ (λk σ H1 _ ⟨_,_,_,e,_⟩=>by rw[e];exact hw) ?turn ?after⟩
 case after=>
  rintro σ H1 ⟨j,v3,rfl,rfl,hj⟩;rw[af,cM] at hj;exact⟨_,rfl,k2 j hj⟩
 case turn=>
  rintro k x σ H1 hk ⟨j,v3,rfl,rfl,hj⟩;rw[aM] at hk;cases hc:ws[k]? with
  |none=>rw[hc] at hk;cases hk
  |some c=>
  rw[hc] at hk;cases hk;obtain⟨d,P2,kvs,hd2,_,IV⟩:=kf IU hj;have Rj:Em (ds.map V.ref) (j:Int)=some (.ref d):=at_of (j:=j) rfl (by rw[aM,P2];rfl);refine⟨_,rfl,_,rfl,t,_,dx,_,_,rfl,ht,T.iz,T.eE,rfl,_,rfl,bl,_,_,_,rfl,rfl,cg.of nQ,Rj,d,_,rfl,wJ.k (k:=.inl c) hd2,_,rfl,?_⟩;rw[IV];have ets:u++ws.take (k+1)=u++ws.take k++ [c]:=by
   rw[bN,hc,az];rfl
  cases S1:Ba N (u++ws.take k) c with
  |none=>
   refine bI (k1 λq=>F3 S1 ?_);rw[<-ets];refine hT.pre (ws.drop (k+1)) _ ?_;rw[az,zw];exact q
  |some v=>
   obtain⟨j2,rfl,V8⟩:=yG S1;refine bO ⟨_,rfl,t,_,dx,_,_,rfl,ht,T.iz,T.eE,rfl,_,rfl,bl,_,_,_,rfl,rfl,cg.of nQ,Rj,_,rfl,d,.int j2,rfl,?_,?_⟩
   ·have:=wJ.k (k:=.inl c) hd2;rw[IV,S1] at this;exact this
   ·exact⟨j2,_,rfl,rfl,by rw[ets];exact V8⟩
structure K7(A:CA)(H0 H:Hp)(t:Addr)(P:List (List Int))(W:List (Option Nat)):Prop where
 sm:bJ H0 H
 ob:∃dx bl hl,H t=some (.ins A.Tree dx [("below",.ref bl),("held",.ref hl)])/\bl≠hl/\H hl=some (.lst (W.map hV))/\H0 bl=.none/\H0 hl=.none/\∃ds:List Addr,H bl=some (.lst (ds.map V.ref))/\ds.Nodup/\(∀d∈ds,H0 d=.none)/\Paired (λd u=>∃kvs,H d=some (.dK kvs)/\kvs.length<=P.length/\∀c:Int,dB kvs (.inl c)=Ba P u c) ds P
 len:W.length=P.length
 root:P[0]?=some []
 nd:P.Nodup
 cl:∀(u:acZ) (c:Int),u++ [c]∈P->u∈P
theorem K7.tr{A:CA}{H0 H:Hp}{t:Addr}{P:List (List Int)}{W:List (Option Nat)}(h:K7 A H0 H t P W)(hl:P.length<=10000000):Hd A H t P W:=by
 obtain⟨_,⟨dx,bl,De,h1,h2,h3,_,_,ds,h4,h5,_,h6⟩,g1,g2,g3,g4⟩:=h;exact⟨⟨dx,bl,De,h1,h2,h3,ds,h4,h5,Paired.ee h6 λ_ _ ⟨kvs,q,r,r'⟩=>⟨kvs,q,by omega,r'⟩⟩,g1,g2,g3,g4⟩
def xD(A:CA):Sp:=λvs H Q _=>∃(t:Addr),vs=[.ref t]/\∃(dx:Addr) (H0:Hp),bJ H0 H/\H0 t=.none/\H t=some (.ins A.Tree dx [])/\∀H',K7 A H0 H' t [[]] [none]->Q .eZ H'
theorem Pp(c:Int):Ba [[]] [] c=none:=by
 unfold Ba;rw[Hz];rfl
theorem uM(D:Q4 K "Tree.__init__" A.Tree ka)(T:Tx mg K A):lB P w K mg base "Tree" A.Tree 1 ["self"] (xD A):=by
 refine D.iO T.VC ux (λ_ _ _ _ _ _ us hl=>match us,hl with | [_],_=>rfl) (λvs H Q E h=>by obtain⟨_,rfl,_⟩:=h;rfl) (λf dG Ar outer s H vs Q E hr h=>?_);obtain⟨t,rfl,dx,H0,s0,ht0,ht,k⟩:=h;refine⟨_,(aq (dH (pv 0) (dD (aj Fg aB)) rfl) (aC (dH (pv 0) (dD (aj cN aB)) rfl))),?_⟩;refine λd hd=>⟨(F1 rfl),λbl nQ=>?_⟩
 have s1:bJ H (L2.upd (L2.upd H d (.dK [])) bl (.lst [.ref d])):=λb v z=>aF nQ b v (aF hd b v z)
 refine⟨_,rfl,t,_,dx,_,rfl,s1 _ _ ht,T.iz,T.eE,(uU rfl),?_⟩;have ZY:bl≠t:=λz=>by subst z;rw[aF hd _ _ ht] at nQ;cases nQ
 have hdt:d≠t:=λz=>by subst z;rw[ht] at hd;cases hd
 have Bh:d≠bl:=λz=>by subst z;rw[ak] at nQ;cases nQ
 refine⟨(F1 rfl),λhl ue=>?_⟩;refine⟨_,rfl,t,_,dx,_,rfl,aF ue _ _ ak,T.iz,T.jV,(uU rfl),?_⟩;have hht:hl≠t:=λz=>by subst z;rw[ak] at ue;cases ue
 have hhb:bl≠hl:=λz=>by subst z;rw[aH ZY,ak] at ue;cases ue
 have Xj:d≠hl:=λz=>by subst z;rw[aH hdt,aH Bh,ak] at ue;cases ue
 have acr:H0 bl=.none:=same_none s0 (same_none (aF hd) nQ);have S7:H0 d=.none:=same_none s0 hd;have aca:H0 hl=.none:=by
  refine same_none s0 (same_none s1 ?_);rw[aH hht] at ue;exact ue
 refine k _ ⟨?_,⟨dx,bl,hl,ak,hhb,?_,acr,aca,[d],?_,cz.mpr ⟨(λq=>by cases q),lU⟩,λx hx=>by rw[aE.mp hx];exact S7,.cons ⟨[],?_,aD _,λc=>(Pp c).symm⟩ .nil⟩,rfl,rfl,cz.mpr ⟨(λq=>by cases q),lU⟩,λu c q=>by
  have:=aE.mp q
  simp at this⟩
 ·intro b v z;have ZX:b≠t:=λe=>by rw[e,ht0] at z;cases z
  rw[aH ZX];refine aF ue b v ?_;rw[aH ZX];exact s1 b v (s0 b v z)
 ·rw[aH hht,ak];rfl
 ·rw[aH ZY,aH hhb,aH ZY,ak];rfl
 ·rw[aH hdt,aH Xj,aH hdt,aH Bh,ak]
theorem J3{α β:Type}{F G:α->β->Prop}:∀{kh:List α} {kJ:List β},Paired F kh kJ->(∀(i:Nat) a b,kh[i]?=some a->kJ[i]?=some b->F a b->G a b)->Paired G kh kJ
 |_,_,.nil,_=>.nil
 |_,_,.cons q t,h=>.cons (h 0 _ _ rfl rfl q) (J3 t λi a b ha hb=>h (i+1) a b ha hb)
theorem yH{P:List (List Int)}{x u:acZ}{c:Int}:Ba (P++ [x]) u c=match Ba P u c with
  |some v=>some v
  |none=>if x=u++ [c] then some (.int (P.length:Nat)) else none:=by
 unfold Ba;rw[List.findIdx?_append];cases hf:P.findIdx? (λy=>y==u++ [c]) with
 |some j=>rfl
 |none=>
  grind
theorem K7.grow{A:CA}{H0 H H5:Hp}{t dx bl hl d d2:Addr}{P:List (List Int)}{W:List (Option Nat)}{ds:ac1}{kvs:List (Key×V)}{j:Nat}{u:acZ}{c:Int}(h:K7 A H0 H t P W) (ht:H t=some (.ins A.Tree dx [("below",.ref bl),("held",.ref hl)])) (UJ:bl≠hl) (Xl:H0 bl=.none) (Wb:H0 hl=.none) (tF:ds.Nodup) (S7:∀d∈ds,H0 d=.none) (IU:Paired (λd u=>∃kvs,H d=some (.dK kvs)/\kvs.length<=P.length/\∀c:Int,dB kvs (.inl c)=Ba P u c) ds P) (hj:P[j]?=some u) (hdj:ds[j]?=some d) (hd:H d=some (.dK kvs)) (PQ:kvs.length<=P.length) (hv:∀c:Int,dB kvs (.inl c)=Ba P u c) (hk:Ba P u c=none) (OQ:H d2=.none) (e1:∀b,b≠d->b≠d2->b≠bl->b≠hl->H5 b=H b) (e2:H5 d=some (.dK (putK kvs (.inl c) (.int (P.length:Nat))))) (e3:H5 d2=some (.dK [])) (e4:H5 bl=some (.lst ((ds++ [d2]).map V.ref))) (e5:H5 hl=some (.lst ((W++ [none]).map hV))) (nQ:∃xs,H bl=some (.lst xs)) (ue:∃xs,H hl=some (.lst xs)):K7 A H0 H5 t (P++ [u++ [c]]) (W++ [none]):=by
 obtain⟨sm,_,g1,g2,g3,g4⟩:=h;obtain⟨xs,nQ⟩:=nQ;obtain⟨ys,ue⟩:=ue;have IM:u++ [c]∉P:=F3 hk;have ack:H0 d2=.none:=same_none sm OQ;have Dc:d∈ds:=aL hdj;have htd:t≠d:=bW ht hd nofun;have Gg:t≠d2:=bo ht OQ;have htb:t≠bl:=bW ht nQ nofun;have hth:t≠hl:=bW ht ue nofun;refine⟨λb v z=>?_,⟨dx,bl,hl,by rw[e1 t htd Gg htb hth];exact ht,UJ,e5,Xl,Wb,ds++ [d2],e4,?_,?_,?_⟩,?_,?_,?_,?_⟩
 ·rw[e1 b (λq=>by rw[q,S7 d Dc] at z;cases z) (λq=>by rw[q,ack] at z;cases z) (λq=>by rw[q,Xl] at z;cases z) (λq=>by rw[q,Wb] at z;cases z)];exact sm b v z
 ·have hn2:d2∉ds:=λq=>by
   obtain⟨i,hi⟩:=jq q;obtain⟨b,_,kv,UC,_⟩:=gq IU hi;rw[OQ] at UC;cases UC
  grind
 ·grind
 ·refine fG (J3 IU λi d' u' hi Za ⟨kv,UC,acT,ab6⟩=>?_) ?_
  ·by_cases Hn:i=j
   ·subst Hn;rw[hdj] at hi;cases hi;rw[hj] at Za;cases Za;refine⟨_,e2,?_,λc'=>?_⟩
    ·have:=lI kvs (.inl c) (.int (P.length:Nat));rw[aw];show _<=P.length+1;omega
    ·rw[iQ,yH];by_cases hc:c'=c
     ·grind
     ·rw[ae (λq=>hc (Sum.inl.inj q)),hv];cases V7:Ba P u c' with
      |some v=>rfl
      |none=>
       simp only;rw[ae (λq=>hc (by have:=aaG q;cases this;rfl))]
   ·have gT:d'≠d:=λq=>Hn (by
     subst q;have:∀{l:ac1},l.Nodup->∀{i j:Nat} {x:Addr},l[i]?=some x->l[j]?=some x->i=j:=λ{l} hl=>by
      intro i j x h1 h2;obtain⟨a1,b1⟩:=aG.mp h1;obtain⟨a2,b2⟩:=aG.mp h2;exact(List.getElem_inj hl).mp (b1.trans b2.symm)
     exact this tF hi hdj)
    refine⟨kv,?_,by rw[aw];omega,λc'=>?_⟩
    ·grind
    ·rw[ab6,yH];cases V7:Ba P u' c' with
     |some v=>rfl
     |none=>
      simp only;rw[ae];intro q;have zv:u'=u:=by
       have:=bb List.dropLast q
       grind
      subst zv;exact Hn (t6 g3 Za hj)
  ·refine⟨[],e3,aD _,λc'=>?_⟩;show none=_;rw[yH];have V7:Ba P (u++ [c]) c'=none:=by
    cases V7:Ba P (u++ [c]) c' with
    |none=>rfl
    |some v=>
     obtain⟨_,_,h2⟩:=yG V7;exact absurd (g4 _ _ (aL h2)) IM
   rw[V7];simp only;rw[ae];intro q;have:=bb List.length q;rw[aw (bs:=[c'])] at this;simp at this
 ·rw[aw,aw,g1];rfl
 ·grind
 ·grind
 ·intro v c' q;rcases bx.mp q with q|q
  ·exact jn _ (g4 v c' q)
  ·have W7:v=u:=by
    have:=bb List.dropLast (aE.mp q);rw[BB,BB] at this;exact this
   rw[W7];exact jn _ (aL hj)
def N5(K:Frag)(A:CA):Sp:=λvs H Q _=>∃(t wa:Addr) (n:Nat),vs=[.ref t,.ref wa,.int n]/\∃(H0:Hp) (P:List (List Int)) (W:List (Option Nat)) (ws:acZ),K7 A H0 H t P W/\cg K H0 wa (ws.map V.int)/\P.length+ws.length<=9000000/\
 ∀H' P' W',K7 A H0 H' t P' W'->(∃e,P'=P++e)->P'.length<=P.length+ws.length->(∀u,u∈P'↔u∈P\/u <+:ws)->(∀(j:Nat) u,P'[j]?=some u->W'[j]?=some (if u=ws then some n else(W[j]?).join))->Q .eZ H'
theorem Fb{ws:acZ}{k:Nat}{c:Int}(hc:ws[k]?=some c)(u:acZ):u <+:ws.take (k+1)↔(u <+:ws.take k\/u=ws.take k++ [c]):=by
 rw[bN,hc];show u <+:ws.take k++ [c]↔_;rw[List.prefix_concat_iff];exact⟨λh=>h.elim .inr .inl,λh=>h.elim .inr .inl⟩
theorem Cu(D:K9 K "hold" "Tree.hold" A.Tree oJ)(T:Tx mg K A):d4 P w K mg base A.Tree "hold" 1 ["self","letters","what"] (N5 K A):=by
 refine D.iO kH (λ_ _ _ _ _ _ us hl=>match us,hl with | [_,_,_],_=>rfl) (λvs H Q E h=>by obtain⟨_,_,_,rfl,_⟩:=h;rfl) (λf dG Ar outer s H vs Q E hr h=>?_);obtain⟨t,wa,n,rfl,H0,N,W,ws,hT,hw,hlen,k⟩:=h;refine⟨_,(aq (gc 3 kH.nd (dP rfl T.I0)) (aq (iY bP rfl (lF (pv 1)) (qx 4 kH.nd) (aq (bR (B9 (AW (Gf hr) (pv 4) (fu d5 (bD (pv 0) rfl) (pv 3) (λ_ _=>rfl)))) (aq (RM (Gf hr) (fu d5 (bD (pv 0) rfl) (pv 3) (λ_ _=>rfl)) (pv 4) (bV bG rfl T.eI B.dh (aj (bD (pv 0) rfl) aB)) rfl) (aq (cY (jU bp bu bq dc (bD (pv 0) rfl) (aj Fg aB))) (aC (cY (jU bp bu bq dc (bD (pv 0) rfl) (aj cN aB)))))) bf) (aC (gc 3 kH.nd (J8 (Gf hr) (fu d5 (bD (pv 0) rfl) (pv 3) (λ_ _=>rfl)) (pv 4) (λ_ _=>rfl)))))) (aC (Vi (pv 2) (Vj (bD (pv 0) rfl) (pv 3) set_list))))),?_⟩;have hwS:∀{H1:Hp} {N1:List (List Int)} {W1:List (Option Nat)},K7 A H0 H1 t N1 W1->cg K H1 wa (ws.map V.int):=λh=>h.sm.seq hw
 refine⟨_,rfl,wa,rfl,⟨_,hwS hT⟩,GJ (K:=K) (a:=wa) (xs:=ws.map V.int) (λi σ H1=>∃(j:Nat) (N1:List (List Int)) (W1:List (Option Nat)) (v4:Option V),σ=[some (.ref t),some (.ref wa),some (.int n),some (.int j),v4]/\K7 A H0 H1 t N1 W1/\N1[j]?=some (ws.take i)/\(∃e,N1=N++e)/\N1.length<=N.length+i/\(∀u,u∈N1↔u∈N\/u <+:ws.take i)/\∀m:Nat,(W1[m]?).join=(W[m]?).join)
  ⟨0,N,W,_,rfl,hT,hT.root,⟨[],(aI _).symm⟩,aA _,λu=>⟨.inl,λz=>z.elim id λz=>by rw[By,List.prefix_nil] at z;rw[z];exact aL hT.root⟩,λ_=>rfl⟩
  (λi σ H1 _ ⟨_,_,_,_,_,h,_⟩=>hwS h) ?turn ?after⟩
 case after=>
  rintro σ H1 ⟨j,N1,W1,v4,rfl,T1,hj,he,hl,hu,hW⟩;rw[af,cM] at hj hu;rw[af] at hl;have T1':=T1;obtain⟨sm,⟨dx,bl,De,ht,UJ,ue,Xl,Wb,ds,nQ,tF,S7,IU⟩,g1,g2,g3,g4⟩:=T1;have hjl:j<N1.length:=(aG.mp hj).1;refine⟨_,rfl,_,rfl,t,_,dx,_,_,rfl,ht,T.iz,T.jV,rfl,_,rfl,De,_,_,j,rfl,rfl,ue,?_,?_⟩
  ·unfold Q9
   grind
  ·have eS:(W1.map hV).set j (.int n)=(W1.set j (some n)).map hV:=by rw[List.map_set];rfl
   rw[eS];refine k _ N1 (W1.set j (some n)) ⟨λb v z=>?_,⟨dx,bl,De,?_,UJ,ak,Xl,Wb,ds,?_,tF,S7,Paired.ee IU λd u ⟨kv,h1,h2,h3⟩=>⟨kv,?_,h2,h3⟩⟩,by rw[Rv];exact g1,g2,g3,g4⟩ he hl hu ?_
   ·rw[aH (λq=>by rw[q,Wb] at z;cases z)];exact sm b v z
   ·rw[aH (bW ht ue nofun)];exact ht
   ·rw[aH UJ];exact nQ
   ·rw[aH (bW h1 ue nofun)];exact h1
   ·intro m u hm;by_cases Xf:m=j
    ·grind
    ·rw[nW (cv Xf),ae (show ¬u=ws from λq=>Xf (t6 g3 hm (by rw[q];exact hj))),<-hW]
     grind
 case turn=>
  rintro i x σ H1 hx ⟨j,N1,W1,v4,rfl,T1,hj,he,hl,hu,hW⟩;rw[aM] at hx;cases hc:ws[i]? with
  |none=>rw[hc] at hx;cases hx
  |some c=>
  rw[hc] at hx;cases hx;have T1':=T1;obtain⟨sm,⟨dx,bl,De,ht,UJ,ue,Xl,Wb,ds,nQ,tF,S7,IU⟩,g1,g2,g3,g4⟩:=T1;obtain⟨d,P2,kvs,hd2,PQ,IV⟩:=kf IU hj;have Nk:i<ws.length:=(aG.mp hc).1;have Rg:ds.length=N1.length:=bc IU;have Rj:Em (ds.map V.ref) (j:Int)=some (.ref d):=at_of (j:=j) rfl (by rw[aM,P2];rfl);have ets:ws.take (i+1)=ws.take i++ [c]:=by
   rw[bN,hc];rfl
  refine⟨_,rfl,_,rfl,t,_,dx,_,_,rfl,ht,T.iz,T.eE,rfl,_,rfl,bl,_,_,_,rfl,rfl,cg.of nQ,Rj,d,_,rfl,wJ.k (k:=.inl c) hd2,_,rfl,?_⟩;rw[IV];cases S1:Ba N1 (ws.take i) c with
  |some v=>
   obtain⟨j2,rfl,V8⟩:=yG S1;refine bO ⟨_,rfl,t,_,dx,_,_,rfl,ht,T.iz,T.eE,rfl,_,rfl,bl,_,_,_,rfl,rfl,cg.of nQ,Rj,_,rfl,d,.int j2,rfl,?_,?_⟩
   ·have:=wJ.k (k:=.inl c) hd2;rw[IV,S1] at this;exact this
   ·refine⟨j2,N1,W1,_,rfl,T1',by rw[ets];exact V8,he,by omega,λu=>?_,hW⟩;rw[hu,Fb hc]
    grind
  |none=>
   refine bI ⟨_,rfl,t,_,dx,_,_,rfl,ht,T.iz,T.eE,rfl,bl,_,rfl,.inl (cg.of nQ),?_⟩;rw[af,Rg];refine⟨_,rfl,t,_,dx,_,_,rfl,ht,T.iz,T.eE,rfl,_,rfl,bl,_,_,_,rfl,rfl,cg.of nQ,Rj,_,rfl,d,_,rfl,Q5.k (k:=.inl c) hd2 (by have:(10000001:Nat)<sizeLine:=(by decide);omega),?_⟩;have ht2:(L2.upd H1 d (.dK (putK kvs (.inl c) (.int (N1.length:Nat))))) t=some (.ins A.Tree dx [("below",.ref bl),("held",.ref De)]):=by rw[aH (bW ht hd2 nofun)];exact ht
   have Z1:(L2.upd H1 d (.dK (putK kvs (.inl c) (.int (N1.length:Nat))))) bl=some (.lst (ds.map V.ref)):=by rw[aH (bW nQ hd2 nofun)];exact nQ
   have ab9:(L2.upd H1 d (.dK (putK kvs (.inl c) (.int (N1.length:Nat))))) De=some (.lst (W1.map hV)):=by rw[aH (bW ue hd2 nofun)];exact ue
   refine⟨_,rfl,t,_,dx,_,_,rfl,ht2,T.iz,T.eE,rfl,.inl ⟨rfl,_,cg.of Z1⟩,λd2 OQ=>⟨bl,_,_,rfl,rfl,aF OQ _ _ Z1,?_,?_⟩⟩
   ·rw[af,Rg];have:(10000001:Nat)<sizeLine:=by decide
    omega
   have ZT:d≠d2:=λq=>by subst q;rw[ak] at OQ;cases OQ
   have nd1:H1 d2=.none:=by rw[aH (cv ZT)] at OQ;exact OQ
   have acj:d2≠bl:=cv (bo nQ nd1);have aci:d2≠De:=cv (bo ue nd1);have Bh:d≠bl:=cv (bW nQ hd2 nofun);have hdh:d≠De:=cv (bW ue hd2 nofun);have htb:t≠bl:=bW ht nQ nofun;have hth:t≠De:=bW ht ue nofun;have ht4:(L2.upd (L2.upd (L2.upd H1 d (.dK (putK kvs (.inl c) (.int (N1.length:Nat))))) d2 (.dK [])) bl (.lst (ds.map V.ref++ [V.ref d2]))) t=some (.ins A.Tree dx [("below",.ref bl),("held",.ref De)]):=by rw[aH htb];exact aF OQ _ _ ht2
   have ZJ:(L2.upd (L2.upd (L2.upd H1 d (.dK (putK kvs (.inl c) (.int (N1.length:Nat))))) d2 (.dK [])) bl (.lst (ds.map V.ref++ [V.ref d2]))) De=some (.lst (W1.map hV)):=by rw[aH (cv UJ)];exact aF OQ _ _ ab9
   refine⟨_,rfl,t,_,dx,_,_,rfl,ht4,T.iz,T.jV,rfl,.inl ⟨rfl,_,cg.of ZJ⟩,De,_,_,rfl,rfl,ZJ,?_,?_⟩
   ·rw[af,g1];have:(10000001:Nat)<sizeLine:=by decide
    omega
   generalize hH5:L2.upd (L2.upd (L2.upd (L2.upd H1 d (.dK (putK kvs (.inl c) (.int (N1.length:Nat))))) d2 (.dK [])) bl (.lst (ds.map V.ref++ [V.ref d2]))) De (.lst (W1.map hV++ [V.eZ]))=H5;have e1:∀b,b≠d->b≠d2->b≠bl->b≠De->H5 b=H1 b:=λb q1 q2 q3 q4=>by rw[<-hH5,aH q4,aH q3,aH q2,aH q1]
   have e2:H5 d=some (.dK (putK kvs (.inl c) (.int (N1.length:Nat)))):=by rw[<-hH5,aH hdh,aH Bh,aH ZT,ak]
   have e3:H5 d2=some (.dK []):=by rw[<-hH5,aH aci,aH acj,ak]
   have e4:H5 bl=some (.lst ((ds++ [d2]).map V.ref)):=by rw[<-hH5,aH UJ,ak,aN];rfl
   have e5:H5 De=some (.lst ((W1++ [none]).map hV)):=by rw[<-hH5,ak,aN];rfl
   have T5:=T1'.grow (c:=c) ht UJ Xl Wb tF S7 IU hj P2 hd2 PQ IV S1 nd1 e1 e2 e3 e4 e5 ⟨_,nQ⟩ ⟨_,ue⟩;have ht5:H5 t=some (.ins A.Tree dx [("below",.ref bl),("held",.ref De)]):=by rw[e1 t (bW ht hd2 nofun) (bo ht nd1) htb hth];exact ht
   have hjd:j<ds.length:=(aG.mp P2).1;have acu:Em ((ds++ [d2]).map V.ref) (j:Int)=some (.ref d):=at_of (j:=j) rfl (by rw[aM,j1 hjd,P2];rfl);refine⟨_,rfl,t,_,dx,_,_,rfl,ht5,T.iz,T.eE,rfl,_,rfl,bl,_,_,_,rfl,rfl,cg.of e4,acu,_,rfl,d,.int (N1.length:Nat),rfl,?_,?_⟩
   ·have:=wJ.k (k:=.inl c) e2;rw[iQ,ah rfl] at this;exact this
   ·obtain⟨e,he⟩:=he;refine⟨N1.length,N1++ [ws.take i++ [c]],W1++ [none],_,rfl,T5,?_,⟨e++ [ws.take i++ [c]],by rw[he,az]⟩,by rw[aw];show N1.length+1<=_;omega,λu=>?_,λm=>?_⟩
    ·grind
    ·rw[bx,aE,hu,Fb hc,or_assoc]
    ·rw[<-hW];by_cases hm:m<W1.length
     ·rw[j1 hm]
     ·rw[List.getElem?_append_right (by omega),zy (l:=W1) (by omega)];cases m - W1.length with
      |zero=>rfl
      |succ z=>rfl
theorem K7.same{A:CA}{H0 H H':Hp}{t:Addr}{P:List (List Int)}{W:List (Option Nat)}(h:K7 A H0 H t P W)(s:bJ H H'):K7 A H0 H' t P W:=by
 obtain⟨sm,⟨dx,bl,hl,h1,h2,h3,h4,h5,ds,h6,h7,h8,h9⟩,g1,g2,g3,g4⟩:=h;exact⟨sm.trans s,⟨dx,bl,hl,s _ _ h1,h2,s _ _ h3,h4,h5,ds,s _ _ h6,h7,h8,Paired.ee h9 λ_ _ ⟨kv,q,r⟩=>⟨kv,s _ _ q,r⟩⟩,g1,g2,g3,g4⟩
def EL(A:CA):Sp:=λvs H Q _=>∃(wl:Addr),vs=[.ref wl]/\∃(rs:ac1) (X:List (List Int)),H wl=some (.lst (rs.map V.ref))/\Paired (LI H) rs X/\X.Nodup/\X.length<=5000/\(∀x∈X,x.length<=40)/\
 ∀H' t P W,bJ H H'->Hd A H' t P W->(∀u,u∈P↔u=[]\/∃x∈X,u <+:x)->(∀(j:Nat) u,P[j]?=some u->W[j]?=some (X.findIdx? λx=>x==u))->Q (.ref t) H'
theorem ML(l:List (List Int))(x u:acZ):((l++ [x]).findIdx? λy=>y==u)=match l.findIdx? (λy=>y==u) with
  |some j=>some j
  |none=>if x=u then some l.length else none:=by
 rw[List.findIdx?_append];cases l.findIdx? (λy=>y==u) with
 |some j=>rfl
 |none=>
  grind
theorem To{l:List (List Int)}{u:acZ}(h:u∉l):(l.findIdx? λy=>y==u)=none:=by
 grind
theorem uJ(D:Df K mg "tree_of_words" j7)(T:Tx mg K A)(mC:lB P w K mg base "Tree" A.Tree 1 ["self"] (xD A))(pH:d4 P w K mg base A.Tree "hold" 1 ["self","letters","what"] (N5 K A)):e7 P w K mg base "tree_of_words" 3 ["words"] (EL A):=by
 refine D.iO gL (λ_ _ _ _ _ _ us hl=>match us,hl with | [_],_=>rfl) (λvs H Q E h=>by obtain⟨_,rfl,_⟩:=h;rfl) (λf dG Ar outer s H vs Q E hr h=>?_);obtain⟨wl,rfl,rs,X,Nh,hX,tF,Eg,zv,k⟩:=h;refine⟨_,(aq (gc 1 gL.nd (AV mC hr.m rfl)) (aq (iY bP rfl (lG rfl T.eJ (aj (pv 0) aB)) (uG rfl (eB (qx 2 gL.nd) (eB (qx 3 gL.nd) lH))) (aC (cY (cy (pv 1) T.iz pH hr.m (aj (pv 3) (aj (pv 2) aB)))))) (aC (aV (pv 1))))),?_⟩;intro t dx nt FD Se;refine⟨t,rfl,dx,H,e8 nt FD,nt,ak,λH2 T2=>⟨rfl,?_⟩⟩;have Ef:(rs.map V.ref).length=X.length:=by rw[af,bc hX]
 refine⟨_,rfl,wl,_,rfl,cg.of (T2.sm _ _ Nh),o7 (K:=K) (a:=wl) (xs:=rs.map V.ref) (λi σ H1=>∃(N:List (List Int)) (W:List (Option Nat)) (v2 v3:Option V),σ=[some (.ref wl),some (.ref t),v2,v3]/\K7 A H H1 t N W/\N.length<=1+40*i/\(∀u,u∈N↔u=[]\/∃x∈X.take i,u <+:x)/\∀(j:Nat) u,N[j]?=some u->W[j]?=some ((X.take i).findIdx? λx=>x==u))
  ⟨[[]],[none],_,_,rfl,T2,aA _,λu=>⟨λq=>.inl (aE.mp q),λq=>q.elim (λq=>by rw[q];exact aR) λ⟨x,hx,_⟩=>by rw[By] at hx;cases hx⟩,λj u hj=>by
   cases j with
   |zero=>rfl
   |succ j=>simp at hj⟩
  (λi σ H1 _ ⟨_,_,_,_,_,h,_⟩=>cg.of (h.sm _ _ Nh)) ?turn ?after⟩
 case after=>
  rintro σ H1 ⟨N,W,v2,v3,rfl,T1,hN,hu,hW⟩;rw[Ef] at hN hu hW;rw[cM] at hu hW;exact⟨_,rfl,k H1 t N W T1.sm (T1.tr (by omega)) hu hW⟩
 case turn=>
  rintro i x σ H1 Tp hi ⟨N,W,v2,v3,rfl,T1,hN,hu,hW⟩ Xn;rw[aM] at hi;cases ha:rs[i]? with
  |none=>rw[ha] at hi;cases hi
  |some a=>
  rw[ha] at hi;cases hi;obtain⟨y,Ra,Y8⟩:=gq hX ha;have Nk:i<X.length:=(aG.mp Ra).1;have W6:=zv y (aL Ra);have T2:=T1.same (aF (o:=.tup [.int i,.ref a]) Xn);have Hq:X.take (i+1)=X.take i++ [y]:=by rw[bN,Ra];rfl
  have hyn:y∉X.take i:=λq=>by
   obtain⟨m,hm⟩:=jq q;have hmi:m<i:=by
    grind
   rw[kz hmi] at hm;have:=t6 tF hm Ra;omega
  have Ks:(X.take i).length=i:=by rw[bh];omega
  obtain⟨dt,bl,hl,htt,_⟩:=T2.ob;refine⟨Tp,_,rfl,dJ.of ak,rfl,_,_,rfl,_,_,rfl,rfl,?_⟩;refine⟨_,rfl,t,dt,_,rfl,htt,rfl,_,rfl,_,rfl,t,a,i,rfl,H,N,W,y,T2,cg.of Y8,by omega,λH3 N3 W3 T3 ⟨e,he⟩ hl3 hu3 hW3=>?_⟩;refine⟨N3,W3,_,_,rfl,T3,by omega,λu=>?_,λj u hj=>?_⟩
  ·grind
  ·rw[hW3 j u hj,Hq,ML];by_cases huy:u=y
   ·grind
   ·rw[ae huy];by_cases hjN:j<N.length
    ·grind
    ·have hun:u∉X.take i:=λq=>by
      have hm:u∈N:=(hu u).mpr (.inr ⟨u,q,List.prefix_refl u⟩);obtain⟨m,hm⟩:=jq hm;have Rf:=(aG.mp hm).1;have hm3:N3[m]?=some u:=by rw[he,j1 Rf];exact hm
      have:=t6 T3.nd hm3 hj;omega
     rw[To hun,zy (by have:=T2.len;omega)];simp only;rw[ae (λq=>huy q.symm)];rfl
def du(p:Sg->Bool):Nat->List Sg->List Nat
 |_,[]=>[]
 |n,s::l=>if p s=true then n::du p (n+1) l else du p (n+1) l
theorem gK(p:Sg->Bool)(s:Sg):∀(l:List Sg) (n:Nat),du p n (l++ [s])=if p s=true then du p n l++ [n+l.length] else du p n l
 | [],n=>by
  show(if p s=true then n::[] else [])=_;split <;> rfl
 |x::l,n=>by
  show(if p x=true then n::du p (n+1) (l++ [s]) else du p (n+1) (l++ [s]))=if p s=true then(if p x=true then n::du p (n+1) l else du p (n+1) l)++ [n+(l.length+1)] else(if p x=true then n::du p (n+1) l else du p (n+1) l)
  rw[gK p s l (n+1),show n+1+l.length=n+(l.length+1) by omega];by_cases h1:p x=true
  ·rw[ah h1,ah h1];by_cases h2:p s=true
   ·rw[ah h2,ah h2];rfl
   ·rw[ae h2,ae h2]
  ·rw[ae h1,ae h1]
theorem gG(p:Sg->Bool):∀(l:List Sg) (n:Nat),(du p n l).length<=l.length
 | [],_=>aA _
 |s::l,n=>by
  unfold du;have:=gG p l (n+1);split
  ·rw[aJ,aJ];omega
  ·rw[aJ];omega
def YA(sl nb lk kn:Addr):List (Str×V):=[("signs",.ref sl),("numbers",.ref nb),("looks",.ref lk),("known",.ref kn)]
def Ah(k:Int)(s:Sg):Bool:=decide ((s.rows.length:Int)<=k)&&decide (((s.rows.headD []).length:Int)<=k)
def Uj(A:CA):Sp:=λvs H Q _=>∃(po:Addr) (k:Int),vs=[.ref po,.int k]/\∃(dx sl nb lk kn:Addr) (as:ac1) (Z:ac7) (l:List Sg),H po=some (.ins A.bw dx (YA sl nb lk kn))/\H sl=some (.lst (as.map V.ref))/\Paired (gJ A Z H) as l/\(∀s∈l,s.rows≠[])/\l.length<=512/\
 ∀H' p,bJ H H'->H' p=some (.lst (qV (du (Ah k) 0 l)))->Q (.ref p) H'
theorem qm(D:K9 K "fitting" "Possible.fitting" A.bw fQ)(T:Tx mg K A):d4 P w K mg base A.bw "fitting" 1 ["self","size"] (Uj A):=by
 refine D.iO fB (λ_ _ _ _ _ _ us hl=>match us,hl with | [_,_],_=>rfl) (λvs H Q E h=>by obtain⟨_,_,rfl,_⟩:=h;rfl) (λf dG Ar outer s H vs Q E hr h=>?_);obtain⟨po,k0,rfl,dx,sl,nb,lk,kn,as,Z,l,Nj,zt,hl,gT,hlen,k⟩:=h;refine⟨_,(aC (aV (sD (own:=[("number",2),("sign",3)]) rfl fB.nd (lG rfl T.eJ (aj (bD (pv 0) rfl) aB)) (g9 (by show wH ["self","size","number","sign"] (aO fQ) _ _=true;decide +kernel)) (λ_ _ _ _ _=>(Cf (K:=K) (n:=2) rfl rfl (eB (qx 2 fB.nd) (eB (qx 3 fB.nd) lH)))) (λ_ _ _ _ _=>(JZ (PW.pt (B7 (bC kq (bV (yB (K:=K) rfl) rfl T.eI B.dh (aj (wQ (K:=K) rfl (pv 3) rfl) aB)) (pv 1) (bL _)) (wO (bC kq (bV (yB (K:=K) rfl) rfl T.eI B.dh (aj (fu (yI (K:=K) rfl) (wQ (K:=K) rfl (pv 3) rfl) cF (λ_ _=>rfl)) aB)) (pv 1) (bL _))))))) (λ_ _ _ _ _=>(pv 2))))),?_⟩;refine⟨_,rfl,po,_,dx,_,_,rfl,Nj,T.bS,T.eN,rfl,sl,_,rfl,cg.of zt,λD hD=>?_⟩;refine CV (K:=K) (a:=sl) (xs:=as.map V.ref) (λi H1=>KE H H1/\H1 D=some (.lst (qV (du (Ah k0) 0 (l.take i))))) ⟨.new hD,ak⟩ (λi H1 _ ⟨q1,_⟩=>cg.of (q1.kp _ _ zt λz=>z)) ?_ ?_
 ·rintro i x H1 Tp hi ⟨q1,Ej⟩ hT;rw[aM] at hi;cases ha:as[i]? with
  |none=>rw[ha] at hi;cases hi
  |some a=>
  rw[ha] at hi;cases hi;obtain⟨s,w8,tE⟩:=gq hl ha;have Nk:i<l.length:=(aG.mp w8).1;have s1:bJ H (L2.upd H1 Tp (.tup [.int i,.ref a])):=(q1.jr λ_ _ z=>z.elim).trans (aF hT);have q2:KE H (L2.upd H1 Tp (.tup [.int i,.ref a])):=.same s1;have Ho:=aF (o:=.tup [.int i,.ref a]) hT _ _ Ej;obtain⟨dg,tn,XZ,rl,IX,_,_,⟨rs,Ef,Ku,_⟩,_⟩:=tE.same (Z':=Z) (λ_ z=>z) s1;have abL:=gT s (aL w8);have Hq:l.take (i+1)=l.take i++ [s]:=by rw[bN,w8];rfl
  have Ks:(l.take i).length=i:=by rw[bh];omega
  have abM:(rs.map V.ref).length=s.rows.length:=by rw[af,bc Ku]
  refine⟨Tp,_,rfl,dJ.of ak,rfl,_,_,rfl,_,_,rfl,rfl,rfl,?_⟩;have rS:∀{b:Bool},Ah k0 s=b->b=false->KE H (L2.upd H1 Tp (.tup [.int i,.ref a]))/\(L2.upd H1 Tp (.tup [.int i,.ref a])) D=some (.lst (qV (du (Ah k0) 0 (l.take (i+1))))):=λhb h0=>by
   refine⟨q2,?_⟩;rw[Hq,gK,ae (by rw[hb,h0];decide)];exact Ho
  refine⟨_,rfl,a,_,dg,_,_,rfl,IX,T.jc,T.iE,rfl,rl,_,rfl,.inl (cg.of Ef),_,rfl,_,_,rfl,rfl,_,rfl,?_⟩;rw[abM];by_cases c1:(s.rows.length:Int)<=k0
  ·rw[ai c1];cases hr0:s.rows with
   |nil=>exact absurd hr0 abL
   |cons x0 rr=>
   rw[hr0] at Ku;cases Ku with
   |cons h0 _=>
   rename_i b0 bs _ _;have hx0:((ib x0).map V.int).length=x0.length:=by rw[af,dI]
   refine bI ⟨_,rfl,a,_,dg,_,_,rfl,IX,T.jc,T.iE,rfl,rl,_,_,_,rfl,rfl,cg.of Ef,at_of (j:=0) rfl rfl,b0,_,rfl,.inl (cg.of h0),_,rfl,_,_,rfl,rfl,_,rfl,?_⟩;rw[hx0];have hfb:Ah k0 s=decide ((x0.length:Int)<=k0):=by
    unfold Ah;rw[ai c1,hr0];rfl
   by_cases c2:(x0.length:Int)<=k0
   ·rw[ai c2];rw[ai c2] at hfb;refine bI ⟨_,rfl,_,Ho,?_,q2.uj hD,?_⟩
    ·unfold qV;rw[af];have:=gG (Ah k0) (l.take i) 0;have:(10000001:Nat)<sizeLine:=by decide
     omega
    ·rw[ak,Hq,gK,ah hfb,dE,Ks];unfold qV;rw[aN];rfl
   ·rw[ag c2];rw[ag c2] at hfb;exact bO (rS hfb rfl)
  ·rw[ag c1];exact bO (bO (rS (by unfold Ah;rw[ag c1];rfl) rfl))
 ·rintro H1 ⟨q1,Ej⟩;rw[af,bc hl,cM] at Ej;exact k H1 D (q1.jr λ_ _ z=>z.elim) Ej
def Eo(n:Name)(s:Sg):Bool:=decide ((([(s.name.big.toNat:Int),(s.name.small.toNat:Int)]):acZ)=[(n.big.toNat:Int),(n.small.toNat:Int)])
def N7(K:Frag)(A:CA):Sp:=λvs H Q _=>∃(po nm:Addr),vs=[.ref po,.ref nm]/\∃(dx sl nb lk kn:Addr) (as:ac1) (Z:ac7) (l:List Sg) (n:Name),H po=some (.ins A.bw dx (YA sl nb lk kn))/\H sl=some (.lst (as.map V.ref))/\Paired (gJ A Z H) as l/\l.length<=512/\dJ K H nm ((vo n).map V.int)/\
 ∀H' p,bJ H H'->H' p=some (.lst (qV (du (Eo n) 0 l)))->Q (.ref p) H'
theorem uO(D:K9 K "akin" "Possible.akin" A.bw ic)(T:Tx mg K A)(nJ:e7 P w K mg base "class_of" 1 ["name"] (JQ K)):d4 P w K mg base A.bw "akin" 2 ["self","name"] (N7 K A):=by
 refine D.iO gN (λ_ _ _ _ _ _ us hl=>match us,hl with | [_,_],_=>rfl) (λvs H Q E h=>by obtain⟨_,_,rfl,_⟩:=h;rfl) (λf dG Ar outer s H vs Q E hr h=>?_);obtain⟨po,nm,rfl,dx,sl,nb,lk,kn,as,Z,l,n,Nj,zt,hl,hlen,hnm,k⟩:=h;refine⟨_,(aC (aV (sD (own:=[("number",2),("sign",3)]) rfl gN.nd (lG rfl T.eJ (aj (bD (pv 0) rfl) aB)) (g9 (by show wH ["self","name","number","sign"] (aO ic) _ _=true;decide +kernel)) (λ_ _ _ _ _=>(Cf (K:=K) (n:=2) rfl rfl (eB (qx 2 gN.nd) (eB (qx 3 gN.nd) lH)))) (λ_ _ _ _ _=>(JZ (bC (RZ (K:=K) rfl (hr.units)) (bB nJ hr.m rfl (aj (wQ (K:=K) rfl (pv 3) rfl) aB)) (bB nJ hr.m rfl (aj (pv 1) aB)) (bL _)))) (λ_ _ _ _ _=>(pv 2))))),?_⟩;refine⟨_,rfl,po,_,dx,_,_,rfl,Nj,T.bS,T.eN,rfl,sl,_,rfl,cg.of zt,λD hD=>?_⟩;refine CV (K:=K) (a:=sl) (xs:=as.map V.ref) (λi H1=>KE H H1/\H1 D=some (.lst (qV (du (Eo n) 0 (l.take i))))) ⟨.new hD,ak⟩ (λi H1 _ ⟨q1,_⟩=>cg.of (q1.kp _ _ zt λz=>z)) ?_ ?_
 ·rintro i x H1 Tp hi ⟨q1,Ej⟩ hT;rw[aM] at hi;cases ha:as[i]? with
  |none=>rw[ha] at hi;cases hi
  |some a=>
  rw[ha] at hi;cases hi;obtain⟨s,w8,tE⟩:=gq hl ha;have Nk:i<l.length:=(aG.mp w8).1;have s1:bJ H (L2.upd H1 Tp (.tup [.int i,.ref a])):=(q1.jr λ_ _ z=>z.elim).trans (aF hT);have Ho:=aF (o:=.tup [.int i,.ref a]) hT _ _ Ej;obtain⟨dg,tn,XZ,rl,IX,SK,_⟩:=tE.same (Z':=Z) (λ_ z=>z) s1;have Hq:l.take (i+1)=l.take i++ [s]:=by rw[bN,w8];rfl
  have Ks:(l.take i).length=i:=by rw[bh];omega
  refine⟨Tp,_,rfl,dJ.of ak,rfl,_,_,rfl,_,_,rfl,rfl,rfl,?_⟩;refine⟨_,rfl,a,_,dg,_,_,rfl,IX,T.jc,T.jW,rfl,tn,rfl,s.name,dJ.of SK,λH3 p3 t3 h3=>?_⟩;refine⟨_,rfl,nm,rfl,n,cp t3 (cp s1 hnm),λH4 p4 t4 h4=>?_⟩;have sA:bJ H H4:=(s1.trans t3).trans t4;have Rk:=t4 _ _ (t3 _ _ Ho);refine⟨.tuple (([(s.name.big.toNat:Int),(s.name.small.toNat:Int)]:acZ).map PyData.int),.tuple (([(n.big.toNat:Int),(n.small.toNat:Int)]:acZ).map PyData.int),.tup (cp t4 h3) (fT _),.tup h4 (fT _),fP _,fP _,_,rfl,?_⟩;rw[u5];show if Eo n s=true then _ else _
  cases hb:Eo n s with
  |true=>
   refine bI ⟨_,rfl,_,Rk,?_,Kp.uj (.same sA) hD,?_⟩
   ·unfold qV;rw[af];have:=gG (Eo n) (l.take i) 0;have:(10000001:Nat)<sizeLine:=by decide
    omega
   ·rw[ak,Hq,gK,ah hb,dE,Ks];unfold qV;rw[aN];rfl
  |false=>
   refine bO ⟨.same sA,?_⟩;rw[Hq,gK,ae (by rw[hb];decide)];exact Rk
 ·rintro H1 ⟨q1,Ej⟩;rw[af,bc hl,cM] at Ej;exact k H1 D (q1.jr λ_ _ z=>z.elim) Ej
def ud(n:Name):Ky:=.tup ((vo n).map Ky.num)
theorem tq{K:Frag}{H:Hp}{b:Addr}{n:Name}(h:H b=some (.tup ((vo n).map V.int))):gm K H (ud n) b:=
 ⟨.tuple ((vo n).map PyData.int),.tup (dJ.of h) (fT _),rfl,by show _<=7;simp[vo,PyData.depth,PyData.depthAll]⟩
noncomputable def Qb(kvs:List (Ky×V)):FT.It->Bool
 | .stand s=>(dB kvs (ud s.name)).isSome
 |_=>true
def JM(K:Frag)(A:CA):Sp:=λvs H Q _=>∃(po pl:Addr),vs=[.ref po,.ref pl]/\∃(dx sl nb lk kn:Addr) (kvs:List (Ky×V)) (it:FT.It),H po=some (.ins A.bw dx (YA sl nb lk kn))/\DH K H nb kvs/\jj A H pl it/\Q (.bl (Qb kvs it)) H
theorem sL(D:K9 K "knows" "Possible.knows" A.bw jv)(T:Tx mg K A):d4 P w K mg base A.bw "knows" 1 ["self","place"] (JM K A):=by
 refine D.iO sh (λ_ _ _ _ _ _ us hl=>match us,hl with | [_,_],_=>rfl) (λvs H Q E h=>by obtain⟨_,_,rfl,_⟩:=h;rfl) (λf dG Ar outer s H vs Q E hr h=>?_);obtain⟨po,pl,rfl,dx,sl,nb,lk,kn,kvs,it,Nj,hnb,iK,k⟩:=h;refine⟨_,(aC (aV (Us (i5 lg (bD (pv 1) rfl) cN (bL _)) (Ij (Vl (RW hr (bD (pv 1) rfl) (bD (pv 0) rfl))))))),?_⟩;cases it with
 |lost=>exact iK.elim
 |gap z q=>
  obtain⟨dp,td,h1,h2⟩:=iK;exact⟨_,rfl,pl,_,dp,_,_,rfl,h1,T.cB,T.cZ,rfl,rfl,_,rfl,bI k⟩
 |stand s=>
  obtain⟨dp,tn,td,h1,h2,h3⟩:=iK;refine⟨_,rfl,pl,_,dp,_,_,rfl,h1,T.cB,T.cZ,rfl,rfl,_,rfl,?_⟩;rw[jJ];exact bO ⟨_,rfl,pl,_,dp,_,_,rfl,h1,T.cB,T.cZ,rfl,_,rfl,po,_,dx,_,_,rfl,Nj,T.bS,T.eV,rfl,nb,tn,ud s.name,kvs,rfl,rfl,hnb,tq h2,k⟩
def gr:Nat->List Sg->List (Ky×V)
 |_,[]=>[]
 |n,s::l=>(ud s.name,V.int n)::gr (n+1) l
theorem DH.Ll{K:Frag}{H:Hp}{a p C dx:Addr}{fs:List (Str×V)}{o:HO}{kvs:List (Ky×V)}(h:DH K H a kvs)(hp:H p=some (.ins C dx fs)):DH K (L2.upd H p o) a kvs:=by
 obtain⟨l,h1,h2,h3,h4,h5⟩:=h;refine⟨l,h1,h2,h3,by rw[aH (bW h4 hp nofun)];exact h4,λq hq=>?_⟩;obtain⟨d,g1,g2,g3⟩:=h5 q hq;refine⟨d,DI (λb xs z=>?_) d _ _ g2 g1,g2,g3⟩;rcases z with z|⟨u,z⟩
 ·exact .inl (by rw[aH (bW z hp nofun)];exact z)
 ·exact .inr ⟨u,by rw[aH (bW z hp nofun)];exact z⟩
theorem PN(h:Bool)(u v:acZ):IP h u=IP h v↔u.length=v.length/\(h=true\/u=v):=by
 unfold IP;cases h with
 |true=>
  rw[ah rfl,ah rfl];exact⟨λe=>⟨by have:=bb List.length e;simpa using this,.inl rfl⟩,λe=>by rw[e.1]⟩
 |false=>
  grind
def Rm(m:Bool)(w:Nat)(r:Bytes)(x:Nat):UInt8:=r.getD (if m=true then w - 1 - x else x) 0
theorem JV(m:Bool){w:Nat}{r:Bytes}(hw:r.length=w){x:Nat}(hx:x<w):(if m=true then(ib r).reverse else ib r)[x]?=some ((Rm m w r x).toNat:Int):=by
 subst hw;unfold Rm ib;cases m with
 |true=>
  grind
 |false=>
  grind
theorem r8(m:Bool)(r:Bytes):(if m=true then(ib r).reverse else ib r).length=r.length:=by
 unfold ib;split
 ·rw[j5,af]
 ·rw[af]
theorem Qc{U V:acZ}{w mid:Nat}(hU:U.length=w)(hV:V.length=w)(f g:Nat->UInt8)(hf:∀x,x<w->U[x]?=some ((f x).toNat:Int))(hg:∀x,x<w->V[x]?=some ((g x).toNat:Int)): (U.take mid=V.take mid↔∀x,x<w->x<mid->f x=g x)/\(U.drop mid=V.drop mid↔∀x,x<w->¬x<mid->f x=g x):=by
 have key:∀x,x<w->(U[x]?=V[x]?↔f x=g x):=λx hx=>by
  rw[hf x hx,hg x hx];exact⟨λe=>b8.mp (by have:=aX e;omega),λe=>by rw[e]⟩
 constructor
 ·constructor
  ·intro e x hx hm;rw[<-key x hx];have:=bb (λl=>l[x]?) e
   simpa [kz hm] using this
  ·intro e;refine lV λx=>?_
   grind
 ·constructor
  ·intro e x hx hm;rw[<-key x hx];have:=bb (λl=>l[x - mid]?) e
   simpa [List.getElem?_drop,show mid+(x - mid)=x by omega] using this
  ·intro e;refine lV λx=>?_
   grind
theorem A8{w n y:Nat}{m:Bool}{q:ac2}{r s:Bytes}(hr:r.length=w)(hs:s.length=w):i7 (w / 2) n m q y (ib r)=i7 (w / 2) n m q y (ib s)↔∀x,x<w->(quarterOf w n x y∈q\/Rm m w r x=Rm m w s x):=by
 have hh:=Qc (mid:=w / 2) (show(if m=true then(ib r).reverse else ib r).length=w by rw[r8,hr]) (show(if m=true then(ib s).reverse else ib s).length=w by rw[r8,hs]) (Rm m w r) (Rm m w s) (λx hx=>JV m hr hx) (λx hx=>JV m hs hx);unfold i7;rw[XA,PN,PN,hh.1,hh.2,fi,fi,bh,bh,cA,cA,r8,r8,hr,hs];have e1:∀x,x<w / 2->quarterOf w n x y=if y<n / 2 then 1 else 3:=λx hx=>by
  unfold quarterOf;rw[ah hx];split <;> rfl
 have e2:∀x,¬x<w / 2->quarterOf w n x y=if y<n / 2 then 2 else 4:=λx hx=>by
  unfold quarterOf;rw[ae hx];split <;> rfl
 grind
theorem A7{mid n:Nat}{m:Bool}{q:ac2}{y:Nat}{x:acZ}:(i7 mid n m q y x).1.length+(i7 mid n m q y x).2.length=x.length:=by
 have hl:∀h u,(IP h u).length=u.length:=λh u=>by unfold IP;split <;> simp
 unfold i7
 grind
theorem gF{s:Sg}(h:n9 s):s.rows≠[]/\s.rows.length<=32/\(s.rows.headD []).length<=32/\∀x∈s.rows,x.length=(s.rows.headD []).length:=by
 have:=h.2.2.1;unfold zp at this
 grind
def wd(s:Sg):Nat:=(s.rows.headD []).length
theorem pM(s:Sg):(LZ.b9 s).shape.high=s.rows.length:=by
 show(s.rows.map λ(x:Bytes)=>x.map λc=>c==35).length=_;rw[af]
theorem mG(s:Sg):(LZ.b9 s).shape.wide=wd s:=by
 show((s.rows.map λ(x:Bytes)=>x.map λc=>c==35).headD []).length=_;unfold wd;cases s.rows with
 |nil=>rfl
 |cons x r=>exact af _
theorem EG(s:Sg)(x y:Nat)(r:Bytes)(hr:s.rows[y]?=some r)(hx:x<r.length):(LZ.b9 s).shape.ink x y=(r.getD x 0==35):=by
 show((s.rows.map λ(x:Bytes)=>x.map λc=>c==35).getD y []).getD x false=_
 grind
theorem A4(m:Bool)(s:Sg):(mirroredIf m (LZ.b9 s).shape).wide=wd s:=by
 unfold mirroredIf;split
 ·exact mG s
 ·exact mG s
theorem A5(m:Bool)(s:Sg):(mirroredIf m (LZ.b9 s).shape).high=s.rows.length:=by
 unfold mirroredIf;split
 ·exact pM s
 ·exact pM s
theorem WE{w h:Nat}{f:Nat->Nat->Bool}{x y:Nat}(hx:x<w)(hy:y<h):(Shape.by_ w h f).ink x y=f x y:=by
 unfold Shape.by_ Shape.ink
 grind
theorem tj(m:Bool){s:Sg}(h:n9 s){x y:Nat}{r:Bytes}(hr:s.rows[y]?=some r)(hx:x<wd s):(mirroredIf m (LZ.b9 s).shape).ink x y=(Rm m (wd s) r x==35):=by
 have hl:r.length=wd s:=(gF h).2.2.2 r (aL hr);have hy:y<s.rows.length:=(aG.mp hr).1;unfold mirroredIf Rm;cases m with
 |true=>
  rw[ah rfl,ah rfl];unfold Shape.mirrored;rw[WE (by rw[mG];exact hx) (by rw[pM];exact hy),mG];exact EG s _ y r hr (by omega)
 |false=>
  rw[ae (by decide),ae (by decide)];exact EG s _ y r hr (by omega)
theorem QM(m:Bool){s:Sg}(h:n9 s){x y:Nat}{r:Bytes}(hr:s.rows[y]?=some r)(hx:x<wd s):c6 (Rm m (wd s) r x)=true:=by
 have hl:r.length=wd s:=(gF h).2.2.2 r (aL hr);have key:∀k,k<r.length->c6 (r.getD k 0)=true:=λk hk=>by
  rw[qI,aZ hk];exact h.2.2.2.1 r (aL hr) _ (vO hk)
 unfold Rm;refine key _ ?_;split <;> omega
theorem aax{a b:UInt8}(ha:c6 a=true)(hb:c6 b=true):((a==35)=(b==35))↔a=b:=by
 unfold c6 at ha hb
 grind
theorem Qg(w h:Nat)(f:Cell->Bool):(grid w h).all f=true↔∀y,y<h->∀x,x<w->f (x,y)=true:=by
 unfold grid;simp only[bU,mU,cH,Bz]
 grind
theorem lk_row{s:Sg}(h:n9 s)(m:Bool)(q:ac2){y:Nat}{r:Bytes}(hr:s.rows[y]?=some r):(FX (s.rows.map ib) m q)[y]?=some (i7 (wd s / 2) s.rows.length m q y (ib r)):=by
 unfold FX;rw[List.getElem?_mapIdx,aM,hr,af];have:((s.rows.map ib).headD []).length=wd s:=by
  unfold wd;cases s.rows with
  |nil=>rfl
  |cons x r=>exact af _
 rw[this];rfl
theorem FW{s t:Sg}(hs:n9 s)(ht:n9 t)(m:Bool)(q:ac2):FX (s.rows.map ib) m q=FX (t.rows.map ib) m q↔leftAlike q (mirroredIf m (LZ.b9 s).shape) (mirroredIf m (LZ.b9 t).shape)=true:=by
 unfold leftAlike;rw[A4,A4,A5,A5];simp only[aS,gC,Qg,kN,iP];have len:∀z:Sg,(FX (z.rows.map ib) m q).length=z.rows.length:=λz=>by unfold FX;rw[List.length_mapIdx,af]
 constructor
 ·intro e;have hn:s.rows.length=t.rows.length:=by rw[<-len s,e,len t]
  have SQ:∀y r r',s.rows[y]?=some r->t.rows[y]?=some r'->i7 (wd s / 2) s.rows.length m q y (ib r)=i7 (wd t / 2) t.rows.length m q y (ib r'):=λy r r' h1 h2=>by
   have a1:=lk_row hs m q h1;rw[e,lk_row ht m q h2] at a1;exact(aX a1).symm
  have hw:wd s=wd t:=by
   cases h1:s.rows with
   |nil=>exact absurd h1 (gF hs).1
   |cons r rs=>
   cases h2:t.rows with
   |nil=>exact absurd h2 (gF ht).1
   |cons r' rs'=>
   have:=SQ 0 r r' (by rw[h1];rfl) (by rw[h2];rfl);have l1:=A7 (mid:=wd s / 2) (n:=s.rows.length) (m:=m) (q:=q) (y:=0) (x:=ib r);have l2:=A7 (mid:=wd t / 2) (n:=t.rows.length) (m:=m) (q:=q) (y:=0) (x:=ib r');rw[this,l2] at l1;unfold ib at l1;rw[af,af] at l1;unfold wd;rw[h1,h2];exact l1.symm
  refine⟨hw,hn,λy hy x hx=>?_⟩;obtain⟨r1,h1⟩:∃r,s.rows[y]?=some r:=⟨_,aZ hy⟩;obtain⟨r2,h2⟩:∃r,t.rows[y]?=some r:=⟨_,aZ (by omega)⟩;have h3:=SQ y _ _ h1 h2;rw[<-hw,<-hn] at h3;rcases(A8 ((gF hs).2.2.2 _ (aL h1)) (by rw[(gF ht).2.2.2 _ (aL h2)];exact hw.symm)).mp h3 x hx with z|z
  ·exact .inl z
  ·refine .inr ?_;rw[tj m hs h1 hx,tj m ht h2 (by omega),<-hw];exact bb (λc=>c==(35:UInt8)) z
 ·rintro⟨hw,hn,hc⟩;refine lV λy=>?_
  by_cases hy:y<s.rows.length
  ·obtain⟨r1,h1⟩:∃r,s.rows[y]?=some r:=⟨_,aZ hy⟩;obtain⟨r2,h2⟩:∃r,t.rows[y]?=some r:=⟨_,aZ (by omega)⟩;rw[lk_row hs m q h1,lk_row ht m q h2,<-hw,<-hn];refine bb some ((A8 ((gF hs).2.2.2 _ (aL h1)) (by rw[(gF ht).2.2.2 _ (aL h2)];exact hw.symm)).mpr λx hx=>?_);have Rb:x<wd s:=hx;refine(hc y hy x hx).imp id λz=>?_
   rw[tj m hs h1 hx,tj m ht h2 (by omega),<-hw] at z;refine(aax (QM m hs h1 hx) ?_).mp z;have:=QM m ht h2 (show x<wd t by omega);rw[<-hw] at this;exact this
  ·grind
theorem kI(p:Sg->Bool):∀(l:List Sg) (k n:Nat),n∈du p k l↔∃j t,l[j]?=some t/\p t=true/\n=k+j
 | [],k,n=>by
  constructor
  ·intro h;cases h
  ·rintro⟨j,t,h,_⟩;cases h
 |s::l,k,n=>by
  have ih:=kI p l (k+1) n;have key:(∃j t,(s::l)[j]?=some t/\p t=true/\n=k+j)↔(p s=true/\n=k)\/∃j t,l[j]?=some t/\p t=true/\n=k+1+j:=by
   constructor
   ·grind
   ·rintro(⟨h1,h2⟩|⟨j,t,h1,h2,h3⟩)
    ·exact⟨0,s,rfl,h1,h2⟩
    ·exact⟨j+1,t,h1,h2,by omega⟩
  rw[key];unfold du
  grind
theorem HR(p:Sg->Bool):∀(l:List Sg) (k:Nat),(du p k l).Pairwise (·<·)
 | [],_=>.nil
 |s::l,k=>by
  unfold du;split
  ·refine .cons (λn hn=>?_) (HR p l (k+1));obtain⟨j,_,_,_,h⟩:=(kI p l (k+1) n).mp hn;omega
  ·exact HR p l (k+1)
theorem Jz(f:Sign->Bool):∀(S:List Sg) (n:Nat),((S.map LZ.b9).zipIdx n).filterMap (λ(x:Sign×Nat)=>if f x.1=true then some x.2 else none)=du (λs=>f (LZ.b9 s)) n S
 | [],_=>rfl
 |s::S,n=>by
  have ih:=Jz f S (n+1);rw[aK,Np,cf];show _=if f (LZ.b9 s)=true then n::du (λs=>f (LZ.b9 s)) (n+1) S else du (λs=>f (LZ.b9 s)) (n+1) S
  grind
theorem Cv(f:Sign->Bool):∀(S:List Sg) (n:Nat),(((S.map LZ.b9).zipIdx n).filter λ(x:Sign×Nat)=>f x.1).map (λ(x:Sign×Nat)=>x.2)=du (λs=>f (LZ.b9 s)) n S
 | [],_=>rfl
 |s::S,n=>by
  rw[aK,Np,jP];unfold du;by_cases h:f (LZ.b9 s)=true
  ·simp only[h,T6,aK];rw[Cv f S (n+1)]
  ·simp only[h];exact Cv f S (n+1)
theorem AM{p q:Sg->Bool}:∀{S:List Sg} {n:Nat},(∀s∈S,p s=q s)->du p n S=du q n S
 | [],_,_=>rfl
 |s::S,n,h=>by
  unfold du;rw[h s aR,AM (λx hx=>h x (aP _ hx))]
theorem KH(S:List Sg)(k:Nat)(q:ac2):gapMay (S.map LZ.b9) k q=if q=[1,2,3,4] then some (du (Ah (k:Nat)) 0 S) else none:=by
 unfold gapMay numbers;split
 ·congr 1
  refine(Cv (λ(x:Sign)=>decide (x.shape.wide<=k)&&decide (x.shape.high<=k)) S 0).trans (AM λs _=>?_);rw[mG,pM,Bool.and_comm];unfold Ah wd
  grind
 ·rfl
def W4(o:Sg)(s:Stand)(t:Sg):Bool:=(!s.quarters.isEmpty&&leftAlike s.quarters (mirroredIf s.mirrored (LZ.b9 o).shape) (mirroredIf s.mirrored (LZ.b9 t).shape)) ||((s.unsure&&(t.name.big==s.name.big&&t.name.small==s.name.small)) ||(s.quarters.isEmpty&&(!s.unsure&&t.name==s.name)))
theorem find_name{S:List Sg}(h:Ord S){i:Nat}{o:Sg}(ho:S[i]?=some o):findName (S.map LZ.b9) o.name=some i:=by
 unfold findName;rw[dW];obtain⟨hi,rfl⟩:=aG.mp ho;refine⟨by rw[af];exact hi,?_,λj hj=>?_⟩
 ·rw[Nq];exact cK _
 ·rw[Nq];intro q;have:=j0.mp h j i (by omega) hi hj;exact Bt this (eq_of_beq q)
theorem find_none{S:List Sg}{n:Name}:findName (S.map LZ.b9) n=none↔∀o∈S,o.name≠n:=by
 unfold findName;rw[rW];simp only[cH,forall_exists_index,and_imp,forall_apply_eq_imp_iff₂];exact⟨λh o ho q=>by have:=h o ho;rw[show(LZ.b9 o).name=n from q,cK] at this;exact absurd this (by decide),λh o ho=>cc.mpr (h o ho)⟩
theorem Ke{S:List Sg}(h:Ord S){i:Nat}{o:Sg}(ho:S[i]?=some o){s:Stand}(hn:o.name=s.name):s.may (S.map LZ.b9)=du (W4 o s) 0 S:=by
 have hs:Gh.seen (S.map LZ.b9) s=some (mirroredIf s.mirrored (LZ.b9 o).shape):=by
  unfold Gh.seen signNo;rw[<-hn,find_name h ho];simp only[fM,aM,ho,bg];rfl
 unfold Stand.may;rw[hs];exact Jz (λx=>(!s.quarters.isEmpty&&leftAlike s.quarters (mirroredIf s.mirrored (LZ.b9 o).shape) (mirroredIf s.mirrored x.shape)) ||((s.unsure&&(x.name.big==s.name.big&&x.name.small==s.name.small)) ||(s.quarters.isEmpty&&(!s.unsure&&x.name==s.name)))) S 0
def Hv(o:Sg)(m:Bool)(q:ac2)(t:Sg):Bool:=decide (FX (t.rows.map ib) m q=FX (o.rows.map ib) m q)
def MK(S:List Sg)(i:Nat)(o:Sg)(s:Stand):List Nat:=([i]++(if s.quarters.isEmpty=true then [] else du (Hv o s.mirrored s.quarters) 0 S))++(if s.unsure=true then du (Eo s.name) 0 S else [])
theorem yD(q:ac2)(z:Gh.Shape):leftAlike q z z=true:=by
 unfold leftAlike;simp
theorem Wt{S:List Sg}(h:Ord S)(cR:∀s∈S,n9 s){i:Nat}{o:Sg}(ho:S[i]?=some o){s:Stand}(hn:o.name=s.name)(n:Nat):n∈MK S i o s↔n∈du (W4 o s) 0 S:=by
 have ok:∀{j:Nat} {t:Sg},S[j]?=some t->n9 t:=λq=>cR _ (aL q)
 have hak:∀t:Sg,Eo s.name t=(t.name.big==s.name.big&&t.name.small==s.name.small):=λt=>by
  unfold Eo;rw[iI];simp only[fi,dF,and_true,aS,gC];exact and_congr ⟨λq=>b8.mp (by omega),λq=>by rw[q]⟩ ⟨λq=>b8.mp (by omega),λq=>by rw[q]⟩
 have uniq:∀{j:Nat} {t:Sg},S[j]?=some t->t.name=s.name->j=i:=λ{j t} hj q=>by
  have a1:=find_name h hj;rw[q,<-hn,find_name h ho] at a1;exact(aX a1).symm
 unfold MK;rw[bx,bx,aE,kI];constructor
 ·rintro((rfl|q)|q)
  ·refine⟨n,o,ho,?_,by omega⟩;unfold W4;by_cases hq:s.quarters.isEmpty=true
   ·rw[hq,hn];cases s.unsure <;> simp
   ·rw[yD];simp[hq]
  ·split at q
   ·cases q
   ·rename_i hq;obtain⟨j,t,h1,h2,h3⟩:=(kI _ _ _ _).mp q;refine⟨j,t,h1,?_,h3⟩;unfold Hv at h2;have:=(FW (ok ho) (ok h1) s.mirrored s.quarters).mp (bA h2).symm;unfold W4;rw[this];simp[hq]
  ·split at q
   ·rename_i hu;obtain⟨j,t,h1,h2,h3⟩:=(kI _ _ _ _).mp q;refine⟨j,t,h1,?_,h3⟩;rw[hak] at h2;unfold W4;rw[h2,hu];simp
   ·cases q
 ·rintro⟨j,t,h1,h2,h3⟩;unfold W4 at h2;simp only[kN] at h2;rcases h2 with h2|h2|h2
  ·simp only[aS,Bool.not_eq_true'] at h2;refine .inl (.inr ?_);rw[ae (by rw[h2.1];decide)];exact(kI _ _ _ _).mpr ⟨j,t,h1,ai ((FW (ok ho) (ok h1) s.mirrored s.quarters).mpr h2.2).symm,h3⟩
  ·rw[aS] at h2;refine .inr ?_;rw[ah h2.1];exact(kI _ _ _ _).mpr ⟨j,t,h1,by rw[hak];exact h2.2,h3⟩
  ·grind
theorem Pb:∀(u v:acZ),u.Pairwise (·<·)->v.Pairwise (·<·)->(∀n,n∈u↔n∈v)->u=v
 | [],[],_,_,_=>rfl
 | [],b::v,_,_,h=>by have:=(h b).mpr aR;cases this
 |a::u,[],_,_,h=>by have:=(h a).mp aR;cases this
 |a::u,b::v,h1,h2,h=>by
  have p1:=qH.mp h1;have p2:=qH.mp h2;have Z8:a=b:=by
   rcases ba.mp ((h a).mp aR) with q|q
   ·exact q
   ·rcases ba.mp ((h b).mpr aR) with q'|q'
    ·exact q'.symm
    ·have:=p1.1 b q';have:=p2.1 a q;omega
  subst Z8;rw[Pb u v p1.2 p2.2 λn=>?_]
  grind
theorem GU:∀(ns acc:acZ),acc.Nodup->(ns.foldl step_dedup acc).Nodup/\∀n,n∈ns.foldl step_dedup acc↔n∈acc\/n∈ns
 | [],acc,h=>⟨h,λn=>⟨.inl,λq=>q.elim id λq=>by cases q⟩⟩
 |x::ns,acc,h=>by
  rw[Rw];have hs:(step_dedup acc x).Nodup/\∀n,n∈step_dedup acc x↔n∈acc\/n=x:=by
   unfold step_dedup
   grind
  obtain⟨g1,g2⟩:=GU ns _ hs.1;refine⟨g1,λn=>?_⟩;rw[g2,hs.2,ba,or_assoc]
theorem oV:∀{l:acZ},l.Pairwise (·<=·)->l.Nodup->l.Pairwise (·<·)
 | [],_,_=>.nil
 |a::l,h1,h2=>by
  have p1:=qH.mp h1;have p2:=cz.mp h2;refine .cons (λn hn=>?_) (oV p1.2 p2.2)
  grind
theorem Lz{S:List Sg}(h:Ord S)(cR:∀s∈S,n9 s){i:Nat}{o:Sg}(ho:S[i]?=some o){s:Stand}(hn:o.name=s.name){ms:acZ}(hp:ms.Perm (((MK S i o s).map λ(n:Nat)=>(n:Int)).foldl step_dedup []))(hs:ms.Pairwise (·<=·)):ms=(s.may (S.map LZ.b9)).map λ(n:Nat)=>(n:Int):=by
 obtain⟨g1,g2⟩:=GU ((MK S i o s).map λ(n:Nat)=>(n:Int)) [] lU;rw[Ke h ho hn];refine Pb _ _ (oV hs (hp.nodup_iff.mpr g1)) (uc.mpr ((HR _ S 0).imp λq=>by omega)) λn=>?_
 rw[hp.mem_iff,g2];simp only[de,false_or,cH,Wt h cR ho hn]
theorem yh(s:Sg):∀(l:List Sg) (n:Nat),gr n (l++ [s])=gr n l++ [(ud s.name,V.int ((n+l.length:Nat):Int))]
 | [],n=>rfl
 |x::l,n=>by
  show(ud x.name,V.int n)::gr (n+1) (l++ [s])=_;rw[yh s l (n+1),show n+1+l.length=n+(x::l).length by rw[aJ];omega];rfl
theorem AZ:∀(l:List Sg) (n:Nat),(gr n l).map (·.1)=l.map λs=>ud s.name
 | [],_=>rfl
 |s::l,n=>by
  show ud s.name::(gr (n+1) l).map (·.1)=_;rw[AZ l (n+1)];rfl
theorem Cw{a b:Name}(h:ud a=ud b):a=b:=by
 unfold ud vo at h;injection h with h;simp only[aK,il,dF,Ky.num.injEq,and_true] at h;obtain⟨h1,h2,h3,h4⟩:=h;obtain⟨a1,a2,a3,a4⟩:=a;obtain⟨b1,b2,b3,b4⟩:=b;simp only at h1 h2 h3 h4;rw[b8.mp (show a1.toNat=b1.toNat by omega),b8.mp (show a2.toNat=b2.toNat by omega),show a3=b3 by omega,b8.mp (show a4.toNat=b4.toNat by omega)]
theorem pT{l:List Sg}(h:Ord l):(l.map λs=>ud s.name).Nodup:=by
 have:=LP h;unfold List.Nodup at this ⊢;rw[uc] at this ⊢;exact this.imp λq z=>q (Cw z)
def EN(K:Frag)(A:CA):Sp:=λvs H Q _=>∃(po sl:Addr),vs=[.ref po,.ref sl]/\∃(dx:Addr) (as:ac1) (Z:ac7) (l:List Sg),H po=some (.ins A.bw dx [])/\H sl=some (.lst (as.map V.ref))/\Paired (gJ A Z H) as l/\l.length<=512/\(l.map λs=>ud s.name).Nodup/\
 ∀H' nb lk kn,Kp (atS po) H H'->H' po=some (.ins A.bw dx (YA sl nb lk kn))->DH K H' nb (gr 0 l)->DH K H' lk []->DH K H' kn []->lk≠kn->nb≠lk->nb≠kn->H lk=.none->H kn=.none->Q .eZ H'
theorem oT(D:Q4 K "Possible.__init__" A.bw fC)(T:Tx mg K A):lB P w K mg base "Possible" A.bw 1 ["self","signs"] (EN K A):=by
 refine D.iO T.ID fc (λ_ _ _ _ _ _ us hl=>match us,hl with | [_,_],_=>rfl) (λvs H Q E h=>by obtain⟨_,_,rfl,_⟩:=h;rfl) (λf dG Ar outer s H vs Q E hr h=>?_);obtain⟨po,sl,rfl,dx,as,Z,l,Nj,zt,hl,hlen,tF,k⟩:=h;refine⟨_,(aq (dH (pv 0) (pv 1) rfl) (aq (dH (pv 0) (kR (DK.Jn hr rfl) rfl T.Jr B.TL (aj (sD (own:=[("number",2),("sign",3)]) rfl fc.nd (lG rfl T.eJ (aj (pv 1) aB)) (g9 (by show wH ["self","signs","number","sign"] (aO fC) _ _=true;decide +kernel)) (λ_ _ _ _ _=>(Cf (K:=K) (n:=2) rfl rfl (eB (qx 2 fc.nd) (eB (qx 3 fc.nd) lH)))) (λ_ _ _ _ _=>lE) (λ_ _ _ _ _=>(gH (aj (wQ (K:=K) rfl (pv 3) rfl) (aj (pv 2) aB))))) aB)) rfl) (aq (dH (pv 0) xY rfl) (aC (dH (pv 0) xY rfl))))),?_⟩;have VS:(L2.upd H po (.ins A.bw dx [("signs",.ref sl)])) sl=some (.lst (as.map V.ref)):=by rw[aH (bW zt Nj nofun)];exact zt
 have XY:∀{q dg:Addr} {a b c:V},H q=some (.ins A.Sign dg [("name",a),("sounds",b),("rows",c)])->q≠po:=λh=>bW h Nj (uZ (by show(["name","sounds","rows"]:ac5)≠([]:ac5);decide))
 have Eg:Paired (gJ A Z (L2.upd H po (.ins A.bw dx [("signs",.ref sl)]))) as l:=Paired.ee hl λ_ _ z=>z.mono (λ_ z=>z) (λ_ _ _ z=>by rw[aH (bW z Nj nofun)];exact z) (λ_ _ z=>by rw[aH (bW z Nj nofun)];exact z) (λ_ _ _ _ _ z=>by rw[aH (XY z)];exact z)
 have q0:Kp (atS po) H (L2.upd H po (.ins A.bw dx [("signs",.ref sl)])):=.wr Nj rfl;have Zq:(L2.upd H po (.ins A.bw dx [("signs",.ref sl)])) po=some (.ins A.bw dx [("signs",.ref sl)]):=ak;refine⟨_,rfl,_,rfl,po,_,dx,_,rfl,Nj,T.bS,T.eN,(uU rfl),?_⟩;show(_:TS) _ _ (L2.upd H po (.ins A.bw dx [("signs",.ref sl)]));generalize L2.upd H po (.ins A.bw dx [("signs",.ref sl)])=H1 at VS Eg q0 Zq ⊢;refine⟨_,rfl,sl,_,rfl,cg.of VS,λD hD=>?_⟩;refine CV (K:=K) (a:=sl) (xs:=as.map V.ref) (λi H2=>KE H1 H2/\∃(ps:ac1) (m:List (Ky×Addr×V)),H2 D=some (.lst (ps.map V.ref))/\Paired (λp q=>H2 p=some (.tup [.ref q.2.1,q.2.2])/\gm K H2 q.1 q.2.1) ps m/\m.map pr=gr 0 (l.take i)/\m.length<=i) ⟨.new hD,[],[],ak,.nil,rfl,aA _⟩ (λi H2 _ ⟨q1,_⟩=>cg.of (q1.kp _ _ VS λz=>z)) ?_ ?_
 ·rintro i x H2 Tp hi ⟨q1,ps,m,Ej,yL,hm,Rf⟩ hT;rw[aM] at hi;cases ha:as[i]? with
  |none=>rw[ha] at hi;cases hi
  |some a=>
  rw[ha] at hi;cases hi;obtain⟨s,w8,tE⟩:=gq Eg ha;have Nk:i<l.length:=(aG.mp w8).1;have s1:bJ H1 (L2.upd H2 Tp (.tup [.int i,.ref a])):=(q1.jr λ_ _ z=>z.elim).trans (aF hT);obtain⟨dg,tn,XZ,rl,IX,SK,_⟩:=tE.same (Z':=Z) (λ_ z=>z) s1;have Hq:l.take (i+1)=l.take i++ [s]:=by rw[bN,w8];rfl
  have Ks:(l.take i).length=i:=by rw[bh];omega
  refine⟨Tp,_,rfl,dJ.of ak,rfl,_,_,rfl,_,_,rfl,rfl,rfl,?_⟩;refine⟨_,rfl,a,_,dg,_,_,rfl,IX,T.jc,T.jW,rfl,_,rfl,(F1 rfl),λp3 h3=>?_⟩;have s2:bJ H2 (L2.upd (L2.upd H2 Tp (.tup [.int i,.ref a])) p3 (.tup [.ref tn,.int i])):=(aF hT).trans (aF h3);have s3:bJ H1 (L2.upd (L2.upd H2 Tp (.tup [.int i,.ref a])) p3 (.tup [.ref tn,.int i])):=s1.trans (aF h3);have zu:(L2.upd (L2.upd H2 Tp (.tup [.int i,.ref a])) p3 (.tup [.ref tn,.int i])) p3=some (.tup [.ref tn,.int i]):=ak;have SI:=aF (o:=.tup [.ref tn,.int i]) h3 _ _ SK;generalize L2.upd (L2.upd H2 Tp (.tup [.int i,.ref a])) p3 (.tup [.ref tn,.int i])=H4 at s2 s3 zu SI ⊢;have Rk:=s2 _ _ Ej;have kp:∀b xs,Rd H4 b (.tup xs)->Rd (L2.upd H4 D (.lst (ps.map V.ref++ [V.ref p3]))) b (.tup xs):=oM (uP Rk (λ_=>nofun) (λ_ _=>nofun));refine⟨_,Rk,?_,Kp.uj (.same s3) hD,ps++ [p3],m++ [(ud s.name,tn,.int i)],?_,fG (Paired.ee yL λ_ _ z=>⟨?_,?_⟩) ⟨?_,?_⟩,?_,?_⟩
  ·rw[af,bc yL];have:(1000:Nat)<sizeLine:=by decide
   omega
  ·rw[ak,aN];rfl
  ·rw[aH (bW (s2 _ _ z.1) Rk nofun)];exact s2 _ _ z.1
  ·exact(z.2.same s2).keep kp
  ·rw[aH (bW zu Rk nofun)];exact zu
  ·exact(tq SI).keep kp
  ·rw[aN,hm,Hq,yh,Ks,dE];rfl
  ·rw[aw];show m.length+1<=i+1;omega
 ·rintro H2 ⟨q1,ps,m,Ej,yL,hm,Rf⟩;rw[af,bc hl,cM] at hm;refine⟨D,ps,m,rfl,cg.of Ej,Paired.ee yL λ_ _ z=>⟨dJ.of z.1,z.2⟩,?_,λp φ hp hDH=>?_⟩
  ·have:m.map (·.1)=(m.map pr).map (·.1):=by rw[cC];rfl
   rw[this,hm,AZ];exact tF
  ·have s2:bJ H1 (L2.upd H2 p (.ext φ)):=(q1.jr λ_ _ z=>z.elim).trans (aF hp);rw[hm] at hDH;generalize L2.upd H2 p (.ext φ)=H3 at s2 hDH ⊢;have V1:=s2 _ _ Zq;have q3:Kp (atS po) H H3:=q0.trans (.same s2);refine⟨_,rfl,po,_,dx,_,rfl,V1,T.bS,T.eV,(uU rfl),?_⟩;show(_:TS) _ _ (L2.upd H3 po (.ins A.bw dx [("signs",.ref sl),("numbers",.ref p)]));have Wq:DH K (L2.upd H3 po (.ins A.bw dx [("signs",.ref sl),("numbers",.ref p)])) p (gr 0 l):=DH.Ll hDH V1;have Zp:(L2.upd H3 po (.ins A.bw dx [("signs",.ref sl),("numbers",.ref p)])) po=some (.ins A.bw dx [("signs",.ref sl),("numbers",.ref p)]):=ak;have q4:Kp (atS po) H (L2.upd H3 po (.ins A.bw dx [("signs",.ref sl),("numbers",.ref p)])):=q3.trans (.wr V1 rfl);generalize L2.upd H3 po (.ins A.bw dx [("signs",.ref sl),("numbers",.ref p)])=H4 at Wq Zp q4 ⊢;intro lk φ1 PM hDl;have fl:=q4.free PM;have aag:=Wq.same (aF (o:=.ext φ1) PM);have C8:=aF (o:=.ext φ1) PM _ _ Zp;have hnl:p≠lk:=by
    obtain⟨T7,z⟩:=Wq.there;exact bo z PM
   have q5:Kp (atS po) H (L2.upd H4 lk (.ext φ1)):=q4.trans (.new PM);generalize L2.upd H4 lk (.ext φ1)=H5 at hDl aag C8 q5 ⊢;refine⟨_,rfl,po,_,dx,_,rfl,C8,T.bS,T.fH,(uU rfl),?_⟩;show(_:TS) _ _ (L2.upd H5 po (.ins A.bw dx [("signs",.ref sl),("numbers",.ref p),("looks",.ref lk)]));have Wp:DH K (L2.upd H5 po (.ins A.bw dx [("signs",.ref sl),("numbers",.ref p),("looks",.ref lk)])) p (gr 0 l):=DH.Ll aag C8;have Wo:DH K (L2.upd H5 po (.ins A.bw dx [("signs",.ref sl),("numbers",.ref p),("looks",.ref lk)])) lk []:=DH.Ll hDl C8;have Zo:(L2.upd H5 po (.ins A.bw dx [("signs",.ref sl),("numbers",.ref p),("looks",.ref lk)])) po=some (.ins A.bw dx [("signs",.ref sl),("numbers",.ref p),("looks",.ref lk)]):=ak;have q6:Kp (atS po) H (L2.upd H5 po (.ins A.bw dx [("signs",.ref sl),("numbers",.ref p),("looks",.ref lk)])):=q5.trans (.wr C8 rfl);generalize L2.upd H5 po (.ins A.bw dx [("signs",.ref sl),("numbers",.ref p),("looks",.ref lk)])=H6 at Wp Wo Zo q6 ⊢;intro kn T7 Eh hDk;have fk:=q6.free Eh;have aaf:=Wp.same (aF (o:=.ext T7) Eh);have aae:=Wo.same (aF (o:=.ext T7) Eh);have Ms:=aF (o:=.ext T7) Eh _ _ Zo;have hnk:p≠kn:=by
    obtain⟨φ3,z⟩:=Wp.there;exact bo z Eh
   have ab1:lk≠kn:=by
    obtain⟨φ3,z⟩:=Wo.there;exact bo z Eh
   have q7:Kp (atS po) H (L2.upd H6 kn (.ext T7)):=q6.trans (.new Eh);generalize L2.upd H6 kn (.ext T7)=H7 at hDk aae aaf Ms q7 ⊢;refine⟨_,rfl,po,_,dx,_,rfl,Ms,T.bS,T.fI,(uU rfl),?_⟩;exact k _ p lk kn (q7.trans (.wr Ms rfl)) ak (DH.Ll aaf Ms) (DH.Ll aae Ms) (DH.Ll hDk Ms) ab1 hnl hnk fl fk
def RP(p:List Int×List Int):Ky:=.tup [.tup (p.1.map Ky.num),.tup (p.2.map Ky.num)]
def Hl(κ:List (List Int×List Int)):Ky:=.tup (κ.map RP)
theorem wU:∀{a b:acZ},a.map Ky.num=b.map Ky.num->a=b
 | [],[],_=>rfl
 | [],_::_,h=>by cases h
 |_::_,[],h=>by cases h
 |x::a,y::b,h=>by
  rw[aK,aK,dF] at h;rw[Ky.num.inj h.1,wU h.2]
theorem RN{p q:List Int×List Int}(h:RP p=RP q):p=q:=by
 unfold RP at h;injection h with h;rw[dF,dF] at h;exact Prod.ext (wU (Ky.tup.inj h.1)) (wU (Ky.tup.inj h.2.1))
theorem Fe:∀{a b:List (List Int×List Int)},a.map RP=b.map RP->a=b
 | [],[],_=>rfl
 | [],_::_,h=>by cases h
 |_::_,[],h=>by cases h
 |x::a,y::b,h=>by
  rw[aK,aK,dF] at h;rw[RN h.1,Fe h.2]
theorem CP{a b:List (List Int×List Int)}(h:Hl a=Hl b):a=b:=by
 unfold Hl at h;injection h with h;exact Fe h
def Uq(p:List Int×List Int):PyData:=.tuple [.tuple (p.1.map PyData.int),.tuple (p.2.map PyData.int)]
theorem Bb:∀ns:List Int,keys (ns.map PyData.int)=some (ns.map Ky.num)
 | []=>rfl
 |n::ns=>by
  rw[aK,keys,Bb ns];rfl
theorem pV(ns:acZ):key (.tuple (ns.map PyData.int))=some (.tup (ns.map Ky.num)):=by
 rw[key,Bb];rfl
theorem Sx(p:List Int×List Int):key (Uq p)=some (RP p):=by
 unfold Uq RP;rw[key,keys,keys,keys,pV,pV];rfl
theorem F4:∀κ:List (List Int×List Int),keys (κ.map Uq)=some (κ.map RP)
 | []=>rfl
 |p::κ=>by
  rw[aK,keys,F4 κ,Sx];rfl
theorem iy:∀ns:List Int,PyData.depthAll (ns.map PyData.int)<=1
 | []=>by show 0<=1;decide
 |n::ns=>by
  have:=iy ns;rw[aK,PyData.depthAll];have h1:(PyData.int n).depth<=1:=by rw[PyData.depth];decide
  omega
theorem MN(p:List Int×List Int):(Uq p).depth<=3:=by
 unfold Uq;have h1:=iy p.1;have h2:=iy p.2;simp only[PyData.depth,PyData.depthAll];omega
theorem y3:∀κ:List (List Int×List Int),PyData.depthAll (κ.map Uq)<=3
 | []=>by show 0<=3;decide
 |p::κ=>by
  have:=y3 κ;have:=MN p;rw[aK,PyData.depthAll];omega
theorem QB{K:Frag}{H:Hp}:∀{ps:ac1} {κ:List (List Int×List Int)},Paired (wI H) ps κ->nS K H (ps.map V.ref) (κ.map Uq)
 |_,_,.nil=>.nil
 |_,_,.cons ⟨a1,a2,h1,h2,h3⟩ r=>.cons (.tup (dJ.of h1) (.cons (.tup (dJ.of h2) (fT _)) (.cons (.tup (dJ.of h3) (fT _)) .nil))) (QB r)
theorem CW{K:Frag}{H:Hp}{p:Addr}{ps:ac1}{κ:List (List Int×List Int)}(h:H p=some (.tup (ps.map V.ref)))(hp:Paired (wI H) ps κ):gm K H (Hl κ) p:=by
 refine⟨.tuple (κ.map Uq),.tup (dJ.of h) (QB hp),?_,?_⟩
 ·rw[key,F4];rfl
 ·have:=y3 κ;rw[PyData.depth];omega
abbrev Ki(m:Bool)(q:ac2)(s:Sg):List (List Int×List Int):=FX (s.rows.map ib) m q
def Jx(K:Frag)(N:ac7)(H:Hp)(d:Addr)(m:Bool)(q:ac2)(S:List Sg):Prop:=∃kvs,DH K H d kvs/\∀s∈S,∃p,dB kvs (Hl (Ki m q s))=some (.ref p)/\N p/\H p=some (.lst (qV (du (Hv s m q) 0 S)))
theorem Jx.same{K:Frag}{N:ac7}{H H':Hp}{d:Addr}{m:Bool}{q:ac2}{S:List Sg}(h:Jx K N H d m q S)(s:bJ H H'):Jx K N H' d m q S:=by
 obtain⟨kvs,h1,h2⟩:=h;exact⟨kvs,h1.same s,λx hx=>by obtain⟨p,q1,q2,q3⟩:=h2 x hx;exact⟨p,q1,q2,s _ _ q3⟩⟩
theorem Jx.mono{K:Frag}{N N':ac7}{H:Hp}{d:Addr}{m:Bool}{q:ac2}{S:List Sg}(h:Jx K N H d m q S)(n:∀p,N p->N' p):Jx K N' H d m q S:=by
 obtain⟨kvs,h1,h2⟩:=h;exact⟨kvs,h1,λx hx=>by obtain⟨p,q1,q2,q3⟩:=h2 x hx;exact⟨p,q1,n p q2,q3⟩⟩
def Uh(K:Frag)(A:CA):Sp:=λvs H Q _=>∃(sl:Addr) (m:Bool) (dm:Addr),vs=[.ref sl,.bl m,.ref dm]/\∃(as:ac1) (Z:ac7) (S:List Sg) (q:ac2),H sl=some (.lst (as.map V.ref))/\Paired (gJ A Z H) as S/\(∀s∈S,n9 s)/\S.length<=512/\dJ K H dm (qV q)/\
 ∀H' d,bJ H H'->H d=.none->Jx K (λp=>H p=.none) H' d m q S->Q (.ref d) H'
theorem xP{H H1:Hp}{b:Addr}{o:HO}(s:bJ H H1)(hb:H b=.none):bJ H (L2.upd H1 b o):=λx u hx=>by
 rw[aH (bo hx hb)];exact s x u hx
theorem B8{kvs:List (Ky×V)}{k:Ky}{v:V}:(putK kvs k v).length<=kvs.length+1:=by
 unfold putK;split
 ·rw[af];omega
 ·rw[aw];exact aA _
structure Grp(K:Frag)(H H1:Hp)(D:Addr)(m:Bool)(q:ac2)(L:List Sg):Prop where
 sm:bJ H H1
 ob:∃kvs,DH K H1 D kvs/\kvs.length<=L.length/\(∀κ,dB kvs (Hl κ)=none->∀s∈L,Ki m q s≠κ)/\(∀κ v,dB kvs (Hl κ)=some v->∃p,v=.ref p/\H p=.none/\H1 p=some (.lst (qV (du (λs=>decide (Ki m q s=κ)) 0 L))))/\(∀κ κ' v,dB kvs (Hl κ)=some v->dB kvs (Hl κ')=some v->κ=κ')
theorem uK(D:Df K mg "signs_by_look" j8)(T:Tx mg K A)(kU:e7 P w K mg base "look_of" 2 ["rows","mirrored","damaged"] (HM K)):e7 P w K mg base "signs_by_look" 3 ["signs","mirrored","damaged"] (Uh K A):=by
 refine D.iO gM (λ_ _ _ _ _ _ us hl=>match us,hl with | [_,_,_],_=>rfl) (λvs H Q E h=>by obtain⟨_,_,_,rfl,_⟩:=h;rfl) (λf dG Ar outer s H vs Q E hr h=>?_);obtain⟨sl,m,dm,rfl,as,Z,S,q,zt,has,cR,Aa,S6,k⟩:=h;refine⟨_,(aq (gc 3 gM.nd xY) (aq (iY bP rfl (lG rfl T.eJ (aj (pv 0) aB)) (uG rfl (eB (qx 4 gM.nd) (eB (qx 5 gM.nd) lH))) (aC (cY (jU bp bu bq dc (LO hr (pv 3) (bB kU hr.m rfl (aj (bD (pv 5) rfl) (aj (pv 1) (aj (pv 2) aB)))) (dD aB) ⟨rfl,rfl,rfl,rfl⟩) (aj (pv 4) aB))))) (aC (aV (pv 3))))),?_⟩;intro D φ hD hDH;have Gv:(as.map V.ref).length=S.length:=by rw[af,bc has]
 refine⟨_,rfl,sl,_,rfl,cg.of (aF hD _ _ zt),o7 (K:=K) (a:=sl) (xs:=as.map V.ref) (λi σ H1=>∃(v4 v5:Option V),σ=[some (.ref sl),some (.bl m),some (.ref dm),some (.ref D),v4,v5]/\Grp K H H1 D m q (S.take i))
  ⟨_,_,rfl,aF hD,[],hDH,aD _,(λ_ _ s hs=>by rw[By] at hs;cases hs),(λ_ _ z=>by cases z),λ_ _ _ z=>by cases z⟩
  (λi σ H1 _ ⟨_,_,_,h⟩=>cg.of (h.sm _ _ zt)) ?turn ?after⟩
 case after=>
  rintro σ H1 ⟨v4,v5,rfl,G⟩;rw[Gv,cM] at G;obtain⟨sm,kvs,h1,_,h3,h4,_⟩:=G;refine⟨_,rfl,k H1 D sm hD ⟨kvs,h1,λs hs=>?_⟩⟩;cases hv:dB kvs (Hl (Ki m q s)) with
  |none=>exact absurd rfl (h3 _ hv s hs)
  |some v=>
   obtain⟨p,rfl,hp0,hp⟩:=h4 _ _ hv;exact⟨p,rfl,hp0,hp⟩
 case turn=>
  rintro i x σ H1 Tp hi ⟨v4,v5,rfl,sm,kvs,P2,hd2,IV,We,hd5⟩ Xn;rw[aM] at hi;cases ha:as[i]? with
  |none=>rw[ha] at hi;cases hi
  |some a=>
  rw[ha] at hi;cases hi;obtain⟨s,w8,tE⟩:=gq has ha;have Nk:i<S.length:=(aG.mp w8).1;have Ks:(S.take i).length=i:=by rw[bh];omega
  rw[Ks] at hd2;have Hq:S.take (i+1)=S.take i++ [s]:=by rw[bN,w8];rfl
  have sT:bJ H1 (L2.upd H1 Tp (.tup [.int i,.ref a])):=aF Xn;have s1:=sm.trans sT;obtain⟨dg,tn,XZ,rl,IX,_,_,⟨rs,Ef,Ku,_⟩,_⟩:=tE.same (Z':=Z) (λ_ z=>z) s1;have abI:=cR s (aL w8);obtain⟨r1,r2,r3,r4⟩:=gF abI;have W9:Paired (LI (L2.upd H1 Tp (.tup [.int i,.ref a]))) rs (s.rows.map ib):=K8.li Ku;refine⟨Tp,_,rfl,dJ.of ak,rfl,_,_,rfl,_,_,rfl,rfl,?_⟩;generalize L2.upd H1 Tp (.tup [.int i,.ref a])=H2 at sT s1 IX Ef W9 ⊢;refine⟨_,rfl,D,kvs,rfl,P2.same sT,_,rfl,a,_,dg,_,_,rfl,IX,T.jc,T.iE,rfl,_,rfl,_,rfl,rl,m,dm,rfl,rs,s.rows.map ib,q,Ef,W9,?_,?_,?_,cp s1 S6,λH3 p3 ps3 s3 zu abO=>⟨aD _,λe he=>?_⟩⟩
  ·intro z;exact r1 (Ey.mp z)
  ·rw[af];exact r2
  ·intro x hx;obtain⟨y,hy,rfl⟩:=cH.mp hx;have e1:((s.rows.map ib).headD []).length=(s.rows.headD []).length:=by
    cases hz:s.rows with
    |nil=>rfl
    |cons y ys=>exact dI y
   rw[e1,dI,r4 y hy];exact⟨r3,rfl⟩
  have s13:bJ H1 H3:=sT.trans s3;have WY:bJ H1 (L2.upd H3 e (.lst [])):=s13.trans (aF he);have s0e:bJ H (L2.upd H3 e (.lst [])):=sm.trans WY;have V6:gm K (L2.upd H3 e (.lst [])) (Hl (Ki m q s)) p3:=(CW zu abO).same (aF he);have hde:=P2.same WY;have hee:(L2.upd H3 e (.lst [])) e=some (.lst []):=ak;have heH:H e=.none:=by
   cases hz:H e with
   |none=>rfl
   |some u=>have:=(sm.trans s13) _ _ hz;rw[he] at this;cases this
  have ZP:H1 e=.none:=by
   cases hz:H1 e with
   |none=>rfl
   |some u=>have:=s13 _ _ hz;rw[he] at this;cases this
  generalize L2.upd H3 e (.lst [])=H4 at WY s0e V6 hde hee ⊢;have PQ:kvs.length<sizeLine:=by
   have:(1000:Nat)<sizeLine:=by decide
   omega
  have Ze:(S.take (i+1)).length=i+1:=by rw[bh];omega
  have Z3:∀κ,(qV (du (λs=>decide (Ki m q s=κ)) 0 (S.take i))).length<sizeLine:=λκ=>by
   have:=gG (λs=>decide (Ki m q s=κ)) (S.take i) 0;have:(1000:Nat)<sizeLine:=by decide
   unfold qV;rw[af];omega
  refine⟨p3,Hl (Ki m q s),kvs,rfl,hde,V6,PQ,λv hv=>?_,λhv T7 Ho=>?_⟩
  ·obtain⟨p,rfl,Zs,wb⟩:=We _ _ hv;have Kv:=WY _ _ wb;refine⟨.inl ⟨rfl,_,cg.of Kv⟩,_,rfl,p,_,_,rfl,rfl,Kv,Z3 _,?_⟩;refine⟨_,_,rfl,xP s0e Zs,kvs,hde.keep (oM (uP Kv (λ_=>nofun) (λ_ _=>nofun))) (λφ z=>by rw[aH (bW z Kv nofun)];exact z),by rw[Ze];omega,λκ z s' qp=>?_,λκ v z=>?_,hd5⟩
   ·rw[Hq] at qp;rcases bx.mp qp with qp|qp
    ·exact IV κ z s' qp
    ·rw[aE.mp qp];intro e;rw[<-e,hv] at z;cases z
   ·obtain⟨p',rfl,V2,Gj⟩:=We _ _ z;refine⟨p',rfl,V2,?_⟩;by_cases Uw:Ki m q s=κ
    ·have:p'=p:=by
      rw[<-Uw,hv] at z;exact(V.ref.inj (aX z)).symm
     rw[this,ak,Hq,gK,ah (ai Uw),dE,Ks,Uw];unfold qV;rw[aN];rfl
    ·have:p'≠p:=λe=>Uw (hd5 _ _ _ hv (by rw[<-e];exact z))
     rw[aH this,Hq,gK,ae (λz=>Uw (bA z))];exact WY _ _ Gj
  ·obtain⟨φ3,Rk⟩:=hde.there;have heD:e≠D:=bW hee Rk nofun;have he5:(L2.upd H4 D (.ext T7)) e=some (.lst []):=by rw[aH heD];exact hee
   have rS:=IV _ hv;refine⟨.inl ⟨rfl,_,cg.of he5⟩,_,rfl,e,_,_,rfl,rfl,he5,by show 0<sizeLine;decide,?_⟩;refine⟨_,_,rfl,xP (xP s0e hD) heH,_,Ho.keep (oM (uP he5 (λ_=>nofun) (λ_ _=>nofun))) (λφ z=>by rw[aH (bW z he5 nofun)];exact z),?_,λκ z s' qp=>?_,λκ v z=>?_,λκ κ' v z z'=>?_⟩
   ·rw[Ze];have:=B8 (kvs:=kvs) (k:=Hl (Ki m q s)) (v:=.ref e);omega
   ·rw[iQ] at z;split at z
    ·cases z
    ·rename_i hk;rw[Hq] at qp;rcases bx.mp qp with qp|qp
     ·exact IV κ z s' qp
     ·rw[aE.mp qp];intro e;exact hk (by rw[e])
   ·rw[iQ] at z;split at z
    ·rename_i hk;have Uw:=CP hk;cases z;refine⟨e,rfl,heH,?_⟩;have e0:du (λs=>decide (Ki m q s=κ)) 0 (S.take i)=[]:=by
      cases hz:du (λs=>decide (Ki m q s=κ)) 0 (S.take i) with
      |nil=>rfl
      |cons n ns=>
       have:=(kI _ _ _ n).mp (by rw[hz];exact aR);obtain⟨j,t,t1,t2,_⟩:=this;exact absurd ((bA t2).trans Uw) (rS t (aL t1))
     rw[ak,Hq,gK,ah (ai Uw.symm),e0,dE,Ks];rfl
    ·rename_i hk;obtain⟨p',rfl,V2,Gj⟩:=We _ _ z;refine⟨p',rfl,V2,?_⟩;have hpe:p'≠e:=λq=>by rw[q,ZP] at Gj;cases Gj
     have Kv:=WY _ _ Gj;rw[aH hpe,aH (bW Kv Rk nofun),Hq,gK,ae (λq=>hk (by rw[bA q]))];exact Kv
   ·rw[iQ] at z z';have old:∀κ v,dB kvs (Hl κ)=some v->v≠.ref e:=λκ v z q=>by
     obtain⟨p',rfl,_,Gj⟩:=We _ _ z;rw[V.ref.inj q,ZP] at Gj;cases Gj
    split at z
    ·rename_i hk;cases z;split at z'
     ·rename_i Mv;exact(CP hk).trans (CP Mv).symm
     ·exact absurd rfl (old _ _ z')
    ·split at z'
     ·cases z';exact absurd rfl (old _ _ z)
     ·exact hd5 _ _ _ z z'
def Rn(b:Bool):Ky:=.num (if b=true then 1 else 0)
def Up(q:ac2):Ky:=.tup (q.map λ(n:Nat)=>Ky.num (n:Nat))
def FN(m:Bool)(q:ac2):Ky:=.tup [Rn m,Up q]
def zr:FT.It->Ky
 | .stand s=>.tup [ud s.name,.num 0,Rn s.mirrored,Up s.quarters,Rn s.unsure]
 | .gap k q=>.tup [.eZ,.num (k:Nat),Rn false,Up q,Rn false]
 | .lost=>.eZ
theorem D0{a b:Bool}(h:Rn a=Rn b):a=b:=by
 unfold Rn at h;exact QP (Ky.num.inj h)
theorem B6:∀{a b:ac2},Up a=Up b->a=b:=by
 intro a b h;unfold Up at h;have h:=Ky.tup.inj h;have h2:(a.map λ(n:Nat)=>(n:Int)).map Ky.num=(b.map λ(n:Nat)=>(n:Int)).map Ky.num:=by
  rw[cC,cC];exact h
 have h3:=wU h2;exact(List.map_inj_right (λx y q=>by omega)).mp h3
theorem Sl{m m':Bool}{q q':ac2}(h:FN m q=FN m' q'):m=m'/\q=q':=by
 unfold FN at h;have h:=Ky.tup.inj h;simp only[dF,and_true] at h;exact⟨D0 h.1,B6 h.2⟩
theorem Sw:∀{a b:FT.It},zr a=zr b->a=b
 | .lost,.lost,_=>rfl
 | .lost,.stand s,h=>by unfold zr at h;cases h
 | .lost,.gap k q,h=>by unfold zr at h;cases h
 | .stand s,.lost,h=>by unfold zr at h;cases h
 | .gap k q,.lost,h=>by unfold zr at h;cases h
 | .stand s,.gap k q,h=>by
  unfold zr ud at h;have h:=Ky.tup.inj h;simp only[dF] at h;cases h.1
 | .gap k q,.stand s,h=>by
  unfold zr ud at h;have h:=Ky.tup.inj h;simp only[dF] at h;cases h.1
 | .gap k q,.gap k' q',h=>by
  unfold zr at h;have h:=Ky.tup.inj h;simp only[dF] at h;have h1:=Ky.num.inj h.2.1;rw[show k=k' by omega,B6 h.2.2.2.1]
 | .stand s,.stand s',h=>by
  unfold zr at h;have h:=Ky.tup.inj h;simp only[dF] at h;obtain⟨h1,_,h3,h4,h5,_⟩:=h;obtain⟨n,m,q,u⟩:=s;obtain⟨n',m',q',u'⟩:=s';rw[show n=n' from Cw h1,show m=m' from D0 h3,show q=q' from B6 h4,show u=u' from D0 h5]
theorem CZ(b:Bool):key (.bool b)=some (Rn b):=by
 unfold key Rn;rfl
theorem IH(q:ac2):key (.tuple ((q.map λ(n:Nat)=>(n:Int)).map PyData.int))=some (Up q):=by
 rw[pV];unfold Up;rw[cC];rfl
theorem QA{K:Frag}{H:Hp}{b:Addr}{q:ac2}(h:dJ K H b (qV q)):Dp K H (.ref b) (.tuple ((q.map λ(n:Nat)=>(n:Int)).map PyData.int)):=by
 rw[xU] at h;exact .tup h (fT _)
theorem tP(ns:acZ):(PyData.tuple (ns.map PyData.int)).depth<=2:=by
 have:=iy ns;rw[PyData.depth];omega
theorem tu{K:Frag}{H:Hp}{p b:Addr}{m:Bool}{q:ac2}(h:dJ K H p [.bl m,.ref b])(hb:dJ K H b (qV q)):gm K H (FN m q) p:=by
 refine⟨.tuple [.bool m,.tuple ((q.map λ(n:Nat)=>(n:Int)).map PyData.int)],.tup h (.cons (.bl m) (.cons (QA hb) .nil)),?_,?_⟩
 ·rw[key,keys,keys,keys,CZ,IH];rfl
 ·have:=tP (q.map λ(n:Nat)=>(n:Int));have h2:(PyData.bool m).depth<=2:=by rw[PyData.depth];decide
  rw[PyData.depth,PyData.depthAll,PyData.depthAll,PyData.depthAll];omega
theorem Pn{K:Frag}{H:Hp}{p tn td:Addr}{s:Stand}(h:dJ K H p [.ref tn,.int 0,.bl s.mirrored,.ref td,.bl s.unsure])(hn:dJ K H tn ((vo s.name).map V.int))(hd:dJ K H td (qV s.quarters)):gm K H (zr (.stand s)) p:=by
 refine⟨.tuple [.tuple ((vo s.name).map PyData.int),.int 0,.bool s.mirrored,.tuple ((s.quarters.map λ(n:Nat)=>(n:Int)).map PyData.int),.bool s.unsure],.tup h (.cons (.tup hn (fT _)) (.cons (.int 0) (.cons (.bl _) (.cons (QA hd) (.cons (.bl _) .nil))))),?_,?_⟩
 ·rw[key,keys,keys,keys,keys,keys,keys,CZ,CZ,IH,pV];rfl
 ·have h1:=tP (s.quarters.map λ(n:Nat)=>(n:Int));have h2:=tP (vo s.name);have h3:∀b,(PyData.bool b).depth<=2:=λb=>by rw[PyData.depth];decide
  have h4:=h3 s.mirrored;have h5:=h3 s.unsure;have h6:(PyData.int 0).depth<=2:=by rw[PyData.depth];decide
  rw[PyData.depth];simp only[PyData.depthAll];omega
theorem Po{K:Frag}{H:Hp}{p td:Addr}{k:Nat}{q:ac2}(h:dJ K H p [.eZ,.int k,.bl false,.ref td,.bl false])(hd:dJ K H td (qV q)):gm K H (zr (.gap k q)) p:=by
 refine⟨.tuple [.none,.int k,.bool false,.tuple ((q.map λ(n:Nat)=>(n:Int)).map PyData.int),.bool false],.tup h (.cons .eZ (.cons (.int _) (.cons (.bl _) (.cons (QA hd) (.cons (.bl _) .nil))))),?_,?_⟩
 ·rw[key,keys,keys,keys,keys,keys,keys,CZ,IH];rfl
 ·have h1:=tP (q.map λ(n:Nat)=>(n:Int));have h3:∀b,(PyData.bool b).depth<=2:=λb=>by rw[PyData.depth];decide
  have h4:=h3 false;have h6:(PyData.int k).depth<=2:=by rw[PyData.depth];decide
  have h7:PyData.none.depth<=2:=by rw[PyData.depth];decide
  rw[PyData.depth];simp only[PyData.depthAll];omega
structure PO where
 po:Addr
 dx:Addr
 sl:Addr
 nb:Addr
 lk:Addr
 kn:Addr
 as:List Addr
 Z:Addr->Prop
 D:Addr
structure vK(K:Frag)(A:CA)(H:Hp)(o:PO)(S:List Sg)(n:Nat):Prop where
 ob:H o.po=some (.ins A.bw o.dx (YA o.sl o.nb o.lk o.kn))
 sl:H o.sl=some (.lst (o.as.map V.ref))
 sg:Paired (gJ A o.Z H) o.as S
 nb:DH K H o.nb (gr 0 S)
 lk:∃kvs,DH K H o.lk kvs/\kvs.length<=n/\∀m q v,dB kvs (FN m q)=some v->∃d,v=.ref d/\d≠o.lk/\d≠o.kn/\Jx K (λp=>p≠o.D) H d m q S
 kn:∃kvs,DH K H o.kn kvs/\kvs.length<=n/\∀it v,dB kvs (zr it)=some v->∃p,v=.ref p/\Ep H p (qV (ST2.mq (S.map LZ.b9) it))
 n1:o.lk≠o.kn
 n2:o.nb≠o.lk
 n3:o.nb≠o.kn
 dd:∃u,H o.D=some u
theorem vK.same{K:Frag}{A:CA}{H H':Hp}{o:PO}{S:List Sg}{n:Nat}(h:vK K A H o S n)(s:bJ H H'):vK K A H' o S n:=by
 obtain⟨h1,h2,h3,h4,⟨k1,a1,a2,a3⟩,⟨k2,b1,b2,b3⟩,h7,h8,h9,⟨u,hu⟩⟩:=h;exact⟨s _ _ h1,s _ _ h2,Paired.ee h3 λ_ _ z=>z.same (λ_ z=>z) s,h4.same s,⟨k1,a1.same s,a2,λm q v z=>by obtain⟨d,g1,g2,g3,g4⟩:=a3 m q v z;exact⟨d,g1,g2,g3,g4.same s⟩⟩,⟨k2,b1.same s,b2,λit v z=>by obtain⟨p,g1,g2⟩:=b3 it v z;exact⟨p,g1,g2.same s⟩⟩,h7,h8,h9,u,s _ _ hu⟩
theorem vK.mono{K:Frag}{A:CA}{H:Hp}{o:PO}{S:List Sg}{n n':Nat}(h:vK K A H o S n)(hn:n<=n'):vK K A H o S n':=by
 obtain⟨h1,h2,h3,h4,⟨k1,a1,a2,a3⟩,⟨k2,b1,b2,b3⟩,h7,h8,h9,⟨u,hu⟩⟩:=h;exact⟨h1,h2,h3,h4,⟨k1,a1,by omega,a3⟩,⟨k2,b1,by omega,b3⟩,h7,h8,h9,u,hu⟩
def SX(o:PO):Sel:=λb x=>(b=o.lk\/b=o.kn)/\∃φ,x=.ext φ
abbrev KX(o:PO):Hp->Hp->Prop:=Kp (SX o)
theorem jj.kx{A:CA}{H H':Hp}{o:PO}{a:Addr}{i:FT.It}(h:jj A H a i)(k:KX o H H'):jj A H' a i:=by
 have key:∀b u,H b=some u->(∀φ,u≠.ext φ)->H' b=some u:=λb u z n=>k.kp b u z λ⟨_,φ,e⟩=>n φ e
 cases i with
 |lost=>exact h
 |stand s=>
  obtain⟨dx,tn,td,h1,h2,h3⟩:=h;exact⟨dx,tn,td,key _ _ h1 (λ_=>nofun),key _ _ h2 (λ_=>nofun),key _ _ h3 (λ_=>nofun)⟩
 |gap q r=>
  obtain⟨dx,td,h1,h2⟩:=h;exact⟨dx,td,key _ _ h1 (λ_=>nofun),key _ _ h2 (λ_=>nofun)⟩
theorem y2{K:Frag}{H:Hp}{a b:Addr}{φ ψ:Heap->Prop}{kvs:List (Ky×V)}(h:DH K H a kvs)(hb:H b=some (.ext ψ))(ne:a≠b):DH K (L2.upd H b (.ext φ)) a kvs:=
 h.keep (oM (uP hb (λ_=>nofun) (λ_ _=>nofun))) (λ_ z=>by rw[aH ne];exact z)
theorem fz{H:Hp}{b:Addr}{φ ψ:Heap->Prop}(hb:H b=some (.ext ψ)){a:Addr}{u:HO}(h:H a=some u)(n:∀φ,u≠.ext φ):(L2.upd H b (.ext φ)) a=some u:=by
 rw[aH (bW h hb (n ψ))];exact h
theorem BF{H:Hp}{b a:Addr}{x u:HO}(h:H a=some u):∃u,(L2.upd H b x) a=some u:=by
 by_cases e:a=b
 ·rw[e];exact⟨_,ak⟩
 ·exact⟨u,by rw[aH e];exact h⟩
theorem wW{K:Frag}{N:ac7}{H:Hp}{b d:Addr}{φ ψ:Heap->Prop}{m:Bool}{q:ac2}{S:List Sg}(h:Jx K N H d m q S)(hb:H b=some (.ext ψ))(ne:d≠b):Jx K N (L2.upd H b (.ext φ)) d m q S:=by
 obtain⟨kvs,h1,h2⟩:=h;exact⟨kvs,y2 h1 hb ne,λs hs=>by obtain⟨p,z1,z0,z2⟩:=h2 s hs;exact⟨p,z1,z0,fz hb z2 (λ_=>nofun)⟩⟩
theorem Ob{A:CA}{Z:ac7}{H:Hp}{a b:Addr}{s:Sg}{φ ψ:Heap->Prop}(h:gJ A Z H a s)(hb:H b=some (.ext ψ)):gJ A Z (L2.upd H b (.ext φ)) a s:=
 h.mono (λ_ z=>z) (λ_ _ _ z=>fz hb z (λ_=>nofun)) (λ_ _ z=>fz hb z (λ_=>nofun)) (λ_ _ _ _ _ z=>fz hb z (λ_=>nofun))
theorem vK.putL{K:Frag}{A:CA}{H:Hp}{o:PO}{S:List Sg}{n:Nat}{kvs:List (Ky×V)}{m:Bool}{q:ac2}{d:Addr}{φ:Heap->Prop}(h:vK K A H o S n)(hk:∀m q v,dB kvs (FN m q)=some v->∃d,v=.ref d/\d≠o.lk/\d≠o.kn/\Jx K (λp=>p≠o.D) H d m q S)(hl:kvs.length<=n)(hd:Jx K (λp=>p≠o.D) H d m q S)(d1:d≠o.lk)(d2:d≠o.kn)(hp:DH K (L2.upd H o.lk (.ext φ)) o.lk (putK kvs (FN m q) (.ref d))):vK K A (L2.upd H o.lk (.ext φ)) o S (n+1):=by
 obtain⟨h1,h2,h3,h4,⟨k1,a1,a2,a3⟩,⟨k2,b1,b2,b3⟩,h7,h8,h9,⟨u,hu⟩⟩:=h;obtain⟨ψ,hb⟩:=a1.there;refine⟨fz hb h1 (λ_=>nofun),fz hb h2 (λ_=>nofun),Paired.ee h3 λ_ _ z=>Ob z hb,y2 h4 hb h8,⟨_,hp,?_,λm' q' v z=>?_⟩,⟨k2,y2 b1 hb (cv h7),by omega,λit v z=>?_⟩,h7,h8,h9,BF hu⟩
 ·have:=B8 (kvs:=kvs) (k:=FN m q) (v:=.ref d);omega
 ·rw[iQ] at z;split at z
  ·rename_i e;obtain⟨e1,e2⟩:=Sl e;cases z;exact⟨d,rfl,d1,d2,by rw[e1,e2];exact wW hd hb d1⟩
  ·obtain⟨d',g1,g2,g3,g4⟩:=hk m' q' v z;exact⟨d',g1,g2,g3,wW g4 hb g2⟩
 ·obtain⟨p,g1,ob,g2,g3,g4⟩:=b3 it v z;exact⟨p,g1,ob,g2,g3,fz hb g4 (λ_=>nofun)⟩
theorem vK.putK{K:Frag}{A:CA}{H:Hp}{o:PO}{S:List Sg}{n:Nat}{kvs:List (Ky×V)}{it:FT.It}{p:Addr}{φ:Heap->Prop}(h:vK K A H o S n)(hk:∀it v,dB kvs (zr it)=some v->∃p,v=.ref p/\Ep H p (qV (ST2.mq (S.map LZ.b9) it)))(hl:kvs.length<=n)(hd:Ep H p (qV (ST2.mq (S.map LZ.b9) it)))(hp:DH K (L2.upd H o.kn (.ext φ)) o.kn (L2.putK kvs (zr it) (.ref p))):vK K A (L2.upd H o.kn (.ext φ)) o S (n+1):=by
 obtain⟨h1,h2,h3,h4,⟨k1,a1,a2,a3⟩,⟨k2,b1,b2,b3⟩,h7,h8,h9,⟨u,hu⟩⟩:=h;obtain⟨ψ,hb⟩:=b1.there;have kt:∀{p:Addr} {ys:List V},Ep H p ys->Ep (L2.upd H o.kn (.ext φ)) p ys:=λ⟨ob,g2,g3,g4⟩=>⟨ob,g2,g3,fz hb g4 (λ_=>nofun)⟩
 refine⟨fz hb h1 (λ_=>nofun),fz hb h2 (λ_=>nofun),Paired.ee h3 λ_ _ z=>Ob z hb,y2 h4 hb h9,⟨k1,y2 a1 hb h7,by omega,λm q v z=>?_⟩,⟨_,hp,?_,λit' v z=>?_⟩,h7,h8,h9,BF hu⟩
 ·obtain⟨d',g1,g2,g3,g4⟩:=a3 m q v z;exact⟨d',g1,g2,g3,wW g4 hb g3⟩
 ·have:=B8 (kvs:=kvs) (k:=zr it) (v:=.ref p);omega
 ·rw[iQ] at z;split at z
  ·rename_i e;rw[Sw e];cases z;exact⟨p,rfl,kt hd⟩
  ·obtain⟨p',g1,g2⟩:=hk it' v z;exact⟨p',g1,kt g2⟩
theorem vK.wrD{K:Frag}{A:CA}{H:Hp}{o:PO}{S:List Sg}{n:Nat}{xs ys:List V}(h:vK K A H o S n)(hD:H o.D=some (.lst xs))(hs:o.sl≠o.D)(hz:∀q,o.Z q->q≠o.D):vK K A (L2.upd H o.D (.lst ys)) o S n:=by
 obtain⟨h1,h2,h3,h4,⟨k1,a1,a2,a3⟩,⟨k2,b1,b2,b3⟩,h7,h8,h9,⟨u,hu⟩⟩:=h;have kd:∀{a:Addr} {kvs:List (Ky×V)},DH K H a kvs->DH K (L2.upd H o.D (.lst ys)) a kvs:=λz=>z.keep (oM (uP hD (λ_=>nofun) (λ_ _=>nofun))) (λ_ z=>by rw[aH (bW z hD nofun)];exact z)
 refine⟨by rw[aH (bW h1 hD nofun)];exact h1,by rw[aH hs];exact h2,Paired.ee h3 λ_ _ z=>z.wr hD hz,kd h4,⟨k1,kd a1,a2,λm q v z=>?_⟩,⟨k2,kd b1,b2,λit v z=>?_⟩,h7,h8,h9,BF hu⟩
 ·obtain⟨d,g1,g2,g3,kv,g4,g5⟩:=a3 m q v z;exact⟨d,g1,g2,g3,kv,kd g4,λs hs=>by obtain⟨p,z1,z0,z2⟩:=g5 s hs;exact⟨p,z1,z0,by rw[aH z0];exact z2⟩⟩
 ·obtain⟨p,g1,ob,g2,g3,g4⟩:=b3 it v z;exact⟨p,g1,ob,g2,g3,by rw[aH (bW g4 hD nofun)];exact g4⟩
theorem wR{S:List Sg}(h:(S.map λs=>ud s.name).Nodup):∀(k i:Nat) (g:Sg),S[i]?=some g->dB (gr k S) (ud g.name)=some (.int ((k+i:Nat):Int)):=by
 induction S with
 |nil=>intro k i g q;cases q
 |cons s S ih=>
  intro k i g q;rw[aK,cz] at h;cases i with
  |zero=>
   cases q;exact fF rfl
  |succ i=>
   have gT:ud s.name≠ud g.name:=λe=>h.1 (by rw[e];exact cH.mpr ⟨g,aL (show S[i]?=some g from q),rfl⟩)
   show dB ((ud s.name,V.int k)::gr (k+1) S) _=_;rw[fb gT,ih h.2 (k+1) i g q,show k+1+i=k+(i+1) by omega]
theorem RI{g:Sg}(h:n9 g):g.rows.map ib≠[]/\(g.rows.map ib).length<=32/\∀x∈g.rows.map ib,x.length<=32/\x.length=((g.rows.map ib).headD []).length:=by
 obtain⟨r1,r2,r3,r4⟩:=gF h;refine⟨λz=>r1 (Ey.mp z),by rw[af];exact r2,λx hx=>?_⟩;obtain⟨y,hy,rfl⟩:=cH.mp hx;have e1:((g.rows.map ib).headD []).length=(g.rows.headD []).length:=by
  cases hz:g.rows with
  |nil=>rfl
  |cons y ys=>exact dI y
 rw[e1,dI,r4 y hy];exact⟨r3,rfl⟩
def JT(K:Frag)(A:CA):Sp:=λvs H Q _=>∃(po pl:Addr),vs=[.ref po,.ref pl]/\∃(o:PO) (S:List Sg) (n:Nat) (st:Stand) (i:Nat) (g:Sg),po=o.po/\vK K A H o S n/\jj A H pl (.stand st)/\S[i]?=some g/\g.name=st.name/\Ord S/\(∀s∈S,n9 s)/\S.length<=512/\n<=1000000/\
 ∀H' p,KX o H H'->vK K A H' o S (n+1)->H' p=some (.lst (qV (du (Hv g st.mirrored st.quarters) 0 S)))->Q (.ref p) H'
theorem sM(D:K9 K "alike" "Possible.alike" A.bw jw)(T:Tx mg K A)(kU:e7 P w K mg base "look_of" 2 ["rows","mirrored","damaged"] (HM K))(kl:e7 P w K mg base "signs_by_look" 3 ["signs","mirrored","damaged"] (Uh K A)):d4 P w K mg base A.bw "alike" 4 ["self","place"] (JT K A):=by
 refine D.iO iS (λ_ _ _ _ _ _ us hl=>match us,hl with | [_,_],_=>rfl) (λvs H Q E h=>by obtain⟨_,_,rfl,_⟩:=h;rfl) (λf dG Ar outer s H vs Q E hr h=>?_);obtain⟨_,pl,rfl,o,S,n,st,i0,g,rfl,PS,iK,hg,Xk,rk,cR,Aa,hn,k⟩:=h;obtain⟨rr1,rr2,rr3⟩:=RI (cR g (aL hg));have tF:=pT rk;obtain⟨dp,tn,td,iK,SK,htd⟩:=iK;refine⟨_,(aq (gc 2 iS.nd (gH (aj (bD (pv 1) rfl) (aj (bD (pv 1) rfl) aB)))) (aq (bR (B9 (xZ hr (pv 2) (bD (pv 0) rfl))) (aC (E9 hr (bD (pv 0) rfl) (pv 2) (bB kl hr.m rfl (aj (bD (pv 0) rfl) (aj (bD (pv 1) rfl) (aj (bD (pv 1) rfl) aB)))) rfl)) bf) (aq (gc 3 iS.nd (fu d5 (bD (pv 0) rfl) (oQ hr (bD (pv 0) rfl) (bD (pv 1) rfl) (λ_ _=>rfl)) (λ_ _=>rfl))) (aC (aV (oQ hr (oQ hr (bD (pv 0) rfl) (pv 2) (λ_ _=>rfl)) (bB kU hr.m rfl (aj (bD (pv 3) rfl) (aj (bD (pv 1) rfl) (aj (bD (pv 1) rfl) aB)))) (λ_ _=>rfl))))))),?_⟩;refine⟨_,rfl,pl,_,dp,_,_,rfl,iK,T.cB,T.eO,rfl,_,rfl,pl,_,dp,_,_,rfl,iK,T.cB,T.ed,rfl,(F1 rfl),λmk hmk=>?_⟩;have sm:bJ H (L2.upd H mk (.tup [.bl st.mirrored,.ref td])):=aF hmk;have PL:(L2.upd H mk (.tup [.bl st.mirrored,.ref td])) mk=some (.tup [.bl st.mirrored,.ref td]):=ak;generalize L2.upd H mk (.tup [.bl st.mirrored,.ref td])=H1 at sm PL ⊢;have TZ:=PS.same sm;have SS:=sm _ _ iK;have PD:=sm _ _ htd;have Zd:=sm _ _ SK;obtain⟨kvs,Rg,PQ,UC⟩:=TZ.lk;refine⟨_,rfl,_,rfl,o.po,_,o.dx,_,_,rfl,TZ.ob,T.bS,T.fH,rfl,o.lk,mk,FN st.mirrored st.quarters,kvs,rfl,rfl,Rg,tu (dJ.of PL) (dJ.of PD),_,rfl,?_⟩;cases hv:dB kvs (FN st.mirrored st.quarters) with
 |none=>
  refine bI ⟨_,rfl,o.po,_,o.dx,_,_,rfl,TZ.ob,T.bS,T.eN,rfl,_,rfl,pl,_,dp,_,_,rfl,SS,T.cB,T.eO,rfl,_,rfl,pl,_,dp,_,_,rfl,SS,T.cB,T.ed,rfl,o.sl,st.mirrored,td,rfl,o.as,o.Z,S,st.quarters,TZ.sl,TZ.sg,cR,Aa,dJ.of PD,λH3 d s3 hd hLk=>?_⟩;have PS3:=TZ.same s3;have hLk:Jx K (λp=>p≠o.D) H3 d st.mirrored st.quarters S:=hLk.mono λp z e=>by
   obtain⟨u,hu⟩:=TZ.dd;have z:H1 p=.none:=z;rw[e,hu] at z;cases z
  have ZQ:=Rg.same s3;have d1:d≠o.lk:=by
   obtain⟨φ,z⟩:=Rg.there;exact cv (bo z hd)
  have d2:d≠o.kn:=by
   obtain⟨k2,b1,_⟩:=TZ.kn;obtain⟨φ,z⟩:=b1.there;exact cv (bo z hd)
  have hk3:∀m q v,dB kvs (FN m q)=some v->∃d,v=.ref d/\d≠o.lk/\d≠o.kn/\Jx K (λp=>p≠o.D) H3 d m q S:=λm q v z=>by
   obtain⟨d',g1,g2,g3,g4⟩:=UC m q v z;exact⟨d',g1,g2,g3,g4.same s3⟩
  refine⟨_,rfl,o.po,_,o.dx,_,_,rfl,PS3.ob,T.bS,T.fH,rfl,_,rfl,o.lk,mk,FN st.mirrored st.quarters,kvs,rfl,rfl,ZQ,tu (dJ.of (s3 _ _ PL)) (dJ.of (s3 _ _ PD)),?_,λφ MA=>?_⟩
  ·have:(10000000:Nat)<sizeLine:=by decide
   omega
  have Bu:vK K A (L2.upd H3 o.lk (.ext φ)) o S (n+1):=PS3.putL hk3 PQ hLk d1 d2 MA;obtain⟨ψ,hb⟩:=ZQ.there;have Tb:Jx K (λp=>p≠o.D) (L2.upd H3 o.lk (.ext φ)) d st.mirrored st.quarters S:=wW hLk hb d1;have SW:=fz (φ:=φ) hb (s3 _ _ PL) (λ_=>nofun);have Gi:=fz (φ:=φ) hb (s3 _ _ SS) (λ_=>nofun);have Gg:=fz (φ:=φ) hb (s3 _ _ PD) (λ_=>nofun);have SJ:=fz (φ:=φ) hb (s3 _ _ Zd) (λ_=>nofun);have q2:KX o H (L2.upd H3 o.lk (.ext φ)):=(Kp.same (sm.trans s3)).trans (.wr hb ⟨.inl rfl,ψ,rfl⟩);have W7:dB (L2.putK kvs (FN st.mirrored st.quarters) (.ref d)) (FN st.mirrored st.quarters)=some (.ref d):=by rw[iQ,ah rfl]
  generalize L2.putK kvs (FN st.mirrored st.quarters) (.ref d)=VI at MA W7;generalize L2.upd H3 o.lk (.ext φ)=H2 at MA Bu Tb SW Gi Gg SJ q2 ⊢
  ·obtain⟨dg,tg,XZ,rl,IX,_,_,⟨rs,Ef,Ku,_⟩,_⟩:=kf Bu.sg hg |>.choose_spec.2;have ZL:=(kf Bu.sg hg).choose_spec.1;generalize (kf Bu.sg hg).choose=ga at IX ZL;have W9:Paired (LI H2) rs (g.rows.map ib):=K8.li Ku;obtain⟨kvD,Xq,Ho⟩:=Tb;obtain⟨p,Zs,_,wb⟩:=Ho g (aL hg);refine⟨_,rfl,o.po,_,o.dx,_,_,rfl,Bu.ob,T.bS,T.eN,rfl,_,rfl,o.po,_,o.dx,_,_,rfl,Bu.ob,T.bS,T.eV,rfl,_,rfl,pl,_,dp,_,_,rfl,Gi,T.cB,T.cZ,rfl,o.nb,tn,ud g.name,gr 0 S,.int ((0+i0:Nat):Int),rfl,rfl,Bu.nb,?_,wR tF 0 i0 g hg,o.sl,_,_,_,rfl,rfl,cg.of Bu.sl,at_of (j:=i0) (by omega) (by rw[aM,ZL];rfl),?_⟩
   ·rw[Xk];exact tq SJ
   refine⟨_,rfl,o.po,_,o.dx,_,_,rfl,Bu.ob,T.bS,T.fH,rfl,_,rfl,o.lk,mk,FN st.mirrored st.quarters,VI,.ref d,rfl,rfl,MA,tu (dJ.of SW) (dJ.of Gg),W7,_,rfl,ga,_,dg,_,_,rfl,IX,T.jc,T.iE,rfl,_,rfl,pl,_,dp,_,_,rfl,Gi,T.cB,T.eO,rfl,_,rfl,pl,_,dp,_,_,rfl,Gi,T.cB,T.ed,rfl,rl,st.mirrored,td,rfl,rs,g.rows.map ib,st.quarters,Ef,W9,rr1,rr2,rr3,dJ.of Gg,λH5 p5 ps5 s5 Zr VY=>?_⟩;refine⟨d,p5,Hl (Ki st.mirrored st.quarters g),kvD,.ref p,rfl,rfl,Xq.same s5,CW Zr VY,Zs,?_⟩;exact k H5 p (q2.trans (.same s5)) (Bu.same s5) (s5 _ _ wb)
 |some v=>
  obtain⟨d,rfl,d1,d2,Tb⟩:=UC _ _ _ hv;have Bu:=TZ.mono (show n<=n+1 by omega);refine bO ?_;obtain⟨H2,rfl⟩:∃H2,H2=H1:=⟨_,rfl⟩;obtain⟨VI,rfl⟩:∃x,x=kvs:=⟨_,rfl⟩;have MA:=Rg;have SW:=PL;have Gi:=SS;have Gg:=PD;have SJ:=Zd;have W7:=hv;have q2:KX o H H2:=.same sm
  ·obtain⟨dg,tg,XZ,rl,IX,_,_,⟨rs,Ef,Ku,_⟩,_⟩:=kf Bu.sg hg |>.choose_spec.2;have ZL:=(kf Bu.sg hg).choose_spec.1;generalize (kf Bu.sg hg).choose=ga at IX ZL;have W9:Paired (LI H2) rs (g.rows.map ib):=K8.li Ku;obtain⟨kvD,Xq,Ho⟩:=Tb;obtain⟨p,Zs,_,wb⟩:=Ho g (aL hg);refine⟨_,rfl,o.po,_,o.dx,_,_,rfl,Bu.ob,T.bS,T.eN,rfl,_,rfl,o.po,_,o.dx,_,_,rfl,Bu.ob,T.bS,T.eV,rfl,_,rfl,pl,_,dp,_,_,rfl,Gi,T.cB,T.cZ,rfl,o.nb,tn,ud g.name,gr 0 S,.int ((0+i0:Nat):Int),rfl,rfl,Bu.nb,?_,wR tF 0 i0 g hg,o.sl,_,_,_,rfl,rfl,cg.of Bu.sl,at_of (j:=i0) (by omega) (by rw[aM,ZL];rfl),?_⟩
   ·rw[Xk];exact tq SJ
   refine⟨_,rfl,o.po,_,o.dx,_,_,rfl,Bu.ob,T.bS,T.fH,rfl,_,rfl,o.lk,mk,FN st.mirrored st.quarters,VI,.ref d,rfl,rfl,MA,tu (dJ.of SW) (dJ.of Gg),W7,_,rfl,ga,_,dg,_,_,rfl,IX,T.jc,T.iE,rfl,_,rfl,pl,_,dp,_,_,rfl,Gi,T.cB,T.eO,rfl,_,rfl,pl,_,dp,_,_,rfl,Gi,T.cB,T.ed,rfl,rl,st.mirrored,td,rfl,rs,g.rows.map ib,st.quarters,Ef,W9,rr1,rr2,rr3,dJ.of Gg,λH5 p5 ps5 s5 Zr VY=>?_⟩;refine⟨d,p5,Hl (Ki st.mirrored st.quarters g),kvD,.ref p,rfl,rfl,Xq.same s5,CW Zr VY,Zs,?_⟩;exact k H5 p (q2.trans (.same s5)) (Bu.same s5) (s5 _ _ wb)
theorem Ia(a b:ac2):qV (a++b)=qV a++qV b:=by
 unfold qV;rw[aN]
theorem m9(a:ac2):(qV a).length=a.length:=af _
def JO(K:Frag)(A:CA):Sp:=λvs H Q _=>∃(po pl:Addr),vs=[.ref po,.ref pl]/\∃(o:PO) (S:List Sg) (n:Nat) (it:FT.It),po=o.po/\vK K A H o S n/\jj A H pl it/\nk it=true/\FT.It.known (S.map LZ.b9) it=true/\Ord S/\(∀s∈S,n9 s)/\S.length<=512/\n<=1000000/\
 ∀H' p,KX o H H'->vK K A H' o S (n+1)->H' p=some (.lst (qV (ST2.mq (S.map LZ.b9) it)))->Q (.ref p) H'
theorem yF{S:List Sg}{st:Stand}(h:FT.It.known (S.map LZ.b9) (.stand st)=true):∃(i:Nat) (g:Sg),S[i]?=some g/\g.name=st.name:=by
 have h1:(findName (S.map LZ.b9) st.name).isSome=true:=h;cases hf:findName (S.map LZ.b9) st.name with
 |none=>rw[hf] at h1;cases h1
 |some i=>
  unfold findName at hf;obtain⟨h2,h3,_⟩:=dW.mp hf;rw[af] at h2;rw[Nq] at h3;exact⟨i,S[i],aZ h2,eq_of_beq h3⟩
theorem ng(D:K9 K "found_anew" "Possible.found_anew" A.bw gk)(T:Tx mg K A)(km:d4 P w K mg base A.bw "akin" 2 ["self","name"] (N7 K A))(jH:d4 P w K mg base A.bw "alike" 4 ["self","place"] (JT K A))(iC:d4 P w K mg base A.bw "fitting" 1 ["self","size"] (Uj A)):d4 P w K mg base A.bw "found_anew" 5 ["self","place"] (JO K A):=by
 refine D.iO eD (λ_ _ _ _ _ _ us hl=>match us,hl with | [_,_],_=>rfl) (λvs H Q E h=>by obtain⟨_,_,rfl,_⟩:=h;rfl) (λf dG Ar outer s H vs Q E hr h=>?_);obtain⟨_,pl,rfl,o,S,n,it,rfl,PS,iK,Wa,Eh,rk,cR,Aa,hn,k⟩:=h;refine⟨_,(aq (bR (bC lg (bD (pv 1) rfl) cN (bL _)) (aC (aV (cy (pv 0) T.bS iC hr.m (aj (bD (pv 1) rfl) aB)))) bf) (aq (gc 2 eD.nd (dD (aj (oQ hr (bD (pv 0) rfl) (bD (pv 1) rfl) (λ_ _=>rfl)) aB))) (aq (bR (bC sI (bV bG rfl T.eI B.dh (aj (bD (pv 1) rfl) aB)) cF (bL _)) (aC (gc 2 eD.nd (ft Cm (pv 2) (cy (pv 0) T.bS jH hr.m (aj (pv 1) aB))))) bf) (aq (bR (cE (bD (pv 1) rfl)) (aC (gc 2 eD.nd (ft Cm (pv 2) (cy (pv 0) T.bS km hr.m (aj (bD (pv 1) rfl) aB))))) bf) (aC (aV (ST.Ii rfl rfl rfl T.zc T.QQ (aj (pv 2) aB)))))))),?_⟩;cases it with
 |lost=>exact iK.elim
 |gap z q=>
  have hq:q=[1,2,3,4]:=bA Wa;obtain⟨dp,td,h1,h2⟩:=iK;refine⟨_,rfl,pl,_,dp,_,_,rfl,h1,T.cB,T.cZ,rfl,rfl,_,rfl,bI ⟨_,rfl,o.po,o.dx,_,rfl,PS.ob,rfl,_,rfl,pl,_,dp,_,_,rfl,h1,T.cB,T.ni,rfl,o.po,_,rfl,o.dx,o.sl,o.nb,o.lk,o.kn,o.as,o.Z,S,PS.ob,PS.sl,PS.sg,λs hs=>(gF (cR s hs)).1,Aa,λH3 p s3 hp=>?_⟩⟩;refine k H3 p (.same s3) ((PS.same s3).mono (by omega)) ?_;rw[hp];show _=some (HO.lst (qV ((gapMay (S.map LZ.b9) z q).getD [])));rw[KH,ah hq];rfl
 |stand st=>
  obtain⟨i,g,hg,Xk⟩:=yF Eh;have abT:=iK;obtain⟨dp,tn,td,h1,h2,h3⟩:=iK;have tF:=pT rk;have fin:∀(H5:Hp) (ms:acZ) (p:Addr),KX o H H5->vK K A H5 o S (n+1)->ms.Perm (((MK S i g st).map λ(n:Nat)=>(n:Int)).foldl step_dedup [])->ms.Pairwise (·<=·)->H5 p=.none->Q (.ref p) (L2.upd H5 p (.lst (ms.map V.int))):=λH5 ms p q5 P5 Bf hle hp=>by
   refine k _ p (q5.trans (.new hp)) (P5.same (aF hp)) ?_;rw[ak,Lz rk cR hg Xk Bf hle,<-xU];rfl
  have foS:∀{H5:Hp} {fp:Addr} {l:ac2},H5 fp=some (.lst (qV l))->l=MK S i g st->cg K H5 fp (((MK S i g st).map λ(n:Nat)=>(n:Int)).map V.int)/\((MK S i g st).map λ(n:Nat)=>(n:Int)).length<4000:=λh e=>by
   rw[<-xU,<-e];refine⟨cg.of h,?_⟩;rw[e,af];unfold MK;have a1:=gG (Hv g st.mirrored st.quarters) S 0;have a2:=gG (Eo st.name) S 0;have b1:(if st.quarters.isEmpty=true then [] else du (Hv g st.mirrored st.quarters) 0 S).length<=512:=by
    split
    ·exact aD _
    ·omega
   have b2:(if st.unsure=true then du (Eo st.name) 0 S else []).length<=512:=by
    split
    ·omega
    ·exact aD _
   rw[aw,aw,fX];omega
  refine⟨_,rfl,pl,_,dp,_,_,rfl,h1,T.cB,T.cZ,rfl,rfl,_,rfl,?_⟩;rw[jJ];refine bO ⟨_,rfl,o.po,_,o.dx,_,_,rfl,PS.ob,T.bS,T.eV,rfl,_,rfl,pl,_,dp,_,_,rfl,h1,T.cB,T.cZ,rfl,o.nb,tn,ud g.name,gr 0 S,.int ((0+i:Nat):Int),rfl,rfl,PS.nb,by rw[Xk];exact tq h2,wR tF 0 i g hg,(F1 rfl),λf1 hf1=>?_⟩;rw[dE];have s1:bJ H (L2.upd H f1 (.lst [.int i])):=aF hf1;have S5:(L2.upd H f1 (.lst [.int i])) f1=some (.lst (qV [i])):=ak;generalize L2.upd H f1 (.lst [.int i])=H1 at s1 S5 ⊢;have hlq:(qV st.quarters).length=st.quarters.length:=m9 _;refine⟨_,rfl,pl,_,dp,_,_,rfl,s1 _ _ h1,T.cB,T.ed,rfl,td,_,rfl,.inr (dJ.of (s1 _ _ h3)),_,_,rfl,rfl,_,rfl,?_⟩;rw[hlq];have hsz:(100000:Nat)<sizeLine:=by decide
  cases VV:st.quarters.isEmpty with
  |true=>
   have Xd:st.quarters.length=0:=by rw[jO.mp VV];rfl
   rw[ag (show ¬((st.quarters.length:Int)> 0) by omega)];have P1:=(PS.same s1).mono (show n<=n+1 by omega);have q1:KX o H H1:=.same s1;refine bO ⟨_,rfl,pl,_,dp,_,_,rfl,s1 _ _ h1,T.cB,T.gu,rfl,_,rfl,?_⟩;cases hu:st.unsure with
   |true=>
    refine bI ⟨_,rfl,_,rfl,o.po,o.dx,_,rfl,P1.ob,rfl,_,rfl,pl,_,dp,_,_,rfl,s1 _ _ h1,T.cB,T.cZ,rfl,o.po,tn,rfl,o.dx,o.sl,o.nb,o.lk,o.kn,o.as,o.Z,S,st.name,P1.ob,P1.sl,P1.sg,Aa,dJ.of (s1 _ _ h2),λH3 p3 s3 zu=>?_⟩;refine⟨f1,p3,_,_,rfl,rfl,s3 _ _ S5,zu,?_,λf2 Mz=>?_⟩
    ·have:=gG (Eo st.name) S 0;rw[m9,m9,fX];omega
    have PX:(L2.upd H3 f2 (.lst (qV [i]++qV (du (Eo st.name) 0 S)))) f2=some (.lst (qV ([i]++du (Eo st.name) 0 S))):=by rw[ak,Ia]
    have s4:bJ H1 (L2.upd H3 f2 (.lst (qV [i]++qV (du (Eo st.name) 0 S)))):=s3.trans (aF Mz);obtain⟨g1,g2⟩:=foS PX (by unfold MK;rw[VV,hu];simp);exact⟨_,rfl,f2,_,rfl,g1,g2,λms p a1 a2 a3=>fin _ ms p (q1.trans (.same s4)) (P1.same s4) a1 a2 a3⟩
   |false=>
    obtain⟨g1,g2⟩:=foS S5 (by unfold MK;rw[VV,hu];simp);exact bO ⟨_,rfl,f1,_,rfl,g1,g2,λms p a1 a2 a3=>fin _ ms p q1 P1 a1 a2 a3⟩
  |false=>
   have Xd:st.quarters.length≠0:=λz=>by rw[jO.mpr (ly.mp z)] at VV;cases VV
   rw[ai (show((st.quarters.length:Int)> 0) by omega)];have P1:=PS.same s1;refine bI ⟨_,rfl,_,rfl,o.po,o.dx,_,rfl,P1.ob,rfl,_,rfl,o.po,pl,rfl,o,S,n,st,i,g,rfl,P1,abT.same s1,hg,Xk,rk,cR,Aa,hn,λH3 p3 q3 P3 zu=>?_⟩;have Bg:H3 f1=some (.lst (qV [i])):=q3.kp _ _ S5 λ⟨_,φ,e⟩=>nomatch e
   refine⟨f1,p3,_,_,rfl,rfl,Bg,zu,?_,λf2 Mz=>?_⟩
   ·have:=gG (Hv g st.mirrored st.quarters) S 0;rw[m9,m9,fX];omega
   have PX:(L2.upd H3 f2 (.lst (qV [i]++qV (du (Hv g st.mirrored st.quarters) 0 S)))) f2=some (.lst (qV ([i]++du (Hv g st.mirrored st.quarters) 0 S))):=by rw[ak,Ia]
   have P4:=P3.same (aF (o:=.lst (qV [i]++qV (du (Hv g st.mirrored st.quarters) 0 S))) Mz);have q4:KX o H (L2.upd H3 f2 (.lst (qV [i]++qV (du (Hv g st.mirrored st.quarters) 0 S)))):=((Kp.same s1).trans q3).trans (.new Mz);generalize L2.upd H3 f2 (.lst (qV [i]++qV (du (Hv g st.mirrored st.quarters) 0 S)))=H4 at PX P4 q4 ⊢;have k4:∀b u,H b=some u->(∀φ,u≠.ext φ)->H4 b=some u:=λb u z n=>q4.kp b u z λ⟨_,φ,e⟩=>n φ e
   have h14:=k4 _ _ h1 (λ_=>nofun);have h24:=k4 _ _ h2 (λ_=>nofun);refine⟨_,rfl,pl,_,dp,_,_,rfl,h14,T.cB,T.gu,rfl,_,rfl,?_⟩;cases hu:st.unsure with
   |true=>
    refine bI ⟨_,rfl,_,rfl,o.po,o.dx,_,rfl,P4.ob,rfl,_,rfl,pl,_,dp,_,_,rfl,h14,T.cB,T.cZ,rfl,o.po,tn,rfl,o.dx,o.sl,o.nb,o.lk,o.kn,o.as,o.Z,S,st.name,P4.ob,P4.sl,P4.sg,Aa,dJ.of h24,λH5 p5 s5 Zr=>?_⟩;refine⟨f2,p5,_,_,rfl,rfl,s5 _ _ PX,Zr,?_,λf3 Bg=>?_⟩
    ·have:=gG (Eo st.name) S 0;have:=gG (Hv g st.mirrored st.quarters) S 0;rw[m9,m9,aw,fX];omega
    have acf:(L2.upd H5 f3 (.lst (qV ([i]++du (Hv g st.mirrored st.quarters) 0 S)++qV (du (Eo st.name) 0 S)))) f3=some (.lst (qV (([i]++du (Hv g st.mirrored st.quarters) 0 S)++du (Eo st.name) 0 S))):=by rw[ak,<-Ia]
    have s6:=s5.trans (aF (o:=.lst (qV ([i]++du (Hv g st.mirrored st.quarters) 0 S)++qV (du (Eo st.name) 0 S))) Bg);obtain⟨g1,g2⟩:=foS acf (by unfold MK;rw[VV,hu];simp);exact⟨_,rfl,f3,_,rfl,g1,g2,λms p a1 a2 a3=>fin _ ms p (q4.trans (.same s6)) (P4.same s6) a1 a2 a3⟩
   |false=>
    obtain⟨g1,g2⟩:=foS PX (by unfold MK;rw[VV,hu];simp);exact bO ⟨_,rfl,f2,_,rfl,g1,g2,λms p a1 a2 a3=>fin _ ms p q4 P4 a1 a2 a3⟩
theorem RQ{K:Frag}{A:CA}{H:Hp}{pl:Addr}{it:FT.It}(h:jj A H pl it):∃(dp:Addr) (nv:V) (k:Int) (m:Bool) (td:Addr) (u:Bool),H pl=some (.ins A.Place dp (YB nv k m td u))/\∀H' kd,(∀b xs,H b=some (.tup xs)->H' b=some (.tup xs))->H' kd=some (.tup [nv,.int k,.bl m,.ref td,.bl u])->gm K H' (zr it) kd:=by
 cases it with
 |lost=>exact h.elim
 |stand st=>
  obtain⟨dp,tn,td,h1,h2,h3⟩:=h;exact⟨dp,_,_,_,td,_,h1,λH' kd kp hk=>Pn (dJ.of hk) (dJ.of (kp _ _ h2)) (dJ.of (kp _ _ h3))⟩
 |gap z q=>
  obtain⟨dp,td,h1,h2⟩:=h;exact⟨dp,_,_,_,td,_,h1,λH' kd kp hk=>Po (dJ.of hk) (dJ.of (kp _ _ h2))⟩
def AI(K:Frag)(A:CA):Sp:=λvs H Q _=>∃(po pl:Addr),vs=[.ref po,.ref pl]/\∃(o:PO) (S:List Sg) (n:Nat) (it:FT.It),po=o.po/\vK K A H o S n/\jj A H pl it/\nk it=true/\FT.It.known (S.map LZ.b9) it=true/\Ord S/\(∀s∈S,n9 s)/\S.length<=512/\n<=1000000/\
 ∀H' p,KX o H H'->vK K A H' o S (n+2)->Ep H' p (qV (ST2.mq (S.map LZ.b9) it))->Q (.ref p) H'
theorem oS(D:K9 K "signs_at" "Possible.signs_at" A.bw gY)(T:Tx mg K A)(gn:d4 P w K mg base A.bw "found_anew" 5 ["self","place"] (JO K A)):d4 P w K mg base A.bw "signs_at" 6 ["self","place"] (AI K A):=by
 refine D.iO jS (λ_ _ _ _ _ _ us hl=>match us,hl with | [_,_],_=>rfl) (λvs H Q E h=>by obtain⟨_,_,rfl,_⟩:=h;rfl) (λf dG Ar outer s H vs Q E hr h=>?_);obtain⟨_,pl,rfl,o,S,n,it,rfl,PS,iK,Wa,Eh,rk,cR,Aa,hn,k⟩:=h;refine⟨_,(aq (gc 2 jS.nd (gH (aj (bD (pv 1) rfl) (aj (bD (pv 1) rfl) (aj (bD (pv 1) rfl) (aj (bD (pv 1) rfl) (aj (bD (pv 1) rfl) aB))))))) (aq (bR (B9 (xZ hr (pv 2) (bD (pv 0) rfl))) (aC (E9 hr (bD (pv 0) rfl) (pv 2) (kR y8 rfl T.nD B.pq (aj (cy (pv 0) T.bS gn hr.m (aj (pv 1) aB)) aB)) rfl)) bf) (aC (aV (oQ hr (bD (pv 0) rfl) (pv 2) (λ_ _=>rfl)))))),?_⟩;obtain⟨dp,nv,z,m,td,u,h1,V6⟩:=RQ (K:=K) iK;refine⟨_,rfl,pl,_,dp,_,_,rfl,h1,T.cB,T.cZ,rfl,_,rfl,pl,_,dp,_,_,rfl,h1,T.cB,T.ni,rfl,_,rfl,pl,_,dp,_,_,rfl,h1,T.cB,T.eO,rfl,_,rfl,pl,_,dp,_,_,rfl,h1,T.cB,T.ed,rfl,_,rfl,pl,_,dp,_,_,rfl,h1,T.cB,T.gu,rfl,(F1 rfl),λkd S1=>?_⟩;have s1:bJ H (L2.upd H kd (.tup [nv,.int z,.bl m,.ref td,.bl u])):=aF S1;have S0:(L2.upd H kd (.tup [nv,.int z,.bl m,.ref td,.bl u])) kd=some (.tup [nv,.int z,.bl m,.ref td,.bl u]):=ak;generalize L2.upd H kd (.tup [nv,.int z,.bl m,.ref td,.bl u])=H1 at s1 S0 ⊢;have P1:=PS.same s1;obtain⟨kvs,hdk,PQ,UC⟩:=P1.kn;refine⟨_,rfl,_,rfl,o.po,_,o.dx,_,_,rfl,P1.ob,T.bS,T.fI,rfl,o.kn,kd,zr it,kvs,rfl,rfl,hdk,V6 H1 kd (λ_ _ z=>s1 _ _ z) S0,_,rfl,?_⟩;cases hv:dB kvs (zr it) with
 |some v=>
  obtain⟨p,rfl,hp⟩:=UC _ _ hv;exact bO ⟨_,rfl,o.po,_,o.dx,_,_,rfl,P1.ob,T.bS,T.fI,rfl,_,rfl,o.kn,kd,zr it,kvs,.ref p,rfl,rfl,hdk,V6 H1 kd (λ_ _ z=>s1 _ _ z) S0,hv,k H1 p (.same s1) (P1.mono (by omega)) hp⟩
 |none=>
  refine bI ⟨_,rfl,o.po,o.dx,_,rfl,P1.ob,rfl,_,rfl,o.po,pl,rfl,o,S,n,it,rfl,P1,iK.same s1,Wa,Eh,rk,cR,Aa,hn,λH3 p3 q3 P3 zu=>?_⟩;refine⟨p3,_,rfl,cg.of zu,λtp H4 hn4 s4 _ ht4=>?_⟩;have P4:=P3.same s4;have q4:KX o H H4:=((Kp.same s1).trans q3).trans (.same s4);have Ib:KX o H1 H4:=q3.trans (.same s4);have ZG:H4 kd=some (.tup [nv,.int z,.bl m,.ref td,.bl u]):=Ib.kp _ _ S0 λ⟨_,φ,e⟩=>nomatch e
  obtain⟨abx,ZS,ab7,ab5⟩:=P4.kn;refine⟨_,rfl,o.po,_,o.dx,_,_,rfl,P4.ob,T.bS,T.fI,rfl,_,rfl,o.kn,kd,zr it,abx,rfl,rfl,ZS,V6 H4 kd (λ_ _ z=>q4.kp _ _ z λ⟨_,φ,e⟩=>nomatch e) ZG,?_,λφ ZR=>?_⟩
  ·have:(10000000:Nat)<sizeLine:=by decide
   omega
  have P5:vK K A (L2.upd H4 o.kn (.ext φ)) o S (n+2):=P4.putK ab5 ab7 ht4 ZR;obtain⟨ψ,hb⟩:=ZS.there;have q5:KX o H (L2.upd H4 o.kn (.ext φ)):=q4.trans (.wr hb ⟨.inr rfl,ψ,rfl⟩);have ab8:=fz (φ:=φ) hb ZG (λ_=>nofun);have ht5:Ep (L2.upd H4 o.kn (.ext φ)) tp (qV (ST2.mq (S.map LZ.b9) it)):=by
   obtain⟨ob,g2,g3,g4⟩:=ht4;exact⟨ob,g2,g3,fz hb g4 (λ_=>nofun)⟩
  exact⟨_,rfl,o.po,_,o.dx,_,_,rfl,P5.ob,T.bS,T.fI,rfl,_,rfl,o.kn,kd,zr it,_,.ref tp,rfl,rfl,ZR,V6 _ kd (λ_ _ z=>q5.kp _ _ z λ⟨_,φ,e⟩=>nomatch e) ab8,by rw[iQ,ah rfl],k _ tp q5 P5 ht5⟩
def M7(A:CA)(Z:ac7)(H:Hp)(st:Addr)(S:List Sg)(X:ac3)(M:List (List Nat)):Prop:=∃dx sl wl pl,H st=some (.ins A.ik dx [("signs",.ref sl),("words",.ref wl),("places",.ref pl)])/\(∃as:List Addr,H sl=some (.lst (as.map V.ref))/\Paired (gJ A Z H) as S)/\(∃rs:List Addr,H wl=some (.lst (rs.map V.ref))/\Paired (LI H) rs (X.map ib))/\(∃bs:List Addr,H pl=some (.lst (bs.map V.ref))/\Paired (λp q=>Ep H p (qV q)) bs M)
theorem M7.same{A:CA}{Z:ac7}{H H':Hp}{st:Addr}{S:List Sg}{X:ac3}{M:List (List Nat)}(h:M7 A Z H st S X M)(s:bJ H H'):M7 A Z H' st S X M:=by
 obtain⟨dx,sl,wl,pl,h1,⟨as,h2,h3⟩,⟨rs,h4,h5⟩,⟨bs,h6,h7⟩⟩:=h;exact⟨dx,sl,wl,pl,s _ _ h1,⟨as,s _ _ h2,Paired.ee h3 λ_ _ z=>z.same (λ_ z=>z) s⟩,⟨rs,s _ _ h4,Paired.ee h5 λ_ _ z=>s _ _ z⟩,⟨bs,s _ _ h6,Paired.ee h7 λ_ _ z=>z.same s⟩⟩
def AK(K:Frag)(A:CA):Sp:=λvs H Q _=>∃(rp st:Addr),vs=[.ref rp,.ref st]/\∃(R:ac2) (S:List Sg) (X:ac3) (M:List (List Nat)) (Z:ac7),cg K H rp (qV R)/\M7 A Z H st S X M/\M≠[]/\R.length<=100000/\X.Nodup/\X.length<=5000/\(∀x∈X,x.length<=40)/\(∀s∈S,s.sounds.length<=8)/\(∀q∈M,q.length<=512/\∀n∈q,n<S.length)/\
 (DP.tY (S.map LZ.b9) X M R [] false=none->∀H',bJ H H'->Q (.int 1000000000000) H')/\(∀c:Nat,DP.tY (S.map LZ.b9) X M R [] false=some c->c<1000000000000->∀H',bJ H H'->Q (.int c) H')
theorem Py{a b:Bytes}(h:ib a=ib b):a=b:=by
 unfold ib at h;refine List.map_inj_right (λx y q=>?_) |>.mp h;exact b8.mp (by omega)
theorem T8(w:Bytes):∀X:List Bytes,((X.map ib).findIdx? λx=>x==ib w)=X.findIdx? λx=>x==w
 | []=>rfl
 |x::X=>by
  rw[aK,Hz,Hz,T8 w X];have:(ib x==ib w)=(x==w):=by
   rw[iI];simp only[gC];exact⟨Py,λq=>by rw[q]⟩
  rw[this]
theorem HA{X:ac3}{w:Bytes}{k:Nat}(h:(X.findIdx? λx=>x==w)=some k):X.contains w=true/\wordNo X w=k:=by
 obtain⟨h1,h2,h3⟩:=dW.mp h;refine⟨iP.mpr ?_,?_⟩
 ·rw[<-eq_of_beq h2];exact vO h1
 ·unfold wordNo;exact(List.findIdx?_eq_some_iff_findIdx_eq.mp h).2
theorem HB{X:ac3}{w:Bytes}(h:(X.findIdx? λx=>x==w)=none):X.contains w=false:=by
 rw[rW] at h;cases hc:X.contains w with
 |false=>rfl
 |true=>
  have:=h w (iP.mp hc);rw[cK] at this;cases this
theorem aat{R:ac2}{i:Nat}{s k e:Nat}(h1:R[3*i]?=some s)(h2:R[3*i+1]?=some k)(h3:R[3*i+2]?=some e):R.drop (3*i)=s::k::e::R.drop (3*(i+1)):=by
 rw[fL,h1,fL,h2,fL,h3];rfl
theorem Oq{q:ac2}{i n:Nat}(h:q[i]?=some n):(qV q)[i]?=some (.int n):=by
 unfold qV;rw[aM,h];rfl
theorem VP{q:ac2}{s:Nat}(h:s∈q):q[q.findIdx λ(y:Nat)=>y==s]?=some s/\(∀m,m<q.findIdx (λ(y:Nat)=>y==s)->q[m]?≠some s)/\q.findIdx (λ(y:Nat)=>y==s)<q.length:=by
 have hl:q.findIdx (λ(y:Nat)=>y==s)<q.length:=List.findIdx_lt_length_of_exists ⟨s,h,cK s⟩;refine⟨?_,λm hm z=>?_,hl⟩
 ·rw[aZ hl,eq_of_beq (List.findIdx_getElem (w:=hl))]
 ·obtain⟨h1,h2⟩:=aG.mp z;have:=List.not_of_lt_findIdx hm;rw[h2,cK] at this;cases this
theorem yc(D:Df K mg "cost_of_row" me)(T:Tx mg K A)(mB:e7 P w K mg base "choice_cost" 1 ["numbers","sign","sound"] (ES))(nH:e7 P w K mg base "letters_of" 1 ["sign","sound"] (ER A))(mx:e7 P w K mg base "node_behind" 1 ["tree","node","letters"] (ET K A))(kj:e7 P w K mg base "tree_of_words" 3 ["words"] (EL A)):e7 P w K mg base "cost_of_row" 5 ["row","stretch"] (AK K A):=by
 refine D.iO cn (λ_ _ _ _ _ _ us hl=>match us,hl with | [_,_],_=>rfl) (λvs H Q E h=>by obtain⟨_,_,rfl,_⟩:=h;rfl) (λf dG Ar outer s H vs Q E hr h=>?_);obtain⟨rp,st,rfl,R,S,X,M,Z,hR,Xo,hM,hRl,tF,hXl,hX2,hS8,hq,k1,k2⟩:=h;have acW:=Xo;obtain⟨dx,sl,wl,pl,vZ,⟨as,zt,has⟩,⟨rs,Nh,hrs⟩,⟨bs,iK,Ri⟩⟩:=Xo;have aab:(qV R).length=R.length:=af _;have nQ:(bs.map V.ref).length=M.length:=by rw[af,bc Ri]
 refine⟨_,(aq (bR (PW.pt (qw (bC vn (bV bG rfl T.eI B.dh (aj (pv 0) aB)) (ft uH (dP rfl T.fS) (bV bG rfl T.eI B.dh (aj (bD (pv 1) rfl) aB))) (bL _)) (oN (bC gI (fu d5 (pv 0) (J6 BG cF) (λ_ _=>rfl)) (dP rfl T.GC) (bL _))))) (aC (aV (dP rfl T.pX))) bf) (aq (gc 2 cn.nd (bB kj hr.m rfl (aj (bD (pv 1) rfl) aB))) (aq (gc 3 cn.nd (dP rfl T.I0)) (aq (gc 4 cn.nd cF) (aq (iY bP rfl (lG rfl T.eJ (aj (bD (pv 1) rfl) aB)) (uG rfl (eB (qx 5 cn.nd) (eB (qx 6 cn.nd) lH))) (aq (gc 7 cn.nd (fu d5 (pv 0) (ft uH (dP rfl T.fS) (pv 5)) (λ_ _=>rfl))) (aq (gc 8 cn.nd (fu d5 (pv 0) (ft lh (ft uH (dP rfl T.fS) (pv 5)) cF) (λ_ _=>rfl))) (aq (gc 9 cn.nd (fu d5 (pv 0) (ft lh (ft uH (dP rfl T.fS) (pv 5)) cF) (λ_ _=>rfl))) (aq (bR (bC Ck (pv 7) (pv 6) rfl) (aC (aV (dP rfl T.pX))) bf) (aq (gc 10 cn.nd (bB nH hr.m rfl (aj (fu d5 (bD (pv 1) rfl) (pv 7) (λ_ _=>rfl)) (aj (pv 8) aB)))) (aq (bR (bC lg (pv 10) cN (bL _)) (aC (aV (dP rfl T.pX))) bf) (aq (gc 3 cn.nd (bB mx hr.m rfl (aj (pv 2) (aj (pv 3) (aj (pv 10) aB))))) (aq (bR (bC lg (pv 3) cN (bL _)) (aC (aV (dP rfl T.pX))) bf) (aq (gc 4 cn.nd (ft lh (pv 4) (bB mB hr.m rfl (aj (pv 6) (aj (pv 7) (aj (pv 8) aB)))))) (aC (bR (bC vn (pv 9) (dP rfl T.GC) (bL _)) (aq (bR (bC vn (fu d5 (bD (pv 2) rfl) (pv 3) (λ_ _=>rfl)) (ft Il (pv 9) cF) (bL _)) (aC (aV (dP rfl T.pX))) bf) (aq (gc 4 cn.nd (ft lh (pv 4) (dP rfl T.Gx))) (aC (gc 3 cn.nd (dP rfl T.I0))))) bf)))))))))))) (aC (aV (pv 4)))))))),?_⟩;refine⟨_,rfl,rp,_,rfl,.inl hR,_,rfl,st,_,dx,_,_,rfl,vZ,T.jD,T.jA,rfl,pl,_,rfl,.inl (cg.of iK),_,_,rfl,rfl,.inl (by decide),rfl,_,rfl,?_⟩;rw[aab,nQ];by_cases hlen:¬R.length=3*M.length
 ·rw[ag (λq=>hlen (by have:=V.int.inj q;omega))];exact bI (bI (k1 (DP.K2 _ _ _ _ _ _ hlen) H (λ_ _ z=>z)))
 have hlen:R.length=3*M.length:=jg.mp hlen;rw[ai (show V.int (R.length:Int)=V.int (3*(M.length:Int)) from bb V.int (by omega))];have hM0:0<M.length:=List.length_pos_iff.mpr hM;obtain⟨el,UE⟩:∃el,R.getLast?=some el:=by
  cases hg:R.getLast? with
  |none=>rw[List.getLast?_eq_none_iff] at hg;rw[hg] at hlen;rw[cJ] at hlen;omega
  |some el=>exact⟨el,rfl⟩
 have Rj:Em (qV R) (-1)=some (.int el):=by
  obtain⟨R',rfl⟩:=List.getLast?_eq_some_iff.mp UE;unfold qV;rw[aN];exact t7 _ _
 refine bO ⟨_,rfl,_,rfl,rp,_,_,_,rfl,rfl,hR,Rj,rfl,_,rfl,?_⟩;by_cases h0:el=0
 ·rw[ai (bb V.int (show(el:Int)=0 by omega))];refine bI (k1 (DP.G6 _ _ _ _ _ _ hM (by rw[UE,h0])) H (λ_ _ z=>z))
 rw[ag (λq=>h0 (by have:=V.int.inj q;omega))];refine bO ⟨_,rfl,st,_,dx,_,_,rfl,vZ,T.jD,T.nO,rfl,wl,rfl,rs,X.map ib,Nh,hrs,?_,by rw[af];exact hXl,?_,λH2 t N W s2 T2 hu hW=>?_⟩
 ·exact uc.mpr (tF.imp λq z=>q (Py z))
 ·intro x hx;obtain⟨y,hy,rfl⟩:=cH.mp hx;rw[dI];exact hX2 y hy
 obtain⟨r0,hr0⟩:∃d,d=false:=⟨false,rfl⟩
 refine⟨_,rfl,st,_,dx,_,_,rfl,s2 _ _ vZ,T.jD,T.jA,rfl,pl,_,rfl,cg.of (s2 _ _ iK),o7 (K:=K) (a:=pl) (xs:=bs.map V.ref) (λi σ H1=>∃(j c:Nat) (had:Bytes) (d:Bool) (v5 v6 v7 v8 v9 v10:Option V),σ=[some (.ref rp),some (.ref st),some (.ref t),some (.int j),some (.int c),v5,v6,v7,v8,v9,v10]/\bJ H2 H1/\N[j]?=some (ib had)/\c<=2000*i/\(∀m e,i=m+1->R[3*m+2]?=some e->d=decide (e≠0))/\DP.tY (S.map LZ.b9) X M R [] false=(DP.tY (S.map LZ.b9) X (M.drop i) (R.drop (3*i)) had d).map λz=>c+z)
  ⟨0,0,[],false,_,_,_,_,_,_,rfl,λ_ _ z=>z,T2.root,aD _,(λm e q=>by omega),?start⟩
  (λi σ H1 _ ⟨_,_,_,_,_,_,_,_,_,_,_,h,_⟩=>cg.of (h _ _ (s2 _ _ iK))) ?turn ?after⟩
 case start=>
  show DP.tY (S.map LZ.b9) X M R [] false=(DP.tY (S.map LZ.b9) X M R [] false).map λz=>0+z
  cases DP.tY (S.map LZ.b9) X M R [] false with
  |none=>rfl
  |some z=>show some z=some (0+z);rw[dE]
 case after=>
  rintro σ H1 ⟨j,c,had,d,v5,v6,v7,v8,v9,v10,rfl,s1,hj,hc,hd,he⟩;rw[nQ] at hc hd he;rw[vP,<-hlen,vP] at he;have P2:d=true:=by
   have:R[3*(M.length - 1)+2]?=some el:=by
    rw[<-UE,List.getLast?_eq_getElem?,hlen]
    congr 1
    omega
   rw[hd (M.length - 1) el (by omega) this];exact ai h0
  subst P2;have he':DP.tY (S.map LZ.b9) X M R [] false=some c:=he;exact⟨_,rfl,k2 c he' (by omega) H1 (s2.trans s1)⟩
 case turn=>
  rintro i x σ H1 Tp hi ⟨j,c,had,d,v5,v6,v7,v8,v9,v10,rfl,s1,hj,hc,hd,he⟩ Xn;rw[aM] at hi;cases hb:bs[i]? with
  |none=>rw[hb] at hi;cases hi
  |some b=>
  rw[hb] at hi;cases hi;obtain⟨q,VW,Xc⟩:=gq Ri hb;have Nk:i<M.length:=(aG.mp VW).1;have s3:bJ H (L2.upd H1 Tp (.tup [.int i,.ref b])):=(s2.trans s1).trans (aF Xn);have s23:bJ H2 (L2.upd H1 Tp (.tup [.int i,.ref b])):=s1.trans (aF Xn);obtain⟨sn,hsn⟩:∃y,R[3*i]?=some y:=⟨_,aZ (by omega)⟩;obtain⟨kn,Eh⟩:∃y,R[3*i+1]?=some y:=⟨_,aZ (by omega)⟩;obtain⟨en,hen⟩:∃y,R[3*i+2]?=some y:=⟨_,aZ (by omega)⟩;have eM:M.drop i=q::M.drop (i+1):=by
   rw[fL,VW];rfl
  rw[eM,aat hsn Eh hen,DP.tX] at he;have hR3:=s3.seq hR;have hqT:=Xc.same s3;refine⟨Tp,_,rfl,dJ.of ak,rfl,_,_,rfl,_,_,rfl,rfl,?_⟩;refine⟨_,rfl,_,rfl,_,_,rfl,rfl,.inl (by decide),rp,_,_,_,rfl,rfl,hR3,at_of (j:=3*i) (by omega) (Oq hsn),?_⟩;refine⟨_,rfl,_,rfl,_,_,rfl,rfl,.inl (by decide),_,_,rfl,rfl,rp,_,_,_,rfl,rfl,hR3,at_of (j:=3*i+1) (by omega) (Oq Eh),?_⟩;refine⟨_,rfl,_,rfl,_,_,rfl,rfl,.inl (by decide),_,_,rfl,rfl,rp,_,_,_,rfl,rfl,hR3,at_of (j:=3*i+2) (by omega) (Oq hen),?_⟩;refine⟨_,rfl,_,rfl,b,_,rfl,.inr hqT.sq,rfl,kK q,_,rfl,?_⟩;rw[nu];have nev:DP.tY (S.map LZ.b9) X M R [] false=none->Q (.int 1000000000000) (L2.upd H1 Tp (.tup [.int i,.ref b])):=λz=>k1 z _ s3
  have cq:q.contains sn=decide (sn∈q):=by
   rw[iI,iP,fi]
  rw[cq] at he;by_cases Uy:¬sn∈q
  ·rw[ag Uy];rw[ag Uy,ah rfl] at he;exact bI (nev he)
  have Uy:sn∈q:=jg.mp Uy;rw[ai Uy];rw[ai Uy,ae (by decide)] at he;obtain⟨hql,hqS⟩:=hq q (aL VW);obtain⟨g,hg⟩:∃g,S[sn]?=some g:=⟨_,aZ (hqS sn Uy)⟩;obtain⟨ga,acd,acb⟩:=kf has hg;have hg8:=hS8 g (aL hg);have eS:soundsOf (S.map LZ.b9) sn=g.sounds:=by
   unfold soundsOf;rw[aM,hg];rfl
  rw[eS] at he;obtain⟨i1,i2,i3⟩:=VP Uy;refine bO ⟨_,rfl,st,_,dx,_,_,rfl,s3 _ _ vZ,T.jD,T.nP,rfl,_,rfl,sl,_,_,_,rfl,rfl,cg.of (s3 _ _ zt),at_of (j:=sn) rfl (by rw[aM,acd];rfl),_,rfl,ga,kn,rfl,Z,g,acb.same (λ_ z=>z) s3,λgV=>?_,λwd gV H4 wp s4 hwp=>?_⟩
  ·refine⟨_,rfl,rfl,_,rfl,bI (nev ?_)⟩;unfold YV at gV;split at gV
   ·cases gV
   ·rename_i h8;rw[he,ah ⟨h8,List.getElem?_eq_none_iff.mp gV⟩];rfl
  have hwd:(if kn=8 then [] else g.sounds.getD kn [])=wd/\¬(kn≠8/\g.sounds.length<=kn)/\(if kn=8 then 7 else kn)<=8:=by
   unfold YV at gV;split at gV
   ·rename_i h8;rw[ah h8,ah h8];cases gV;exact⟨rfl,λz=>z.1 h8,by omega⟩
   ·rename_i h8;rw[ae h8,ae h8];have:=(aG.mp gV).1;refine⟨?_,λz=>by omega,by omega⟩;rw[qI,gV];rfl
  obtain⟨hw1,hw2,hw3⟩:=hwd;rw[ae hw2,hw1] at he;have s4':bJ H H4:=s3.trans s4;have s24:bJ H2 H4:=s23.trans s4;have T4:=T2.same s24;have eib:ib had++ib wd=ib (had++wd):=by unfold ib;rw[aN]
  refine⟨_,rfl,rfl,_,rfl,?_⟩;rw[jJ];refine bO ⟨_,rfl,_,rfl,_,rfl,t,j,wp,rfl,N,W,ib had,ib wd,T4,hj,dJ.of hwp,λrS=>?_,λj2 V8=>?_⟩
  ·refine⟨_,rfl,rfl,_,rfl,bI (k1 ?_ _ s4')⟩;rw[eib] at rS
   have UG:∀y∈X,¬(had++wd) <+:y:=λy hy z=>rS ((hu _).mpr (.inr ⟨ib y,cH.mpr ⟨y,hy,rfl⟩,by
    obtain⟨z1,rfl⟩:=z
    exact⟨ib z1,by unfold ib;simp only[aN]⟩⟩))
   rw[he];split
   ·rw[DP.G7 _ _ _ _ _ UG];rfl
   ·rw[ae]
    ·rfl
    ·rintro⟨z,_⟩;exact UG _ (iP.mp z) (List.prefix_refl _)
  rw[eib] at V8;refine⟨_,rfl,rfl,_,rfl,?_⟩;rw[ag (show ¬V.int (j2:Int)=V.eZ from nofun)];have hTq:Ep H4 b ((q.map λ(n:Nat)=>(n:Int)).map V.int):=by
   rw[<-xU];exact Xc.same s4'
  refine bO ⟨_,rfl,_,rfl,_,rfl,_,rfl,b,sn,kn,rfl,q.map λ(n:Nat)=>(n:Int),q.findIdx λ(y:Nat)=>y==sn,hTq,by rw[aM,i1];rfl,?_,_,_,rfl,rfl,?_⟩
  ·intro m hm z;rw[aM] at z;cases hz:q[m]? with
   |none=>rw[hz] at z;cases z
   |some y=>
    rw[hz] at z;have:(y:Int)=(sn:Int):=aX z;exact i2 m hm (by rw[hz];congr 1;omega)
  generalize hix:(q.findIdx λ(y:Nat)=>y==sn)=ix at he i3 ⊢;have acC:(c:Int)+(2*(ix:Int)+(if (kn:Int)=8 then 7 else(kn:Int)))=(((c+(2*ix+(if kn=8 then 7 else kn)):Nat)):Int):=by
   by_cases h8:kn=8
   ·rw[ah h8,ah (by omega)];omega
   ·rw[ae h8,ae (by omega)];omega
  dsimp only;rw[acC];generalize (if kn=8 then 7 else kn)=ck at he hw3 ⊢;refine⟨_,rfl,rfl,_,rfl,?_⟩;by_cases PY:en=0
  ·rw[ai (show V.int (en:Int)=V.int 0 from bb V.int (by omega))];rw[ah PY] at he;refine bO ⟨j2,c+(2*ix+ck),had++wd,false,_,_,_,_,_,_,rfl,s24,V8,by omega,λm e hm z=>?_,?_⟩
   ·have:m=i:=by omega
    rw[this,hen] at z;cases z;rw[PY];rfl
   ·rw[he,Option.map_map]
    congr 1
    funext z
    show c+(2*ix+ck+z)=c+(2*ix+ck)+z;omega
  rw[ag (show ¬V.int (en:Int)=V.int 0 from λz=>PY (by have:=V.int.inj z;omega))];rw[ae PY] at he;have hWj:=hW j2 _ V8;rw[T8] at hWj;obtain⟨dt,bl,hl,htt,_,ue,_⟩:=T4.ob;cases hf:X.findIdx? (λx=>x==had++wd) with
  |none=>
   rw[hf] at hWj;refine bI ⟨_,rfl,t,_,dt,_,_,rfl,htt,T.iz,T.jV,rfl,_,rfl,hl,_,_,_,rfl,rfl,cg.of ue,at_of (j:=j2) (v:=.eZ) rfl (by rw[aM,hWj];rfl),_,rfl,_,_,rfl,rfl,rfl,_,rfl,?_⟩;rw[ag (show ¬V.eZ=V.int ((en:Int) - 1) from nofun)];refine bI (k1 ?_ _ s4');rw[he,ae]
   ·rfl
   ·rintro⟨z,_⟩;rw[HB hf] at z;cases z
  |some kw=>
   rw[hf] at hWj;obtain⟨hc1,Rh⟩:=HA hf;refine bI ⟨_,rfl,t,_,dt,_,_,rfl,htt,T.iz,T.jV,rfl,_,rfl,hl,_,_,_,rfl,rfl,cg.of ue,at_of (j:=j2) (v:=.int kw) rfl (by rw[aM,hWj];rfl),_,rfl,_,_,rfl,rfl,rfl,_,rfl,?_⟩;rw[Rh] at he;by_cases hkw:en=kw+1
   ·rw[ai (show V.int (kw:Int)=V.int ((en:Int) - 1) from bb V.int (by omega))];rw[ah ⟨hc1,hkw⟩] at he;refine bO ⟨_,rfl,_,_,rfl,rfl,?_⟩;refine⟨0,c+(2*ix+ck)+3,[],true,_,_,_,_,_,_,rfl,s24,T2.root,by omega,λm e hm z=>?_,?_⟩
    ·have:m=i:=by omega
     rw[this,hen] at z;cases z;exact(ai PY).symm
    ·rw[he,Option.map_map]
     congr 1
     funext z
     show c+(2*ix+ck+3+z)=c+(2*ix+ck)+3+z;omega
   ·rw[ag (show ¬V.int (kw:Int)=V.int ((en:Int) - 1) from λz=>hkw (by have:=V.int.inj z;omega))];refine bI (k1 ?_ _ s4');rw[he,ae]
    ·rfl
    ·rintro⟨_,z⟩;exact hkw z
section
open ST2 (asR mq)
theorem gJ.dom{A:CA}{Z:ac7}{H:Hp}{a:Addr}{s:Sg}(h:gJ A Z H a s):gJ A (λq=>H q≠.none) H a s:=by
 obtain⟨dx,tn,sl,rl,h1,h2,⟨as,a1,a2,a3⟩,⟨bs,b1,b2,b3,b4⟩,h5⟩:=h;have key:∀{q:Addr} {xs:List V},H q=some (.lst xs)->H q≠.none:=λz e=>by rw[z] at e;cases e
 refine⟨dx,tn,sl,rl,h1,h2,⟨as,a1,a2,key a1⟩,⟨bs,b1,b2,λa ha=>⟨(b3 a ha).1,?_⟩,key b1⟩,h5⟩;obtain⟨i,hi⟩:=jq ha;obtain⟨x,_,hx⟩:=gq b2 hi;exact key hx
theorem OJ{S:List Sg}{n:Name}(h:∀o∈S,o.name≠n):∀k,dB (gr k S) (ud n)=none:=by
 induction S with
 |nil=>intro k;rfl
 |cons s S ih=>
  intro k;show dB ((ud s.name,V.int k)::gr (k+1) S) _=_;rw[fb (λe=>h s aR (Cw e)),ih (λo ho=>h o (aP _ ho))]
theorem ME{S:List Sg}(h:Ord S)(it:FT.It):Qb (gr 0 S) it=FT.It.known (S.map LZ.b9) it:=by
 cases it with
 |lost=>rfl
 |gap k q=>rfl
 |stand st=>
  show(dB (gr 0 S) (ud st.name)).isSome=(findName (S.map LZ.b9) st.name).isSome;cases hf:findName (S.map LZ.b9) st.name with
  |none=>rw[OJ (find_none.mp hf)];rfl
  |some i=>
   obtain⟨i,g,hg,hn⟩:=yF (S:=S) (st:=st) (by show(findName _ _).isSome=true;rw[hf];rfl);rw[<-hn,wR (pT h) 0 i g hg];rfl
theorem TC(ps:ac1){i j:Nat}(h1:i<=j)(h2:j<ps.length):wF (ps.map V.ref) (some (i:Int)) (some ((j:Int)+1))=((ps.drop i).take (j+1 - i)).map V.ref:=by
 rw[show(j:Int)+1=((j+1:Nat):Int) by omega];unfold wF;rw[HT.wN,HT.wN,af,zm (by omega),zm (by omega),XE,XF]
theorem Fd{α β:Type}{F:α->β->Prop}:∀{kh:List α} {kJ:List β} (n:Nat),Paired F kh kJ->Paired F (kh.drop n) (kJ.drop n)
 |_,_,0,h=>h
 |_,_,_+1,.nil=>.nil
 |_,_,n+1,.cons _ h=>Fd n h
theorem Fc{α β:Type}{F:α->β->Prop}:∀{kh:List α} {kJ:List β} (n:Nat),Paired F kh kJ->Paired F (kh.take n) (kJ.take n)
 |_,_,0,_=>.nil
 |_,_,_+1,.nil=>.nil
 |_,_,n+1,.cons a h=>.cons a (Fc n h)
theorem tZ:∀(l:List FT.It) (n:Nat),(fJ n l).length<=l.length
 | [],_=>aD _
 | .lost::l,n=>Nat.succ_le_succ (tZ l n)
 | .stand s::l,n=>Nat.le_succ_of_le (tZ l _)
 | .gap k q::l,n=>Nat.le_succ_of_le (tZ l _)
def JS(K:Frag)(A:CA):Sp:=λvs H Q _=>∃(i j:Nat) (b t x:Addr),vs=[.int i,.int j,.ref b,.ref t,.ref x]/\∃(B T X:Bytes),cg K H b ((ib B).map V.int)/\cg K H t ((ib T).map V.int)/\cg K H x ((ib X).map V.int)/\
 (∀c:Int,asR i j B T X=.inl c->c≠0->∀H' p,bJ H H'->H' p=some (.tup [.int c,.eZ])->Q (.ref p) H')/\(∀S Y M,asR i j B T X=.inr (S,Y,M)->∀H' p st Z,bJ H H'->H' p=some (.tup [.int 0,.ref st])->M7 A Z H' st S Y M->Q (.ref p) H')
theorem OI(D:Df K mg "asked" pP)(T:Tx mg K A)(cP:lB P w K mg base "Possible" A.bw 1 ["self","signs"] (EN K A))(jG:d4 P w K mg base A.bw "knows" 1 ["self","place"] (JM K A))(gZ:d4 P w K mg base A.bw "signs_at" 6 ["self","place"] (AI K A))(gj:lB P w K mg base "Stretch" A.ik 1 ["self","signs","words","places"] (qu A))(my:e7 P w K mg base "fault_place" 3 ["text"] (JP K))(zi:e7 P w K mg base "row_of" 10 ["text"] (JJ K A))(rN:e7 P w K mg base "signs_of" 6 ["text"] (AH K A))(rM:e7 P w K mg base "words_of" 1 ["text"] (AG K)):e7 P w K mg base "asked" 12 ["i","j","b","t","x"] (JS K A):=by
 refine D.iO g0 (λ_ _ _ _ _ _ us hl=>match us,hl with | [_,_,_,_,_],_=>rfl) (λvs H Q E h=>by obtain⟨_,_,_,_,_,rfl,_⟩:=h;rfl) (λf dG Ar outer s H vs Q E hr h=>?_);obtain⟨i,j,b,t,x,rfl,B0,T0,X,hb,ht,hx,kE,kS⟩:=h;refine⟨_,(aq (bR (PW.pt (qw (bC sI (bV bG rfl T.eI B.dh (aj (pv 2) aB)) (dP rfl T.tM) (bL _)) (qw (bC sI (bV bG rfl T.eI B.dh (aj (pv 3) aB)) (dP rfl T.lK) (bL _)) (oN (bC sI (bV bG rfl T.eI B.dh (aj (pv 4) aB)) (dP rfl T.lK) (bL _)))))) (aC (aV (gH (aj (dP rfl T.yQ) (aj cN aB))))) bf) (aq (gc 5 g0.nd (bB rN hr.m rfl (aj (pv 2) aB))) (aq (bR (bC lg (pv 5) cN (bL _)) (aC (aV (gH (aj (dP rfl T.wm) (aj cN aB))))) bf) (aq (gc 6 g0.nd (bB zi hr.m rfl (aj (pv 3) aB))) (aq (bR (bC lg (pv 6) cN (bL _)) (aC (aV (gH (aj (dP rfl T.wj) (aj cN aB))))) bf) (aq (bR (bC vn (bB my hr.m rfl (aj (pv 4) aB)) (dP rfl T.yR) (bL _)) (aC (aV (gH (aj (dP rfl T.Ds) (aj cN aB))))) bf) (aq (Ie (i:=7) g0.nd rfl (Or.inr rfl) (g6 cP hr.m rfl (aj (pv 5) aB))) (aq (bR (fo (cE (bV (QH rfl) rfl T.K5 B.QO (aj (sD (own:=[("place",9)]) rfl g0.nd (lF (bD (pv 6) rfl)) (g9 (by show wH ["i","j","b","t","x","signs","row","possible","places","place","before"] (aO pP) _ _=true;decide +kernel)) (λ_ _ _ _ _=>(qx 9 g0.nd)) (λ_ _ _ _ _=>lE) (λ_ _ _ _ _=>(cy (pv 7) T.bS jG hr.m (aj (pv 9) aB)))) aB)))) (aC (aV (gH (aj (dP rfl T.tL) (aj cN aB))))) bf) (aq (bR (fo (xV kq Fk (pv 0) (pv 1) (bV bG rfl T.eI B.dh (aj (bD (pv 6) rfl) aB)))) (aC (aV (gH (aj (dP rfl T.GD) (aj cN aB))))) bf) (aq (bR (cE (bV (QG rfl) rfl T.K4 B.QN (aj (sD (own:=[("before",10)]) rfl g0.nd (lF (bD (pv 6) rfl)) (g9 (by show wH ["i","j","b","t","x","signs","row","possible","places","place","before"] (aO pP) _ _=true;decide +kernel)) (λ_ _ _ _ _=>(qx 10 g0.nd)) (λ_ _ _ _ _=>lE) (λ_ _ _ _ _=>(sE Fk kq (pv 0) (pv 10) (pv 1)))) aB))) (aC (aV (gH (aj (dP rfl T.Ql) (aj cN aB))))) bf) (aq (Ov (i:=8) (own:=[("place",9)]) rfl g0.nd rfl rfl (RE rfl rfl rfl rfl) (lF (sC BO (bD (pv 6) rfl) (sx (pv 0)) (sx (ft lh (pv 1) cF)))) (g9 (by show wH ["i","j","b","t","x","signs","row","possible","places","place","before"] (aO pP) _ _=true;decide +kernel)) (λ_ _ _ _ _=>(qx 9 g0.nd)) (λ_ _ _ _ _=>lE) (λ_ _ _ _ _=>(cy (pv 7) T.bS gZ hr.m (aj (pv 9) aB)))) (aC (aV (gH (aj (dP rfl T.qA) (aj (g6 gj hr.m rfl (aj (pv 5) (aj (bB rM hr.m rfl (aj (pv 4) aB)) (aj (pv 8) aB)))) aB)))))))))))))))),?_⟩;have nQ:((ib B0).map V.int).length=B0.length:=by rw[af,dI]
 have Ks:((ib T0).map V.int).length=T0.length:=by rw[af,dI]
 have hxl:((ib X).map V.int).length=X.length:=by rw[af,dI]
 have h2:(2:Nat)<=sizeLine:=by decide
 refine⟨_,rfl,b,_,rfl,.inl hb,_,_,rfl,rfl,_,rfl,?_⟩;rw[nQ];by_cases c1:1048576<B0.length
 ·rw[ai (show(B0.length:Int)> 1048576 by omega)];exact bI (bI ⟨h2,λp hp=>kE (-2) (by unfold asR;rw[ah (.inl c1)]) (by decide) _ p (aF hp) ak⟩)
 rw[ag (show ¬(B0.length:Int)> 1048576 by omega)];refine bO ⟨_,rfl,t,_,rfl,.inl ht,_,_,rfl,rfl,_,rfl,?_⟩;rw[Ks];by_cases c2:65536<T0.length
 ·rw[ai (show(T0.length:Int)> 65536 by omega)];exact bI (bI ⟨h2,λp hp=>kE (-2) (by unfold asR;rw[ah (.inr (.inl c2))]) (by decide) _ p (aF hp) ak⟩)
 rw[ag (show ¬(T0.length:Int)> 65536 by omega)];refine bO ⟨_,rfl,x,_,rfl,.inl hx,_,_,rfl,rfl,_,rfl,?_⟩;rw[hxl];by_cases c3:65536<X.length
 ·rw[ai (show(X.length:Int)> 65536 by omega)];exact bI ⟨h2,λp hp=>kE (-2) (by unfold asR;rw[ah (.inr (.inr c3))]) (by decide) _ p (aF hp) ak⟩
 rw[ag (show ¬(X.length:Int)> 65536 by omega)];have h0:¬(1048576<B0.length\/65536<T0.length\/65536<X.length):=by omega
 refine bO ⟨_,rfl,b,rfl,B0,hb,by omega,λhL H1 s1=>?_,λS hL H1 sl as s1 zt hsg Aa=>?_⟩
 ·exact⟨_,rfl,rfl,_,rfl,bI ⟨h2,λp hp=>kE (-3) (by unfold asR;rw[ae h0,hL]) (by decide) _ p (s1.trans (aF hp)) ak⟩⟩
 obtain⟨cR,rk,gT⟩:=IE 512 [] B0 S (λ_ q=>absurd q de) .nil hL;refine⟨_,rfl,rfl,_,rfl,?_⟩;rw[jJ];refine bO ⟨_,rfl,t,rfl,T0,s1.seq ht,by omega,λhT H2 s2=>?_,λout hT hol H2 ro s2 hR=>?_⟩
 ·exact⟨_,rfl,rfl,_,rfl,bI ⟨h2,λp hp=>kE (-6) (by unfold asR;rw[ae h0,hL];simp only;rw[hT]) (by decide) _ p ((s1.trans s2).trans (aF hp)) ak⟩⟩
 refine⟨_,rfl,rfl,_,rfl,?_⟩;rw[jJ];refine bO ⟨_,rfl,x,X,rfl,(s1.trans s2).seq hx,λH3 s3=>⟨rfl,_,rfl,?_⟩⟩;have s03:bJ H H3:=(s1.trans s2).trans s3;cases hX:readLexicon X with
 |error e=>
  have ef:o8 X=(e:Int):=by unfold o8;rw[hX]
  rw[ef,ag (show ¬V.int (e:Int)=V.int (-1) from λz=>by have:=V.int.inj z;omega)];exact bI ⟨h2,λp hp=>kE (-10) (by unfold asR;rw[ae h0,hL];simp only;rw[hT];simp only;rw[hX]) (by decide) _ p (s03.trans (aF hp)) ak⟩
 |ok Y=>
 have ef:o8 X= -1:=by unfold o8;rw[hX]
 rw[ef,ai (show V.int (-1)=V.int (-1) from rfl)];have eA:asR i j B0 T0 X=if (dC out).all (FT.It.known (S.map LZ.b9))=false then .inl (-9)
     else if ¬(i<=j/\j<(dC out).length) then .inl (-4)
     else if (fJ 0 out).any (λc=>decide (i<c/\c<=j))=true then .inl (-8)
     else .inr (S,Y,(((dC out).drop i).take (j+1 - i)).map (mq (S.map LZ.b9))):=by
  unfold asR;rw[ae h0,hL];simp only;rw[hT];simp only;rw[hX]
 rw[eA] at kE kS;refine bO ⟨_,rfl,?_⟩;intro po dp npo ndp Se;have s4:bJ H3 (L2.upd (L2.upd H3 dp (.own po)) po (.ins A.bw dp [])):=e8 npo ndp;have s14:=(s2.trans s3).trans s4;refine⟨po,sl,rfl,dp,as,_,S,ak,s14 _ _ zt,Paired.ee hsg λ_ _ z=>z.same (λ_ z=>z) s14,Aa,pT rk,λH5 nb lk kn q5 C8 hnb PM Eh n1 n2 n3 fl fk=>⟨rfl,?_⟩⟩;have s35:bJ H3 H5:=λb v e=>q5.kp b v (s4 b v e) λz=>by
  have zz:b=po:=z;subst zz;rw[npo] at e;cases e
 have s25:=s3.trans s35;have s15:=s2.trans s25;have s05:=s1.trans s15;have Zh:=s15 _ _ zt;have abJ:Paired (gJ A (λq=>H5 q≠.none) H5) as S:=Paired.ee hsg λ_ _ z=>(z.same (λ_ z=>z) s15).dom
 obtain⟨⟨dr,Rc⟩,⟨ps,iK,yL⟩,Wi⟩:=hR.same s25;have aaJ:(dC out).length<=65536:=by
  have:(dC out).length<=out.length:=zx _ _;omega
 have aaK:(fJ 0 out).length<=65536:=by
  have:=tZ out 0;omega
 have Zm:(ps.map V.ref).length=(dC out).length:=by rw[af,bc yL]
 refine⟨_,rfl,ro.rw,_,dr,_,_,rfl,Rc,T.qD,T.fR,rfl,ro.pl,rfl,⟨_,cg.of iK⟩,λD hD=>?_⟩;refine wY (K:=K) (a:=ro.pl) (xs:=ps.map V.ref) (λi H6=>KE H5 H6/\H6 D=some (.lst ((((dC out).take i).map (Qb (gr 0 S))).map V.bl))) ⟨.new hD,ak⟩ (λi H6 _ ⟨q1,_⟩=>cg.of (q1.kp _ _ iK λz=>z)) ?_ ?_
 ·rintro n v H6 hn ⟨q1,Ej⟩;rw[aM] at hn;cases ha:ps[n]? with
  |none=>rw[ha] at hn;cases hn
  |some a=>
  rw[ha] at hn;cases hn;obtain⟨it,wg,V9⟩:=gq yL ha;have s6:bJ H5 H6:=q1.jr λ_ _ z=>z.elim
  have hnl:n<(dC out).length:=(aG.mp wg).1;refine⟨rfl,?_⟩;refine⟨_,rfl,po,dp,_,rfl,s6 _ _ C8,rfl,_,rfl,po,a,rfl,dp,sl,nb,lk,kn,gr 0 S,it,s6 _ _ C8,hnb.same s6,V9.same s6,_,Ej,?_,Kp.uj q1 hD,?_⟩
  ·have:(100000:Nat)<sizeLine:=by decide
   rw[af,af,bh];omega
  ·rw[ak,bN,wg,aN,aN];rfl
 rintro H6 ⟨q1,hD6⟩;have Ye:bJ H5 H6:=q1.jr λ_ _ z=>z.elim
 rw[Zm,cM] at hD6;refine⟨D,(dC out).map (Qb (gr 0 S)),rfl,cg.of hD6,_,rfl,?_⟩;have acE:((dC out).map (Qb (gr 0 S))).all id=(dC out).all (FT.It.known (S.map LZ.b9)):=by
  rw[List.all_map]
  congr 1
  funext it
  exact ME rk it
 rw[acE];have s06:bJ H H6:=s05.trans Ye;cases i9:(dC out).all (FT.It.known (S.map LZ.b9)) with
 |false=>
  exact bI ⟨h2,λp hp=>kE (-9) (by rw[i9,ah rfl]) (by decide) _ p (s06.trans (aF hp)) ak⟩
 |true=>
 rw[i9,ae (by decide)] at kE kS;have Zj:=Ye _ _ Rc;have abU:=Ye _ _ iK;have ZZ:=Ye _ _ Wi;have Yg:¬(i<=j/\j<(dC out).length)->∀p,H6 p=.none->Q (.ref p) (L2.upd H6 p (.tup [.int (-4),.eZ])):=λz p hp=>kE (-4) (by rw[ah z]) (by decide) _ p (s06.trans (aF hp)) ak
 refine bO ⟨_,rfl,_,rfl,_,_,rfl,rfl,_,rfl,?_⟩;by_cases d1:¬i<=j
 ·rw[ag (show ¬(i:Int)<=(j:Int) by omega)];exact bO ⟨_,rfl,bI ⟨h2,λp hp=>Yg (λz=>d1 z.1) p hp⟩⟩
 have d1:=jg.mp d1;rw[ai (show(i:Int)<=(j:Int) by omega)];refine bI ⟨_,rfl,ro.rw,_,dr,_,_,rfl,Zj,T.qD,T.fR,rfl,ro.pl,_,rfl,.inl (cg.of abU),_,_,rfl,rfl,_,rfl,?_⟩;rw[Zm];by_cases d2:¬j<(dC out).length
 ·rw[ag (show ¬(j:Int)<(((dC out).length:Nat):Int) by omega)];exact bI ⟨h2,λp hp=>Yg (λz=>d2 z.2) p hp⟩
 have d2:=jg.mp d2;rw[ai (show(j:Int)<(((dC out).length:Nat):Int) by omega)];rw[ae (show ¬¬(i<=j/\j<(dC out).length) from λz=>z ⟨d1,d2⟩)] at kE kS;refine bO ⟨_,rfl,ro.rw,_,dr,_,_,rfl,Zj,T.qD,T.nh,rfl,ro.br,rfl,⟨_,cg.of ZZ⟩,λD2 Ho=>?_⟩;refine wY (K:=K) (a:=ro.br) (xs:=qV (fJ 0 out)) (λn H7=>KE H6 H7/\H7 D2=some (.lst ((((fJ 0 out).take n).map λc=>decide (i<c/\c<=j)).map V.bl))) ⟨.new Ho,ak⟩ (λn H7 _ ⟨q1,_⟩=>cg.of (q1.kp _ _ ZZ λz=>z)) ?_ ?_
 ·rintro n v H7 hn ⟨q1,Ej⟩;unfold qV at hn;rw[aM] at hn;cases ha:(fJ 0 out)[n]? with
  |none=>rw[ha] at hn;cases hn
  |some c=>
  rw[ha] at hn;cases hn;have hsz:((((fJ 0 out).take n).map λc=>decide (i<c/\c<=j)).map V.bl).length<sizeLine:=by
   have:(100000:Nat)<sizeLine:=by decide
   rw[af,af,bh];omega
  have nxt:∀v:Bool,v=decide (i<c/\c<=j)->KE H6 (L2.upd H7 D2 (.lst (((((fJ 0 out).take n).map λc=>decide (i<c/\c<=j)).map V.bl)++ [V.bl v])))/\(L2.upd H7 D2 (.lst (((((fJ 0 out).take n).map λc=>decide (i<c/\c<=j)).map V.bl)++ [V.bl v]))) D2=some (.lst ((((fJ 0 out).take (n+1)).map λc=>decide (i<c/\c<=j)).map V.bl)):=λv hv=>by
   refine⟨Kp.uj q1 Ho,?_⟩;rw[ak,bN,ha,aN,aN,hv];rfl
  refine⟨rfl,?_⟩;refine⟨_,rfl,_,rfl,_,_,rfl,rfl,_,rfl,?_⟩;by_cases e1:i<c
  ·rw[ai (show(i:Int)<(c:Int) by omega)];refine bI ⟨_,rfl,_,_,rfl,rfl,_,Ej,hsz,nxt _ ?_⟩;exact dN.mpr ⟨λz=>⟨e1,by omega⟩,λz=>by omega⟩
  ·rw[ag (show ¬(i:Int)<(c:Int) by omega)];refine bO ⟨_,Ej,hsz,nxt _ ?_⟩;exact(ag (λz=>e1 z.1)).symm
 rintro H7 ⟨q7,hD7⟩;have s67:bJ H6 H7:=q7.jr λ_ _ z=>z.elim
 rw[m9,cM] at hD7;have s57:=Ye.trans s67;have s07:=s05.trans s57;refine⟨D2,(fJ 0 out).map λc=>decide (i<c/\c<=j),rfl,cg.of hD7,_,rfl,?_⟩;have acD:((fJ 0 out).map λc=>decide (i<c/\c<=j)).any id=(fJ 0 out).any λc=>decide (i<c/\c<=j):=by
  rw[lW];rfl
 rw[acD];cases Z7:(fJ 0 out).any λc=>decide (i<c/\c<=j) with
 |true=>
  exact bI ⟨h2,λp hp=>kE (-8) (by rw[Z7,ah rfl]) (by decide) _ p (s07.trans (aF hp)) ak⟩
 |false=>
 rw[Z7,ae (by decide)] at kS;refine bO ⟨_,rfl,ro.rw,_,dr,_,_,rfl,s57 _ _ Rc,T.qD,T.fR,rfl,_,rfl,i,rfl,_,rfl,_,_,rfl,rfl,_,rfl,ro.pl,_,rfl,cg.of (s57 _ _ iK),λlp hlp=>?_⟩;have abN:j<ps.length:=by rw[bc yL];exact d2
 have hM5:Paired (jj A H5) ((ps.drop i).take (j+1 - i)) (((dC out).drop i).take (j+1 - i)):=Fc _ (Fd _ yL);have aac:∀it∈((dC out).drop i).take (j+1 - i),nk it=true/\FT.It.known (S.map LZ.b9) it=true:=λit z=>by
  have z:=List.mem_of_mem_drop (List.mem_of_mem_take z);exact⟨(Ru.mp z).2,bU.mp i9 it z⟩
 have hMl:(((dC out).drop i).take (j+1 - i)).length<=65536:=by
  rw[bh,cA];omega
 dsimp only;rw[TC ps d1 abN];generalize (ps.drop i).take (j+1 - i)=qs at hM5 ⊢;generalize ((dC out).drop i).take (j+1 - i)=M at hM5 aac hMl kS;have s78:bJ H7 (L2.upd H7 lp (.lst (qs.map V.ref))):=aF hlp;have V5:(L2.upd H7 lp (.lst (qs.map V.ref))) lp=some (.lst (qs.map V.ref)):=ak;generalize L2.upd H7 lp (.lst (qs.map V.ref))=H8 at s78 V5 ⊢;have s58:=s57.trans s78;refine⟨lp,rfl,⟨_,cg.of V5⟩,λD3 Wr=>?_⟩;have WX:bJ H5 (L2.upd H8 D3 (.lst [])):=s58.trans (aF Wr);have aah:H5 D3=.none:=same_none s58 Wr;have P0:vK K A (L2.upd H8 D3 (.lst [])) ⟨po,dp,sl,nb,lk,kn,as,λq=>H5 q≠.none,D3⟩ S 0:=⟨WX _ _ C8,WX _ _ Zh,Paired.ee abJ λ_ _ z=>z.same (λ_ z=>z) WX,hnb.same WX,⟨[],PM.same WX,aA _,λ_ _ _ z=>by cases z⟩,⟨[],Eh.same WX,aA _,λ_ _ z=>by cases z⟩,n1,n2,n3,_,ak⟩;obtain⟨o,ho⟩:∃o:PO,o=⟨po,dp,sl,nb,lk,kn,as,λq=>H5 q≠.none,D3⟩:=⟨_,rfl⟩;rw[<-ho] at P0;have eo1:o.po=po:=by rw[ho]
 have eo2:o.D=D3:=by rw[ho]
 have eo3:o.sl=sl:=by rw[ho]
 have eo4:∀q,o.Z q->q≠D3:=λq z e=>by rw[ho] at z;exact z (by rw[e];exact aah)
 have eo5:o.dx=dp:=by rw[ho]
 refine wY (K:=K) (a:=lp) (xs:=qs.map V.ref) (λn H9=>KX o H8 H9/\vK K A H9 o S (2*n)/\∃bs:List Addr,H9 D3=some (.lst (bs.map V.ref))/\Paired (λp q=>Ep H9 p (qV q)) bs ((M.take n).map (mq (S.map LZ.b9)))) ⟨.new Wr,P0,[],ak,.nil⟩ (λn H9 _ ⟨q1,_⟩=>cg.of (q1.kp _ _ V5 λ⟨_,φ,e⟩=>nomatch e)) ?_ ?_
 ·rintro n v H9 hn ⟨q9,P9,bs,hD9,Ri⟩;rw[aM] at hn;cases ha:qs[n]? with
  |none=>rw[ha] at hn;cases hn
  |some a=>
  rw[ha] at hn;cases hn;obtain⟨it,wg,V9⟩:=gq hM5 ha;have hnl:n<M.length:=(aG.mp wg).1;obtain⟨Mx,PV⟩:=aac it (aL wg);have hob:=P9.ob;rw[eo1] at hob;refine⟨rfl,?_⟩;refine⟨_,rfl,po,o.dx,_,rfl,hob,rfl,_,rfl,po,a,rfl,o,S,2*n,it,eo1.symm,P9,(V9.same s58).kx q9,Mx,PV,rk,cR,Aa,by omega,λXu p q10 P10 abW=>?_⟩;have MH:Xu D3=some (.lst (bs.map V.ref)):=q10.kp _ _ hD9 λ⟨_,φ,e⟩=>nomatch e
  have acU:bs.length=n:=by
   have:=bc Ri;rw[af,bh] at this;omega
  refine⟨_,MH,?_,Kp.uj (q9.trans q10) Wr,?_,bs++ [p],?_,?_⟩
  ·have:(100000:Nat)<sizeLine:=by decide
   rw[af];omega
  ·have:=P10.wrD (ys:=bs.map V.ref++ [V.ref p]) (by rw[eo2];exact MH) (by rw[eo3,eo2];exact bo Zh aah) (by rw[eo2];exact eo4);rw[eo2] at this;exact this
  ·rw[ak,aN];rfl
  ·rw[bN,wg,aN];refine fG (Paired.ee Ri λp' q' ⟨ob,g2,g3,g4⟩=>⟨ob,g2,g3,?_⟩) ?_
   ·have g5:=q10.kp _ _ g4 λ⟨_,φ,e⟩=>nomatch e
    rw[aH (bW g5 MH nofun)];exact g5
   ·obtain⟨ob,g2,g3,g4⟩:=abW;exact⟨ob,g2,g3,by rw[aH (bW g4 MH nofun)];exact g4⟩
 ·rintro H9 ⟨q9,P9,bs,hD9,Ri⟩;rw[af,bc hM5,cM] at Ri;have s08:bJ H H8:=s05.trans s58;have s04:bJ H (L2.upd (L2.upd H3 dp (.own po)) po (.ins A.bw dp [])):=s03.trans s4;have s09:bJ H H9:=λb' u' z=>q9.kp _ _ (s08 _ _ z) λ⟨e,_⟩=>by
   rcases e with e|e
   ·rw[e,show o.lk=lk by rw[ho],same_none s04 fl] at z;cases z
   ·rw[e,show o.kn=kn by rw[ho],same_none s04 fk] at z;cases z
  have k9:∀{b':Addr} {u':HO},H8 b'=some u'->(∀φ,u'≠.ext φ)->H9 b'=some u':=λz n=>q9.kp _ _ z λ⟨_,φ,e⟩=>n φ e
  have eY:=Jk X [] [] 0 Y oa.start hX;rw[bE] at eY;refine⟨_,rfl,_,rfl,x,X,rfl,s09.seq hx,by omega,λXu wl rs WZ L=>⟨_,rfl,?_⟩⟩;rw[<-eY] at L;intro st ds nst nds acO;have Yf:bJ Xu (L2.upd (L2.upd Xu ds (.own st)) st (.ins A.ik ds [])):=e8 nst nds;refine⟨st,_,_,_,rfl,ds,ak,λH12 LK Zg=>⟨rfl,?_⟩⟩;have s12:bJ Xu H12:=λb' v' e=>LK.kp b' v' (Yf b' v' e) λz=>by
   have zz:b'=st:=z;subst zz;rw[nst] at e;cases e
  have Oc:=WZ.trans s12;have Xo:M7 A o.Z H12 st S Y (M.map (mq (S.map LZ.b9))):=by
   refine⟨ds,sl,wl,D3,Zg,⟨o.as,?_,Paired.ee P9.sg λ_ _ z=>z.same (λ_ z=>z) Oc⟩,⟨rs,s12 _ _ L.lst,Paired.ee L.at_ λ_ _ z=>s12 _ _ z⟩,⟨bs,Oc _ _ hD9,Paired.ee Ri λ_ _ z=>z.same Oc⟩⟩;have:=Oc _ _ P9.sl;rw[eo3] at this;exact this
  refine⟨h2,λp hp=>kS S Y _ rfl _ p st o.Z ((s09.trans Oc).trans (aF hp)) ak (Xo.same (aF hp))⟩
end
section
open ST2 (asR mq)
theorem Kh:∀(k:Nat) (had:List Sg) (r:Bytes) (l:List Sg),lA k had r=some l->l.length<=k+had.length
 |0,_,_,_,h=>by cases h
 |k+1,had,r,l,h=>by
  unfold lA at h;split at h
  ·cases h
  ·split at h
   ·split at h
    ·cases h;rw[aw];show had.length+1<=_;omega
    ·have:=Kh k _ _ l h;rw[aw] at this;have this:l.length<=k+(had.length+1):=this;omega
   ·cases h
theorem YT{S:List Sg}(rk:Ord S){it:FT.It}(hk:FT.It.known (S.map LZ.b9) it=true):(mq (S.map LZ.b9) it).length<=S.length/\∀n∈mq (S.map LZ.b9) it,n<S.length:=by
 have key:∀p:Sg->Bool,(du p 0 S).length<=S.length/\∀n∈du p 0 S,n<S.length:=λp=>by
  refine⟨gG p S 0,λn hn=>?_⟩;obtain⟨j,t,h1,_,h3⟩:=(kI p S 0 n).mp hn;have:=(aG.mp h1).1;omega
 cases it with
 |lost=>exact⟨aD _,λ_ q=>by cases q⟩
 |gap k q=>
  show((gapMay (S.map LZ.b9) k q).getD []).length<=_/\∀n∈(gapMay (S.map LZ.b9) k q).getD [],_;rw[KH];split
  ·exact key _
  ·exact⟨aD _,λ_ q=>by cases q⟩
 |stand st=>
  obtain⟨i,g,hg,hn⟩:=yF hk;show(st.may (S.map LZ.b9)).length<=_/\∀n∈st.may (S.map LZ.b9),_;rw[Ke rk hg hn];exact key _
theorem aaA{i j:Nat}{B T X:Bytes}{S:List Sg}{Y:ac3}{M:List (List Nat)}(h:asR i j B T X=.inr (S,Y,M)):M≠[]/\Y.Nodup/\Y.length<=5000/\(∀y∈Y,y.length<=40)/\(∀s∈S,s.sounds.length<=8)/\(∀q∈M,q.length<=512/\∀n∈q,n<S.length):=by
 unfold asR at h;split at h
 ·cases h
 split at h
 ·cases h
 rename_i S' hL;split at h
 ·cases h
 rename_i out hT;split at h
 ·cases h
 rename_i Y' hX;split at h
 ·cases h
 rename_i i9;split at h
 ·cases h
 rename_i Hn;split at h
 ·cases h
 cases h;obtain⟨cR,rk,gT⟩:=IE 512 [] B S (λ_ q=>absurd q de) .nil hL;have Aa:=Kh 512 [] B S hL;have Aa:S.length<=512:=Aa;have i9:(dC out).all (FT.It.known (S.map LZ.b9))=true:=by
  cases hz:(dC out).all (FT.It.known (S.map LZ.b9)) with
  |true=>rfl
  |false=>exact absurd hz i9
 have Hn:=jg.mp Hn;have I:=CS X [] [] 0 Y oa.start hX;refine⟨λz=>?_,ST2.Mf hX,by have:=I.xl;omega,λy hy=>by have:=(I.xs y hy).1;omega,λs hs=>(cR s hs).1,λq hq=>?_⟩
 ·have:=bb List.length z;rw[af,bh,cA,cJ] at this;omega
 ·obtain⟨it,hit,rfl⟩:=cH.mp hq;obtain⟨a1,a2⟩:=YT rk (bU.mp i9 it (List.mem_of_mem_drop (List.mem_of_mem_take hit)));exact⟨by omega,a2⟩
theorem vd(i j:Int)(b t x r:acZ):PyWqbbcb.check i j b t x r=if 65536<(GlyphINeutral.nats r).length then [-2] else match asR i.toNat j.toNat (GlyphINeutral.text b) (GlyphINeutral.text t) (GlyphINeutral.text x) with
  | .inl c=>[c]
  | .inr (S,Y,M)=>match DP.tY (S.map LZ.b9) Y M (GlyphINeutral.nats r) [] false with
   |none=>[-5]
   |some c=>[(c:Int)]:=by
 show GlyphINeutral.shown (GlyphI.answer (.check (GlyphINeutral.text b) (GlyphINeutral.text t) (GlyphINeutral.text x) i.toNat j.toNat (GlyphINeutral.nats r)))=_;rw[ST2.vd];split
 ·rfl
 cases asR i.toNat j.toNat (GlyphINeutral.text b) (GlyphINeutral.text t) (GlyphINeutral.text x) with
 |inl c=>rfl
 |inr z=>
  obtain⟨S,Y,M⟩:=z;simp only;cases DP.tY (S.map LZ.b9) Y M (GlyphINeutral.nats r) [] false <;> rfl
theorem Sf(r:acZ)(h:∀v∈r,0<=v):qV (GlyphINeutral.nats r)=r.map V.int:=by
 unfold qV GlyphINeutral.nats;rw[cC];refine pJ λv hv=>?_
 show V.int (v.toNat:Int)=V.int v;rw[Int.toNat_of_nonneg (h v hv)]
def BL(K:Frag):Sp:=λvs H Q _=>∃(i j:Int) (b t x r:Addr) (bs ts xs rs:acZ),vs=[.int i,.int j,.ref b,.ref t,.ref x,.ref r]/\0<=i/\0<=j/\cg K H b (bs.map V.int)/\cg K H t (ts.map V.int)/\cg K H x (xs.map V.int)/\cg K H r (rs.map V.int)/\(∀v∈bs,0<=v/\v<=255)/\(∀v∈ts,0<=v/\v<=255)/\(∀v∈xs,0<=v/\v<=255)/\(∀v∈rs,0<=v)/\
 ∀(H':Hp) (p:Addr),IL H' p (PyWqbbcb.check i j bs ts xs rs)->Q (.ref p) H'
theorem OH{f:Addr}{fd:FuncData}(F:Q3 K "check" "check" ia f fd)(T:Tx mg K A)(Ec:e7 P w K mg base "asked" 12 ["i","j","b","t","x"] (JS K A))(mz:e7 P w K mg base "cost_of_row" 5 ["row","stretch"] (AK K A)): oe P w K mg base Na 13 f fd ["i","j","b","t","x","r"] (BL K):=by
 refine F.ok xK (λvs H Q E h=>by obtain⟨_,_,_,_,_,_,_,_,_,_,rfl,_⟩:=h;rfl) (λdG Ar outer s H vs Q E hr h=>?_);obtain⟨i,j,b,t,x,r,bs,ts,xs,rs,rfl,hi,hj,hb,ht,hx,Ku,Ri,hts,hxs,hrs,k⟩:=h;have Hs:=vd i j bs ts xs rs;have eb:=w6 bs Ri;have et:=w6 ts hts;have ex:=w6 xs hxs;have er:=Sf rs hrs;obtain⟨i,rfl⟩:=aaH hi;obtain⟨j,rfl⟩:=aaH hj;rw[fm,fm] at Hs;rw[<-eb] at hb;rw[<-et] at ht;rw[<-ex] at hx;rw[<-er] at Ku;generalize PyWqbbcb.check (i:Nat) (j:Nat) bs ts xs rs=ans at Hs k;generalize GlyphINeutral.text bs=B0 at Hs hb;generalize GlyphINeutral.text ts=T0 at Hs ht;generalize GlyphINeutral.text xs=X0 at Hs hx;generalize GlyphINeutral.nats rs=R at Hs Ku;refine⟨_,(aq (bR (bC sI (bV bG rfl T.eI B.dh (aj (pv 5) aB)) (dP rfl T.rq) (bL _)) (aC (aV (dD (aj (dP rfl T.yQ) aB)))) bf) (aq (gc 6 xK.nd (bB Ec hr.m rfl (aj (pv 0) (aj (pv 1) (aj (pv 2) (aj (pv 3) (aj (pv 4) aB))))))) (aq (bR (bC (Vp (hr.units)) (fu uY (pv 6) cF (λ_ _=>rfl)) (dP rfl T.qA) (bL _)) (aC (aV (dD (aj (fu uY (pv 6) cF (λ_ _=>rfl)) aB)))) bf) (aq (gc 7 xK.nd (bB mz hr.m rfl (aj (pv 5) (aj (fu uY (pv 6) cF (λ_ _=>rfl)) aB)))) (aq (bR (bC gI (pv 7) (dP rfl T.pX) (bL _)) (aC (aV (dD (aj (dP rfl T.Dt) aB)))) bf) (aC (aV (dD (aj (pv 7) aB))))))))),?_⟩;have h1:(1:Nat)<=sizeLine:=by decide
 refine⟨_,rfl,r,_,rfl,.inl Ku,_,_,rfl,rfl,_,rfl,?_⟩;rw[m9];by_cases hl:65536<R.length
 ·rw[ai (show(R.length:Int)> 65536 by omega)];rw[ah hl] at Hs;refine bI ⟨h1,λp hp=>k _ p ?_⟩;rw[Hs];exact ak
 rw[ag (show ¬(R.length:Int)> 65536 by omega)];rw[ae hl] at Hs;refine bO ⟨_,rfl,_,rfl,_,rfl,_,rfl,_,rfl,i,j,b,t,x,rfl,B0,T0,X0,hb,ht,hx,λc hA hc0 H1 p s1 hp=>?_,λS Y M hA H1 p st Z s1 hp Xo=>?_⟩
 ·rw[hA] at Hs;refine⟨_,rfl,p,_,_,_,rfl,rfl,dJ.of hp,at_of (j:=0) (v:=.int c) rfl rfl,.int c,.int 0,.int c,.int 0,rfl,rfl,_,rfl,?_⟩;have e1:PyData.eqv (.int c) (.int 0)=false:=by
   show(c==0)=false;exact cc.mpr hc0
  rw[e1];refine bI ⟨_,rfl,p,_,_,_,rfl,rfl,dJ.of hp,at_of (j:=0) (v:=.int c) rfl rfl,h1,λp2 wb=>k _ p2 ?_⟩;rw[Hs];exact ak
 ·rw[hA] at Hs;obtain⟨m1,m2,m3,m4,m5,m6⟩:=aaA hA;refine⟨_,rfl,p,_,_,_,rfl,rfl,dJ.of hp,at_of (j:=0) (v:=.int 0) rfl rfl,.int 0,.int 0,.int 0,.int 0,rfl,rfl,_,rfl,?_⟩;refine bO ⟨_,rfl,_,rfl,p,_,_,_,rfl,rfl,dJ.of hp,at_of (j:=1) (v:=.ref st) rfl rfl,r,st,rfl,R,S,Y,M,Z,s1.seq Ku,Xo,m1,by omega,m2,m3,m4,m5,m6,λhc H2 s2=>?_,λc hc gV H2 s2=>?_⟩
  ·simp only[hc] at Hs;refine⟨_,rfl,rfl,_,rfl,bI ⟨h1,λp2 wb=>k _ p2 ?_⟩⟩;rw[Hs];exact ak
  ·simp only[hc] at Hs;refine⟨_,rfl,rfl,_,rfl,?_⟩;rw[ag (show ¬V.int (c:Int)=V.int 1000000000000 from λz=>by have:=V.int.inj z;omega)];refine bO ⟨_,rfl,h1,λp2 wb=>k _ p2 ?_⟩;rw[Hs];exact ak
end
section
open PySem.W (Codec)
def NI(K:Frag)(x:Str)(v:Int):Prop:=∃t,nsIn K mainGlobals x=some (some (.int v t))
theorem NI.mk{K:Frag}{x:Str}{v:Int}{t:Tok}(e:nsIn K mainGlobals x=some (some (.int v t))):NI K x v:=⟨t,e⟩
def ND(K:Frag)(x:Str)(st:Stmt):Prop:=∃f,nsIn K mainGlobals x=some (some (.ref f))/\∃fd,Q3 K x x st f fd
def NM(K:Frag)(C:Addr)(m q:Str)(st:Stmt):Prop:=∃f,findIn K (.ref C) m=some (some (.ref f))/\isFn K (.ref f)=true/\∃fd,Q3 K m q st f fd
def NC(K:Frag)(x:Str)(C:Addr):Prop:=nsIn K mainGlobals x=some (some (.ref C))/\Bv K C/\makesIn K C=true/\keepIn K (.ref C)=true
theorem ND.mk{K:Frag}{x:Str}{st:Stmt}{f:Addr}{oc:Value}{od an:ac4}{Cj:ac9}{kV doc pm dG ct:Value}(a:nsIn K mainGlobals x=some (some (.ref f)))(l:K.lookup f=some ⟨oc,od,.func (fnOf x x (ij st) (fE st) (aO st) .none kV doc pm an dG ct),Cj⟩)(c:codeIn K dG x=true)(k:keepIn K (.ref f)=true):ND K x st:=⟨f,a,_,Jb l c k⟩
theorem NM.mk{K:Frag}{C:Addr}{m q:Str}{st:Stmt}{f:Addr}{oc:Value}{od an:ac4}{Cj:ac9}{kV doc pm dG ct:Value}(a:findIn K (.ref C) m=some (some (.ref f)))(i:isFn K (.ref f)=true)(l:K.lookup f=some ⟨oc,od,.func (fnOf m q (ij st) (fE st) (aO st) .none kV doc pm an dG ct),Cj⟩)(c:codeIn K dG q=true)(k:keepIn K (.ref f)=true):NM K C m q st:=⟨f,a,i,_,Jb l c k⟩
theorem NC.mk{K:Frag}{x:Str}{C:Addr}(a:nsIn K mainGlobals x=some (some (.ref C)))(p:plainGet K C Str.empty=true)(h:hasDictIn K C=true)(o:plainOver K C=true)(s:findIn K (.ref C) "__setattr__"=some (some (.builtin "object.__setattr__")))(m:makesIn K C=true)(k:keepIn K (.ref C)=true):NC K x C:=⟨a,⟨p,h,o,s⟩,m,k⟩
def NX0(K:Frag):Prop:=∃f,nsIn K mainGlobals "check"=some (some (.ref f))/\∃(oc:Value) (od:ac4) (kV doc pm:Value) (an:ac4) (dG ct:Value) (Cj:ac9),K.lookup f=some ⟨oc,od,.func (fnOf "check" "check" (ij ia) (fE ia) (aO ia) .none kV doc pm an dG ct),Cj⟩/\codeIn K dG "check"=true/\keepIn K (.ref f)=true
theorem NX0.mk{K:Frag}{f:Addr}{oc:Value}{od an:ac4}{Cj:ac9}{kV doc pm dG ct:Value}(a:nsIn K mainGlobals "check"=some (some (.ref f)))(l:K.lookup f=some ⟨oc,od,.func (fnOf "check" "check" (ij ia) (fE ia) (aO ia) .none kV doc pm an dG ct),Cj⟩)(c:codeIn K dG "check"=true)(k:keepIn K (.ref f)=true):NX0 K:=⟨f,a,_,_,_,_,_,_,_,_,_,l,c,k⟩
theorem NI.g{K:Frag}{h:Heap}{mg:ac0}(X:K.In h)(G:h.Ns mainGlobals mg){x:Str}{v:Int}(n:NI K x v):∃t,mg x=some (.int v t):=n.imp λ_ z=>nM X G z
theorem ND.df{K:Frag}{h:Heap}{mg:ac0}(X:K.In h)(G:h.Ns mainGlobals mg){x:Str}{st:Stmt}(d:ND K x st):Df K mg x st:=let ⟨f,a,b⟩:=d;⟨f,b.choose,b.choose_spec,nM X G a⟩
theorem ND.v{K:Frag}{h:Heap}{mg:ac0}(X:K.In h)(G:h.Ns mainGlobals mg){x:Str}{st:Stmt}(d:ND K x st):∃a,mg x=some (.ref a):=let ⟨f,a,_⟩:=d;⟨f,nM X G a⟩
theorem NM.df{K:Frag}{C:Addr}{m q:Str}{st:Stmt}(d:NM K C m q st):K9 K m q C st:=let ⟨f,a,i,b⟩:=d;⟨f,b.choose,b.choose_spec,a,i,b.choose_spec.kp⟩
theorem NM.di{K:Frag}{C:Addr}{x q:Str}{st:Stmt}(c:NC K x C)(d:NM K C "__init__" q st):Q4 K q C st:=let ⟨f,a,i,b⟩:=d;⟨f,b.choose,b.choose_spec,c.2.2.1,a,i,c.2.2.2⟩
def xk(K:Frag):Prop:=∃a,nsIn K mainGlobals "LOST"=some (some (.ref a))/\∀H,dJ K H a (([46,46,46]:acZ).map V.int)
theorem xk.mk{K:Frag}{a:Addr}{od:ac4}{n:Nat}{sl:ac9}{q0 q1 q2:Tok}(r:nsIn K mainGlobals "LOST"=some (some (.ref a)))(l:K.lookup a=some ⟨.type "tuple",od,.seq #[.int 46 q0,.int 46 q1,.int 46 q2] n,sl⟩):xk K:=⟨a,r,λ_=>.inr ⟨_,_,_,l,rfl,rfl,by show 3<=sizeLine;decide,.cons ⟨_,rfl⟩ (.cons ⟨_,rfl⟩ (.cons ⟨_,rfl⟩ (.nil)))⟩⟩
def lP(K:Frag):Prop:=∃a,nsIn K mainGlobals "QUARTERS"=some (some (.ref a))/\∀H,dJ K H a (([1,2,3,4]:acZ).map V.int)
theorem lP.mk{K:Frag}{a:Addr}{od:ac4}{n:Nat}{sl:ac9}{q0 q1 q2 q3:Tok}(r:nsIn K mainGlobals "QUARTERS"=some (some (.ref a)))(l:K.lookup a=some ⟨.type "tuple",od,.seq #[.int 1 q0,.int 2 q1,.int 3 q2,.int 4 q3] n,sl⟩):lP K:=⟨a,r,λ_=>.inr ⟨_,_,_,l,rfl,rfl,by show 4<=sizeLine;decide,.cons ⟨_,rfl⟩ (.cons ⟨_,rfl⟩ (.cons ⟨_,rfl⟩ (.cons ⟨_,rfl⟩ (.nil))))⟩⟩
def jd(K:Frag):Prop:=∃a,nsIn K mainGlobals "NEST_PLACES"=some (some (.ref a))/\∃as:List Addr,(∀H,dJ K H a (as.map V.ref))/\Paired (λ(p:Addr) (ns:acZ)=>∀H,dJ K H p (ns.map V.int)) as [[110,119],[110],[110,101],[119],[99],[101],[115,119],[115],[115,101]]
theorem jd.mk{K:Frag}{a:Addr}{od:ac4}{n:Nat}{sl:ac9}{p0 p1 p2 p3 p4 p5 p6 p7 p8:Addr}{YO:ac4}{abw:Nat}{X9:ac9}{Yy Yx:Tok}{YN:ac4}{abv:Nat}{X8:ac9}{Yw:Tok}{YM:ac4}{abu:Nat}{X7:ac9}{Yv Yu:Tok}{YL:ac4}{abt:Nat}{X6:ac9}{Yt:Tok}{YK:ac4}{abr:Nat}{X5:ac9}{Ys:Tok}{YJ:ac4}{abq:Nat}{X4:ac9}{Yr:Tok}{YI:ac4}{abp:Nat}{X3:ac9}{Yq Yp:Tok}{YH:ac4}{abo:Nat}{X2:ac9}{Yo:Tok}{YG:ac4}{abn:Nat}{X1:ac9}{Yn Ym:Tok}(r:nsIn K mainGlobals "NEST_PLACES"=some (some (.ref a)))(l:K.lookup a=some ⟨.type "tuple",od,.seq #[.ref p0,.ref p1,.ref p2,.ref p3,.ref p4,.ref p5,.ref p6,.ref p7,.ref p8] n,sl⟩)(l0:K.lookup p0=some ⟨.type "tuple",YO,.seq #[.int 110 Yy,.int 119 Yx] abw,X9⟩)(l1:K.lookup p1=some ⟨.type "tuple",YN,.seq #[.int 110 Yw] abv,X8⟩)(l2:K.lookup p2=some ⟨.type "tuple",YM,.seq #[.int 110 Yv,.int 101 Yu] abu,X7⟩)(l3:K.lookup p3=some ⟨.type "tuple",YL,.seq #[.int 119 Yt] abt,X6⟩)(l4:K.lookup p4=some ⟨.type "tuple",YK,.seq #[.int 99 Ys] abr,X5⟩)(l5:K.lookup p5=some ⟨.type "tuple",YJ,.seq #[.int 101 Yr] abq,X4⟩)(l6:K.lookup p6=some ⟨.type "tuple",YI,.seq #[.int 115 Yq,.int 119 Yp] abp,X3⟩)(l7:K.lookup p7=some ⟨.type "tuple",YH,.seq #[.int 115 Yo] abo,X2⟩)(l8:K.lookup p8=some ⟨.type "tuple",YG,.seq #[.int 115 Yn,.int 101 Ym] abn,X1⟩):jd K:=⟨a,r,[p0,p1,p2,p3,p4,p5,p6,p7,p8],λ_=>.inr ⟨_,_,_,l,rfl,rfl,by show 9<=sizeLine;decide,.cons rfl (.cons rfl (.cons rfl (.cons rfl (.cons rfl (.cons rfl (.cons rfl (.cons rfl (.cons rfl (.nil)))))))))⟩,.cons (λ_=>.inr ⟨_,_,_,l0,rfl,rfl,by show 2<=sizeLine;decide,.cons ⟨_,rfl⟩ (.cons ⟨_,rfl⟩ (.nil))⟩) (.cons (λ_=>.inr ⟨_,_,_,l1,rfl,rfl,by show 1<=sizeLine;decide,.cons ⟨_,rfl⟩ (.nil)⟩) (.cons (λ_=>.inr ⟨_,_,_,l2,rfl,rfl,by show 2<=sizeLine;decide,.cons ⟨_,rfl⟩ (.cons ⟨_,rfl⟩ (.nil))⟩) (.cons (λ_=>.inr ⟨_,_,_,l3,rfl,rfl,by show 1<=sizeLine;decide,.cons ⟨_,rfl⟩ (.nil)⟩) (.cons (λ_=>.inr ⟨_,_,_,l4,rfl,rfl,by show 1<=sizeLine;decide,.cons ⟨_,rfl⟩ (.nil)⟩) (.cons (λ_=>.inr ⟨_,_,_,l5,rfl,rfl,by show 1<=sizeLine;decide,.cons ⟨_,rfl⟩ (.nil)⟩) (.cons (λ_=>.inr ⟨_,_,_,l6,rfl,rfl,by show 2<=sizeLine;decide,.cons ⟨_,rfl⟩ (.cons ⟨_,rfl⟩ (.nil))⟩) (.cons (λ_=>.inr ⟨_,_,_,l7,rfl,rfl,by show 1<=sizeLine;decide,.cons ⟨_,rfl⟩ (.nil)⟩) (.cons (λ_=>.inr ⟨_,_,_,l8,rfl,rfl,by show 2<=sizeLine;decide,.cons ⟨_,rfl⟩ (.cons ⟨_,rfl⟩ (.nil))⟩) (.nil)))))))))⟩
def xj(K:Frag):Prop:=∃a,nsIn K mainGlobals "TIES"=some (some (.ref a))/\Q0 K a [(58,1),(42,2),(38,3)]
theorem xj.mk{K:Frag}{a:Addr}{ep:Nat}{q0 r0 q1 r1 q2 r2:Tok}(r:nsIn K mainGlobals "TIES"=some (some (.ref a)))(l:K.lookup a=some ⟨.type "dict",none,.dict #[⟨58,.int 58 q0,.int 1 r0⟩,⟨42,.int 42 q1,.int 2 r1⟩,⟨38,.int 38 q2,.int 3 r2⟩] ep,#[]⟩)(e:(a==sysModules)=false):xj K:=⟨a,r,e,by decide,_,_,_,l,⟨rfl,rfl,rfl⟩,rfl,.cons ⟨by show(58:Int)=hashInt 58;decide,⟨_,rfl⟩,_,rfl⟩ (.cons ⟨by show(42:Int)=hashInt 42;decide,⟨_,rfl⟩,_,rfl⟩ (.cons ⟨by show(38:Int)=hashInt 38;decide,⟨_,rfl⟩,_,rfl⟩ (.nil)))⟩
def gw(K:Frag):Prop:=∃a,nsIn K mainGlobals "SIGN_AND_BLANK"=some (some (.ref a))/\∀H,dJ K H a (([115,105,103,110,32]:acZ).map V.int)
theorem gw.mk{K:Frag}{a:Addr}{od:ac4}{n:Nat}{sl:ac9}{q0 q1 q2 q3 q4:Tok}(r:nsIn K mainGlobals "SIGN_AND_BLANK"=some (some (.ref a)))(l:K.lookup a=some ⟨.type "tuple",od,.seq #[.int 115 q0,.int 105 q1,.int 103 q2,.int 110 q3,.int 32 q4] n,sl⟩):gw K:=⟨a,r,λ_=>.inr ⟨_,_,_,l,rfl,rfl,by show 5<=sizeLine;decide,.cons ⟨_,rfl⟩ (.cons ⟨_,rfl⟩ (.cons ⟨_,rfl⟩ (.cons ⟨_,rfl⟩ (.cons ⟨_,rfl⟩ (.nil)))))⟩⟩
theorem all_mk{P:Program}{w:World}{K:Frag}{h:Heap}{mg:ac0}{fa:Addr}(X:K.In h)(G:h.Ns mainGlobals mg)(ZM:mg "check"=some (.ref fa)) {eC fV ua gx cP mC mD gj:Addr} (vh:NC K "Cursor" eC) (zf:NC K "Place" fV) (Jv:NC K "Row" ua) (zg:NC K "Level" gx) (pz:NC K "Possible" cP) (D9:NC K "Tree" mC) (Ea:NC K "Sign" mD) (rL:NC K "Stretch" gj) (yq:findIn K (.ref eC) "text"=some none) (CO:findIn K (.ref eC) "at"=some none) (z8:findIn K (.ref fV) "name"=some none) (z7:findIn K (.ref fV) "size"=some none) (sZ:findIn K (.ref fV) "mirrored"=some none) (uS:findIn K (.ref fV) "damaged"=some none) (rh:findIn K (.ref fV) "uncertain"=some none) (z5:findIn K (.ref ua) "places"=some none) (z6:findIn K (.ref ua) "breaks"=some none) (vY:findIn K (.ref gx) "closer"=some none) (z9:findIn K (.ref gx) "left"=some none) (uT:findIn K (.ref gx) "loosest"=some none) (sW:findIn K (.ref cP) "signs"=some none) (qo:findIn K (.ref cP) "numbers"=some none) (sX:findIn K (.ref cP) "looks"=some none) (sY:findIn K (.ref cP) "known"=some none) (z4:findIn K (.ref mC) "below"=some none) (CL:findIn K (.ref mC) "held"=some none) (CN:findIn K (.ref mD) "name"=some none) (yp:findIn K (.ref mD) "sounds"=some none) (CM:findIn K (.ref mD) "rows"=some none) (uR:findIn K (.ref gj) "signs"=some none) (uQ:findIn K (.ref gj) "words"=some none) (sV:findIn K (.ref gj) "places"=some none) (Jh:ND K "is_digit" qS) (DQ:ND K "is_capital" mY) (G0:ND K "is_letter" oH) (An:ND K "letter_read" ma) (y4:ND K "letters_read" k7) (Al:ND K "number_read" lZ) (GZ:ND K "name_read" oF) (wA:ND K "quarters_read" j9) (rB:ND K "marked_sign_read" iq) (Ji:ND K "gap_read" qT) (DM:ND K "piece_read" mV) (DN:ND K "nest_begun" mW) (GY:ND K "part_tied" oE) (tR:ND K "block_read" m7) (ph:ND K "several_read" iT) (vE:ND K "item_read" oG) (QF:ND K "row_of" xQ) (u7:ND K "last_word_from" ju) (tQ:ND K "can_become_word" iU) (Ao:ND K "fault_place" md) (Je:ND K "words_of" qP) (MP:ND K "look_of" uA) (G1:ND K "half_seen" oI) (wz:ND K "signs_by_look" j8) (Jj:ND K "class_of" qU) (wy:ND K "tree_of_words" j7) (DO:ND K "letters_of" mX) (Am:ND K "node_behind" l9) (Aq:ND K "choice_cost" mf) (Ap:ND K "cost_of_row" me) (Ak:ND K "sounds_read" lY) (MQ:ND K "is_cell" uB) (DR:ND K "cells_read" mZ) (GX:ND K "rows_read" oC) (Jg:ND K "is_shape" ir) (GW:ND K "sign_read" oB) (Jf:ND K "signs_of" qQ) (TB:ND K "asked" pP) (Tz:NX0 K) (tT:NM K eC "__init__" "Cursor.__init__" iW) (Av:NM K eC "byte" "Cursor.byte" mj) (Au:NM K eC "step" "Cursor.step" mi) (As:NM K eC "took" "Cursor.took" mh) (tS:NM K eC "took_all" "Cursor.took_all" iV) (vb:NM K fV "__init__" "Place.__init__" jx) (y6:NM K ua "__init__" "Row.__init__" k8) (vc:NM K gx "__init__" "Level.__init__" jy) (qt:NM K cP "__init__" "Possible.__init__" fC) (u9:NM K cP "knows" "Possible.knows" jv) (va:NM K cP "alike" "Possible.alike" jw) (rD:NM K cP "fitting" "Possible.fitting" fQ) (wD:NM K cP "akin" "Possible.akin" ic) (n6:NM K cP "found_anew" "Possible.found_anew" gk) (qr:NM K cP "signs_at" "Possible.signs_at" gY) (wB:NM K mC "__init__" "Tree.__init__" ka) (G2:NM K mC "hold" "Tree.hold" oJ) (wC:NM K mD "__init__" "Sign.__init__" ke) (rC:NM K gj "__init__" "Stretch.__init__" iu) (LY:NI K "NO_BYTE" (-1)) (Iy:NI K "LINE_END" 10) (Sj:NI K "BLANK" 32) (z3:NI K "FIRST_DIGIT" 48) (CK:NI K "LAST_DIGIT" 57) (vX:NI K "FIRST_CAPITAL" 65) (yn:NI K "LAST_CAPITAL" 90) (yo:NI K "FIRST_LETTER" 97) (zZ:NI K "LAST_LETTER" 122) (FI:NI K "NO_LETTER" 0) (FH:NI K "NO_NUMBER" 0) (yl:NI K "MOST_IN_NAME" 999) (CI:NI K "MOST_LINES" 512) (ym:NI K "MOST_IN_LINE" 64) (yk:NI K "MOST_IN_RING" 16) (zY:NI K "MOST_PIECES" 64) (Cy:NI K "WIDEST_GAP" 32) (CB:NI K "RING_OPENS" 60) (zT:NI K "RING_CLOSES" 62) (Sh:NI K "OPENS" 40) (OZ:NI K "CLOSES" 41) (CF:NI K "NESTS_OPEN" 91) (zW:NI K "NESTS_CLOSE" 93) (zV:NI K "NEST_BEHIND" 59) (YS:NI K "GAP" 95) (Iw:NI K "MIRRORED" 126) (L3:NI K "DAMAGED" 37) (FG:NI K "UNCERTAIN" 63) (OT:NI K "UNTIED" 0) (rb:NI K "TIGHTER_THAN_ALL" 4) (OU:NI K "SINGLE" (-1)) (Iu:NI K "NO_PIECE" 0) (Cz:NI K "SIGN_PIECE" 1) (FL:NI K "GAP_PIECE" 2) (yj:NI K "MOST_LETTERS" 32) (CG:NI K "MOST_WORDS" 4096) (Iv:NI K "NO_FAULT" (-1)) (OY:NI K "HIDDEN" 0) (FF:NI K "WORD_COST" 3) (Si:NI K "NEVER" 1000000000000) (OX:NI K "NO_END" 0) (rf:NI K "NUMBERS_OF_PLACE" 3) (VA:NI K "ROOT" 0) (OV:NI K "SILENT" 8) (zS:NI K "SILENT_COST" 7) (nZ:NI K "COST_OF_SIGN_BEFORE" 2) (YR:NI K "INK" 35) (OW:NI K "NO_INK" 46) (CH:NI K "MOST_SIGNS" 512) (zX:NI K "MOST_SOUNDS" 8) (mK:NI K "MOST_LETTERS_OF_SOUND" 8) (CJ:NI K "MOST_CELLS" 32) (sU:NI K "MOST_LIST_BYTES" 1048576) (sR:NI K "MOST_TEXT_BYTES" 65536) (rg:NI K "MOST_ROW_NUMBERS" 65536) (zU:NI K "NOT_REFUSED" 0) (Ir:NI K "TOO_LONG" (-2)) (vW:NI K "NO_RIGHT_LIST" (-3)) (FJ:NI K "NOT_THERE" (-4)) (CD:NI K "NONE_FOUND" (-5)) (vV:NI K "NO_RIGHT_TEXT" (-6)) (O0:NI K "BROKEN" (-8)) (sQ:NI K "SIGN_NOT_LISTED" (-9)) (CC:NI K "NO_LEXICON" (-10)) (K5:nsIn K mainGlobals "all"=some none) (K4:nsIn K mainGlobals "any"=some none) (Jr:nsIn K mainGlobals "dict"=some none) (eJ:nsIn K mainGlobals "enumerate"=some none) (eI:nsIn K mainGlobals "len"=some none) (Jq:nsIn K mainGlobals "list"=some none) (QS:nsIn K mainGlobals "max"=some none) (QR:nsIn K mainGlobals "min"=some none) (qd:nsIn K mainGlobals "range"=some none) (rK:nsIn K mainGlobals "reversed"=some none) (QQ:nsIn K mainGlobals "set"=some none) (zc:nsIn K mainGlobals "sorted"=some none) (nD:nsIn K mainGlobals "tuple"=some none) (NO:xk K) (BH:lP K) (vQ:jd K) (NN:xj K) (qK:gw K) :∃fd:FuncData,(∀(s:Shared) (us:acY),us.length=(["i","j","b","t","x","r"]:ac5).length->BindsTo s fd ⟨us,[]⟩ ((["i","j","b","t","x","r"]:ac5).zip us))/\∀base:Heap,K.In base->base.Ns mainGlobals mg->oe P w K mg base Na 13 fa fd ["i","j","b","t","x","r"] (BL K):=by
 obtain⟨f,a,oc,od,kV,doc,pm,an,dG,ct,Cj,l,c,kp⟩:=Tz;have e:=ZM.symm.trans (nM X G a);cases e;obtain⟨_,xT,Ve⟩:=NO;obtain⟨_,iw,HU⟩:=BH;obtain⟨_,jK,zK⟩:=vQ;obtain⟨_,B5,Vd⟩:=NN;obtain⟨_,gO,uC⟩:=qK
 have T:Tx mg K ⟨eC,fV,ua,gx,cP,mC,mD,gj⟩:=⟨NI.g X G LY,
  NI.g X G Iy,
  NI.g X G Sj,
  NI.g X G z3,
  NI.g X G CK,
  NI.g X G vX,
  NI.g X G yn,
  NI.g X G yo,
  NI.g X G zZ,
  NI.g X G FI,
  NI.g X G FH,
  NI.g X G yl,
  NI.g X G CI,
  NI.g X G ym,
  NI.g X G yk,
  NI.g X G zY,
  NI.g X G Cy,
  NI.g X G CB,
  NI.g X G zT,
  NI.g X G Sh,
  NI.g X G OZ,
  NI.g X G CF,
  NI.g X G zW,
  NI.g X G zV,
  NI.g X G YS,
  NI.g X G Iw,
  NI.g X G L3,
  NI.g X G FG,
  NI.g X G OT,
  NI.g X G rb,
  NI.g X G OU,
  NI.g X G Iu,
  NI.g X G Cz,
  NI.g X G FL,
  NI.g X G yj,
  NI.g X G CG,
  NI.g X G Iv,
  NI.g X G OY,
  NI.g X G FF,
  NI.g X G Si,
  NI.g X G OX,
  NI.g X G rf,
  NI.g X G VA,
  NI.g X G OV,
  NI.g X G zS,
  NI.g X G nZ,
  NI.g X G YR,
  NI.g X G OW,
  NI.g X G CH,
  NI.g X G zX,
  NI.g X G mK,
  NI.g X G CJ,
  NI.g X G sU,
  NI.g X G sR,
  NI.g X G rg,
  NI.g X G zU,
  NI.g X G Ir,
  NI.g X G vW,
  NI.g X G FJ,
  NI.g X G CD,
  NI.g X G vV,
  NI.g X G O0,
  NI.g X G sQ,
  NI.g X G CC,
  gB X G K5,
  gB X G K4,
  gB X G Jr,
  gB X G eJ,
  gB X G eI,
  gB X G Jq,
  gB X G QS,
  gB X G QR,
  gB X G qd,
  gB X G rK,
  gB X G QQ,
  gB X G zc,
  gB X G nD,
  ND.v X G tR,
  ND.v X G vE,
  ⟨_,nM X G xT⟩,
  λa z=>by cases (nM X G xT).symm.trans z;exact Ve,
  ⟨_,nM X G iw⟩,
  λa z=>by cases (nM X G iw).symm.trans z;exact HU,
  ⟨_,nM X G jK⟩,
  λa z=>by cases (nM X G jK).symm.trans z;exact zK,
  ⟨_,nM X G B5⟩,
  λa z=>by cases (nM X G B5).symm.trans z;exact Vd,
  ⟨_,nM X G gO⟩,
  λa z=>by cases (nM X G gO).symm.trans z;exact uC,
  vh.2.1,
  nM X G vh.1,
  yq,
  CO,
  zf.2.1,
  nM X G zf.1,
  z8,
  z7,
  sZ,
  uS,
  rh,
  Jv.2.1,
  nM X G Jv.1,
  z5,
  z6,
  zg.2.1,
  nM X G zg.1,
  vY,
  z9,
  uT,
  pz.2.1,
  nM X G pz.1,
  sW,
  qo,
  sX,
  sY,
  D9.2.1,
  nM X G D9.1,
  z4,
  CL,
  Ea.2.1,
  nM X G Ea.1,
  CN,
  yp,
  CM,
  rL.2.1,
  nM X G rL.1,
  uR,
  uQ,
  sV⟩
 refine⟨fnOf "check" "check" (ij ia) (fE ia) (aO ia) .none kV doc pm an dG ct,λs us hu=>match us,hu with | [_,_,_,_,_,_],_=>.of_eq rfl,λbase _ _=>?_⟩;have fh:=Cs (P:=P) (w:=w) (base:=base) (ND.df X G G0) T;have jF:=R7 (P:=P) (w:=w) (base:=base) (ND.df X G u7) T;have je:=Vv (P:=P) (w:=w) (base:=base) (ND.df X G tQ) T jF;have my:=OG (P:=P) (w:=w) (base:=base) (ND.df X G Ao) T fh je;have rM:=Fl (P:=P) (w:=w) (base:=base) (ND.df X G Je) T;have eC:=ra (P:=P) (w:=w) (base:=base) (NM.di vh tT) T;have aY:=yg (P:=P) (w:=w) (base:=base) (Av.df) T;have bX:=yf (P:=P) (w:=w) (base:=base) (Au.df) T;have aU:=ye (P:=P) (w:=w) (base:=base) (As.df) T aY bX;have d6:=qZ (P:=P) (w:=w) (base:=base) (tS.df) T aU;have rP:=Fo (P:=P) (w:=w) (base:=base) (ND.df X G Jh) T;have nI:=zP (P:=P) (w:=w) (base:=base) (ND.df X G DQ) T;have fq:=yb (P:=P) (w:=w) (base:=base) (ND.df X G An) T fh aY bX;have fK:=vT (P:=P) (w:=w) (base:=base) (ND.df X G y4) T fh aY fq;have gi:=x9 (P:=P) (w:=w) (base:=base) (ND.df X G Al) T rP aY bX;have iG:=Cq (P:=P) (w:=w) (base:=base) (ND.df X G GZ) T nI aY bX fq gi;have fV:=sN (P:=P) (w:=w) (base:=base) (NM.di zf vb) T;have e9:=uL (P:=P) (w:=w) (base:=base) (ND.df X G wA) T aU;have iB:=qk (P:=P) (w:=w) (base:=base) (ND.df X G rB) T iG aU e9 fV;have rQ:=Fp (P:=P) (w:=w) (base:=base) (ND.df X G Ji) T gi e9 fV;have nG:=zM (P:=P) (w:=w) (base:=base) (ND.df X G DM) T aU rQ iB;have gx:=sO (P:=P) (w:=w) (base:=base) (NM.di zg vc) T;have gU:=zN (P:=P) (w:=w) (base:=base) (ND.df X G DN) T gx fK;have pF:=Cp (P:=P) (w:=w) (base:=base) (ND.df X G GY) T aY bX aU gU;have kL:=zR (P:=P) (w:=w) (base:=base) (ND.df X G tR) T aU gx gU pF nG;have eW:=SevA.kg (P:=P) (w:=w) (base:=base) (ND.df X G ph) T aU;have pG:=Cr (P:=P) (w:=w) (base:=base) (ND.df X G vE) T aY aU d6 kL eW;have eW:=SevB.kg (P:=P) (w:=w) (base:=base) (ND.df X G ph) T aU;have ua:=vU (P:=P) (w:=w) (base:=base) (NM.di Jv y6) T;have zi:=LQ (P:=P) (w:=w) (base:=base) (ND.df X G QF) T eC aY ua pG eW;have mD:=uN (P:=P) (w:=w) (base:=base) (NM.di Ea wC) T;have mw:=x8 (P:=P) (w:=w) (base:=base) (ND.df X G Ak) T aU fK;have kW:=Ip (P:=P) (w:=w) (base:=base) (ND.df X G MQ) T;have nL:=zQ (P:=P) (w:=w) (base:=base) (ND.df X G DR) T kW aY bX;have pE:=Co (P:=P) (w:=w) (base:=base) (ND.df X G GX) T kW aY aU nL;have rO:=Fn (P:=P) (w:=w) (base:=base) (ND.df X G Jg) T;have pD:=Cn (P:=P) (w:=w) (base:=base) (ND.df X G GW) T aU d6 iG mw pE rO mD;have rN:=Fm (P:=P) (w:=w) (base:=base) (ND.df X G Jf) T eC aY pD;have gj:=ql (P:=P) (w:=w) (base:=base) (NM.di rL rC) T;have lQ:=Ct (P:=P) (w:=w) (base:=base) (ND.df X G G1) T;have nJ:=Fs (P:=P) (w:=w) (base:=base) (ND.df X G Jj) T;have nH:=zO (P:=P) (w:=w) (base:=base) (ND.df X G DO) T;have mB:=yd (P:=P) (w:=w) (base:=base) (ND.df X G Aq) T;have kU:=Io (P:=P) (w:=w) (base:=base) (ND.df X G MP) T lQ;have mx:=ya (P:=P) (w:=w) (base:=base) (ND.df X G Am) T;have mC:=uM (P:=P) (w:=w) (base:=base) (NM.di D9 wB) T;have pH:=Cu (P:=P) (w:=w) (base:=base) (G2.df) T;have kj:=uJ (P:=P) (w:=w) (base:=base) (ND.df X G wy) T mC pH;have iC:=qm (P:=P) (w:=w) (base:=base) (rD.df) T;have km:=uO (P:=P) (w:=w) (base:=base) (wD.df) T nJ;have jG:=sL (P:=P) (w:=w) (base:=base) (u9.df) T;have mz:=yc (P:=P) (w:=w) (base:=base) (ND.df X G Ap) T mB nH mx kj;have cP:=oT (P:=P) (w:=w) (base:=base) (NM.di pz qt) T;have kl:=uK (P:=P) (w:=w) (base:=base) (ND.df X G wz) T kU;have jH:=sM (P:=P) (w:=w) (base:=base) (va.df) T kU kl;have gn:=ng (P:=P) (w:=w) (base:=base) (n6.df) T km jH iC;have gZ:=oS (P:=P) (w:=w) (base:=base) (qr.df) T gn;have Ec:=OI (P:=P) (w:=w) (base:=base) (ND.df X G TB) T cP jG gZ gj my zi rN rM;exact OH (Jb (st:=ia) l c kp) T Ec mz
end
end S
open PySem PySem.W PyProof.Rows
set_option maxRecDepth 100000 in
set_option maxHeartbeats 0 in
theorem PySem.Challenge.cw_signsounds_s07_check_holds : PySem.Challenge.rw_signsounds_s07_check.Holds := by
 w_on;k_headS;(case hw=>exact⟨[.int 0,.int 0,.list [],.list [],.list [],.list []],by decide +kernel,by decide +kernel⟩)
 k_fillS
 refine L2.HC (r:=PySem.Challenge.rw_signsounds_s07_check) (k:=13) (CX:=L2.Na) (ps:=["i","j","b","t","x","r"]) (sp:=S.BL) (by decide +kernel) rfl rfl ⟨rfl,by decide,by decide⟩ (λw h Y=>kIn_of Y) ?F ?S (λ_ _ _ _ z=>z)
 case F=>
  intro w mg fa h Y KX G hmg;refine' S.all_mk KX G hmg ?_ ?_ ?_ ?_ ?_ ?_ ?_ ?_ ?_ ?_ ?_ ?_ ?_ ?_ ?_ ?_ ?_ ?_ ?_ ?_ ?_ ?_ ?_ ?_ ?_ ?_ ?_ ?_ ?_ ?_ ?_ ?_ ?_ ?_ ?_ ?_ ?_ ?_ ?_ ?_ ?_ ?_ ?_ ?_ ?_ ?_ ?_ ?_ ?_ ?_ ?_ ?_ ?_ ?_ ?_ ?_ ?_ ?_ ?_ ?_ ?_ ?_ ?_ ?_ ?_ ?_ ?_ ?_ ?_ ?_ ?_ ?_ ?_ ?_ ?_ ?_ ?_ ?_ ?_ ?_ ?_ ?_ ?_ ?_ ?_ ?_ ?_ ?_ ?_ ?_ ?_ ?_ ?_ ?_ ?_ ?_ ?_ ?_ ?_ ?_ ?_ ?_ ?_ ?_ ?_ ?_ ?_ ?_ ?_ ?_ ?_ ?_ ?_ ?_ ?_ ?_ ?_ ?_ ?_ ?_ ?_ ?_ ?_ ?_ ?_ ?_ ?_ ?_ ?_ ?_ ?_ ?_ ?_ ?_ ?_ ?_ ?_ ?_ ?_ ?_ ?_ ?_ ?_ ?_ ?_ ?_ ?_ ?_ ?_ ?_ ?_ ?_ ?_ ?_ ?_ ?_ ?_ ?_ ?_ ?_ ?_ ?_ ?_ ?_ ?_ ?_ ?_ ?_ ?_ ?_ ?_ ?_
  rotate_left 8
  iterate 8 (refine' S.NC.mk ?a ?b ?c ?d ?e ?f ?g;(case a=>k_is);(case b=>k_is);(case c=>k_is);(case d=>k_is);(case e=>k_is);(case f=>k_is);(case g=>k_is))
  iterate 24 k_is
  iterate 38 (refine' S.ND.mk ?a ?l ?c ?k;(case a=>k_is);(case l=>k_is);(case c=>k_is);(case k=>k_is))
  iterate 1 (refine' S.NX0.mk ?a ?l ?c ?k;(case a=>k_is);(case l=>k_is);(case c=>k_is);(case k=>k_is))
  iterate 19 (refine' S.NM.mk ?a ?i ?l ?c ?k;(case a=>k_is);(case i=>k_is);(case l=>k_is);(case c=>k_is);(case k=>k_is))
  iterate 64 (refine' S.NI.mk ?a;(case a=>k_is))
  iterate 13 k_is
  iterate 1 (refine' S.xk.mk ?a0 ?a1;(case a0=>k_is);(case a1=>k_is))
  iterate 1 (refine' S.lP.mk ?a0 ?a1;(case a0=>k_is);(case a1=>k_is))
  iterate 1 (refine' S.jd.mk ?a0 ?a1 ?a2 ?a3 ?a4 ?a5 ?a6 ?a7 ?a8 ?a9 ?a10;(case a0=>k_is);(case a1=>k_is);(case a2=>k_is);(case a3=>k_is);(case a4=>k_is);(case a5=>k_is);(case a6=>k_is);(case a7=>k_is);(case a8=>k_is);(case a9=>k_is);(case a10=>k_is))
  iterate 1 (refine' S.xj.mk ?a0 ?a1 ?a2;(case a0=>k_is);(case a1=>k_is);(case a2=>decide))
  iterate 1 (refine' S.gw.mk ?a0 ?a1;(case a0=>k_is);(case a1=>k_is))
 case S=>
  intro K H xs a hO Hm acV hx;cases hx with
  |cons h1 hx=>
  cases hx with
  |cons h2 hx=>
  cases hx with
  |cons h3 hx=>
  cases hx with
  |cons h4 hx=>
  cases hx with
  |cons h5 hx=>
  cases hx with
  |cons h6 hx=>
  cases hx;cases h1;cases h2;cases h3 with
  |lst W8 UK=>
  cases h4 with
  |lst Zi ha4=>
  cases h5 with
  |lst hs5 ha5=>
  cases h6 with
  |lst hs6 ha6=>
  have e:=L2.tw a.2.2.1 _ UK;subst e;have e:=L2.tw a.2.2.2.1 _ ha4;subst e;have e:=L2.tw a.2.2.2.2.1 _ ha5;subst e;have e:=L2.tw a.2.2.2.2.2.1 _ ha6;subst e;have q:(Codec.inInt 0 4294967295 a.1&&(Codec.inInt 0 4294967295 a.2.1&&((Codec.inLen 0 100000 a.2.2.1&&a.2.2.1.all (Codec.inInt 0 255))&&((Codec.inLen 0 70000 a.2.2.2.1&&a.2.2.2.1.all (Codec.inInt 0 255))&&((Codec.inLen 0 70000 a.2.2.2.2.1&&a.2.2.2.2.1.all (Codec.inInt 0 255))&&((Codec.inLen 0 30000 a.2.2.2.2.2.1&&a.2.2.2.2.2.1.all (Codec.inInt 0 4294967295))&&true))))))=true:=Hm;simp only[aS] at q;obtain⟨q1,q2,⟨_,q3⟩,⟨_,q4⟩,⟨_,q5⟩,⟨_,q6⟩,_⟩:=q;exact⟨_,_,_,_,_,_,a.2.2.1,a.2.2.2.1,a.2.2.2.2.1,a.2.2.2.2.2.1,rfl,(mS.mp q1).1,(mS.mp q2).1,W8,Zi,hs5,hs6,λv hv=>mS.mp (bU.mp q3 v hv),λv hv=>mS.mp (bU.mp q4 v hv),λv hv=>mS.mp (bU.mp q5 v hv),λv hv=>(mS.mp (bU.mp q6 v hv)).1,λH' p hp=>.lst (L2.cg.of hp) (L2.KO _)⟩
#print axioms PySem.Challenge.cw_signsounds_s07_check_holds
