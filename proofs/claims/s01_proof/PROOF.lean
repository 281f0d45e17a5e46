import PyProof.Rows.All
import Wide.All
import OpenK.AllK
import Wide.FinOn
import PyProof.EqAt
import PyProof.EqKinds
import PyProof.TupleCall
import KE.BitLaws
import Open.SpecLaws
import KE.OsHead
import KE.OsGo
import KE.KTryDeep
import KE.KEqDeep
import PySem.Challenge.RW_rerun_s01_answers
set_option Elab.async false
set_option linter.all false
set_option maxRecDepth 100000
set_option maxHeartbeats 4000000
abbrev aF:=@List.length_map
abbrev aS:=@Nat.le_trans
abbrev aX:=@List.length_append
abbrev a4:=@Option.some.inj
abbrev bh:=@List.getElem?_eq_some_iff
abbrev bp:=@decide_eq_true
abbrev bq:=@Bool.and_eq_true
abbrev bu:=@Ne.symm
abbrev bw:=@of_decide_eq_true
abbrev bB:=@Nat.le_refl
abbrev bL:=@List.mem_cons
abbrev bO:=@List.mem_cons_of_mem
abbrev bP:=@List.mem_cons_self
abbrev bW:=@List.map_append
abbrev bX:=@List.map_cons
abbrev bY:=@Nat.zero_le
abbrev cu:=@List.length_cons
abbrev cA:=@List.take_length
abbrev cE:=@List.mem_of_getElem?
abbrev cI:=@List.size_toArray
abbrev cJ:=@List.getElem?_map
abbrev cK:=@List.append_assoc
abbrev cU:=@List.mem_map
abbrev di:=@PySem.F.plainAttrs_list
abbrev dj:=@Bool.false_ne_true
abbrev dt:=@beq_eq_false_iff_ne
abbrev dC:=@Nat.lt_of_le_of_lt
abbrev dN:=@PySem.boot_len
abbrev dS:=@if_false
abbrev eh:=@Nat.lt_of_lt_of_le
abbrev eo:=@decide_eq_false
abbrev ez:=@List.append_nil
abbrev eK:=@List.filter_cons
abbrev eL:=@List.nodup_cons
abbrev eM:=@if_true
abbrev eU:=@List.length_take
abbrev eV:=@List.all_eq_true
abbrev eW:=@congrArg
abbrev fm:=@List.getElem?_eq_getElem
abbrev fN:=@List.mem_iff_getElem?
abbrev fO:=@List.contains_iff_mem
abbrev gh:=@List.mem_singleton
abbrev gi:=@Bool.false_eq_true
abbrev gj:=@List.mem_filter
abbrev gm:=@List.mem_append
abbrev gB:=@PySem.F.type_list_append
abbrev gC:=@PySem.F.slot_list_append
abbrev gD:=@Bool.true_and
abbrev gE:=@Nat.ne_of_lt
abbrev gZ:=@PySem.mem_of_lookup
abbrev iz:=@List.any_eq_true
abbrev iC:=@Bool.false_and
abbrev i5:=@List.mem_append_right
abbrev ja:=@Int.toNat_natCast
abbrev jb:=@beq_iff_eq
abbrev jK:=@Nat.min_le_right
abbrev jL:=@Bool.not_eq_true
abbrev kz:=@List.flatMap_cons
abbrev kC:=@beq_self_eq_true
abbrev kD:=@Option.bind_some
abbrev kE:=@Bool.eq_iff_iff
abbrev lN:=@List.getElem?_eq_none
abbrev lO:=@Int.toNat_of_nonneg
abbrev lP:=@List.length_drop
abbrev lQ:=@Nat.lt_irrefl
abbrev m4:=@PySem.F.slot_list_extend
abbrev m6:=@List.getElem?_set_self
abbrev m7:=@List.getElem?_set_ne
abbrev m8:=@List.mapM_cons
abbrev pd:=@PyProof.Rows.slot_tuple_getitem
abbrev ph:=@PySem.F.type_list_extend
abbrev pk:=@List.length_filter_le
abbrev pq:=@List.mem_filterMap
abbrev pw:=@and_congr_right
abbrev px:=@Bool.or_eq_true
abbrev pz:=@List.map_map
abbrev qR:=@Array.getElem?_eq_some_iff
abbrev qS:=@List.filterMap_cons_none
abbrev qT:=@List.map_congr_left
abbrev qU:=@UInt8.toNat_ofNat'
abbrev qV:=@decide_eq_decide
abbrev qW:=@List.zipIdx_cons
abbrev qX:=@List.lookup_cons
abbrev qY:=@List.cons_append
abbrev qZ:=@Nat.not_lt_zero
abbrev rb:=@List.length_set
abbrev rg:=@List.count_cons
abbrev rh:=@exists_congr
abbrev rj:=@Nat.lt_or_ge
abbrev rk:=@List.map_nil
abbrev uA:=@List.findIdx?_eq_none_iff
abbrev uB:=@Option.isSome_iff_exists
abbrev uC:=@PySem.F.slot_dict_get
abbrev uD:=@List.mem_append_left
abbrev uE:=@List.getElem?_zipIdx
abbrev uF:=@PySem.W.hideAll_get
abbrev uG:=@List.filter_append
abbrev uH:=@List.ext_getElem?
abbrev uI:=@List.find?_cons
abbrev uJ:=@List.take_zero
abbrev uK:=@List.nodup_nil
abbrev uL:=@List.mem_range
abbrev uM:=@List.any_cons
abbrev uN:=@List.all_cons
abbrev uO:=@Bool.false_or
abbrev uP:=@Nat.le_of_eq
abbrev yi:=@List.findIdx?_eq_some_iff_getElem
abbrev yj:=@List.filterMap_cons_some
abbrev yk:=@PyProof.Rows.boot_tuple
abbrev yl:=@List.getElem?_replicate
abbrev ym:=@List.filterMap_cons
abbrev yn:=@Nat.lt_succ_of_lt
abbrev yo:=@List.count_append
abbrev yp:=@List.nil_append
abbrev yq:=@Bool.and_false
abbrev yr:=@PySem.W.mg_of
abbrev yt:=@Nat.zero_add
abbrev yu:=@Nat.sub_self
abbrev yw:=@Nat.lt_trans
abbrev yx:=@Nat.le_of_lt
abbrev yy:=@Classical.em
abbrev yz:=@Bool.true_or
abbrev CM:=@List.getD_eq_getElem?_getD
abbrev CN:=@List.getElem?_append_left
abbrev CO:=@PySem.F.slot_list_index
abbrev CP:=@PySem.F.plainAttrs_dict
abbrev CQ:=@PySem.F.entry_dict_get
abbrev CS:=@PyProof.Rows.boot_list
abbrev CT:=@List.length_replicate
abbrev CU:=@Bool.beq_eq_decide_eq
abbrev CV:=@Array.length_toList
abbrev CW:=@of_decide_eq_false
abbrev CY:=@List.length_zipIdx
abbrev CZ:=@Nat.le_of_succ_le
abbrev C3:=@Bool.not_eq_true'
abbrev C4:=@List.mem_flatMap
abbrev C5:=@List.countP_cons
abbrev C6:=@Option.map_some
abbrev C7:=@List.filter_nil
abbrev C8:=@List.drop_drop
abbrev C9:=@Nat.sub_zero
abbrev Dc:=@Nat.pow_succ
abbrev Lu:=@PyProof.Rows.callWith_type1
abbrev Lv:=@List.mem_or_eq_of_mem_set
abbrev Lw:=@List.getElem?_eq_none_iff
abbrev Lx:=@List.length_filterMap_le
abbrev Ly:=@PySem.F.type_list_index
abbrev Lz:=@List.getElem?_cons_zero
abbrev LA:=@List.drop_of_length_le
abbrev LB:=@PySem.W.hideAll_none
abbrev LC:=@Nat.mul_le_mul_right
abbrev LD:=@List.mem_of_mem_take
abbrev LF:=@PySem.W.of_hideAll
abbrev LG:=@Array.append_assoc
abbrev LH:=@Option.isSome_map
abbrev LJ:=@Nat.lt_succ_self
abbrev LK:=@List.getElem_inj
abbrev LL:=@List.flatMap_nil
abbrev LM:=@UInt8.toNat_inj
abbrev LN:=@List.of_mem_zip
abbrev LP:=@and_congr_left
abbrev LQ:=@List.map_take
abbrev LR:=@Bool.and_true
abbrev Zg:=@List.take_append_of_le_length
abbrev Zh:=@PySem.W.length_le_weightAllW
abbrev Zi:=@PySem.F.slot_dict_setdefault
abbrev Zj:=@List.mem_zipIdx_iff_getElem?
abbrev Zk:=@PySem.F.excBase_ValueError
abbrev Zl:=@List.getElem?_append_right
abbrev Zm:=@Classical.byContradiction
abbrev Zn:=@PySem.F.args_dict_get_3
abbrev Zo:=@PySem.F.args_dict_get_2
abbrev Zp:=@Nat.add_sub_cancel_left
abbrev Zq:=@List.length_eq_zero_iff
abbrev Zr:=@List.getElem?_cons_succ
namespace L2
open PySem PySem.Spec PyProof.Rows
noncomputable abbrev Key:=Sum Int Str
noncomputable def lR:Key->Value->Bool
 |.inl k,v=>Value.isInt k v
 |.inr x,v=>Value.isStrOf x v
noncomputable def LS(w:World):Key->Int
 |.inl k=>hashInt k
 |.inr x=>hashStr w x
theorem jM:∀{k:Key} {v:Value},lR k v=true->(∃i t,k=Sum.inl i/\v=Value.int i t)\/(∃x t,k=Sum.inr x/\v=Value.str x t)
 |.inl i,v,h=>by obtain⟨t,e⟩:=Value.isInt_shape (k:=i) (v:=v) h;exact .inl ⟨i,t,rfl,e⟩
 |.inr x,v,h=>by obtain⟨t,e⟩:=Value.isStrOf_shape (x:=x) (v:=v) h;exact .inr ⟨x,t,rfl,e⟩
theorem LU(i:Int)(t:Tok):lR (.inl i) (.int i t)=true:=by simp[lR,Value.isInt]
theorem LV(x:Str)(t:Tok):lR (.inr x) (.str x t)=true:=by simp[lR,Value.isStrOf]
theorem LW(a b:Int):decide ((Sum.inl a:Key)=Sum.inl b)=(a==b):=by
 by_cases e:a=b
 ·subst e;simp
 ·have h:¬(Sum.inl a:Key)=Sum.inl b:=λq=>e (Sum.inl.inj q);rw[eo h];exact(dt.mpr e).symm
theorem LX(a b:Str):decide ((Sum.inr a:Key)=Sum.inr b)=decide (a=b):=by
 by_cases e:a=b
 ·subst e;simp
 ·have h:¬(Sum.inr a:Key)=Sum.inr b:=λq=>e (Sum.inr.inj q);rw[eo h,eo e]
theorem LY(a:Int)(b:Str):decide ((Sum.inl a:Key)=Sum.inr b)=false:=eo (λq=>nomatch q)
theorem LZ(a:Str)(b:Int):decide ((Sum.inr a:Key)=Sum.inl b)=false:=eo (λq=>nomatch q)
noncomputable def eA(prog:Program)(w:World):PySem.KeyKind prog w Key where
 is:=lR
 hash:=LS w
 inj:=λv a b ha hb=>by
  rcases jM ha with ⟨i,t,rfl,rfl⟩ | ⟨x,t,rfl,rfl⟩
  ·rcases jM hb with ⟨j,u,rfl,e⟩ | ⟨y,u,rfl,e⟩
   ·injection e with e1 _;rw[e1]
   ·exact nomatch e
  ·rcases jM hb with ⟨j,u,rfl,e⟩ | ⟨y,u,rfl,e⟩
   ·exact nomatch e
   ·injection e with e1 _;rw[e1]
 byValue:=λk v h=>by rcases jM h with ⟨i,t,rfl,rfl⟩ | ⟨x,t,rfl,rfl⟩<;>rfl
 pyHash:=λhv h=>by
  rcases jM hv with ⟨i,t,rfl,rfl⟩ | ⟨x,t,rfl,rfl⟩
  ·exact wpAny_pyHash_int h
  ·exact wpAny_pyHash_str h
 eqBool:=λhu hv h=>by
  rcases jM hu with ⟨i,t,rfl,rfl⟩ | ⟨x,t,rfl,rfl⟩
  ·rcases jM hv with ⟨j,u,rfl,rfl⟩ | ⟨y,u,rfl,rfl⟩
   ·rw[LW] at h;exact wpAny_eqBool_int h
   ·rw[LY] at h;exact SeqAt.EqAt.int_str i t y u _ _ _ _ h
  ·rcases jM hv with ⟨j,u,rfl,rfl⟩ | ⟨y,u,rfl,rfl⟩
   ·rw[LZ] at h;exact SeqAt.EqAt.str_int x t j u _ _ _ _ h
   ·rw[LX] at h;exact wpAny_eqBool_str h
 «strs»:=λk x t v h=>by
  rcases jM h with ⟨i,u,rfl,e⟩ | ⟨y,u,rfl,e⟩
  ·exact nomatch e
  ·injection e with e1 _;subst e1;cases v<;>rfl
theorem L8(prog:Program)(w:World)(i:Int)(t:Tok):(eA prog w).is (.inl i) (.int i t)=true:=LU i t
theorem L9(prog:Program)(w:World)(x:Str)(t:Tok):(eA prog w).is (.inr x) (.str x t)=true:=LV x t
inductive V where
 |ak | bl (b:Bool) | int (i:Int) | str (x:Str) | fq (b:Array UInt8) | rl (b:UInt64) | ref (a:Addr) | ty (n:String)
 deriving DecidableEq
noncomputable def RelV:V->Value->Prop
 |.ak,u=>u=Value.none
 |.bl b,u=>u=Value.bool b
 |.int i,u=>∃t,u=Value.int i t
 |.str x,u=>∃t,u=Value.str x t
 |.fq b,u=>∃t,u=Value.bytes b t
 |.rl b,u=>∃t,u=Value.float b t
 |.ref a,u=>u=Value.ref a
 |.ty n,u=>u=Value.type n
noncomputable abbrev Vals:List V->List Value->Prop:=Paired RelV
theorem Vals.length{xs:List V}{us:List Value}(r:Vals xs us):xs.length=us.length:=Paired.length r
theorem Vals.get:∀{xs:List V} {us:List Value} {i:Nat} {x:V},Vals xs us->xs[i]?=some x->∃u,us[i]?=some u/\RelV x u
 |_,_,_,_,.nil,e=>by simp at e
 |_,_,0,_,.cons r _,e=>by simp at e;subst e;exact⟨_,rfl,r⟩
 |_,_,i+1,x,.cons _ t,e=>by obtain⟨u,h1,h2⟩:=Vals.get (i:=i) (x:=x) t (by simpa using e);exact⟨u,by simpa using h1,h2⟩
theorem Vals.set{x:V}{u:Value}(r:RelV x u):∀{xs:List V} {us:List Value} (i:Nat),Vals xs us->Vals (xs.set i x) (us.set i u)
 |_,_,_,.nil=>.nil
 |_,_,0,.cons _ t=>.cons r t
 |_,_,i+1,.cons q t=>.cons q (Vals.set r i t)
theorem Vals.append:∀{xs ys:List V} {us ws:List Value},Vals xs us->Vals ys ws->Vals (xs++ys) (us++ws)
 |_,_,_,_,.nil,s=>s
 |_,_,_,_,.cons r t,s=>.cons r (Vals.append t s)
theorem Vals.take:∀{xs:List V} {us:List Value} (n:Nat),Vals xs us->Vals (xs.take n) (us.take n)
 |_,_,0,_=>.nil
 |_,_,_+1,.nil=>.nil
 |_,_,n+1,.cons r t=>.cons r (Vals.take n t)
theorem Vals.drop:∀{xs:List V} {us:List Value} (n:Nat),Vals xs us->Vals (xs.drop n) (us.drop n)
 |_,_,0,r=>r
 |_,_,_+1,.nil=>.nil
 |_,_,n+1,.cons _ t=>Vals.drop n t
noncomputable def eX:Option V->Option Value->Prop
 |some v,some u=>RelV v u
 |none,none=>True
 |_,_=>False
noncomputable def KV{κ:Type}:List (κ×V)->List (κ×Value)->Prop:=Paired λ(p:κ×V) (q:κ×Value)=>p.1=q.1/\RelV p.2 q.2
noncomputable def kV:Key->V
 |.inl i=>.int i
 |.inr x=>.str x
inductive HO where
 |lst (xs:List V)
 |tup (xs:List V)
 |dK (kvs:List (Key×V)) | dT (kvs:List (List Key×V))
 |set (S:Int->Bool) (n:Nat)
 |ins (C dx:Addr) (fs:List (Str×V))
 |own (x:Addr)
 |xd (fs:List (Str×V))
 |met (f x:Addr)
 |uQ (lo hi:Int)
 |bz (o:Obj) (u:HO)
 |jN (ps:Array Value)
 |ext (φ:Heap->Prop)
noncomputable abbrev Hp:=Addr->Option HO
noncomputable def upd(H:Hp)(a:Addr)(o:HO):Hp:=λb=>if b=a then some o else H b
theorem ag{H:Hp}{a:Addr}{o:HO}:upd H a o a=some o:=by unfold upd;rw[if_pos rfl]
theorem aw{H:Hp}{a b:Addr}{o:HO}(h:b≠a):upd H a o b=H b:=by unfold upd;rw[if_neg h]
theorem bc{H:Hp}{a:Addr}{o u:HO}:upd (upd H a o) a u=upd H a u:=by funext b;unfold upd;split<;>rfl
theorem b9{H:Hp}{a b:Addr}{o u:HO}(h:H a=some o)(h':H b=some u)(d:o≠u):a≠b:=by intro e;subst e;rw[h] at h';exact d (a4 h')
theorem bj{H:Hp}{a b:Addr}{o:HO}(h:H a=some o)(h':H b=none):a≠b:=by intro e;subst e;rw[h] at h';cases h'
section
variable (P:Program)(w:World)
noncomputable def cV(H:Hp)(h:Heap)(a:Addr):HO->Prop
 |.lst xs=>xs.length<=sizeLine/\∃(au:List Value) (n:Nat),Vals xs au/\h.get? a=some {cls:=.type "list",data:=.seq au.toArray n}
 |.tup xs=>xs.length<=sizeLine/\∃au:List Value,Vals xs au/\IsTup h a au.toArray
 |.dK kvs=>kvs.length<=sizeLine/\(a==sysModules)=false/\∃vs,KV kvs vs/\h.DictOf (eA P w) a vs
 |.dT kvs=>kvs.length<=sizeLine/\(a==sysModules)=false/\∃xs:List (List Key×Addr×Value),
  Paired (λ(p:List Key×V) (q:List Key×Addr×Value)=>p.1=q.1/\H q.2.1=some (.tup (p.1.map kV))/\RelV p.2 q.2.2) kvs xs/\
  ∃o es ep,h.get? a=some o/\o.ExactDict/\o.data=.dict es ep/\es.toList=xs.map (entryOfKey (tupleKind (eA P w)))/\(xs.map (·.1)).Nodup
 |.set S n=>h.SetOf (intKind P w) a S n
 |.ins C dx fs=>H dx=some (.own a)/\fs.length<=1000/\dx≠a/\h.get? a=some (PySem.W.instObj C dx)/\
  ∃mA,h.Ns1 dx mA/\(∀f,eX (fs.lookup f) (mA f))/\PySem.Within mA (fs.map (·.1))
 |.own _=>∃o,h.get? a=some o
 |.xd fs=>∃mA,h.Ns1 a mA/\∀f,eX (fs.lookup f) (mA f)
 |.uQ lo hi=>∃t u v,h.get? a=some {cls:=.type "range",data:=.fields #[.int lo t,.int hi u,.int 1 v]}
 |.bz o u=>h.get? a=some o/\cV H h a u
 |.jN ps=>h.get? a=some {cls:=.none,data:=.fields ps}
 |.met f x=>h.get? a=some (PySem.W.methodObj (.ref f) (.ref x))
 |.ext φ=>φ h/\(∃o,h.get? a=some o)/\∀h1 h2:Heap,φ h1->(∀o,h1.get? a=some o->h2.get? a=some o)->φ h2
noncomputable def bT(H:Hp)(h:Heap):Prop:=∀a o,H a=some o->cV P w H h a o
end
section
variable {P:Program}{w:World}{H H':Hp}{h h':Heap}{a:Addr}{o:HO}
theorem cV.lt(x:cV P w H h a o):a<h.objs.size:=by
 cases o with
 |lst xs=>obtain⟨_,_,_,_,e⟩:=x;exact Heap.lt_size e
 |tup xs=>obtain⟨_,_,_,p⟩:=x;exact p.lt
 |dK kvs=>obtain⟨_,_,_,_,o,_,_,e,_⟩:=x;exact Heap.lt_size e
 |dT kvs=>obtain⟨_,_,_,_,o,_,_,e,_⟩:=x;exact Heap.lt_size e
 |set S n=>obtain⟨o,_,_,_,e,_⟩:=x;exact Heap.lt_size e
 |ins C dx fs=>obtain⟨_,_,_,e,_⟩:=x;exact Heap.lt_size e
 |own y=>obtain⟨_,e⟩:=x;exact Heap.lt_size e
 |xd fs=>obtain⟨_,⟨_,_,_,e,_⟩,_⟩:=x;exact Heap.lt_size e
 |uQ lo hi=>obtain⟨_,_,_,e⟩:=x;exact Heap.lt_size e
 |bz ob u=>obtain⟨e,_⟩:=x;exact Heap.lt_size e
 |jN ps=>exact Heap.lt_size (show h.get? a=some _ from x)
 |met f y=>exact Heap.lt_size (show h.get? a=some _ from x)
 |ext φ=>obtain⟨_,⟨_,e⟩,_⟩:=x;exact Heap.lt_size e
theorem Paired.cW{α β:Type}{F G:α->β->Prop}:∀{l₁:List α} {l₂:List β},Paired F l₁ l₂->(∀a b,F a b->G a b)->Paired G l₁ l₂
 |_,_,.nil,_=>.nil
 |_,_,.cons r t,f=>.cons (f _ _ r) (Paired.cW t f)
theorem cV.jO(x:cV P w H h a o)(k:∀b u,(b=a\/H b=some (.own a))->h.get? b=some u->h'.get? b=some u)
 (ho:∀b,H b=some (.own a)->H' b=some (.own a)) (ht:∀b xs,H b=some (.tup xs)->H' b=some (.tup xs)):cV P w H' h' a o:=by
 induction o with
 |lst xs=>obtain⟨z,au,n,r,e⟩:=x;exact⟨z,au,n,r,k _ _ (.inl rfl) e⟩
 |tup xs=>obtain⟨z,au,r,ob,e,c⟩:=x;exact⟨z,au,r,ob,k _ _ (.inl rfl) e,c⟩
 |dK kvs=>obtain⟨z,y,vs,r,ob,es,ep,e,c⟩:=x;exact⟨z,y,vs,r,ob,es,ep,k _ _ (.inl rfl) e,c⟩
 |dT kvs=>obtain⟨z,y,xs,r,ob,es,ep,e,c⟩:=x;exact⟨z,y,xs,Paired.cW r λp q z=>⟨z.1,ht _ _ z.2.1,z.2.2⟩,ob,es,ep,k _ _ (.inl rfl) e,c⟩
 |set S n=>obtain⟨ob,es,ep,t,e,c⟩:=x;exact⟨ob,es,ep,t,k _ _ (.inl rfl) e,c⟩
 |ins C dx fs=>obtain⟨d,z,ne,e,mA,⟨od,es,ep,e2,c⟩,r⟩:=x;exact⟨ho _ d,z,ne,k _ _ (.inl rfl) e,mA,⟨od,es,ep,k _ _ (.inr d) e2,c⟩,r⟩
 |own y=>obtain⟨ob,e⟩:=x;exact⟨ob,k _ _ (.inl rfl) e⟩
 |xd fs=>obtain⟨mA,⟨od,es,ep,e,c⟩,r⟩:=x;exact⟨mA,⟨od,es,ep,k _ _ (.inl rfl) e,c⟩,r⟩
 |uQ lo hi=>obtain⟨t,u,v,e⟩:=x;exact⟨t,u,v,k _ _ (.inl rfl) e⟩
 |bz ob u ih=>obtain⟨e,q⟩:=x;exact⟨k _ _ (.inl rfl) e,ih q⟩
 |jN ps=>have e:h.get? a=some {cls:=.none,data:=.fields ps}:=x;show h'.get? a=some {cls:=.none,data:=.fields ps};exact k a _ (.inl rfl) e
 |met f y=>have e:h.get? a=some (PySem.W.methodObj (.ref f) (.ref y)):=x;show h'.get? a=some (PySem.W.methodObj (.ref f) (.ref y));exact k a _ (.inl rfl) e
 |ext φ=>obtain⟨p,⟨o,e⟩,st⟩:=x;exact⟨st _ _ p λo q=>k _ _ (.inl rfl) q,⟨o,k _ _ (.inl rfl) e⟩,st⟩
theorem bT.lt(x:bT P w H h)(e:H a=some o):a<h.objs.size:=(x a o e).lt
theorem bT.fresh(x:bT P w H h)(e:h.objs.size<=a):H a=none:=by
 cases q:H a with
 |none=>rfl
 |some u=>exact absurd (eh (x.lt q) e) (lQ _)
theorem bT.kept(x:bT P w H h)(k:∀b u,h.get? b=some u->h'.get? b=some u):bT P w H h':=λa o e=>
 (x a o e).jO (λb u _ q=>k b u q) (λ_ q=>q) λ_ _ q=>q
theorem bT.laid(x:bT P w H h)(k:∀b u,h.get? b=some u->h'.get? b=some u)(hp:h.objs.size<=a)(new:cV P w (upd H a o) h' a o):bT P w (upd H a o) h':=λb u e=>by
 have hn:=x.fresh hp;by_cases hb:b=a
 ·subst hb;rw[ag] at e;cases e;exact new
 ·rw[aw hb] at e;exact(x b u e).jO (λc v _ q=>k c v q) (λc q=>by rw[aw (bj q hn)];exact q) λc xs q=>by rw[aw (bj q hn)];exact q
end
noncomputable def Rd(H:Hp)(a:Addr)(u:HO):Prop:=H a=some u\/∃o,H a=some (.bz o u)
theorem Rd.of{H:Hp}{a:Addr}{u:HO}(h:H a=some u):Rd H a u:=.inl h
theorem Rd.ok{P:Program}{w:World}{H:Hp}{h:Heap}{a:Addr}{u:HO}(r:Rd H a u)(x:bT P w H h):cV P w H h a u:=by
 rcases r with r | ⟨o,r⟩
 ·exact x a u r
 ·obtain⟨_,q⟩:=x a _ r;exact q
noncomputable def lS:Option HO->Prop
 |some (.lst _)=>True
 |some (.dK _)=>True
 |some (.dT _)=>True
 |some (.set _ _)=>True
 |some (.ins _ _ _)=>True
 |some (.ext _)=>True
 |_=>False
section
variable {P:Program}{w:World}{H:Hp}{h h':Heap}{x e:Addr}{o':HO}
theorem bT.write(ok:bT P w H h)(mu:lS (H x))(he:e=x\/H e=some (.own x))(k:∀b u,b≠e->h.get? b=some u->h'.get? b=some u)(pA:∃u,h'.get? e=some u)
 (new:cV P w (upd H x o') h' x o'):bT P w (upd H x o') h':=λb u q=>by
 have Dd:∀c y,H c=some (.own y)->c≠x:=λc y r z=>by subst z;rw[r] at mu;exact mu
 have Ma:∀c xs,H c=some (.tup xs)->c≠x:=λc xs r z=>by subst z;rw[r] at mu;exact mu
 by_cases hb:b=x
 ·subst hb;rw[ag] at q;cases q;exact new
 ·rw[aw hb] at q;by_cases m9:b=e
  ·have q':H b=some (.own x):=by
    rcases he with z | z
    ·exact absurd (m9.trans z) hb
    ·rw[m9];exact z
   rw[q] at q';cases q';obtain⟨v,hv⟩:=pA;exact⟨v,by rw[m9];exact hv⟩
  ·refine(ok b u q).jO (λc v hc r=>k c v ?_ r) (λc r=>by rw[aw (Dd c b r)];exact r) λc xs r=>by rw[aw (Ma c xs r)];exact r
   rcases hc with rfl | hc
   ·exact m9
   ·rintro rfl;rcases he with z | z
    ·exact Dd c b hc z
    ·rw[hc] at z;cases z;exact hb rfl
end
structure Un(fs ex:List Addr)(H H':Hp)(h h':Heap):Prop where
 keep:∀b o,h.get? b=some o->H b=none->b∉fs->b∉ex->h'.get? b=some o
 slot:∀b o,h.get? b=some o->H b=none->b∈fs->b∉ex->∃sl,h'.get? b=some {o with slots:=sl}
 free:∀b o,h.get? b=some o->H b=none->b∉ex->H' b=none
 there:∀b o,h.get? b=some o->b∉ex->∃o',h'.get? b=some o'
 eO:∀b xs,H b=some (.tup xs)->H' b=some (.tup xs)
 eY:∀b o u,H b=some (.bz o u)->H' b=some (.bz o u)
 fP:∀b ps,H b=some (.jN ps)->∃more,H' b=some (.jN (ps++more))
section
variable {fs jP ex De:List Addr}{H H1 H2:Hp}{h h1 h2 h':Heap}{a x e:Addr}{o:HO}
theorem Un.any(u:Un fs ex H H1 h h1){b:Addr}{ob:Obj}(q:h.get? b=some ob)(n:H b=none)(hx:b∉ex):∃sl,h1.get? b=some {ob with slots:=sl}:=by
 by_cases hb:b∈fs
 ·exact u.slot b ob q n hb hx
 ·exact⟨ob.slots,u.keep b ob q n hb hx⟩
theorem Un.trans(a:Un fs ex H H1 h h1)(b:Un fs ex H1 H2 h1 h2):Un fs ex H H2 h h2 where
 keep:=λc ob q n hc hx=>b.keep c ob (a.keep c ob q n hc hx) (a.free c ob q n hx) hc hx
 slot:=λc ob q n hc hx=>by obtain⟨sl,e1⟩:=a.slot c ob q n hc hx;obtain⟨rm,e2⟩:=b.slot c _ e1 (a.free c ob q n hx) hc hx;exact⟨rm,e2⟩
 free:=λc ob q n hx=>by obtain⟨o',e1⟩:=a.there c ob q hx;exact b.free c o' e1 (a.free c ob q n hx) hx
 there:=λc ob q hx=>by obtain⟨o',e1⟩:=a.there c ob q hx;exact b.there c o' e1 hx
 eO:=λc xs q=>b.eO c xs (a.eO c xs q)
 eY:=λc ob xs q=>b.eY c ob xs (a.eY c ob xs q)
 fP:=λc ps q=>by obtain⟨m1,e1⟩:=a.fP c ps q;obtain⟨m2,e2⟩:=b.fP c _ e1;exact⟨m1++m2,by rw[e2,LG]⟩
theorem Un.kept(k:∀b u,h.get? b=some u->h'.get? b=some u):Un fs ex H H h h':=
 ⟨λb ob q _ _ _=>k b ob q,λb ob q _ _ _=>⟨ob.slots,k b ob q⟩,λ_ _ _ n _=>n,λb ob q _=>⟨ob,k b ob q⟩,λ_ _ q=>q,λ_ _ _ q=>q,λ_ ps q=>⟨#[],by rw[q];simp⟩⟩
theorem Un.refl:Un fs ex H H h h:=Un.kept λ_ _ q=>q
theorem Un.laid(k:∀b u,h.get? b=some u->h'.get? b=some u)(hp:h.objs.size<=a)(hn:H a=none):Un fs ex H (upd H a o) h h' where
 keep:=λb u q _ _ _=>k b u q
 slot:=λb u q _ _ _=>⟨u.slots,k b u q⟩
 free:=λb u q n _=>by rw[aw (gE (eh (Heap.lt_size q) hp))];exact n
 there:=λb u q _=>⟨u,k b u q⟩
 eO:=λb xs q=>by rw[aw (bj q hn)];exact q
 eY:=λb u xs q=>by rw[aw (bj q hn)];exact q
 fP:=λb ps q=>⟨#[],by rw[aw (bj q hn),q];simp⟩
theorem Un.write(mu:lS (H x))(he:e=x\/H e=some (.own x))(k:∀b u,b≠e->h.get? b=some u->h'.get? b=some u)(pA:∃u,h'.get? e=some u):Un fs ex H (upd H x o) h h':=by
 have hx:∀b,H b=none->b≠x:=λb n z=>by subst z;rw[n] at mu;exact mu
 have hb:∀b,H b=none->b≠e:=λb n z=>by
  subst z;rcases he with r | r
  ·exact hx b n r
  ·rw[n] at r;cases r
 have hm:∀b u,H b=some u->¬lS (some u)->b≠x:=λb u q nm z=>by subst z;rw[q] at mu;exact nm mu
 refine⟨λb u q n _ _=>k b u (hb b n) q,λb u q n _ _=>⟨u.slots,k b u (hb b n) q⟩,λb u q n _=>by rw[aw (hx b n)];exact n,λb u q _=>?_,
  λb xs q=>by rw[aw (hm b _ q λz=>z)];exact q,λb u xs q=>by rw[aw (hm b _ q λz=>z)];exact q,λb ps q=>⟨#[],by rw[aw (hm b _ q λz=>z),q];simp⟩⟩
 by_cases m9:b=e
 ·subst m9;exact pA
 ·exact⟨u,k b u m9 q⟩
theorem Un.mono(u:Un fs ex H H1 h h1)(hs:∀b∈fs,b∈jP)(hx:∀b∈ex,b∈De):Un jP De H H1 h h1:=
 ⟨λb ob q n hb he=>u.keep b ob q n (λz=>hb (hs b z)) λz=>he (hx b z),λ_ _ q n _ he=>u.any q n λz=>he (hx _ z),λb ob q n he=>u.free b ob q n λz=>he (hx b z),λb ob q he=>u.there b ob q λz=>he (hx b z),u.eO,u.eY,u.fP⟩
end
noncomputable def uR(h:Heap)(H:Hp):List Addr:=(List.range h.objs.size).filter λa=>(H a).isSome
noncomputable def kF(h:Heap)(H:Hp):Heap:=PySem.W.hideAll h (uR h H)
theorem Mb(h:Heap)(H:Hp):(kF h H).objs.size=h.objs.size:=PySem.W.hideAll_size _ _
theorem Mc{h:Heap}{H:Hp}{b:Addr}{o:Obj}(e:h.get? b=some o)(n:H b=none):(kF h H).get? b=some o:=
 uF _ e λhm=>by have q:(H b).isSome=true:=(gj.mp hm).2;rw[n] at q;simp at q
theorem Md{h:Heap}{H:Hp}{b:Addr}{o:Obj}(e:(kF h H).get? b=some o):h.get? b=some o/\H b=none:=by
 have e':h.get? b=some o:=LF (uR h H) e;refine⟨e',?_⟩;cases q:H b with
 |none=>rfl
 |some x=>have hm:b∈uR h H:=gj.mpr ⟨uL.mpr (Heap.lt_size e'),by simp[q]⟩;have z:(kF h H).get? b=none:=LB (uR h H) hm;rw[z] at e;cases e
noncomputable def Me(g h:Heap)(L:Addr):List (Addr×Obj):=(List.range h.objs.size).filterMap λa=>if a=L\/(g.get? a).isSome=true then none else (h.get? a).map λo=>(a,o)
noncomputable def rest(g h:Heap)(L d:Addr):List (Addr×Obj):=(Me g h L).filter λp=>decide (p.1≠d)
structure Mod(K:PySem.W.Frag)(mg:Str->Option Value)(base:Heap):Prop where
 rn:K.In base
 glob:base.Ns mainGlobals mg
 blt:∃mb,base.Ns builtinsNs mb/\∀x:Str,x≠"__name__"->mb x=bootBuiltins x
 nolimit:base.NoLimit
structure Cx where
 prog:Program
 w:World
 K:PySem.W.Frag
 mg:Str->Option Value
 base:Heap
 A:Around
 N:List Str
 cQ:Shared
 jQ:Hp
 env:Env
 outer:List Env
 stack:List Env
 ex:List Addr
 fn:Str->Bool
 calm:Bool
 pn:List (Addr×Obj)
 xe:Value->Shared->Prop
noncomputable def bZ(l:List Env):List Addr:=l.filterMap (·.frame)
noncomputable abbrev Cx.fs(X:Cx):List Addr:=bZ X.outer
noncomputable def pB(sc:Scope)(x:Str):Prop:=sc.names.lookup x=some .local\/sc.names.lookup x=some .cell\/sc.names.lookup x=some .free
noncomputable def Loc(sc:Scope)(x:Str):Prop:=sc.names.lookup x=some .local\/sc.names.lookup x=some .cell
noncomputable def Look(env:Env)(h:Heap)(m:Str->Option Value)(x:Str)(u:Value):Prop:=
 (env.kindOf x=some .local/\m x=some u)\/((env.kindOf x=some .cell\/env.kindOf x=some .free)/\∃c,env.cells.lookup x=some c/\h.IsCell c (some u))
structure Cx.Ok(X:Cx):Prop where
 mod:Mod X.K X.mg X.base
 kind:X.env.scope.kind=.function
 glob:X.env.globals=mainGlobals
 blt:X.env.builtins=builtinsNs
 above:X.cQ.heap.objs.size<=X.env.locals
 inj:∀x y c,X.env.cells.lookup x=some c->X.env.cells.lookup y=some c->x=y
 has:∀x,(X.env.kindOf x=some .cell\/X.env.kindOf x=some .free)->∃c,X.env.cells.lookup x=some c
 nc:∀x c,X.fn x=true->X.env.cells.lookup x=some c->X.cQ.heap.objs.size<=c
 hd:X.calm=true->X.A.handled=none
 frames:X.A.frames=some X.stack
 eB:X.stack=X.outer\/(X.stack=X.env::X.outer/\X.env.frame=some X.env.locals)
 lT:∀b∈X.ex,b≠X.env.locals/\∀x c,X.env.cells.lookup x=some c->c≠b
 bs:∀b o,X.base.get? b=some o->X.cQ.heap.get? b=some o/\X.jQ b=none
 g0:X.base.objs.size<=X.cQ.heap.objs.size
 ng:∀b o,X.base.get? b=some o->b∉X.ex
 lU:∀b∈X.ex,b∉X.fs
 gn:X.cQ.heap.FunFrames X.base X.outer
 jR:∀b∈X.fs,X.jQ b=none
structure Inv(X:Cx)(pins:List (Addr×Obj))(σ:List (Option V))(H:Hp)(s:Shared):Prop where
 ok:X.Ok
 os:s.os=X.cQ.os
 bare:AllBare s.gens
 base:Un X.fs X.ex X.jQ H X.cQ.heap s.heap
 loc:∃m,s.heap.Ns X.env.locals m/\∀(i:Nat) (x:Str) (v:V),X.N[i]?=some x->σ[i]?=some (some v)->pB X.env.scope x->∃u,RelV v u/\Look X.env s.heap m x u
 cell:∀x c,X.env.cells.lookup x=some c->∃v,s.heap.IsCell c v
 free:H X.env.locals=none
 eC:∀x c,X.env.cells.lookup x=some c->H c=none
 pin:∀p∈X.pn++pins,s.heap.get? p.1=some p.2/\H p.1=none/\p.1≠X.env.locals/\p.1∉X.fs/\∀v,p.2.data≠.cell v
 ao:bT X.prog X.w H s.heap
 len:σ.length=X.N.length
section
variable {X:Cx}{pins:List (Addr×Obj)}{σ:List (Option V)}{H H':Hp}{s:Shared}{h':Heap}
theorem Cx.Ok.Mf(ok:X.Ok){b:Addr}{o:Obj}(e:X.base.get? b=some o):b∉X.fs:=λhb=>by have:=(ok.gn.mem hb).1;rw[e] at this;cases this
theorem Inv.bs(I:Inv X pins σ H s):∀b o,X.base.get? b=some o->s.heap.get? b=some o/\H b=none:=λb o e=>
 ⟨I.base.keep b o (I.ok.bs b o e).1 (I.ok.bs b o e).2 (I.ok.Mf e) (I.ok.ng b o e),I.base.free b o (I.ok.bs b o e).1 (I.ok.bs b o e).2 (I.ok.ng b o e)⟩
theorem Inv.bk(I:Inv X pins σ H s):∀b o,X.base.get? b=some o->s.heap.get? b=some o:=λb o e=>(I.bs b o e).1
theorem Inv.mod(I:Inv X pins σ H s):Mod X.K X.mg X.base:=I.ok.mod
theorem Inv.g9(I:Inv X pins σ H s):X.K.In s.heap:=I.ok.mod.rn.keeps I.bk
theorem Inv.nolimit(I:Inv X pins σ H s):s.heap.NoLimit:=I.ok.mod.nolimit.keeps I.bk
theorem Inv.fr(I:Inv X pins σ H s):∃m,Fr X.base X.env.locals s.heap m:=
 let ⟨m,hn,_⟩:=I.loc
 ⟨m,hn,I.bk,aS I.ok.g0 I.ok.above⟩
theorem Inv.lt(I:Inv X pins σ H s):X.env.locals<s.heap.objs.size:=let ⟨_,hn,_⟩:=I.loc;hn.lt
theorem Inv.sz(I:Inv X pins σ H s):X.cQ.heap.objs.size<=s.heap.objs.size:=aS I.ok.above (yx I.lt)
theorem Inv.Mg(I:Inv X pins σ H s){a:Addr}(h:s.heap.objs.size<=a):a∉X.fs:=λhb=>by obtain⟨_,o,ho,_⟩:=I.ok.gn.mem hb;exact absurd (eh (Heap.lt_size ho) (aS I.sz h)) (lQ _)
theorem Inv.kG(I:Inv X pins σ H s):∀x c,X.env.cells.lookup x=some c->c≠X.env.locals:=λx c e z=>by obtain⟨v,o,ho,hd⟩:=I.cell x c e;obtain⟨m,⟨o',es,ep,cX,yA,_⟩,_⟩:=I.loc;rw[z,cX] at ho;cases ho;rw[yA] at hd;cases hd
theorem Inv.gn(I:Inv X pins σ H s):s.heap.FunFrames X.base X.outer:=by
 have all:∀(l:List Env),(∀b∈bZ l,b∈X.fs)->X.cQ.heap.FunFrames X.base l->s.heap.FunFrames X.base l:=by
  intro l;induction l with
  |nil=>intro _ _;trivial
  |cons env r ih=>intro hs hl;obtain⟨hk,⟨L,o,hf,hn,ho,hd⟩,hr⟩:=hl;have hL:L∈X.fs:=hs L (by unfold bZ;rw[ym,hf];exact bP);obtain⟨sl,e⟩:=I.base.slot L o ho (I.ok.jR L hL) hL λz=>I.ok.lU L z hL;exact⟨hk,⟨L,_,hf,hn,e,hd⟩,ih (λb hb=>hs b (by unfold bZ;rw[ym,hf];exact bO _ hb)) hr⟩
 exact all X.outer (λ_ hb=>hb) I.ok.gn
theorem Inv.stack(I:Inv X pins σ H s):s.heap.FunFrames X.base X.stack:=by
 rcases I.ok.eB with e | ⟨e,hf⟩
 ·rw[e];exact I.gn
 ·rw[e];obtain⟨m,hn,_⟩:=I.loc;refine .cons (by rw[I.ok.kind];decide) hf hn ?_ I.gn;exact Heap.get?_none_of_le (aS I.ok.g0 I.ok.above)
theorem Inv.pC(I:Inv X pins σ H s):∀b∈bZ X.stack,b∈X.env.locals::X.fs:=λb hb=>by
 rcases I.ok.eB with e | ⟨e,hf⟩
 ·rw[e] at hb;exact bO _ hb
 ·rw[e] at hb;unfold bZ at hb;rw[ym,hf] at hb;exact hb
theorem Inv.uS(I:Inv X pins σ H s):∀b∈bZ X.stack,H b=none:=λb hb=>by
 rcases bL.mp (I.pC b hb) with e | hb
 ·rw[e];exact I.free
 ·obtain⟨_,o,ho,_⟩:=I.ok.gn.mem hb;exact I.base.free b o ho (I.ok.jR b hb) λz=>I.ok.lU b z hb
theorem Inv.step{g':Array GenState}{t':Nat}{d':Drawn}{ch:List Addr}(I:Inv X pins σ H s)
 (cg:∀b∈ch,(b∈X.ex\/X.cQ.heap.objs.size<=b)/\b≠X.env.locals/\(∀x c,X.env.cells.lookup x=some c->c≠b)/\∀p∈X.pn++pins,p.1≠b)
 (keep:∀b o,b≠X.env.locals->b∉X.fs->b∉ch->s.heap.get? b=some o->H b=none->h'.get? b=some o)
 (slot:∀b o,b≠X.env.locals->b∈X.fs->b∉ch->s.heap.get? b=some o->H b=none->∃sl,h'.get? b=some {o with slots:=sl}) (free:∀b o,b∉ch->s.heap.get? b=some o->H b=none->H' b=none)
 (there:∀b o,b∉ch->s.heap.get? b=some o->∃o',h'.get? b=some o')
 (eO:∀b xs,H b=some (.tup xs)->H' b=some (.tup xs)) (eY:∀b o u,H b=some (.bz o u)->H' b=some (.bz o u)) (fP:∀b ps,H b=some (.jN ps)->∃more,H' b=some (.jN (ps++more)))
 (ns:∀m,s.heap.Ns X.env.locals m->h'.Ns X.env.locals m) (ao:bT X.prog X.w H' h') (hg:AllBare g') :
 Inv X pins σ H' {s with heap:=h',gens:=g',drawn:=d',toks:=t'}:=by
 have rq:∀b o,X.cQ.heap.get? b=some o->b≠X.env.locals:=λb o e=>gE (eh (Heap.lt_size e) I.ok.above);have kH:∀b o,X.cQ.heap.get? b=some o->b∉X.ex->b∉ch:=λb o e hx hb=>by
  rcases(cg b hb).1 with z | z
  ·exact hx z
  ·exact absurd (eh (Heap.lt_size e) z) (lQ _)
 have cellK:∀x c,X.env.cells.lookup x=some c->∀v,s.heap.IsCell c v->h'.IsCell c v:=λx c e v ⟨o,ho,hd⟩=>by
  have jc:c∉ch:=λz=>(cg c z).2.2.1 x c e rfl;by_cases hc:c∈X.fs
  ·obtain⟨sl,q⟩:=slot c o (I.kG x c e) hc jc ho (I.eC x c e);exact⟨_,q,hd⟩
  ·exact⟨o,keep c o (I.kG x c e) hc jc ho (I.eC x c e),hd⟩
 refine⟨I.ok,I.os,hg,⟨λb o e n hb hx=>?_,λb o e n hb hx=>?_,λb o e n hx=>?_,λb o e hx=>?_,λb xs e=>eO b xs (I.base.eO b xs e),λb o xs e=>eY b o xs (I.base.eY b o xs e),λb ps e=>?_⟩,?_,λx c e=>?_,?_,λx c e=>?_,λp hp=>?_,ao,I.len⟩
 ·exact keep b o (rq b o e) hb (kH b o e hx) (I.base.keep b o e n hb hx) (I.base.free b o e n hx)
 ·obtain⟨sl,e1⟩:=I.base.slot b o e n hb hx;obtain⟨rm,e2⟩:=slot b _ (rq b o e) hb (kH b o e hx) e1 (I.base.free b o e n hx);exact⟨rm,e2⟩
 ·obtain⟨o',e1⟩:=I.base.there b o e hx;exact free b o' (kH b o e hx) e1 (I.base.free b o e n hx)
 ·obtain⟨o',e1⟩:=I.base.there b o e hx;exact there b o' (kH b o e hx) e1
 ·obtain⟨m1,e1⟩:=I.base.fP b ps e;obtain⟨m2,e2⟩:=fP b _ e1;exact⟨m1++m2,by rw[e2,LG]⟩
 ·obtain⟨m,hn,hl⟩:=I.loc;refine⟨m,ns m hn,λi x v e1 e2 e3=>?_⟩;obtain⟨u,r,l⟩:=hl i x v e1 e2 e3;refine⟨u,r,?_⟩;rcases l with l | ⟨k,c,e,z⟩
  ·exact .inl l
  ·exact .inr ⟨k,c,e,cellK x c e _ z⟩
 ·obtain⟨v,z⟩:=I.cell x c e;exact⟨v,cellK x c e v z⟩
 ·obtain⟨m,⟨o,_,_,ho,_⟩,_⟩:=I.loc;exact free _ o (λz=>(cg _ z).2.1 rfl) ho I.free
 ·obtain⟨v,o,ho,hd⟩:=I.cell x c e;exact free c o (λz=>(cg c z).2.2.1 x c e rfl) ho (I.eC x c e)
 ·obtain⟨e,n,ne,nf,d⟩:=I.pin p hp;have jc:p.1∉ch:=λz=>(cg p.1 z).2.2.2 p hp rfl;exact⟨keep p.1 p.2 ne nf jc e n,free p.1 p.2 jc e n,ne,nf,d⟩
theorem Inv.un{t':Nat}(I:Inv X pins σ H s)(u:Un X.fs [] H H' s.heap h')(ao:bT X.prog X.w H' h'):Inv X pins σ H' {s with heap:=h',toks:=t'}:=by
 obtain⟨m,⟨o,es,ep,ho,r⟩,_⟩:=id I.loc;obtain⟨sl,hL⟩:=u.any ho I.free (by simp);exact I.step (g':=s.gens) (d':=s.drawn) (ch:=[]) (λ_ z=>nomatch z) (λb o _ hb _ e n=>u.keep b o e n hb (by simp)) (λb o _ hb _ e n=>u.slot b o e n hb (by simp)) (λb o _ e n=>u.free b o e n (by simp)) (λb o _ e=>u.there b o e (by simp)) u.eO u.eY u.fP (λm' hm=>by
  obtain⟨o',jS,jT,cX,r'⟩:=hm;rw[ho] at cX;cases cX;exact⟨_,jS,jT,hL,r'⟩) ao I.bare
theorem Inv.call{g':Array GenState}{t':Nat}{d':Drawn}{ch:List Addr}(I:Inv X pins σ H s)(u:Un (bZ X.stack) ch H H' s.heap h')(ao:bT X.prog X.w H' h')(hg:AllBare g')
 (cg:∀b∈ch,(b∈X.ex\/X.cQ.heap.objs.size<=b)/\b≠X.env.locals/\(∀x c,X.env.cells.lookup x=some c->c≠b)/\∀p∈X.pn++pins,p.1≠b) :
 Inv X pins σ H' {s with heap:=h',gens:=g',drawn:=d',toks:=t'}:=by
 obtain⟨m,⟨o,es,ep,ho,r⟩,_⟩:=id I.loc;obtain⟨sl,hL⟩:=u.any ho I.free λz=>(cg _ z).2.1 rfl;exact I.step (ch:=ch) cg (λb o hL hb hc e n=>u.keep b o e n (λz=>(bL.mp (I.pC b z)).elim hL hb) hc) (λb o _ _ hc e n=>u.any e n hc) (λb o hc e n=>u.free b o e n hc) (λb o hc e=>u.there b o e hc) u.eO u.eY u.fP (λm' hm=>by
  obtain⟨o',jS,jT,cX,r'⟩:=hm;rw[ho] at cX;cases cX;exact⟨_,jS,jT,hL,r'⟩) ao hg
theorem Inv.turned{t':Nat}{it:Addr}(I:Inv X pins σ H s)(k:∀b o,b≠it->s.heap.get? b=some o->h'.get? b=some o)(hn:H it=none)(hL:it≠X.env.locals)
 (h1:it∈X.ex\/X.cQ.heap.objs.size<=it) (h2:∀x c,X.env.cells.lookup x=some c->c≠it) (h3:∀p∈X.pn++pins,p.1≠it):Inv X pins σ H {s with heap:=h',toks:=t'}:=by
 have Df:∀b u,H b=some u->b≠it:=λb u e z=>by rw[z,hn] at e;cases e
 refine I.step (g':=s.gens) (d':=s.drawn) (ch:=[it]) (λb hb=>?_) (λb o _ _ hc e _=>k b o (λz=>hc (by simp[z])) e) (λb o _ _ hc e _=>⟨o.slots,k b o (λz=>hc (by simp[z])) e⟩) (λ_ _ _ _ n=>n)
  (λb o hc e=>⟨o,k b o (λz=>hc (by simp[z])) e⟩) (λ_ _ e=>e) (λ_ _ _ e=>e) (λb ps e=>⟨#[],by rw[e];simp⟩) (λm hm=>?_) (λb u e=>?_) I.bare
 ·have e:b=it:=by simpa using hb
  subst e;exact⟨h1,hL,h2,h3⟩
 ·obtain⟨o,es,ep,ho,r⟩:=hm;exact⟨o,es,ep,k _ o (bu hL) ho,r⟩
 ·refine(I.ao b u e).jO (λc v hc q=>k c v ?_ q) (λ_ q=>q) λ_ _ q=>q;rcases hc with z | z
  ·rw[z];exact Df b u e
  ·exact Df c _ z
theorem Inv.tok(I:Inv X pins σ H s)(t:Nat):Inv X pins σ H {s with toks:=t}:=I.un (h':=s.heap) (t':=t) Un.refl I.ao
theorem Inv.kept{t':Nat}(I:Inv X pins σ H s)(k:∀b u,s.heap.get? b=some u->h'.get? b=some u):Inv X pins σ H {s with heap:=h',toks:=t'}:=I.un (Un.kept k) (I.ao.kept k)
theorem Inv.laid{a:Addr}{o:HO}{t':Nat}(I:Inv X pins σ H s)(k:∀b u,s.heap.get? b=some u->h'.get? b=some u)(hp:s.heap.objs.size<=a)(new:cV X.prog X.w (upd H a o) h' a o) :
 Inv X pins σ (upd H a o) {s with heap:=h',toks:=t'}:=I.un (Un.laid k hp (I.ao.fresh hp)) (I.ao.laid k hp new)
theorem Inv.write{x e:Addr}{o:HO}{t':Nat}(I:Inv X pins σ H s)(mu:lS (H x))(he:e=x\/H e=some (.own x))(k:∀b u,b≠e->s.heap.get? b=some u->h'.get? b=some u)(pA:∃u,h'.get? e=some u)
 (new:cV X.prog X.w (upd H x o) h' x o):Inv X pins σ (upd H x o) {s with heap:=h',toks:=t'}:=I.un (Un.write mu he k pA) (I.ao.write mu he k pA new)
theorem Inv.weak{σ':List (Option V)}(I:Inv X pins σ H s)(hl:σ'.length=σ.length)(w:∀(i:Nat) v,σ'[i]?=some (some v)->σ[i]?=some (some v)):Inv X pins σ' H s:=
 ⟨I.ok,I.os,I.bare,I.base,let ⟨m,hn,du⟩:=I.loc;⟨m,hn,λi x v e1 e2 e3=>du i x v e1 (w i v e2) e3⟩,I.cell,I.free,I.eC,I.pin,I.ao,hl.trans I.len⟩
theorem Inv.Dg{nh:List (Addr×Obj)}(I:Inv X pins σ H s)(h:∀p∈nh,s.heap.get? p.1=some p.2/\H p.1=none/\p.1≠X.env.locals/\p.1∉X.fs/\∀v,p.2.data≠.cell v):Inv X nh σ H s:=
 ⟨I.ok,I.os,I.bare,I.base,I.loc,I.cell,I.free,I.eC,λp hp=>(gm.mp hp).elim (λz=>I.pin p (uD _ z)) (h p),I.ao,I.len⟩
theorem yB{N:List Str}(hN:N.Nodup){i j:Nat}{x:Str}(a:N[i]?=some x)(b:N[j]?=some x):i=j:=by obtain⟨h1,e1⟩:=bh.mp a;obtain⟨h2,e2⟩:=bh.mp b;exact(LK hN).mp (e1.trans e2.symm)
theorem Dh{M:Model}{A:Around}{E:Value->Shared->Prop}{i:Nat}{x:Str}{v:V}{u:Value}{Q:Unit->Shared->Prop}(I:Inv X pins σ H s)(hN:X.N.Nodup)(hi:X.N[i]?=some x)(hx:Loc X.env.scope x)(r:RelV v u)
 (h:∀s',Inv X pins (σ.set i (some v)) H s'->(∃a,Heap.SameBut a s.heap s'.heap/\(a=X.env.locals\/X.env.cells.lookup x=some a))->Q () s') (hf:X.fn x=true\/X.env.scope.names.lookup x=some .local:=by first|exact .inl rfl | exact .inr rfl | assumption):wpAny M A (storeName X.env x u) Q E s:=by
 obtain⟨m,hn,hl⟩:=id I.loc;have ni:(X.env.scope.kind==.class||(X.env.scope.kind==.module&&X.env.locals != X.env.globals))=false:=by rw[I.ok.kind];rfl
 have hiσ:i < σ.length:=by rw[I.len];exact(bh.mp hi).1
 have kG:=I.kG;have tracked:∀{a:Addr} {h':Heap},(∃o,s.heap.get? a=some o/\H a=none)->Heap.SameBut a s.heap h'->bT X.prog X.w H h':=λ{a h'} ha hs b ob e=>by
  obtain⟨_,_,lV⟩:=ha;refine(I.ao b ob e).jO (λc w' hc q=>(hs.2 c ?_).trans q) (λ_ q=>q) λ_ _ q=>q;rintro rfl;rcases hc with rfl | hc
  ·rw[lV] at e;cases e
  ·rw[lV] at hc;cases hc
 rcases hx with hk | hk
 ·refine wpAny_storeName_local hk hn (λh' jU hs=>?_) ni;obtain⟨oL,_,_,Mh,_⟩:=id hn;refine h _ ⟨I.ok,I.os,I.bare,⟨λb o e n hb hx=>?_,λb o e n hb hx=>?_,I.base.free,λb o e hx=>?_,I.base.eO,I.base.eY,I.base.fP⟩,⟨_,jU,λj y v' e1 e2 e3=>?_⟩,λy c e=>?_,I.free,I.eC,λp hp=>?_,tracked ⟨oL,Mh,I.free⟩ hs,by simpa using I.len⟩ ⟨_,hs,.inl rfl⟩
  ·exact(hs.2 b (gE (eh (Heap.lt_size e) I.ok.above))).trans (I.base.keep b o e n hb hx)
  ·obtain⟨sl,e1⟩:=I.base.slot b o e n hb hx;exact⟨sl,(hs.2 b (gE (eh (Heap.lt_size e) I.ok.above))).trans e1⟩
  ·obtain⟨o',e1⟩:=I.base.there b o e hx;exact⟨o',(hs.2 b (gE (eh (Heap.lt_size e) I.ok.above))).trans e1⟩
  ·by_cases hj:j=i
   ·subst hj;rw[hi] at e1;cases e1;rw[m6 hiσ] at e2;cases e2;exact⟨u,r,.inl ⟨hk,by simp⟩⟩
   ·rw[m7 (bu hj)] at e2;obtain⟨u',r',q⟩:=hl j y v' e1 e2 e3;refine⟨u',r',?_⟩;rcases q with ⟨k,e⟩ | ⟨k,c,e,z⟩
    ·refine .inl ⟨k,?_⟩;have:y≠x:=λe=>hj (yB hN e1 (e▸hi));simp[this,e]
    ·exact .inr ⟨k,c,e,z.sameBut hs (kG y c e)⟩
  ·obtain⟨w',z⟩:=I.cell y c e;exact⟨w',z.sameBut hs (kG y c e)⟩
  ·obtain⟨e,n,ne,nf,d⟩:=I.pin p hp;exact⟨(hs.2 p.1 ne).trans e,n,ne,nf,d⟩
 ·have rA:X.fn x=true:=by
   rcases hf with z | z
   ·exact z
   ·rw[z] at hk;cases hk
  obtain⟨c,hc⟩:=I.ok.has x (.inl hk);obtain⟨w',z⟩:=I.cell x c hc;refine wpAny_storeName_cell I.ok.kind hk hc z (λh' eD hs=>?_);obtain⟨oc,Di,Mi⟩:=id z;refine h {s with heap:=h'} ⟨I.ok,I.os,I.bare,⟨λb o e n hb hx=>?_,λb o e n hb hx=>?_,I.base.free,λb o e hx=>?_,I.base.eO,I.base.eY,I.base.fP⟩,⟨m,hn.sameBut hs (bu (kG x c hc)),λj y v' e1 e2 e3=>?_⟩,λy c' e=>?_,I.free,I.eC,λp hp=>?_,tracked ⟨oc,Di,I.eC x c hc⟩ hs,by simpa using I.len⟩ ⟨c,hs,.inr hc⟩
  ·exact(hs.2 b (gE (eh (Heap.lt_size e) (I.ok.nc x c rA hc)))).trans (I.base.keep b o e n hb hx)
  ·obtain⟨sl,e1⟩:=I.base.slot b o e n hb hx;exact⟨sl,(hs.2 b (gE (eh (Heap.lt_size e) (I.ok.nc x c rA hc)))).trans e1⟩
  ·obtain⟨o',e1⟩:=I.base.there b o e hx;exact⟨o',(hs.2 b (gE (eh (Heap.lt_size e) (I.ok.nc x c rA hc)))).trans e1⟩
  ·by_cases hj:j=i
   ·subst hj;rw[hi] at e1;cases e1;rw[m6 hiσ] at e2;cases e2;exact⟨u,r,.inr ⟨.inl hk,c,hc,eD⟩⟩
   ·rw[m7 (bu hj)] at e2;obtain⟨u',r',q⟩:=hl j y v' e1 e2 e3;refine⟨u',r',?_⟩;rcases q with q | ⟨k,c',e,z'⟩
    ·exact .inl q
    ·refine .inr ⟨k,c',e,z'.sameBut hs ?_⟩;rintro rfl;exact hj (yB hN e1 (I.ok.inj _ _ _ e hc▸hi))
  ·by_cases Dj:c'=c
   ·subst Dj;exact⟨_,eD⟩
   ·obtain⟨w2,z2⟩:=I.cell y c' e;exact⟨w2,z2.sameBut hs Dj⟩
  ·obtain⟨e,n,ne,nf,d⟩:=I.pin p hp;refine⟨(hs.2 p.1 ?_).trans e,n,ne,nf,d⟩;intro q;rw[q,Di] at e;have q':oc=p.2:=a4 e;exact d w' (by rw[<-q'];exact Mi)
theorem yC{M:Model}{A:Around}{E:Value->Shared->Prop}{i:Nat}{x:Str}{v:V}{u:Value}{Q:Unit->Shared->Prop}(I:Inv X pins σ H s)(hN:X.N.Nodup)(hi:X.N[i]?=some x)(hx:Loc X.env.scope x)(r:RelV v u)
 (h:∀s',Inv X pins (σ.set i (some v)) H s'->Q () s') (hf:X.fn x=true\/X.env.scope.names.lookup x=some .local:=by first|exact .inl rfl | exact .inr rfl | assumption):wpAny M A (storeName X.env x u) Q E s:=
 Dh I hN hi hx r (λs' I' _=>h s' I') hf
theorem Inv.uT{s':Shared}{ch:List Addr}(I:Inv X pins σ H s)(ho:s'.os=s.os)(u:Un (bZ X.stack) ch H H' s.heap s'.heap)(ao:bT X.prog X.w H' s'.heap)(hg:AllBare s'.gens)
 (cg:∀b∈ch,(b∈X.ex\/X.cQ.heap.objs.size<=b)/\b≠X.env.locals/\(∀x c,X.env.cells.lookup x=some c->c≠b)/\∀p∈X.pn++pins,p.1≠b):Inv X pins σ H' s':=by
 obtain⟨h',g',d',t',o'⟩:=s';have e:o'=s.os:=ho;subst e;exact I.call (g':=g') (t':=t') (d':=d') u ao hg cg
end
noncomputable abbrev XK:=Value->Option Addr->Hp->Prop
noncomputable abbrev St:=List (Option V)
noncomputable abbrev VK:=V->Hp->Prop
noncomputable abbrev TE:=St->Hp->VK->Prop
noncomputable abbrev TT:=St->Hp->(Bool->Hp->Prop)->Prop
noncomputable abbrev TA:=St->Hp->(List V->Hp->Prop)->Prop
structure Ends where
 nx:St->Hp->Prop
 rt:VK
 bk:St->Hp->Prop:=λ_ _=>False
 ct:St->Hp->Prop:=λ_ _=>False
noncomputable abbrev TS:=Ends->St->Hp->Prop
noncomputable def EP(X:Cx)(pins:List (Addr×Obj))(σ:St)(Q:VK)(u:Value)(s':Shared):Prop:=∃v H',Inv X pins σ H' s'/\RelV v u/\Q v H'
noncomputable def TP(X:Cx)(pins:List (Addr×Obj))(σ:St)(Q:Bool->Hp->Prop)(b:Bool)(s':Shared):Prop:=∃H',Inv X pins σ H' s'/\Q b H'
noncomputable def AP(X:Cx)(pins:List (Addr×Obj))(σ:St)(Q:List V->Hp->Prop)(us:List Value)(s':Shared):Prop:=∃vs H',Inv X pins σ H' s'/\Vals vs us/\Q vs H'
noncomputable def SP(X:Cx)(pins:List (Addr×Obj))(D:Ends)(f:Flow)(s':Shared):Prop:=
 match f with
 |.next=>∃σ' H',Inv X pins σ' H' s'/\D.nx σ' H'
 |.brk=>∃σ' H',Inv X pins σ' H' s'/\D.bk σ' H'
 |.cont=>∃σ' H',Inv X pins σ' H' s'/\D.ct σ' H'
 |.ret u=>∃v σ' H',Inv X pins σ' H' s'/\RelV v u/\D.rt v H'
noncomputable def PE(X:Cx)(e:Expr)(t:TE):Prop:=
 ∀(pins:List (Addr×Obj)) (s:Shared) (σ:St) (H:Hp) (Q:VK),Inv X pins σ H s->t σ H Q->wpAny (model X.prog X.w) X.A (eval e X.env) (EP X pins σ Q) X.xe s
noncomputable def PT(X:Cx)(e:Expr)(t:TT):Prop:=
 ∀(pins:List (Addr×Obj)) (s:Shared) (σ:St) (H:Hp) (Q:Bool->Hp->Prop),Inv X pins σ H s->t σ H Q->wpAny (model X.prog X.w) X.A (isTrue e X.env (eval e X.env)) (TP X pins σ Q) X.xe s
noncomputable def PW(X:Cx)(e:Expr)(t:TT):Prop:=
 ∀(whole:Sem Value) (pins:List (Addr×Obj)) (s:Shared) (σ:St) (H:Hp) (Q:Bool->Hp->Prop),Inv X pins σ H s->t σ H Q->wpAny (model X.prog X.w) X.A (isTrue e X.env whole) (TP X pins σ Q) X.xe s
theorem PW.pt{X:Cx}{e:Expr}{t:TT}(h:PW X e t):PT X e t:=h _
noncomputable def PA(X:Cx)(es:List Expr)(t:TA):Prop:=
 ∀(pos:Pos) (pins:List (Addr×Obj)) (s:Shared) (σ:St) (H:Hp) (Q:List V->Hp->Prop),Inv X pins σ H s->t σ H Q->wpAny (model X.prog X.w) X.A (spliced (backTo pos (starEach es X.env))) (AP X pins σ Q) X.xe s
noncomputable def PS(X:Cx)(st:Stmt)(t:TS):Prop:=
 ∀(pins:List (Addr×Obj)) (s:Shared) (σ:St) (H:Hp) (D:Ends),Inv X pins σ H s->t D σ H->wpAny (model X.prog X.w) X.A (exec st X.env) (SP X pins D) X.xe s
noncomputable def eZ(X:Cx)(st:List Stmt)(t:TS):Prop:=
 ∀(pins:List (Addr×Obj)) (s:Shared) (σ:St) (H:Hp) (D:Ends),Inv X pins σ H s->t D σ H->wpAny (model X.prog X.w) X.A (execs st X.env) (SP X pins D) X.xe s
theorem aI{α:Type}{t:Sem α}{Q Q':α->Shared->Prop}{M:Model}{A:Around}{E:Value->Shared->Prop}{s:Shared}(h:wpAny M A t Q E s)(hQ:∀a s,Q a s->Q' a s):wpAny M A t Q' E s:=wpAny_mono h hQ λ_ _ x=>x
section
variable {X:Cx}
noncomputable def bU(i:Nat):TE:=λσ H Q=>∃v,σ[i]?=some (some v)/\Q v H
noncomputable def tC(v:V):TE:=λ_ H Q=>Q v H
theorem Mj{i:Nat}{x:Str}{pos:Pos}(hN:X.N[i]?=some x)(hv:pB X.env.scope x)(hd:(x==("__debug__":Str))=false:=by decide)(je:(x==("__classdict__":Str))=false:=by decide):PE X (.Name x pos) (bU i):=by
 intro pins s σ H Q I h;obtain⟨v,e,h⟩:=h;obtain⟨m,hn,hl⟩:=I.loc;obtain⟨u,r,l⟩:=hl i x v hN e hv;have fin:EP X pins σ Q u s:=⟨v,H,I,r,h⟩;rcases l with ⟨hk,hm⟩ | ⟨hk,c,hc,uU⟩
 ·exact wpAny_Name (wpAny_loadName_local I.ok.kind hk hn hm fin) hd
 ·rcases hk with hk | hk
  ·exact wpAny_Name (wpAny_loadName_cell I.ok.kind hk hc uU fin) hd
  ·exact wpAny_Name (wpAny_loadName_free I.ok.kind hk hc uU fin je) hd
theorem aK{i j pos}:PE X (.Constant (.int i) j pos) (tC (.int i)):=λ_ _ _ H _ I h=>wpAny_Constant_int ⟨.int i,H,I.tok _,⟨_,rfl⟩,h⟩
theorem cY{b j pos}:PE X (.Constant (.bool b) j pos) (tC (.bl b)):=λ_ _ _ H _ I h=>Constant_bool ⟨.bl b,H,I,rfl,h⟩
theorem jV{j pos}:PE X (.Constant .none j pos) (tC .ak):=λ_ _ _ H _ I h=>Constant_none ⟨.ak,H,I,rfl,h⟩
theorem lW{x j pos}:PE X (.Constant (.str x) j pos) (tC (.str x)):=λ_ _ _ H _ I h=>Calls.Constant_str ⟨.str x,H,I.tok _,⟨_,rfl⟩,h⟩
noncomputable def Gl(X:Cx)(x:Str):Prop:=X.env.kindOf x=some .globalImplicit
theorem pD{E:Value->Shared->Prop}{pins:List (Addr×Obj)}{s:Shared}{σ:St}{H:Hp}{x:Str}{u:Value}{pos:Pos}{Q:Value->Shared->Prop}(I:Inv X pins σ H s)(hg:Gl X x)(hm:X.mg x=some u)(h:Q u s)
 (hd:(x==("__debug__":Str))=false:=by decide):wpAny (model X.prog X.w) X.A (eval (.Name x pos) X.env) Q E s:=
 Calls.Name_function_global I.ok.kind hg (Calls.loadGlobal_global (by rw[I.ok.glob];exact I.mod.glob.keeps I.bk) hm h) hd
theorem uV{E:Value->Shared->Prop}{pins:List (Addr×Obj)}{s:Shared}{σ:St}{H:Hp}{x:Str}{u:Value}{pos:Pos}{Q:Value->Shared->Prop}(I:Inv X pins σ H s)(hg:Gl X x)(hm:X.mg x=none)(hv:bootBuiltins x=some u)(h:Q u s)
 (hn:x≠"__name__":=by decide) (hd:(x==("__debug__":Str))=false:=by decide):wpAny (model X.prog X.w) X.A (eval (.Name x pos) X.env) Q E s:=by
 obtain⟨mb,h1,h2⟩:=I.mod.blt;exact Calls.Name_function_global I.ok.kind hg (Calls.loadGlobal_builtin (by rw[I.ok.glob];exact I.mod.glob.keeps I.bk) hm (by rw[I.ok.blt];exact h1.keeps I.bk) ((h2 x hn).trans hv) h) hd
theorem yD{x:Str}{v:V}{u:Value}{pos:Pos}(hg:Gl X x)(hm:X.mg x=some u)(r:RelV v u)(hd:(x==("__debug__":Str))=false:=by decide):PE X (.Name x pos) (tC v):=
 λ_ _ _ H _ I h=>pD I hg hm ⟨v,H,I,r,h⟩ hd
variable {a b:Expr}{ta tb:TE}{pos:Pos}
noncomputable def PC(X:Cx)(op:CmpOp)(a b:Expr)(t:TE):Prop:=
 ∀(pins:List (Addr×Obj)) (s:Shared) (σ:St) (H:Hp) (Q:VK),Inv X pins σ H s->t σ H Q->
  wpAny (model X.prog X.w) X.A (eval a X.env) (λv s₁=>wpAny (model X.prog X.w) X.A (eval b X.env) (λu s₂=>wpAny (model X.prog X.w) X.A (compareOp op v u) (EP X pins σ Q) X.xe s₂) X.xe s₁) X.xe s
theorem Dk(b:Expr){op:CmpOp}(h:op≠.In)(h2:op≠.NotIn):behindInMarks op b=false:=by
 have e1:(op==CmpOp.In)=false:=by cases op<;>first|rfl | exact absurd rfl h
 have e2:(op==CmpOp.NotIn)=false:=by cases op<;>first|rfl | exact absurd rfl h2
 cases b<;>simp[behindInMarks,e1,e2]
noncomputable def Dl(ta:TE):TE:=λσ H Q=>ta σ H λx H1=>Q (.bl (decide (x=.ak))) H1
noncomputable def Ml(ta:TE):TE:=λσ H Q=>ta σ H λx H1=>Q (.bl (!decide (x=.ak))) H1
theorem RelV.Dm{x:V}{v:Value}(r:RelV x v):(v==Value.none)=decide (x=.ak):=by
 cases x with
 |ak=>cases r;rfl
 |bl _=>cases r;rfl
 |int _=>obtain⟨t,rfl⟩:=r;rfl
 |str _=>obtain⟨t,rfl⟩:=r;rfl
 |fq _=>obtain⟨t,rfl⟩:=r;rfl
 |rl _=>obtain⟨t,rfl⟩:=r;rfl
 |ref _=>cases r;rfl
 |ty _=>cases r;rfl
theorem iD{j pos'}(ha:PE X a ta):PC X .Is a (.Constant .none j pos') (Dl ta):=by intro pins s σ H Q I h;refine aI (ha pins s σ H _ I h) λv s1 zq=>?_;obtain⟨x,H1,I1,r1,q1⟩:=zq;exact Constant_none (is_none_gen ⟨.bl _,H1,I1,by rw[r1.Dm];rfl,q1⟩)
theorem ft{j pos'}(ha:PE X a ta):PC X .IsNot a (.Constant .none j pos') (Ml ta):=by intro pins s σ H Q I h;refine aI (ha pins s σ H _ I h) λv s1 zq=>?_;obtain⟨x,H1,I1,r1,q1⟩:=zq;exact Constant_none (isnot_none_gen ⟨.bl _,H1,I1,by rw[r1.Dm];rfl,q1⟩)
noncomputable def tB(t:TE):TT:=λσ H Q=>t σ H λx H1=>∃c,x=.bl c/\Q c H1
theorem yE{op:CmpOp}{t:TE}(h:PC X op a b t)(h1:behindInMarks op b=false:=by first|exact Dk _ (by decide) (by decide) | rfl):PE X (.Compare a [op] [b] pos) t:=λpins s σ H Q I hw=>wpAny_Compare1 (h pins s σ H Q I hw) h1
theorem cw{op:CmpOp}{t:TE}(h:PC X op a b t)(h1:behindInMarks op b=false:=by first|exact Dk _ (by decide) (by decide) | rfl):PT X (.Compare a [op] [b] pos) (tB t):=by intro pins s σ H Q I hw;refine wpAny_isTrue_Compare1 (aI (h pins s σ H _ I hw) λv s1 h1=>aI h1 λu s2 h2=>aI h2 λc s3 zq=>?_) h1;obtain⟨x,H1,I1,r1,q1⟩:=zq;obtain⟨d,rfl,q⟩:=q1;cases r1;exact wpAny_truthy_bool ⟨H1,I1,q⟩
theorem dU{e:Expr}{t:TE}(h:PE X e t)(he:∀whole,isTrue e X.env whole=(do let v <-whole;standAt e.pos;holding [v] (truthy v)):=by intro _;rfl):PT X e (tB t):=by intro pins s σ H Q I hw;refine isTrue_plain (aI (h pins s σ H _ I hw) λv s1 zq=>?_) (he _);obtain⟨x,H1,I1,r1,q1⟩:=zq;obtain⟨d,rfl,q⟩:=q1;cases r1;exact wpAny_truthy_bool ⟨H1,I1,q⟩
variable {tA uW:TT}{rest:List Expr}
noncomputable def Mm(t u:TT):TT:=λσ H Q=>t σ H λc H1=>if c=true then u σ H1 Q else Q false H1
noncomputable def Mn(t u:TT):TT:=λσ H Q=>t σ H λc H1=>if c=true then Q true H1 else u σ H1 Q
noncomputable def Mo(t:TT):TT:=λσ H Q=>t σ H λc H1=>Q (!c) H1
theorem yF(ha:PT X a tA):PW X (.BoolOp .And [a] pos) tA:=by
 intro wh pins s σ H Q I h;refine isTrue_and (aI (ha pins s σ H Q I h) λc s1 e=>?_);cases c with
 |true=>exact isTrue_and_nil e
 |false=>exact e
theorem uX(ha:PT X a tA):PW X (.BoolOp .Or [a] pos) tA:=by
 intro wh pins s σ H Q I h;refine isTrue_or (aI (ha pins s σ H Q I h) λc s1 e=>?_);cases c with
 |false=>exact isTrue_or_nil e
 |true=>exact e
theorem uY(ha:PT X a tA)(hb:PW X (.BoolOp .And (b::rest) pos) uW):PW X (.BoolOp .And (a::b::rest) pos) (Mm tA uW):=by
 intro wh pins s σ H Q I h;refine isTrue_and (aI (ha pins s σ H _ I h) λc s1 zq=>?_);obtain⟨H1,I1,q1⟩:=zq;cases c with
 |true=>exact hb wh pins s1 σ H1 Q I1 q1
 |false=>exact⟨H1,I1,q1⟩
theorem uZ(ha:PT X a tA)(hb:PW X (.BoolOp .Or (b::rest) pos) uW):PW X (.BoolOp .Or (a::b::rest) pos) (Mn tA uW):=by
 intro wh pins s σ H Q I h;refine isTrue_or (aI (ha pins s σ H _ I h) λc s1 zq=>?_);obtain⟨H1,I1,q1⟩:=zq;cases c with
 |true=>exact⟨H1,I1,q1⟩
 |false=>exact hb wh pins s1 σ H1 Q I1 q1
theorem gp(ha:PT X a tA):PT X (.UnaryOp .Not a pos) (Mo tA):=by intro pins s σ H Q I h;exact isTrue_not (ha pins s σ H (λc H1=>Q (!c) H1) I h)
noncomputable def Mp(ta tb:TE):TE:=λσ H Q=>ta σ H λx H1=>∃c,x=.bl c/\if c=true then tb σ H1 Q else Q (.bl false) H1
noncomputable def Mq(ta tb:TE):TE:=λσ H Q=>ta σ H λx H1=>∃c,x=.bl c/\if c=true then Q (.bl true) H1 else tb σ H1 Q
noncomputable def Mr(ta:TE):TE:=λσ H Q=>ta σ H λx H1=>∃c,x=.bl c/\Q (.bl (!c)) H1
theorem pE{op}{t:TE}(h:PE X a t):PE X (.BoolOp op [a] pos) t:=λpins s σ H Q I hw=>BoolOp_one (h pins s σ H Q I hw)
theorem jW(ha:PE X a ta)(hb:PE X (.BoolOp .And (b::rest) pos) tb):PE X (.BoolOp .And (a::b::rest) pos) (Mp ta tb):=by
 intro pins s σ H Q I h;refine BoolOp_and (aI (ha pins s σ H _ I h) λv s1 zq=>?_);obtain⟨x,H1,I1,r1,q1⟩:=zq;obtain⟨c,rfl,q1⟩:=q1;cases r1;refine wpAny_truthy_bool ?_;cases c with
 |true=>exact hb pins s1 σ H1 Q I1 q1
 |false=>exact⟨.bl false,H1,I1,rfl,q1⟩
theorem Dn(ha:PE X a ta)(hb:PE X (.BoolOp .Or (b::rest) pos) tb):PE X (.BoolOp .Or (a::b::rest) pos) (Mq ta tb):=by
 intro pins s σ H Q I h;refine BoolOp_or (aI (ha pins s σ H _ I h) λv s1 zq=>?_);obtain⟨x,H1,I1,r1,q1⟩:=zq;obtain⟨c,rfl,q1⟩:=q1;cases r1;refine wpAny_truthy_bool ?_;cases c with
 |false=>exact hb pins s1 σ H1 Q I1 q1
 |true=>exact⟨.bl true,H1,I1,rfl,q1⟩
theorem rB(ha:PE X a ta):PE X (.UnaryOp .Not a pos) (Mr ta):=by intro pins s σ H Q I h;refine UnaryOp_ (aI (ha pins s σ H _ I h) λv s1 zq=>?_);obtain⟨x,H1,I1,r1,q1⟩:=zq;obtain⟨c,rfl,q1⟩:=q1;cases r1;exact not_of (wpAny_truthy_bool ⟨.bl (!c),H1,I1,rfl,q1⟩)
noncomputable def yG(t:TT)(ta tb:TE):TE:=λσ H Q=>t σ H λc H1=>if c=true then ta σ H1 Q else tb σ H1 Q
theorem kI{c:Expr}(hc:PT X c tA)(ha:PE X a ta)(hb:PE X b tb):PE X (.IfExp c a b pos) (yG tA ta tb):=by
 intro pins s σ H Q I h;refine wpAny_IfExp (aI (hc pins s σ H _ I h) λd s1 zq=>?_);obtain⟨H1,I1,q1⟩:=zq;cases d with
 |true=>exact ha pins s1 σ H1 Q I1 q1
 |false=>exact hb pins s1 σ H1 Q I1 q1
end
noncomputable def ax(K:PySem.W.Frag)(H:Hp)(a:Addr)(xs:List V):Prop:=
 Rd H a (.lst xs)\/
  ∃(o:Obj) (au:Array Value) (n:Nat),K.lookup a=some o/\o.cls=.type "list"/\o.dict=none/\o.data=.seq au n/\au.size<=sizeLine/\Vals xs au.toList
noncomputable def aQ(K:PySem.W.Frag)(H:Hp)(a:Addr)(xs:List V):Prop:=
 Rd H a (.tup xs)\/
  ∃(o:Obj) (au:Array Value) (n:Nat),K.lookup a=some o/\o.cls=.type "tuple"/\o.data=.seq au n/\au.size<=sizeLine/\Vals xs au.toList
noncomputable def Ms:Value->Option V
 |.none=>some .ak
 |.bool b=>some (.bl b)
 |.int i _=>some (.int i)
 |.str x _=>some (.str x)
 |.bytes b _=>some (.fq b)
 |.float b _=>some (.rl b)
 |.ref a=>some (.ref a)
 |.type n=>some (.ty n)
 |_=>none
theorem RelV.abs{x:V}{u:Value}(r:RelV x u):Ms u=some x:=by
 cases x with
 |ak=>cases r;rfl
 |bl _=>cases r;rfl
 |int _=>obtain⟨t,rfl⟩:=r;rfl
 |str _=>obtain⟨t,rfl⟩:=r;rfl
 |fq _=>obtain⟨t,rfl⟩:=r;rfl
 |rl _=>obtain⟨t,rfl⟩:=r;rfl
 |ref _=>cases r;rfl
 |ty _=>cases r;rfl
theorem RelV.inj{x y:V}{u:Value}(r:RelV x u)(q:RelV y u):x=y:=a4 (r.abs.symm.trans q.abs)
theorem Vals.inj:∀{xs ys:List V} {us:List Value},Vals xs us->Vals ys us->xs=ys
 |_,_,_,.nil,.nil=>rfl
 |_,_,_,.cons r t,.cons r' t'=>by rw[r.inj r',Vals.inj t t']
section
variable {X:Cx}{pins:List (Addr×Obj)}{σ:St}{H:Hp}{s:Shared}{a:Addr}{xs ys:List V}
theorem ax.of{K:PySem.W.Frag}(h:H a=some (.lst xs)):ax K H a xs:=.inl (.inl h)
theorem aQ.of{K:PySem.W.Frag}(h:H a=some (.tup xs)):aQ K H a xs:=.inl (.inl h)
theorem Inv.list(I:Inv X pins σ H s)(h:ax X.K H a xs):∃au:List Value,Vals xs au/\PlainL s.heap a au.toArray/\xs.length<=sizeLine:=by
 rcases h with h | ⟨o,au,n,hk,hc,hd,hs,hz,r⟩
 ·obtain⟨z,au,n,r,e⟩:=h.ok I.ao;exact⟨au,r,⟨_,n,e,rfl,rfl,rfl⟩,z⟩
 ·refine⟨au.toList,r,⟨o,n,I.g9 a o hk,hc,hd,by simpa using hs⟩,?_⟩;have e:=r.length;simp only[CV] at e;omega
theorem Inv.tuple(I:Inv X pins σ H s)(h:aQ X.K H a xs):∃au:List Value,Vals xs au/\IsTup s.heap a au.toArray/\xs.length<=sizeLine:=by
 rcases h with h | ⟨o,au,n,hk,hc,hs,hz,r⟩
 ·obtain⟨z,au,r,p⟩:=h.ok I.ao;exact⟨au,r,p,z⟩
 ·refine⟨au.toList,r,⟨o,I.g9 a o hk,hc,n,by simpa using hs⟩,?_⟩;have e:=r.length;simp only[CV] at e;omega
theorem Inv.Mt(I:Inv X pins σ H s)(h:ax X.K H a xs)(h':ax X.K H a ys):xs=ys:=by
 obtain⟨au,r,⟨o,n,e,_,_,d⟩,_⟩:=I.list h;obtain⟨its',r',⟨o',n',e',_,_,d'⟩,_⟩:=I.list h';rw[e] at e';cases e';rw[d] at d';injection d' with d1 _;have:au=its':=by simpa using eW Array.toList d1
 subst this;exact r.inj r'
theorem Inv.Dq(I:Inv X pins σ H s)(h:aQ X.K H a xs)(h':aQ X.K H a ys):xs=ys:=by
 obtain⟨au,r,⟨o,e,_,n,d⟩,_⟩:=I.tuple h;obtain⟨its',r',⟨o',e',_,n',d'⟩,_⟩:=I.tuple h';rw[e] at e';cases e';rw[d] at d';injection d' with d1 _;have:au=its':=by simpa using eW Array.toList d1
 subst this;exact r.inj r'
end
noncomputable abbrev Cx.hG(X:Cx)(E:Value->Shared->Prop):Cx:={X with xe:=E}
noncomputable abbrev Cx.jX(X:Cx):Cx:=X.hG λ_ _=>False
theorem Cx.Ok.hG{X:Cx}(ok:X.Ok)(E:Value->Shared->Prop):(X.hG E).Ok:=
 ⟨ok.mod,ok.kind,ok.glob,ok.blt,ok.above,ok.inj,ok.has,ok.nc,ok.hd,ok.frames,ok.eB,ok.lT,ok.bs,ok.g0,ok.ng,ok.lU,ok.gn,ok.jR⟩
theorem Cx.Ok.jf{X:Cx}{E:Value->Shared->Prop}(ok:(X.hG E).Ok):X.Ok:=
 ⟨ok.mod,ok.kind,ok.glob,ok.blt,ok.above,ok.inj,ok.has,ok.nc,ok.hd,ok.frames,ok.eB,ok.lT,ok.bs,ok.g0,ok.ng,ok.lU,ok.gn,ok.jR⟩
section
variable {X:Cx}{pins:List (Addr×Obj)}{σ:St}{H:Hp}{s:Shared}{E:Value->Shared->Prop}
theorem Inv.hG(I:Inv X pins σ H s)(E:Value->Shared->Prop):Inv (X.hG E) pins σ H s:=⟨I.ok.hG E,I.os,I.bare,I.base,I.loc,I.cell,I.free,I.eC,I.pin,I.ao,I.len⟩
theorem Inv.jf(I:Inv (X.hG E) pins σ H s):Inv X pins σ H s:=⟨I.ok.jf,I.os,I.bare,I.base,I.loc,I.cell,I.free,I.eC,I.pin,I.ao,I.len⟩
theorem SP.jf{D:Ends}{f:Flow}{s':Shared}(h:SP (X.hG E) pins D f s'):SP X pins D f s':=by
 cases f with
 |next=>obtain⟨σ',H',I,q⟩:=h;exact⟨σ',H',I.jf,q⟩
 |brk=>obtain⟨σ',H',I,q⟩:=h;exact⟨σ',H',I.jf,q⟩
 |cont=>obtain⟨σ',H',I,q⟩:=h;exact⟨σ',H',I.jf,q⟩
 |ret u=>obtain⟨v,σ',H',I,r,q⟩:=h;exact⟨v,σ',H',I.jf,r,q⟩
theorem PE.jX{e:Expr}{t:TE}(h:PE X.jX e t):PE X e t:=λpins s σ H Q I hw=>
 wpAny_mono (h pins s σ H Q (I.hG _) hw) (λ_ _ ⟨v,H',I',r,q⟩=>⟨v,H',I'.jf,r,q⟩) λ_ _ z=>False.elim z
theorem PT.jX{e:Expr}{t:TT}(h:PT X.jX e t):PT X e t:=λpins s σ H Q I hw=>
 wpAny_mono (h pins s σ H Q (I.hG _) hw) (λ_ _ ⟨H',I',q⟩=>⟨H',I'.jf,q⟩) λ_ _ z=>False.elim z
theorem eZ.jX{st:List Stmt}{t:TS}(h:eZ X.jX st t):eZ X st t:=λpins s σ H D I hw=>
 wpAny_mono (h pins s σ H D (I.hG _) hw) (λ_ _ q=>q.jf) λ_ _ z=>False.elim z
end
section
variable {X:Cx}{st:Stmt}{rest:List Stmt}{t u:TS}{e:Expr}{te:TE}{pos:Pos}
noncomputable def Dr:TS:=λD σ H=>D.nx σ H
noncomputable def yH(t u:TS):TS:=λD σ H=>t {D with nx:=u D} σ H
theorem aP:eZ X [] Dr:=λ_ _ σ H _ I h=>wpAny_execs_nil ⟨σ,H,I,h⟩
theorem af(h1:PS X st t)(h2:eZ X rest u):eZ X (st::rest) (yH t u):=by
 intro pins s σ H D I h;refine wpAny_execs_cons (aI (h1 pins s σ H {D with nx:=u D} I h) λf s1 q=>?_);cases f with
 |next=>obtain⟨σ',H',I',q⟩:=q;exact h2 pins s1 σ' H' D I' q
 |ret v=>exact q
 |brk=>exact q
 |cont=>exact q
theorem ah(h1:PS X st t):eZ X [st] t:=by
 intro pins s σ H D I h;refine wpAny_execs_cons (aI (h1 pins s σ H D I h) λf s1 q=>?_);cases f with
 |next=>exact wpAny_execs_nil q
 |ret v=>exact q
 |brk=>exact q
 |cont=>exact q
theorem Inv.quiet{pins:List (Addr×Obj)}{σ:St}{H:Hp}{s:Shared}(I:Inv X pins σ H s):interactive X.env=false:=by simp[interactive,I.ok.kind]
noncomputable def yI(te:TE):TS:=λD σ H=>te σ H λ_ H1=>D.nx σ H1
theorem cb(he:PE X e te)(hs:swapsWith e none pos.line X.env=pure false:=by rfl):PS X (.Expr e pos) (yI te):=by intro pins s σ H D I h;refine wpAny_Expr_any (aI (he pins s σ H _ I h) λv s1 zq=>?_) I.quiet hs;obtain⟨x,H1,I1,r1,q1⟩:=zq;exact⟨σ,H1,I1,q1⟩
noncomputable def rD(te:TE):TS:=λD σ H=>te σ H D.rt
theorem aC(he:PE X e te):PS X (.Return (some e) pos) (rD te):=by intro pins s σ H D I h;refine wpAny_Return_some (aI (he pins s σ H _ I h) λv s1 zq=>?_);obtain⟨x,H1,I1,r1,q1⟩:=zq;exact⟨x,σ,H1,I1,r1,q1⟩
noncomputable def u0(c:TT)(t u:TS):TS:=λD σ H=>c σ H λb H1=>if b=true then t D σ H1 else u D σ H1
theorem aO{c:Expr}{a b:List Stmt}{tc:TT}(hc:PT X c tc)(ha:eZ X a t)(hb:eZ X b u):PS X (.If c a b pos) (u0 tc t u):=by
 intro pins s σ H D I h;refine wpAny_If (aI (hc pins s σ H _ I h) λd s1 zq=>?_);obtain⟨H1,I1,q1⟩:=zq;cases d with
 |true=>exact ha pins s1 σ H1 D I1 q1
 |false=>exact hb pins s1 σ H1 D I1 q1
noncomputable def Mu:TS:=λ_ _ _=>False
theorem Mv:PS X st Mu:=λ_ _ _ _ _ _ h=>h.elim
end
noncomputable abbrev TG:=V->St->Hp->(St->Hp->Prop)->Prop
noncomputable def PG(X:Cx)(target:Expr)(t:TG):Prop:=
 ∀(pins:List (Addr×Obj)) (s:Shared) (σ:St) (H:Hp) (v:V) (u:Value) (Q:St->Hp->Prop),Inv X pins σ H s->RelV v u->t v σ H Q->
  wpAny (model X.prog X.w) X.A (assign target X.env u) (λ_ s'=>∃σ' H',Inv X pins σ' H' s'/\Q σ' H') X.xe s
noncomputable abbrev yJ:=V->V->V->Hp->(Hp->Prop)->Prop
noncomputable def Ds(X:Cx)(t:yJ):Prop:=
 ∀(pins:List (Addr×Obj)) (s:Shared) (σ:St) (H:Hp) (o i v:V) (ov iv u:Value) (Q:Hp->Prop),Inv X pins σ H s->RelV o ov->RelV i iv->RelV v u->t o i v H Q->
  wpAny (model X.prog X.w) X.A (setItem ov iv u) (λ_ s'=>∃H',Inv X pins σ H' s'/\Q H') X.xe s
noncomputable abbrev u4:=V->V->Hp->VK->Prop
noncomputable def Dt(X:Cx)(op:Operator)(t:u4):Prop:=
 ∀(pins:List (Addr×Obj)) (s:Shared) (σ:St) (H:Hp) (x y:V) (v u:Value) (Q:VK),Inv X pins σ H s->RelV x v->RelV y u->t x y H Q->
  wpAny (model X.prog X.w) X.A (inplaceOp op v u) (EP X pins σ Q) X.xe s
section
variable {X:Cx}{pos:Pos}
noncomputable def rE(i:Nat):TG:=λv σ H Q=>Q (σ.set i (some v)) H
theorem bQ{i:Nat}{x:Str}(hN:X.N.Nodup)(hi:X.N[i]?=some x)(hx:Loc X.env.scope x)(hf:X.fn x=true\/X.env.scope.names.lookup x=some .local:=by first|exact .inl rfl | exact .inr rfl | assumption):PG X (.Name x pos) (rE i):=by intro pins s σ H v u Q I r h;exact wpAny_assign_Name (yC I hN hi hx r (λs' I'=>⟨_,H,I',h⟩) hf)
noncomputable def Mw(to ti:TE)(t:yJ):TG:=λv σ H Q=>to σ H λo H1=>ti σ H1 λi H2=>t o i v H2 λH3=>Q σ H3
theorem Du{o i:Expr}{to ti:TE}{t:yJ}(ho:PE X o to)(hi:PE X i ti)(hs:Ds X t)
 (ha:∀v,assign (.Subscript o i pos) X.env v=(do
  let ov <-holding [v] (eval o X.env);let iv <-holding [v,ov] (eval i X.env)
  standAt pos
  holding [v,ov,iv] (setItem ov iv v)
  release [v,ov,iv] []):=by intro _;rfl):PG X (.Subscript o i pos) (Mw to ti t):=by
 intro pins s σ H v u Q I r h;rw[ha];refine wpAny_bind (wpAny_holding (aI (ho pins s σ H _ I h) λov s1 zq=>?_));obtain⟨x,H1,I1,r1,q1⟩:=zq;refine wpAny_bind (wpAny_holding (aI (hi pins s1 σ H1 _ I1 q1) λiv s2 zq=>?_));obtain⟨y,H2,I2,r2,q2⟩:=zq;refine wpAny_bind (wpAny_standAt (wpAny_bind (wpAny_holding (aI (hs pins s2 σ H2 x y v ov iv u _ I2 r1 r2 r q2) λ_ s3 zq=>?_))));obtain⟨H3,I3,q3⟩:=zq;exact wpAny_release ⟨σ,H3,I3,q3⟩
noncomputable def yK(te:TE)(g:TG):TS:=λD σ H=>te σ H λx H1=>g x σ H1 D.nx
theorem Dv{tg e:Expr}{te:TE}{g:TG}(he:PE X e te)(hg:PG X tg g)(hs:swapsWithSole [tg] e pos.line X.env=pure false:=by rfl)(hw:swappedStores [tg] e X.env=pure none:=by rfl)
 (h1:(assignEach [tg] X.env).map (·.2)=[assign tg X.env]:=by rfl):PS X (.Assign [tg] e pos) (yK te g):=by
 intro pins s σ H D I h;refine wpAny_Assign_stores (aI (he pins s σ H _ I h) λv s1 zq=>?_) hs hw;obtain⟨x,H1,I1,r1,q1⟩:=zq;rw[h1];exact aI (hg pins s1 σ H1 x v _ I1 r1 q1) λ_ s2 q=>q
theorem aN{i:Nat}{x:Str}{e:Expr}{te:TE}{pos':Pos}(hN:X.N.Nodup)(hi:X.N[i]?=some x)(hx:Loc X.env.scope x)(he:PE X e te)(hs:swapsWith e (some (.Name x pos')) pos.line X.env=pure false:=by rfl)(hf:X.fn x=true\/X.env.scope.names.lookup x=some .local:=by first|exact .inl rfl | exact .inr rfl | assumption) :
 PS X (.Assign [.Name x pos'] e pos) (yK te (rE i)):=by
 intro pins s σ H D I h;refine wpAny_Assign_Name (aI (he pins s σ H _ I h) λv s1 zq=>?_) hs;obtain⟨y,H1,I1,r1,q1⟩:=zq;exact yC I1 hN hi hx r1 (λs2 I2=>⟨_,H1,I2,q1⟩) hf
noncomputable def Mx(i:Nat)(te:TE)(ti:u4):TS:=λD σ H=>∃x,σ[i]?=some (some x)/\te σ H λy H1=>ti x y H1 λz H2=>D.nx (σ.set i (some z)) H2
theorem Dx{i:Nat}{x:Str}{e:Expr}{te:TE}{op:Operator}{ti:u4}{pos':Pos}(hN:X.N.Nodup)(hi:X.N[i]?=some x)(hx:Loc X.env.scope x)(he:PE X e te)(ho:Dt X op ti)(hf:X.fn x=true\/X.env.scope.names.lookup x=some .local:=by first|exact .inl rfl | exact .inr rfl | assumption) :
 PS X (.AugAssign (.Name x pos') op e pos) (Mx i te ti):=by
 intro pins s σ H D I h;obtain⟨v,e1,h⟩:=h;obtain⟨m,hn,hl⟩:=I.loc;have My:pB X.env.scope x:=by rcases hx with k | k;exact .inl k;exact .inr (.inl k)
 obtain⟨u,r,l⟩:=hl i x v hi e1 My;refine wpAny_AugAssign_Name ?_;have go:wpAny (model X.prog X.w) X.A (eval e X.env) (λw s₂=>wpAny (model X.prog X.w) X.A (inplaceOp op u w) (λr s₃=>wpAny (model X.prog X.w) X.A (storeName X.env x r) (λ_=>SP X pins D .next) X.xe s₃) X.xe s₂) X.xe s:=by refine aI (he pins s σ H _ I h) λw s1 zq=>?_;obtain⟨y,H1,I1,r1,q1⟩:=zq;refine aI (ho pins s1 σ H1 v y u w _ I1 r r1 q1) λz s2 zq=>?_;obtain⟨zv,H2,I2,r2,q2⟩:=zq;exact yC I2 hN hi hx r2 (λs3 I3=>⟨_,H2,I3,q2⟩) hf
 rcases l with ⟨hk,hm⟩ | ⟨hk,c,hc,uU⟩
 ·exact wpAny_loadName_local I.ok.kind hk hn hm go
 ·rcases hk with hk | hk
  ·exact wpAny_loadName_cell I.ok.kind hk hc uU go
  ·rcases hx with k | k
   ·have:X.env.scope.names.lookup x=some .free:=hk;rw[k] at this;cases this
   ·have:X.env.scope.names.lookup x=some .free:=hk;rw[k] at this;cases this
noncomputable def Mz(f:Int->Int->Int):u4:=λx y H Q=>∃i j,x=.int i/\y=.int j/\Q (.int (f i j)) H
theorem Dy:Dt X .Add (Mz λi j=>i+j):=by intro pins s σ H x y v u Q I r1 r2 h;obtain⟨i,j,e1,e2,q⟩:=h;subst e1;subst e2;obtain⟨t,rfl⟩:=r1;obtain⟨t',rfl⟩:=r2;exact iadd_int ⟨.int _,H,I.tok _,⟨_,rfl⟩,q⟩
noncomputable def Dz(c:TT)(tb:TS):TS:=λD σ H=>∃W:Nat->St->Hp->Prop,(∃m,W m σ H)/\∀m σ H,W m σ H->
 c σ H λb H1=>if b=true then ∃N:St->Hp->Prop,(∀σ' H',N σ' H'->∃m',m'<m/\W m' σ' H')/\tb {D with nx:=N,ct:=N,bk:=D.nx} σ H1 else D.nx σ H1
theorem u6{c:Expr}{body:List Stmt}{tc:TT}{tb:TS}(hp:PassesOwn (model X.prog X.w) X.A X.env X.xe)(hc:PT X c tc)(hb:eZ X body tb):PS X (.While c body [] pos) (Dz tc tb):=by
 intro pins s σ H D I h;obtain⟨W,⟨m0,w0⟩,turn⟩:=h;refine wpAny_While (codeAny_whileLoop (λn s'=>∃σ' H',Inv X pins σ' H' s'/\W n σ' H') ?_ m0 ⟨σ,H,I,w0⟩);rintro n s1 ⟨σ1,H1,I1,w1⟩;refine wpAny_passesOwn hp (aI (hc pins s1 σ1 H1 _ I1 (turn n σ1 H1 w1)) λb s2 zq=>?_);obtain⟨H2,I2,q2⟩:=zq;cases b with
 |true=>
  obtain⟨N,hN,q2⟩:=q2;rw[if_pos rfl];refine wpAny_passesOwn hp (aI (hb pins s2 σ1 H2 _ I2 q2) λf s3 q3=>?_);cases f with
  |next=>obtain⟨σ3,H3,I3,n3⟩:=q3;obtain⟨m',hm,w3⟩:=hN σ3 H3 n3;exact⟨m',hm,σ3,H3,I3,w3⟩
  |cont=>obtain⟨σ3,H3,I3,n3⟩:=q3;obtain⟨m',hm,w3⟩:=hN σ3 H3 n3;exact⟨m',hm,σ3,H3,I3,w3⟩
  |brk=>exact q3
  |ret v=>exact q3
 |false=>rw[if_neg dj];exact wpAny_execs_nil ⟨σ1,H2,I2,q2⟩
end
structure It where
 go:Nat->Hp->Prop
 iE:Nat->Hp->V->Hp->Prop
 stop:Nat->Hp->Prop
noncomputable def gF(X:Cx)(pins:List (Addr×Obj))(H:Hp)(b:Addr):Prop:=
 H b=none/\b≠X.env.locals/\b∉X.fs/\(b∈X.ex\/X.cQ.heap.objs.size<=b)/\(∀x c,X.env.cells.lookup x=some c->c≠b)/\∀p∈X.pn++pins,p.1≠b
theorem Inv.nj{X:Cx}{pins:List (Addr×Obj)}{σ:St}{H H':Hp}{s:Shared}{b:Addr}(I:Inv X pins σ H s)(hb:s.heap.objs.size<=b)(hn:H' b=none):gF X pins H' b:=by
 refine⟨hn,Nat.ne_of_gt (eh I.lt hb),I.Mg hb,.inr (aS I.sz hb),λx c e z=>?_,λp hp z=>?_⟩
 ·obtain⟨v,q⟩:=I.cell x c e;exact absurd (eh q.lt (by rw[z];exact hb)) (lQ _)
 ·exact absurd (eh (Heap.lt_size (I.pin p hp).1) (by rw[z];exact hb)) (lQ _)
structure Turn(P:Program)(w:World)(K:PySem.W.Frag)(tg:Expr)(J:It)(fp:List Addr)(it:Addr)(tn:Nat->Heap->Prop):Prop where
 mem:it∈fp
 obj:∀i h,tn i h->∀b∈fp,∃o,h.get? b=some o/\∀v,o.data≠.cell v
 keep:∀i h h',tn i h->(∀b∈fp,∀o,h.get? b=some o->h'.get? b=some o)->tn i h'
 item:∀(X:Cx),X.prog=P->X.w=w->X.K=K->X.calm=true->∀(i:Nat) (pins:List (Addr×Obj)) (s:Shared) (σ:St) (H:Hp) (E:Value->Shared->Prop),Inv X pins σ H s->(∀b∈fp,gF X pins H b)->tn i s.heap->J.go i H->
  wpAny (model P w) X.A (pyNext (.ref it)) (λr s1=>∃u,r=some u/\
   wpAny (model P w) X.A (letOwnedTupleGo tg (.ref it) u) (λ_ s2=>∃x H',Inv X pins σ H' s2/\RelV x u/\J.iE i H x H'/\tn (i+1) s2.heap/\∀b∈fp,H' b=none) E s1) E s
 done:∀(X:Cx),X.prog=P->X.w=w->X.K=K->X.calm=true->∀(i:Nat) (pins:List (Addr×Obj)) (s:Shared) (σ:St) (H:Hp) (E:Value->Shared->Prop),Inv X pins σ H s->(∀b∈fp,gF X pins H b)->tn i s.heap->J.stop i H->
  wpAny (model P w) X.A (pyNext (.ref it)) (λr s1=>r=none/\Inv X pins σ H s1) E s
 self:∀(A:Around) (i:Nat) (s:Shared) (Q:Value->Shared->Prop) (E:Value->Shared->Prop),tn i s.heap->Q (.ref it) s->wpAny (model P w) A (pyIter (.ref it)) Q E s
noncomputable abbrev TI:=St->Hp->(It->Hp->Prop)->Prop
noncomputable def yL(X:Cx)(pins:List (Addr×Obj))(σ:St)(tg:Expr)(R:It->Hp->Prop)(u7:Value)(s2:Shared):Prop:=
 ∃(it:Addr) (fp:List Addr) (tn:Nat->Heap->Prop) (J:It) (H':Hp),u7=.ref it/\Inv X pins σ H' s2/\Turn X.prog X.w X.K tg J fp it tn/\tn 0 s2.heap/\(∀b∈fp,gF X pins H' b)/\R J H'
noncomputable def PI(X:Cx)(tg iter:Expr)(wi:TI):Prop:=
 ∀(pins:List (Addr×Obj)) (s:Shared) (σ:St) (H:Hp) (R:It->Hp->Prop),Inv X pins σ H s->wi σ H R->
  wpAny (model X.prog X.w) X.A (eval iter X.env) (λv s1=>wpAny (model X.prog X.w) X.A (pyIter v) (yL X pins σ tg R) X.xe s1) X.xe s
theorem pF{M:Model}{A:Around}{E:Value->Shared->Prop}{s:Shared}{tg:Expr}{it:Addr}{u:Value}{o:Obj}{n:String}{vs:Array Value}{Q:Unit->Shared->Prop}(ho:s.heap.get? it=some o)(hc:o.cls=.type n)(hd:o.data=.fields vs)
 (hn:["enumerate","zip","dict_itemiterator","dict_reverseitemiterator","odict_iterator","itertools.zip_longest","itertools.pairwise"].contains n=false) (hQ:Q () s):wpAny M A (letOwnedTupleGo tg (.ref it) u) Q E s:=by
 unfold letOwnedTupleGo;cases tg<;>first
  |exact wpAny_pure hQ
  |(cases u<;>first
   |exact wpAny_pure hQ
   |(refine wpAny_bind (wpAny_load ho ?_);rw[hc,hd];show wpAny M A (if (["enumerate","zip","dict_itemiterator","dict_reverseitemiterator","odict_iterator","itertools.zip_longest","itertools.pairwise"].contains n&&vs[0]?==some (rawInt _))=true then _ else _) Q E s;rw[if_neg (by intro h;rw[hn,iC] at h;cases h)];exact wpAny_pure hQ))
noncomputable def lX(K:PySem.W.Frag)(a:Addr):It:=
 ⟨λi H=>∃xs x,ax K H a xs/\xs[i]?=some x,λi H x H'=>H'=H/\∀xs,ax K H a xs->xs[i]?=some x,λi H=>∃xs,ax K H a xs/\xs.length<=i⟩
noncomputable def lY(K:PySem.W.Frag)(a:Addr):It:=
 ⟨λi H=>∃xs x,aQ K H a xs/\xs[i]?=some x,λi H x H'=>H'=H/\∀xs,aQ K H a xs->xs[i]?=some x,λi H=>∃xs,aQ K H a xs/\xs.length<=i⟩
noncomputable def kJ(lo:Int)(n:Nat):It:=⟨λi _=>i<n,λi H x H'=>H'=H/\x=.int (lo+i),λi _=>n<=i⟩
theorem MA{P:Program}{w:World}{K:PySem.W.Frag}{tg:Expr}(a it:Addr):Turn P w K tg (lX K a) [it] it (λi h=>h.IsListIter it a i) where
 mem:=by simp
 obj:=λi h st b hb=>by
  have e:b=it:=by simpa using hb
  subst e;obtain⟨o,e,c,d⟩:=st;exact⟨o,e,λv z=>by rw[d] at z;cases z⟩
 keep:=λi h h' st k=>st.at λo e=>k it (by simp) o e
 item:=by intro X hP hw hK hc i pins s σ H E I hf st hg;subst hP hw hK;obtain⟨xs,x,hq,hx⟩:=hg;obtain⟨au,rv,p,hz⟩:=I.list hq;obtain⟨u,hu,ru⟩:=rv.get hx;obtain⟨f0,f1,f2,f3,f4,f5⟩:=hf it (by simp);refine wpAny_pyNext_list_item st p.isList (x:=u) (by simpa using hu) λh' fe sb=>?_;have I1:Inv X pins σ H {s with heap:=h'}:=I.turned (t':=s.toks) (λb o hb e=>(sb.2 b hb).trans e) f0 f1 f3 f4 f5;obtain⟨o,e,c,d⟩:=id fe;exact⟨u,rfl,pF (s:={s with heap:=h'}) e c d (by decide) ⟨x,H,I1,ru,⟨rfl,λys hy=>by rw[I.Mt hy hq];exact hx⟩,fe,λb hb=>(hf b hb).1⟩⟩
 done:=by intro X hP hw hK hc i pins s σ H E I hf st hg;subst hP hw hK;obtain⟨xs,hq,hx⟩:=hg;obtain⟨au,rv,p,hz⟩:=I.list hq;obtain⟨f0,f1,f2,f3,f4,f5⟩:=hf it (by simp);have hl:=rv.length;exact wpAny_pyNext_list_end (I.ok.hd hc) st p.isList (by simp;omega) λh' eb=>⟨rfl,I.turned (t':=s.toks) (λb o hb e=>eb b o hb e) f0 f1 f3 f4 f5⟩
 self:=λ_ _ _ _ _ st h=>wpAny_pyIter_listiter st h
theorem MB{P:Program}{w:World}{K:PySem.W.Frag}{tg:Expr}(a it:Addr):Turn P w K tg (lY K a) [it] it (λi h=>h.IsTupleIter it a i) where
 mem:=by simp
 obj:=λi h st b hb=>by
  have e:b=it:=by simpa using hb
  subst e;obtain⟨o,e,c,d⟩:=st;exact⟨o,e,λv z=>by rw[d] at z;cases z⟩
 keep:=λi h h' st k=>st.at λo e=>k it (by simp) o e
 item:=by intro X hP hw hK hc i pins s σ H E I hf st hg;subst hP hw hK;obtain⟨xs,x,hq,hx⟩:=hg;obtain⟨au,rv,p,hz⟩:=I.tuple hq;obtain⟨u,hu,ru⟩:=rv.get hx;obtain⟨f0,f1,f2,f3,f4,f5⟩:=hf it (by simp);refine wpAny_pyNext_tuple_item st (show s.heap.IsTuple a au.toArray from p) (x:=u) (by simpa using hu) λh' fe sb=>?_;have I1:Inv X pins σ H {s with heap:=h'}:=I.turned (t':=s.toks) (λb o hb e=>(sb.2 b hb).trans e) f0 f1 f3 f4 f5;obtain⟨o,e,c,d⟩:=id fe;exact⟨u,rfl,pF (s:={s with heap:=h'}) e c d (by decide) ⟨x,H,I1,ru,⟨rfl,λys hy=>by rw[I.Dq hy hq];exact hx⟩,fe,λb hb=>(hf b hb).1⟩⟩
 done:=by intro X hP hw hK hc i pins s σ H E I hf st hg;subst hP hw hK;obtain⟨xs,hq,hx⟩:=hg;obtain⟨au,rv,p,hz⟩:=I.tuple hq;obtain⟨f0,f1,f2,f3,f4,f5⟩:=hf it (by simp);have hl:=rv.length;exact wpAny_pyNext_tuple_end (I.ok.hd hc) st (show s.heap.IsTuple a au.toArray from p) (by simp;omega) λh' eb=>⟨rfl,I.turned (t':=s.toks) (λb o hb e=>eb b o hb e) f0 f1 f3 f4 f5⟩
 self:=λ_ _ _ _ _ st h=>wpAny_pyIter_tupleiter st h
theorem MC{P:Program}{w:World}{K:PySem.W.Frag}{tg:Expr}(it:Addr)(lo:Int)(n:Nat):Turn P w K tg (kJ lo n) [it] it (λi h=>IsRangeIter h it (lo+(i:Nat)*1) ((n:Int)-(i:Nat)) 1) where
 mem:=by simp
 obj:=λi h st b hb=>by
  have e:b=it:=by simpa using hb
  subst e;exact⟨_,st,λv z=>by
   have z':Data.fields _=Data.cell v:=z;cases z'⟩
 keep:=λi h h' st k=>k it (by simp) _ st
 item:=by intro X hP hw hK hc i pins s σ H E I hf st hg;subst hP hw hK;obtain⟨f0,f1,f2,f3,f4,f5⟩:=hf it (by simp);have W:=Walks.range (prog:=X.prog) (w:=X.w) (I.ok.hd hc) it lo 1 n;refine W.item i s _ _ hg st λv h' tk hv fe kk=>?_;obtain⟨t,rfl⟩:=hv;have I1:Inv X pins σ H {s with heap:=h',toks:=tk}:=I.turned (λb o hb e=>kk b o (by simpa using hb) e) f0 f1 f3 f4 f5;refine⟨_,rfl,pF (s:={s with heap:=h',toks:=tk}) (n:="range_iterator") fe rfl rfl (by decide) ⟨.int (lo+i),H,I1,⟨t,?_⟩,⟨rfl,rfl⟩,fe,λb hb=>(hf b hb).1⟩⟩;rw[Int.mul_one]
 done:=by intro X hP hw hK hc i pins s σ H E I hf st hg;subst hP hw hK;obtain⟨f0,f1,f2,f3,f4,f5⟩:=hf it (by simp);exact wpAny_pyNext_range_end (I.ok.hd hc) st (by have:n<=i:=hg;omega) λh' eb=>⟨rfl,I.turned (t':=s.toks) (λb o hb e=>eb b o hb e) f0 f1 f3 f4 f5⟩
 self:=λ_ _ _ _ _ st h=>wpAny_pyIter_rangeiter st h
section
variable {X:Cx}{tg:Expr}
noncomputable def MD(K:PySem.W.Frag)(tl:TE):TI:=λσ H R=>tl σ H λx H1=>∃a,x=.ref a/\(∃xs,ax K H1 a xs)/\R (lX K a) H1
noncomputable def DA(K:PySem.W.Frag)(tl:TE):TI:=λσ H R=>tl σ H λx H1=>∃a,x=.ref a/\(∃xs,aQ K H1 a xs)/\R (lY K a) H1
theorem dD{l:Expr}{tl:TE}(hl:PE X l tl):PI X tg l (MD X.K tl):=by
 intro pins s σ H R I h;refine aI (hl pins s σ H _ I h) λv s1 zq=>?_;obtain⟨x,H1,I1,r1,q1⟩:=zq;obtain⟨a,e,⟨xs,hq⟩,q⟩:=q1;subst e;cases r1;obtain⟨au,rv,p,hz⟩:=I1.list hq;refine wpAny_pyIter_list p.isList ?_;refine⟨s1.heap.objs.size,[s1.heap.objs.size],_,_,H1,rfl,I1.kept (t':=s1.toks) λb o e=>Heap.get?_push_of_some _ e,MA a _,⟨_,Heap.get?_push_size _ rfl,rfl,rfl⟩,λb hb=>?_,q⟩;have e:b=s1.heap.objs.size:=by simpa using hb
 subst e;exact I1.nj (bB _) (I1.ao.fresh (bB _))
theorem jg{l:Expr}{tl:TE}(hl:PE X l tl):PI X tg l (DA X.K tl):=by
 intro pins s σ H R I h;refine aI (hl pins s σ H _ I h) λv s1 zq=>?_;obtain⟨x,H1,I1,r1,q1⟩:=zq;obtain⟨a,e,⟨xs,hq⟩,q⟩:=q1;subst e;cases r1;obtain⟨au,rv,p,hz⟩:=I1.tuple hq;refine wpAny_pyIter_tuple (show s1.heap.IsTuple a au.toArray from p) ?_;refine⟨s1.heap.objs.size,[s1.heap.objs.size],_,_,H1,rfl,I1.kept (t':=s1.toks) λb o e=>Heap.get?_push_of_some _ e,MB a _,⟨_,Heap.get?_push_size _ rfl,rfl,rfl⟩,λb hb=>?_,q⟩;have e:b=s1.heap.objs.size:=by simpa using hb
 subst e;exact I1.nj (bB _) (I1.ao.fresh (bB _))
theorem ME{pins:List (Addr×Obj)}{σ:St}{H:Hp}{s:Shared}{R:It->Hp->Prop}{E:Value->Shared->Prop}{lo hi:Int}{t u v:Tok}{tk:Nat}(I:Inv X pins σ H s)(h1:-(2 ^ 62)<=lo)(h2:lo<2 ^ 62)(h3:-(2 ^ 62)<=hi)(h4:hi<2 ^ 62)
 (q:R (kJ lo (hi-lo).toNat) H):wpAny (model X.prog X.w) X.A (pyIter (.ref s.heap.objs.size)) (yL X pins σ tg R) E {s with heap:=s.heap.push {cls:=.type "range",data:=.fields #[.int lo t,.int hi u,.int 1 v]},toks:=tk}:=by
 refine wpAny_pyIter_range (IsRange.new ..) (small_one h1 h2 h3 h4) ?_;have I1:Inv X pins σ H {s with heap:=s.heap.push {cls:=.type "range",data:=.fields #[.int lo t,.int hi u,.int 1 v]},toks:=tk}:=I.kept λb o e=>Heap.get?_push_of_some _ e;refine⟨(s.heap.push {cls:=.type "range",data:=.fields #[.int lo t,.int hi u,.int 1 v]}).objs.size,[(s.heap.push {cls:=.type "range",data:=.fields #[.int lo t,.int hi u,.int 1 v]}).objs.size],_,_,H,rfl,
  I1.kept (t':=tk) λb o e=>Heap.get?_push_of_some _ e,MC _ lo (hi-lo).toNat,?_,λb hb=>?_,q⟩
 ·have e1:lo+((0:Nat):Int)*1=lo:=by simp
  have e2:(((hi-lo).toNat:Nat):Int)-((0:Nat):Int)=Builtin.Range.rangeSize lo hi 1:=by rw[rangeSize_one];split<;>omega
  show IsRangeIter _ _ (lo+((0:Nat):Int)*1) ((((hi-lo).toNat:Nat):Int)-((0:Nat):Int)) 1;rw[e1,e2];exact Heap.get?_push_size _ rfl
 ·have e:b=(s.heap.push {cls:=.type "range",data:=.fields #[.int lo t,.int hi u,.int 1 v]}).objs.size:=by simpa using hb
  subst e;exact I1.nj (bB _) (I1.ao.fresh (bB _))
noncomputable def MF(ta:TA):TI:=λσ H R=>ta σ H λvs H1=>∃j:Int,vs=[.int j]/\-(2 ^ 62)<=j/\j<2 ^ 62/\R (kJ 0 j.toNat) H1
theorem pG{a:Expr}{ta:TA}{p pos:Pos}(hg:Gl X "range")(hm:X.mg "range"=none)(ha:PA X [a] ta)(hs:starEach [a] X.env=[(false,eval a X.env)]:=by rfl):PI X tg (.Call (.Name "range" p) [a] [] pos) (MF ta):=by
 intro pins s σ H R I h;refine Call_ (uV I hg hm boot_range (Lu (aI (ha pos pins s σ H _ I h) λus s1 zq=>?_) hs rfl));obtain⟨vs,H1,I1,r1,q1⟩:=zq;obtain⟨j,e,q1,q2,q⟩:=q1;subst e;cases r1 with
 |cons r rr=>cases rr;obtain⟨t,rfl⟩:=r;exact call_range_1 (ME I1 (by omega) (by omega) q1 q2 (by simpa using q))
noncomputable def DB(wi:TI)(g:TG)(tb:TS):TS:=λD σ H=>wi σ H λJ H1=>∃W:Nat->Nat->St->Hp->Prop,(∃m,W 0 m σ H1)/\∀i m σ H,W i m σ H->
 (J.stop i H/\D.nx σ H)\/(J.go i H/\∃N:St->Hp->Prop,(∀σ' H',N σ' H'->∃m',m'<m/\W (i+1) m' σ' H')/\∀x H',J.iE i H x H'->g x σ H' λσ2 H2=>tb {D with nx:=N,ct:=N,bk:=D.nx} σ2 H2)
noncomputable def pH(fp:List Addr)(h:Heap):List (Addr×Obj):=fp.filterMap λb=>(h.get? b).map λo=>(b,o)
theorem u9{fp:List Addr}{h:Heap}{b:Addr}{o:Obj}(hb:b∈fp)(e:h.get? b=some o):(b,o)∈pH fp h:=pq.mpr ⟨b,hb,by rw[e];rfl⟩
theorem MG{fp:List Addr}{h:Heap}{p:Addr×Obj}(hp:p∈pH fp h):p.1∈fp/\h.get? p.1=some p.2:=by
 obtain⟨b,hb,e⟩:=pq.mp hp;cases q:h.get? b with
 |none=>rw[q] at e;cases e
 |some o=>rw[q] at e;have e':(b,o)=p:=a4 e;subst e';exact⟨hb,q⟩
theorem Inv.pinned{pins:List (Addr×Obj)}{σ:St}{H:Hp}{s:Shared}{fp:List Addr}(I:Inv X pins σ H s)(hf:∀b∈fp,gF X pins H b)(ho:∀b∈fp,∃o,s.heap.get? b=some o/\∀v,o.data≠.cell v):Inv X (pins++pH fp s.heap) σ H s:=
 I.Dg λp hp=>(gm.mp hp).elim (λz=>I.pin p (i5 _ z)) λz=>by obtain⟨hb,e⟩:=MG z;obtain⟨f0,f1,f2,_⟩:=hf p.1 hb;obtain⟨o,e',d⟩:=ho p.1 hb;rw[e] at e';cases e';exact⟨e,f0,f1,f2,d⟩
theorem Inv.rF{pins pl:List (Addr×Obj)}{σ:St}{H:Hp}{s:Shared}(I:Inv X (pins++pl) σ H s):Inv X pins σ H s:=I.Dg λp hp=>I.pin p (i5 _ (uD _ hp))
theorem cR{iter:Expr}{body:List Stmt}{wi:TI}{g:TG}{tb:TS}{pos:Pos}(hp:PassesOwn (model X.prog X.w) X.A X.env X.xe)(hc:X.calm=true)(hi:PI X tg iter wi)(hg:PG X tg g)(hb:eZ X body tb)
 (hs:∀x,foldedSetIterable iter X.env x=pure x:=by intro _;rfl):PS X (.For tg iter body [] pos) (DB wi g tb):=by
 intro pins s σ H D I h;refine wpAny_For (aI (hi pins s σ H _ I h) λv s1 h1=>aI h1 λu7 s2 h2=>?_) hs;obtain⟨it,fp,tn,J,H2,e,I2,T,nq,f2,W,⟨m0,w0⟩,turn⟩:=h2;subst e;have jh:∀{H':Hp},(∀b∈fp,H' b=none)->∀b∈fp,gF X pins H' b:=λhn b hb=>⟨hn b hb,(f2 b hb).2⟩;refine codeAny_forLoop_any (λn s'=>∃i σ' H',Inv X pins σ' H' s'/\tn i s'.heap/\(∀b∈fp,H' b=none)/\W i n σ' H') ?_ m0 ⟨0,σ,H2,I2,nq,λb hb=>(f2 b hb).1,w0⟩;rintro n s3 ⟨i,σ3,H3,I3,pI,rG,w3⟩;rcases turn i n σ3 H3 w3 with ⟨stop,qn⟩ | ⟨go,N,hN,step⟩
 ·refine wpAny_passesOwn hp (aI (T.done X rfl rfl rfl hc i pins s3 σ3 H3 X.xe I3 (jh rG) pI stop) λr s4 zq=>?_);obtain⟨hr,I4⟩:=zq;subst hr;exact wpAny_execs_nil ⟨σ3,H3,I4,qn⟩
 ·refine wpAny_passesOwn hp (aI (T.item X rfl rfl rfl hc i pins s3 σ3 H3 X.xe I3 (jh rG) pI go) λr s4 zq=>?_);obtain⟨u,hr,h4⟩:=zq;subst hr;refine wpAny_passesOwn hp (aI h4 λ_ s5 zq=>?_);obtain⟨x,H5,I5,r5,y5,kK,MH⟩:=zq;have MI:=I5.pinned (jh MH) (T.obj _ _ kK);refine wpAny_passesOwn hp (aI (hg _ s5 σ3 H5 x u _ MI r5 (step x H5 y5)) λ_ s6 zq=>?_);obtain⟨σ6,H6,I6,q6⟩:=zq;refine wpAny_passesOwn hp (aI (hb _ s6 σ6 H6 _ I6 q6) λf s7 q7=>?_);have again:∀{σ7:St} {H7:Hp},Inv X (pins++pH fp s5.heap) σ7 H7 s7->N σ7 H7->∃m,m<n/\∃i σ' H',Inv X pins σ' H' s7/\tn i s7.heap/\(∀b∈fp,H' b=none)/\W i m σ' H':=λ{σ7 H7} I7 n7=>by obtain⟨m',hm,w7⟩:=hN σ7 H7 n7;refine⟨m',hm,i+1,σ7,H7,I7.rF,T.keep _ _ _ kK λb hb o e=>(I7.pin (b,o) (i5 _ (i5 _ (u9 hb e)))).1,λb hb=>?_,w7⟩;obtain⟨o,e,d⟩:=T.obj _ _ kK b hb;exact(I7.pin (b,o) (i5 _ (i5 _ (u9 hb e)))).2.1
  cases f with
  |next=>obtain⟨σ7,H7,I7,n7⟩:=q7;exact again I7 n7
  |cont=>obtain⟨σ7,H7,I7,n7⟩:=q7;exact again I7 n7
  |brk=>obtain⟨σ7,H7,I7,q7⟩:=q7;exact⟨σ7,H7,I7.rF,q7⟩
  |ret v=>obtain⟨x7,σ7,H7,I7,r7,q7⟩:=q7;exact⟨x7,σ7,H7,I7.rF,r7,q7⟩
end
theorem fQ{K:PySem.W.Frag}{a:Addr}{xs:List V}{g:TG}{tb:TS}{D:Ends}{σ:St}{H:Hp}(Pv:Nat->St->Hp->Prop)(h0:Pv 0 σ H)(hl:∀i σ H,i<=xs.length->Pv i σ H->ax K H a xs)
 (hs:∀i x σ H,xs[i]?=some x->Pv i σ H->g x σ H λσ2 H2=>tb {D with nx:=Pv (i+1),ct:=Pv (i+1),bk:=D.nx} σ2 H2) (hd:∀σ H,Pv xs.length σ H->D.nx σ H) :
 ∃W:Nat->Nat->St->Hp->Prop,(∃m,W 0 m σ H)/\∀i m σ H,W i m σ H->
  ((lX K a).stop i H/\D.nx σ H)\/((lX K a).go i H/\∃N:St->Hp->Prop,(∀σ' H',N σ' H'->∃m',m'<m/\W (i+1) m' σ' H')/\∀x H',(lX K a).iE i H x H'->g x σ H' λσ2 H2=>tb {D with nx:=N,ct:=N,bk:=D.nx} σ2 H2):=by
 refine⟨λi m σ H=>m=xs.length-i/\i<=xs.length/\Pv i σ H,⟨xs.length,by simp,bY _,h0⟩,?_⟩;rintro i m σ H ⟨rfl,hi,p⟩;have q:=hl i σ H hi p;by_cases aL:i<xs.length
 ·refine .inr ⟨⟨xs,xs[i],q,by simp[aL]⟩,Pv (i+1),λσ' H' p'=>⟨xs.length-(i+1),by omega,rfl,aL,p'⟩,λx H' y=>?_⟩;obtain⟨e,y⟩:=y;subst e;exact hs i x σ _ (y xs q) p
 ·have e:i=xs.length:=by omega
  subst e;exact .inl ⟨⟨xs,q,bB _⟩,hd σ H p⟩
theorem nu{K:PySem.W.Frag}{a:Addr}{xs:List V}{g:TG}{tb:TS}{D:Ends}{σ:St}{H:Hp}(Pv:Nat->St->Hp->Prop)(h0:Pv 0 σ H)(hl:∀i σ H,i<=xs.length->Pv i σ H->aQ K H a xs)
 (hs:∀i x σ H,xs[i]?=some x->Pv i σ H->g x σ H λσ2 H2=>tb {D with nx:=Pv (i+1),ct:=Pv (i+1),bk:=D.nx} σ2 H2) (hd:∀σ H,Pv xs.length σ H->D.nx σ H) :
 ∃W:Nat->Nat->St->Hp->Prop,(∃m,W 0 m σ H)/\∀i m σ H,W i m σ H->
  ((lY K a).stop i H/\D.nx σ H)\/((lY K a).go i H/\∃N:St->Hp->Prop,(∀σ' H',N σ' H'->∃m',m'<m/\W (i+1) m' σ' H')/\∀x H',(lY K a).iE i H x H'->g x σ H' λσ2 H2=>tb {D with nx:=N,ct:=N,bk:=D.nx} σ2 H2):=by
 refine⟨λi m σ H=>m=xs.length-i/\i<=xs.length/\Pv i σ H,⟨xs.length,by simp,bY _,h0⟩,?_⟩;rintro i m σ H ⟨rfl,hi,p⟩;have q:=hl i σ H hi p;by_cases aL:i<xs.length
 ·refine .inr ⟨⟨xs,xs[i],q,by simp[aL]⟩,Pv (i+1),λσ' H' p'=>⟨xs.length-(i+1),by omega,rfl,aL,p'⟩,λx H' y=>?_⟩;obtain⟨e,y⟩:=y;subst e;exact hs i x σ _ (y xs q) p
 ·have e:i=xs.length:=by omega
  subst e;exact .inl ⟨⟨xs,q,bB _⟩,hd σ H p⟩
theorem vb{lo:Int}{n:Nat}{g:TG}{tb:TS}{D:Ends}{σ:St}{H:Hp}(Pv:Nat->St->Hp->Prop)(h0:Pv 0 σ H)
 (hs:∀i σ H,i<n->Pv i σ H->g (.int (lo+i)) σ H λσ2 H2=>tb {D with nx:=Pv (i+1),ct:=Pv (i+1),bk:=D.nx} σ2 H2) (hd:∀σ H,Pv n σ H->D.nx σ H) :
 ∃W:Nat->Nat->St->Hp->Prop,(∃m,W 0 m σ H)/\∀i m σ H,W i m σ H->
  ((kJ lo n).stop i H/\D.nx σ H)\/((kJ lo n).go i H/\∃N:St->Hp->Prop,(∀σ' H',N σ' H'->∃m',m'<m/\W (i+1) m' σ' H')/\∀x H',(kJ lo n).iE i H x H'->g x σ H' λσ2 H2=>tb {D with nx:=N,ct:=N,bk:=D.nx} σ2 H2):=by
 refine⟨λi m σ H=>m=n-i/\i<=n/\Pv i σ H,⟨n,by simp,bY _,h0⟩,?_⟩;rintro i m σ H ⟨rfl,hi,p⟩;by_cases aL:i<n
 ·refine .inr ⟨aL,Pv (i+1),λσ' H' p'=>⟨n-(i+1),by omega,rfl,aL,p'⟩,λx H' y=>?_⟩;obtain⟨e,y⟩:=y;subst e y;exact hs i σ _ aL p
 ·have e:i=n:=by omega
  subst e;exact .inl ⟨bB _,hd σ H p⟩
theorem yM{c:TT}{tb:TS}{D:Ends}{σ:St}{H:Hp}(Pv:St->Hp->Prop)(μ:St->Hp->Nat)(h0:Pv σ H)
 (hs:∀σ H,Pv σ H->c σ H λb H1=>if b=true then tb {D with nx:=λσ' H'=>Pv σ' H'/\μ σ' H' < μ σ H,ct:=λσ' H'=>Pv σ' H'/\μ σ' H' < μ σ H,bk:=D.nx} σ H1 else D.nx σ H1)
 (mono:∀σ H Q Q',(∀b H1,Q b H1->Q' b H1)->c σ H Q->c σ H Q'):Dz c tb D σ H:=by
 refine⟨λm σ H=>m=μ σ H/\Pv σ H,⟨_,rfl,h0⟩,?_⟩;rintro m σ H ⟨rfl,p⟩;refine mono σ H _ _ (λb H1 q=>?_) (hs σ H p);cases b with
 |true=>exact⟨_,λσ' H' ⟨p',l⟩=>⟨_,l,rfl,p'⟩,q⟩
 |false=>exact q
noncomputable abbrev R2:=V->V->Hp->VK->Prop
noncomputable def cF(X:Cx)(f:Value->Value->Sem Value)(r:R2):Prop:=
 ∀(pins:List (Addr×Obj)) (s:Shared) (σ:St) (H:Hp) (x y:V) (v u:Value) (Q:VK),Inv X pins σ H s->RelV x v->RelV y u->r x y H Q->
  wpAny (model X.prog X.w) X.A (f v u) (EP X pins σ Q) X.xe s
noncomputable def jY(X:Cx)(f:Value)(r:List V->Hp->VK->Prop):Prop:=
 ∀(pins:List (Addr×Obj)) (s:Shared) (σ:St) (H:Hp) (xs:List V) (us:List Value) (Q:VK),Inv X pins σ H s->Vals xs us->r xs H Q->
  wpAny (model X.prog X.w) X.A (call f us) (EP X pins σ Q) X.xe s
noncomputable def iF(r:R2)(ta tb:TE):TE:=λσ H Q=>ta σ H λx H1=>tb σ H1 λy H2=>r x y H2 Q
noncomputable def rI(C:Int->Int->Prop)(g:Int->Int->V):R2:=λx y H Q=>∃i j,x=.int i/\y=.int j/\C i j/\Q (g i j) H
noncomputable def nv(g:Int->Int->V):R2:=λx y H Q=>∃i j,x=.int i/\y=.int j/\Q (g i j) H
section
variable {X:Cx}{a b c:Expr}{ta tb tc:TE}{pos:Pos}
theorem yN(ha:PE X a ta)(hb:PE X b tb){pins:List (Addr×Obj)}{s:Shared}{σ:St}{H:Hp}{R:V->V->Hp->Prop}(I:Inv X pins σ H s)
 (h:ta σ H λx H1=>tb σ H1 λy H2=>R x y H2) {Q:Value->Shared->Prop} {f:Value->Value->Sem Value}
 (hf:∀v u s2 x y H2,Inv X pins σ H2 s2->RelV x v->RelV y u->R x y H2->wpAny (model X.prog X.w) X.A (f v u) Q X.xe s2) :
 wpAny (model X.prog X.w) X.A (eval a X.env) (λv s₁=>wpAny (model X.prog X.w) X.A (eval b X.env) (λu s₂=>wpAny (model X.prog X.w) X.A (f v u) Q X.xe s₂) X.xe s₁) X.xe s:=by
 refine aI (ha pins s σ H _ I h) λv s1 zq=>?_;obtain⟨x,H1,I1,r1,q1⟩:=zq;refine aI (hb pins s1 σ H1 _ I1 q1) λu s2 zq=>?_;obtain⟨y,H2,I2,r2,q2⟩:=zq;exact hf v u s2 x y H2 I2 r1 r2 q2
theorem cB{op:Operator}{r:R2}(ho:cF X (binaryOp op) r)(ha:PE X a ta)(hb:PE X b tb):PE X (.BinOp a op b pos) (iF r ta tb):=by intro pins s σ H Q I h;exact wpAny_BinOp (yN ha hb I h λv u s2 x y H2 I2 rx ry q=>ho pins s2 σ H2 x y v u Q I2 rx ry q)
theorem yO{f:Value->Value->Sem Value}{C:Int->Int->Prop}{g:Int->Int->Int}
 (rule:∀(i j:Int) (t u:Tok) (s:Shared) (Q:Value->Shared->Prop) (E:Value->Shared->Prop),C i j->Q (.int (g i j) s.toks) {s with toks:=s.toks+1}->wpAny (model X.prog X.w) X.A (f (.int i t) (.int j u)) Q E s) :
 cF X f (rI C λi j=>.int (g i j)):=by
 intro pins s σ H x y v u Q I rx ry h;obtain⟨i,j,rfl,rfl,hc,q⟩:=h;obtain⟨t,rfl⟩:=rx;obtain⟨t',rfl⟩:=ry;exact rule i j t t' s _ _ hc ⟨.int (g i j),H,I.tok _,⟨_,rfl⟩,q⟩
theorem MJ{f:Value->Value->Sem Value}{g:Int->Int->Int}
 (rule:∀(i j:Int) (t u:Tok) (s:Shared) (Q:Value->Shared->Prop) (E:Value->Shared->Prop),Q (.int (g i j) s.toks) {s with toks:=s.toks+1}->wpAny (model X.prog X.w) X.A (f (.int i t) (.int j u)) Q E s) :
 cF X f (nv λi j=>.int (g i j)):=by
 intro pins s σ H x y v u Q I rx ry h;obtain⟨i,j,rfl,rfl,q⟩:=h;obtain⟨t,rfl⟩:=rx;obtain⟨t',rfl⟩:=ry;exact rule i j t t' s _ _ ⟨.int (g i j),H,I.tok _,⟨_,rfl⟩,q⟩
theorem vc{f:Value->Value->Sem Value}{g:Int->Int->Bool}
 (rule:∀(i j:Int) (t u:Tok) (s:Shared) (Q:Value->Shared->Prop) (E:Value->Shared->Prop),Q (.bool (g i j)) s->wpAny (model X.prog X.w) X.A (f (.int i t) (.int j u)) Q E s) :
 cF X f (nv λi j=>.bl (g i j)):=by
 intro pins s σ H x y v u Q I rx ry h;obtain⟨i,j,rfl,rfl,q⟩:=h;obtain⟨t,rfl⟩:=rx;obtain⟨t',rfl⟩:=ry;exact rule i j t t' s _ _ ⟨.bl (g i j),H,I,rfl,q⟩
noncomputable def MK(i j:Int):Prop:=0<j/\j<1073741824
noncomputable def yP(i j:Int):Prop:=(-(2 ^ 64)<i/\i<2 ^ 64)\/(-(2 ^ 64)<j/\j<2 ^ 64)
theorem yP.ok{i j:Int}(h:yP i j):IntMulOk i j:=by
 rcases h with ⟨h1,h2⟩ | ⟨h1,h2⟩
 ·exact .of_left (intBits_le_64 h1 h2)
 ·exact .of_right (intBits_le_64 h1 h2)
theorem jZ:cF X (binaryOp .Add) (nv λi j=>.int (i+j)):=MJ λ_ _ _ _ _ _ _ q=>add_int q
theorem ML:cF X (binaryOp .Mult) (rI yP λi j=>.int (i*j)):=yO λ_ _ _ _ _ _ _ hc q=>mul_int q hc.ok
theorem MM:cF X (binaryOp .FloorDiv) (rI MK λi j=>.int (i / j)):=yO λi j _ _ _ _ _ hc q=>by have h1:(0:Int)<j:=hc.1;have h2:j<1073741824:=hc.2;exact floordiv_int (by omega) (by rw[Int.fdiv_eq_ediv_of_nonneg i (by omega)];exact q) (.inl (PyProof.noPylong_small (by omega)))
theorem DC:cF X (binaryOp .Mod) (rI (λ_ j=>0<j) λi j=>.int (i % j)):=yO λi j _ _ _ _ _ hc q=>by have h1:(0:Int)<j:=hc;exact mod_int' (by omega) (by rw[Int.fmod_eq_emod_of_nonneg i (by omega)];exact q)
end
noncomputable def DD:V->V->Bool
 |.ak,.ak=>true | .ak,.int _=>true | .int _,.ak=>true | .ak,.bl _=>true | .bl _,.ak=>true | .ak,.str _=>true | .str _,.ak=>true
 |.int _,.int _=>true | .bl _,.bl _=>true | .str _,.str _=>true | .fq _,.fq _=>true
 |.int _,.str _=>true | .str _,.int _=>true | .bl _,.str _=>true | .str _,.bl _=>true
 |_,_=>false
noncomputable def ny:R2:=λx y H Q=>DD x y=true/\Q (.bl (decide (x=y))) H
noncomputable def MN:R2:=λx y H Q=>DD x y=true/\Q (.bl (!decide (x=y))) H
theorem DE{i j:Int}:decide (V.int i=V.int j)=(i==j):=by rw[kE];simp
theorem DF{i j:Bool}:decide (V.bl i=V.bl j)=(i==j):=by rw[kE];simp
theorem DG{i j:Str}:decide (V.str i=V.str j)=(i==j):=by rw[kE];simp
theorem DH{i j:Array UInt8}:decide (V.fq i=V.fq j)=(i.toList==j.toList):=by rw[kE];cases i;cases j;simp
section
variable {X:Cx}{a b c:Expr}{ta tb tc:TE}{pos:Pos}
theorem cM{pins:List (Addr×Obj)}{σ:St}{H:Hp}{s:Shared}{Q:VK}{k k':Bool}(I:Inv X pins σ H s)(q:Q (.bl k) H)(e:k=k'):EP X pins σ Q (.bool k') s:=by subst e;exact⟨.bl k,H,I,rfl,q⟩
theorem b3:cF X (compareOp .Eq) ny:=by
 intro pins s σ H x y v u Q I rx ry h;obtain⟨hs,q⟩:=h;cases x with
 |ak=>
  cases rx;cases y with
  |ak=>cases ry;exact PySem.EqNone.eq_none_none (cM I q (by simp))
  |bl j=>cases ry;exact PySem.EqNone.eq_none_bool (cM I q (by simp))
  |int j=>obtain⟨t',rfl⟩:=ry;exact PySem.EqNone.eq_none_int (cM I q (by simp))
  |str j=>obtain⟨t',rfl⟩:=ry;exact PySem.EqNone.eq_none_str (cM I q (by simp))
  |_=>exact absurd (show false=true from hs) dj
 |bl i=>
  cases rx;cases y with
  |ak=>cases ry;exact PySem.EqNone.eq_bool_none (cM I q (by simp))
  |bl j=>cases ry;exact eq_bool (cM I q DF)
  |str j=>obtain⟨t',rfl⟩:=ry;exact PySem.EqMixed.eq_bool_str (cM I q (by simp))
  |_=>exact absurd (show false=true from hs) dj
 |int i=>
  obtain⟨t,rfl⟩:=rx;cases y with
  |ak=>cases ry;exact PySem.EqNone.eq_int_none (cM I q (by simp))
  |int j=>obtain⟨t',rfl⟩:=ry;exact eq_int (cM I q DE)
  |str j=>obtain⟨t',rfl⟩:=ry;exact PySem.EqMixed.eq_int_str (cM I q (by simp))
  |_=>exact absurd (show false=true from hs) dj
 |str i=>
  obtain⟨t,rfl⟩:=rx;cases y with
  |ak=>cases ry;exact PySem.EqNone.eq_str_none (cM I q (by simp))
  |bl j=>cases ry;exact PySem.EqMixed.eq_str_bool (cM I q (by simp))
  |int j=>obtain⟨t',rfl⟩:=ry;exact PySem.EqMixed.eq_str_int (cM I q (by simp))
  |str j=>obtain⟨t',rfl⟩:=ry;exact eq_str (cM I q DG)
  |_=>exact absurd (show false=true from hs) dj
 |fq i=>
  obtain⟨t,rfl⟩:=rx;cases y with
  |fq j=>obtain⟨t',rfl⟩:=ry;exact PySem.W.eq_bytes (cM I q DH)
  |_=>exact absurd (show false=true from hs) dj
 |_=>cases y<;>exact absurd (show false=true from hs) dj
theorem rH:cF X (compareOp .NotEq) MN:=by
 intro pins s σ H x y v u Q I rx ry h;obtain⟨hs,q⟩:=h;cases x with
 |ak=>
  cases rx;cases y with
  |ak=>cases ry;exact PySem.EqNone.ne_none_none (cM I q (by simp))
  |bl j=>cases ry;exact PySem.EqNone.ne_none_bool (cM I q (by simp))
  |int j=>obtain⟨t',rfl⟩:=ry;exact PySem.EqNone.ne_none_int (cM I q (by simp))
  |str j=>obtain⟨t',rfl⟩:=ry;exact PySem.EqNone.ne_none_str (cM I q (by simp))
  |_=>exact absurd (show false=true from hs) dj
 |bl i=>
  cases rx;cases y with
  |ak=>cases ry;exact PySem.EqNone.ne_bool_none (cM I q (by simp))
  |bl j=>cases ry;exact ne_bool (cM I q (eW not DF))
  |str j=>obtain⟨t',rfl⟩:=ry;exact PySem.EqMixed.ne_bool_str (cM I q (by simp))
  |_=>exact absurd (show false=true from hs) dj
 |int i=>
  obtain⟨t,rfl⟩:=rx;cases y with
  |ak=>cases ry;exact PySem.EqNone.ne_int_none (cM I q (by simp))
  |int j=>obtain⟨t',rfl⟩:=ry;exact ne_int (cM I q (eW not DE))
  |str j=>obtain⟨t',rfl⟩:=ry;exact PySem.EqMixed.ne_int_str (cM I q (by simp))
  |_=>exact absurd (show false=true from hs) dj
 |str i=>
  obtain⟨t,rfl⟩:=rx;cases y with
  |ak=>cases ry;exact PySem.EqNone.ne_str_none (cM I q (by simp))
  |bl j=>cases ry;exact PySem.EqMixed.ne_str_bool (cM I q (by simp))
  |int j=>obtain⟨t',rfl⟩:=ry;exact PySem.EqMixed.ne_str_int (cM I q (by simp))
  |str j=>obtain⟨t',rfl⟩:=ry;exact ne_str (cM I q (eW not DG))
  |_=>exact absurd (show false=true from hs) dj
 |fq i=>
  obtain⟨t,rfl⟩:=rx;cases y with
  |fq j=>obtain⟨t',rfl⟩:=ry;exact PySem.W.ne_bytes (cM I q (eW not DH))
  |_=>exact absurd (show false=true from hs) dj
 |_=>cases y<;>exact absurd (show false=true from hs) dj
theorem lZ:cF X (compareOp .Lt) (nv λi j=>.bl (decide (i<j))):=vc λ_ _ _ _ _ _ _ q=>lt_int q
theorem pJ:cF X (compareOp .LtE) (nv λi j=>.bl (decide (i<=j))):=vc λ_ _ _ _ _ _ _ q=>le_int q
theorem rJ:cF X (compareOp .Gt) (nv λi j=>.bl (decide (j<i))):=vc λ_ _ _ _ _ _ _ q=>gt_int q
theorem DI:cF X (compareOp .GtE) (nv λi j=>.bl (decide (j<=i))):=vc λ_ _ _ _ _ _ _ q=>ge_int q
theorem cF.or{f:Value->Value->Sem Value}{r r':R2}(h:cF X f r)(h':cF X f r'):cF X f (λx y H Q=>r x y H Q\/r' x y H Q):=by
 intro pins s σ H x y v u Q I rx ry q;rcases q with q | q
 ·exact h pins s σ H x y v u Q I rx ry q
 ·exact h' pins s σ H x y v u Q I rx ry q
theorem aY(b:Expr){op:CmpOp}(h:op≠.In:=by decide)(h2:op≠.NotIn:=by decide):behindInMarks op b=false:=by
 have e1:(op==CmpOp.In)=false:=by cases op<;>first|rfl | exact absurd rfl h
 have e2:(op==CmpOp.NotIn)=false:=by cases op<;>first|rfl | exact absurd rfl h2
 cases b<;>simp[behindInMarks,e1,e2]
theorem j0{op:CmpOp}{r:R2}(ho:cF X (compareOp op) r)(ha:PE X a ta)(hb:PE X b tb)(hm:behindInMarks op b=false):PE X (.Compare a [op] [b] pos) (iF r ta tb):=by intro pins s σ H Q I h;exact wpAny_Compare1 (yN ha hb I h λv u s2 x y H2 I2 rx ry q=>ho pins s2 σ H2 x y v u Q I2 rx ry q) hm
noncomputable def l9(t:TE):TT:=λσ H Q=>t σ H λx H'=>∃k,x=.bl k/\Q k H'
theorem bo{op:CmpOp}{r:R2}(ho:cF X (compareOp op) r)(ha:PE X a ta)(hb:PE X b tb)(hm:behindInMarks op b=false):PT X (.Compare a [op] [b] pos) (l9 (iF r ta tb)):=by
 intro pins s σ H Q I h;refine wpAny_isTrue_Compare1 (aI (ha pins s σ H _ I h) λv s1 ⟨x,H1,I1,r1,q1⟩=>aI (hb pins s1 σ H1 _ I1 q1) λu s2 ⟨y,H2,I2,r2,q2⟩=>
  aI (ho pins s2 σ H2 x y v u _ I2 r1 r2 q2) λc s3 ⟨z,H3,I3,r3,k,e,q3⟩=>?_) hm
 subst e;cases r3;exact wpAny_truthy_bool ⟨H3,I3,q3⟩
noncomputable def MO(r r':R2)(ta tb tc:TE):TE:=λσ H Q=>ta σ H λx H1=>tb σ H1 λy H2=>r x y H2 λz H3=>∃k,z=.bl k/\
 (if k=true then tc σ H3 λw' H4=>r' y w' H4 Q else Q (.bl false) H3)
theorem DJ{op yQ:CmpOp}{r r':R2}(ho:cF X (compareOp op) r)(cX:cF X (compareOp yQ) r')(ha:PE X a ta)(hb:PE X b tb)(hc:PE X c tc)
 (hm:lastMarks [op,yQ] [b,c]=false:=by with_unfolding_all rfl):PE X (.Compare a [op,yQ] [b,c] pos) (MO r r' ta tb tc):=by
 intro pins s σ H Q I h;refine Compare_chain (aI (ha pins s σ H _ I h) λv s1 ⟨x,H1,I1,r1,q1⟩=>chain_link (aI (hb pins s1 σ H1 _ I1 q1) λu s2 ⟨y,H2,I2,r2,q2⟩=>
  aI (ho pins s2 σ H2 x y v u _ I2 r1 r2 q2) λd s3 ⟨z,H3,I3,r3,k,e,q3⟩=>?_)) hm
 subst e;cases r3;refine wpAny_truthy_bool ?_;cases k with
 |false=>exact ite_ff ⟨.bl false,H3,I3,rfl,q3⟩
 |true=>exact ite_tt (chain_last (aI (hc pins s3 σ H3 _ I3 q3) λw' s4 ⟨z',H4,I4,r4,q4⟩=>cX pins s4 σ H4 y z' u w' Q I4 r2 r4 q4))
theorem ve:(sizeLine:Nat)<2 ^ 63:=by rw[sizeLine_eq];decide
theorem vals1{x:V}{us:List Value}(r:Vals [x] us):∃u,us=[u]/\RelV x u:=by
 cases r with
 |cons r1 r2=>cases r2;exact⟨_,rfl,r1⟩
end
structure pK(h:Heap)(x dx C:Addr)(mA:Str->Option Value):Prop where
 obj:h.get? x=some (PySem.W.instObj C dx)
 ns:h.Ns1 dx mA
 ne:dx≠x
theorem MP{h:Heap}{dx:Addr}{mA:Str->Option Value}(n:h.Ns1 dx mA):∃od,h.get? dx=some od/\∀name,PySem.W.lookIn name od=some (mA name):=by
 obtain⟨o,es,ep,ho,hd,hk,_,hm⟩:=n;refine⟨o,ho,λname=>?_⟩;have e:=hm name;unfold nsFind findBy at e;rw[<-Array.find?_toList] at e;unfold PySem.W.lookIn;rw[hd];dsimp only;split
 ·rename_i y q;rw[q] at e;exact eW some e
 ·rename_i q;rw[q] at e;have a:es.toList.any (·.refKey)=false:=by rw[List.any_eq_false];intro y hy;obtain⟨z,t,gH⟩:=hk y (Array.mem_toList_iff.mp hy);simp[DictEntry.refKey,gH]
  have a':¬es.toList.any (·.refKey)=true:=by rw[a];exact dj
  rw[if_neg a'];exact eW some e
theorem pK.look{h:Heap}{x dx C:Addr}{mA:Str->Option Value}(I:pK h x dx C mA):∃od,PySem.W.InstAt h x (PySem.W.instObj C dx) C (some od)/\∀name,PySem.W.lookIn name od=some (mA name):=
 let ⟨od,ho,hl⟩:=MP I.ns
 ⟨od,⟨I.obj,rfl,rfl,ho⟩,hl⟩
section
variable {prog:Program}{w:World}{A:Around}{E:Value->Shared->Prop}{s:Shared}{K:PySem.W.Frag}{x dx C f:Addr}{mA:Str->Option Value}{name:Str}{v:Value}
theorem get_map{expr:Bool}{Q:Value->Shared->Prop}(X:K.In s.heap)(I:pK s.heap x dx C mA)(hg:PySem.W.plainGet K C name=true)(hh:PySem.W.hasDictIn K C=true)
 (ha:PySem.W.findIn K (.ref C) name=some none) (hv:mA name=some v) (MQ:PySem.W.handedIn v=true) (h:Q v {s with toks:=s.toks+1}) :
 wpAny (model prog w) A (getAttr (.ref x) name expr) Q E s:=by
 obtain⟨od,J,hl⟩:=I.look;exact PySem.W.get_value X J (PySem.W.plainGet_of hg).1 (PySem.W.findObj_own hh ha rfl (by rw[hl,hv])) MQ h
theorem MR{ns:List Str}{Q:Unit->Shared->Prop}(X:K.In s.heap)(I:pK s.heap x dx C mA)
 (hs:PySem.W.findIn K (.ref C) "__setattr__"=some (some (.builtin "object.__setattr__"))) (hp:PySem.W.plainOver K C=true) (ht:PySem.W.takerIn K C name=some none) (hh:PySem.W.hasDictIn K C=true)
 (hw:PySem.Within mA ns) (hsz:ns.length<=sizeLine)
 (h:∀h',pK h' x dx C (λy=>if y=name then some v else mA y)->Heap.SameBut dx s.heap h'->Q () {s with heap:=h',toks:=s.toks+2}) :
 wpAny (model prog w) A (setAttr (.ref x) name v) Q E s:=by
 obtain⟨od,J,hl⟩:=I.look;refine PySem.W.set_plain X J hs (PySem.W.osa_open (s:={s with toks:=s.toks+1}) (r:=none) X J hp ht λb=>?_);obtain⟨cd,hc,yA⟩:=PySem.W.any_some hh;have hx:s.heap.get? x=some ⟨.ref C,some dx,.plain,#[]⟩:=I.obj;refine wpAny_bind (wpAny_pure (wpAny_bind (wpAny_bind (wpAny_loadPart hx (wpAny_bind (PySem.W.Looks.here (s:={s with toks:=s.toks+1}) (PySem.W.looks_clsIn X hc) ?_))))));rw[yA];refine wpAny_pure (a:=some dx) (wpAny_bind (wpAny_pure (wpAny_bind ?_)));refine wpAny_nsSet1 (s:={s with toks:=s.toks+1}) I.ns λh' ji nz=>?_;obtain⟨oD,Zs,Zt,MS,MT,vf⟩:=ji.count (PySem.Within.cons name v hw);refine wpAny_bind (wpAny_lookBehind MS (by rw[MT];exact pastItsLine_dict (aS vf (by rw[cu];omega))) ?_);exact wpAny_pure (h _ ⟨(nz.2 _ (bu I.ne)).trans I.obj,ji,I.ne⟩ nz)
theorem MU{R:Result->Shared->Prop}{vs:List Value}{kw:List (Str×Value)}(X:K.In s.heap)(hm:PySem.W.makesIn K C=true)
 (hi:PySem.W.findIn K (.ref C) "__init__"=some (some (.ref f))) (hf:PySem.W.typeIn K (.ref f)=some (.type "function"))
 (h:codeAny (model prog w) (A.under (.builtin "type.__call__" ⟨.ref C::vs,kw⟩)) (.call (.ref f) ⟨.ref (s.heap.objs.size+1)::vs,kw⟩) (PySem.W.InitBack (s.heap.objs.size+1) R)
  {s with heap:=(s.heap.push PySem.W.emptyDict).push (PySem.W.instObj C s.heap.objs.size)}) :
 codeAny (model prog w) A (.call (.ref C) ⟨vs,kw⟩) R s:=by
 obtain⟨hh,g,d,t,os⟩:=s;exact PySem.W.make_core (PySem.W.makes_of X hm) (PySem.W.looks_findIn X hi) (λself=>PySem.W.bind_fn X self hf) (.inl rfl) h
end
noncomputable def bM(f:Str)(v:V):List (Str×V)->List (Str×V)
 |[]=>[(f,v)]
 |(g,x)::r=>if g=f then (g,v)::r else (g,x)::bM f v r
theorem DK(f g:Str)(v:V):∀fs:List (Str×V),(bM f v fs).lookup g=if g=f then some v else fs.lookup g
 |[]=>by
  show List.lookup g [(f,v)]=_;by_cases h:g=f
  ·have hb:(g==f)=true:=jb.mpr h;simp only[List.lookup,hb,if_pos h]
  ·have hb:(g==f)=false:=dt.mpr h;simp only[List.lookup,hb,if_neg h]
 |(k,x)::r=>by
  have ih:=DK f g v r;rw[show bM f v ((k,x)::r)=(if k=f then (k,v)::r else (k,x)::bM f v r) from rfl];by_cases hk:k=f
  ·rw[if_pos hk];by_cases h:g=k
   ·have hb:(g==k)=true:=jb.mpr h;simp only[List.lookup,hb,if_pos (h.trans hk)]
   ·have hb:(g==k)=false:=dt.mpr h;simp only[List.lookup,hb,if_neg (λe:g=f=>h (e.trans hk.symm))]
  ·rw[if_neg hk];by_cases h:g=k
   ·have hb:(g==k)=true:=jb.mpr h;simp only[List.lookup,hb,if_neg (λe:g=f=>hk (h.symm.trans e))]
   ·have hb:(g==k)=false:=dt.mpr h;simp only[List.lookup,hb];exact ih
theorem yR(f:Str)(v:V):∀fs:List (Str×V),f∈(bM f v fs).map (·.1)/\∀g,g∈fs.map (·.1)->g∈(bM f v fs).map (·.1)
 |[]=>⟨by simp[bM],λg h=>by simp at h⟩
 |(k,x)::r=>by
  obtain⟨i1,i2⟩:=yR f v r;rw[show bM f v ((k,x)::r)=(if k=f then (k,v)::r else (k,x)::bM f v r) from rfl];by_cases hk:k=f
  ·rw[if_pos hk];subst hk;exact⟨by simp,λg h=>by simpa using h⟩
  ·rw[if_neg hk];refine⟨?_,λg h=>?_⟩
   ·rw[bX];exact bO _ i1
   ·rw[bX] at h ⊢;rcases bL.mp h with e | e
    ·exact bL.mpr (.inl e)
    ·exact bO _ (i2 g e)
theorem yS(f:Str)(v:V):∀fs:List (Str×V),(bM f v fs).length<=fs.length+1
 |[]=>by simp[bM]
 |(k,x)::r=>by
  have ih:=yS f v r;rw[show bM f v ((k,x)::r)=(if k=f then (k,v)::r else (k,x)::bM f v r) from rfl];by_cases hk:k=f
  ·rw[if_pos hk,cu,cu];omega
  ·rw[if_neg hk,cu,cu];omega
theorem eX.some_of{v:V}{o:Option Value}(r:eX (some v) o):∃u,o=some u/\RelV v u:=by
 cases o with
 |none=>exact(show False from r).elim
 |some u=>exact⟨u,rfl,r⟩
theorem eX.none_of{o:Option Value}(r:eX none o):o=none:=by
 cases o with
 |none=>rfl
 |some u=>exact(show False from r).elim
theorem MV{v:V}{u:Value}(r:RelV v u):PySem.W.handedIn u=true:=by
 cases v with
 |ak=>cases(show u=Value.none from r);rfl
 |bl b=>cases(show u=Value.bool b from r);rfl
 |int i=>obtain⟨t,e⟩:=(show ∃t,u=Value.int i t from r);cases e;rfl
 |str x=>obtain⟨t,e⟩:=(show ∃t,u=Value.str x t from r);cases e;rfl
 |fq b=>obtain⟨t,e⟩:=(show ∃t,u=Value.bytes b t from r);cases e;rfl
 |rl b=>obtain⟨t,e⟩:=(show ∃t,u=Value.float b t from r);cases e;rfl
 |ref a=>cases(show u=Value.ref a from r);rfl
 |ty n=>cases(show u=Value.type n from r);rfl
section
variable {P:Program}{w:World}{H H':Hp}{h h':Heap}{a C dx:Addr}{fs jP:List (Str×V)}
theorem DL(ao:bT P w H h)(e:H a=some (.ins C dx fs)):∃mA,pK h a dx C mA/\(∀f,eX (fs.lookup f) (mA f))/\PySem.Within mA (fs.map (·.1))/\fs.length<=1000/\H dx=some (.own a):=by obtain⟨d,z,ne,ob,mA,n,r,q⟩:=(show cV P w H h a (.ins C dx fs) from ao a _ e);exact⟨mA,⟨ob,n,ne⟩,r,q,z,d⟩
end
structure hJ(K:PySem.W.Frag)(C:Addr):Prop where
 pg:PySem.W.plainGet K C Str.empty=true
 hd:PySem.W.hasDictIn K C=true
 po:PySem.W.plainOver K C=true
 sa:PySem.W.findIn K (.ref C) "__setattr__"=some (some (.builtin "object.__setattr__"))
theorem hJ.get{K:PySem.W.Frag}{C:Addr}(c:hJ K C)(f:Str):PySem.W.plainGet K C f=true:=c.pg
noncomputable def ck(K:PySem.W.Frag)(C:Addr)(f:Str):Prop:=PySem.W.findIn K (.ref C) f=some none
theorem ck.MW{K:PySem.W.Frag}{C:Addr}{f:Str}(n:ck K C f):PySem.W.takerIn K C f=some none:=by unfold PySem.W.takerIn;rw[show PySem.W.findIn K (.ref C) f=some none from n];rfl
section
variable {X:Cx}{pins:List (Addr×Obj)}{σ:St}{H:Hp}{s:Shared}{a C dx:Addr}{fs:List (Str×V)}{f:Str}{v:V}{A:Around}{E:Value->Shared->Prop}
theorem DM{b:Bool}{Q:Value->Shared->Prop}(I:Inv X pins σ H s)(e:H a=some (.ins C dx fs))(c:hJ X.K C)(n:ck X.K C f)(l:fs.lookup f=some v)
 (h:∀u s',Inv X pins σ H s'->RelV v u->Q u s'):wpAny (model X.prog X.w) A (getAttr (.ref a) f b) Q E s:=by
 obtain⟨mA,O,r,_,_,_⟩:=DL I.ao e;obtain⟨u,hu,ru⟩:=eX.some_of (v:=v) (o:=mA f) (by rw[<-l];exact r f);exact get_map I.g9 O (c.get f) c.hd n hu (MV ru) (h u _ (I.tok _) ru)
theorem DN{y:V}{u:Value}{Q:Unit->Shared->Prop}(I:Inv X pins σ H s)(e:H a=some (.ins C dx fs))(c:hJ X.K C)(n:ck X.K C f)(hl:fs.length<1000)(ry:RelV y u)
 (h:∀s',Inv X pins σ (upd H a (.ins C dx (bM f y fs))) s'->Q () s'):wpAny (model X.prog X.w) A (setAttr (.ref a) f u) Q E s:=by
 obtain⟨mA,O,r,wi,_,ho⟩:=DL I.ao e;have hz:(fs.map (·.1)).length<=sizeLine:=by rw[aF,sizeLine_eq];omega
 refine MR I.g9 O c.sa c.po n.MW c.hd wi hz λh' O' sb=>h _ ?_;have hd:∃o,h'.get? dx=some o:=let ⟨o,_,_,e',_⟩:=O'.ns;⟨o,e'⟩;refine I.write (x:=a) (e:=dx) (by rw[e];exact True.intro) (.inr ho) (λb q hb z=>(sb.2 b hb).trans z) hd ?_;refine⟨by rw[aw O.ne];exact ho,?_,O.ne,O'.obj,_,O'.ns,λg=>?_,λg hg=>?_⟩
 ·have:=yS f y fs;omega
 ·show eX ((bM f y fs).lookup g) (if g=f then some u else mA g);rw[DK];by_cases q:g=f
  ·rw[if_pos q,if_pos q];exact ry
  ·rw[if_neg q,if_neg q];exact r g
 ·by_cases q:g=f
  ·rw[q];exact(yR f y fs).1
  ·refine(yR f y fs).2 g (wi g λz=>hg ?_);show(if g=f then some u else mA g)=none;rw[if_neg q];exact z
theorem Inv.made(I:Inv X pins σ H s):Inv X pins σ (upd (upd H s.heap.objs.size (.own (s.heap.objs.size+1))) (s.heap.objs.size+1) (.ins C s.heap.objs.size []))
 {s with heap:=(s.heap.push PySem.W.emptyDict).push (PySem.W.instObj C s.heap.objs.size)}:=by
 have e1:(s.heap.push PySem.W.emptyDict).get? s.heap.objs.size=some PySem.W.emptyDict:=Heap.get?_push_size s.heap rfl;have e2:((s.heap.push PySem.W.emptyDict).push (PySem.W.instObj C s.heap.objs.size)).get? (s.heap.objs.size+1)=some (PySem.W.instObj C s.heap.objs.size):=by have:=Heap.get?_push_size (s.heap.push PySem.W.emptyDict) (o:=PySem.W.instObj C s.heap.objs.size) rfl;rwa[Heap.size_push] at this
 have e3:(s.heap.push PySem.W.emptyDict).Ns s.heap.objs.size (λ_=>none):=⟨PySem.W.emptyDict,#[],_,e1,rfl,(λe he=>absurd he (by simp)),λ_=>rfl⟩;have I1:=I.laid (a:=s.heap.objs.size) (o:=.own (s.heap.objs.size+1)) (h':=s.heap.push PySem.W.emptyDict) (t':=s.toks) (λb u q=>Heap.get?_push_of_some _ q) (bB _) ⟨_,e1⟩;refine I1.laid (a:=s.heap.objs.size+1) (o:=.ins C s.heap.objs.size []) (t':=s.toks) (λb u q=>Heap.get?_push_of_some _ q) (uP (Heap.size_push _ _)) ?_;have ne:s.heap.objs.size≠s.heap.objs.size+1:=gE (LJ _);refine⟨by rw[aw ne,ag],bY _,ne,e2,λ_=>none,(Heap.Ns1.of_empty e3).at λo q=>Heap.get?_push_of_some _ q,λ_=>True.intro,λy hy=>absurd rfl hy⟩
theorem MX{prog:Program}{w:World}{env:Env}{e:Expr}{f:Str}{pos:Pos}{s:Shared}{Q:Value->Shared->Prop}(hb:attributeBase e f env (eval e env)=eval e env)
 (h:wpAny (model prog w) A (eval e env) (λo s₁=>wpAny (model prog w) A (getAttr o f true) Q E s₁) E s):wpAny (model prog w) A (eval (.Attribute e f pos) env) Q E s:=
 Attribute_any_ h (by rw[arm_eval_Attribute,hb])
end
noncomputable def dO(K:PySem.W.Frag)(ta:TE)(f:Str):TE:=λσ H Q=>ta σ H λx H1=>∃a C dx fs v,x=.ref a/\H1 a=some (.ins C dx fs)/\hJ K C/\ck K C f/\fs.lookup f=some v/\Q v H1
noncomputable def DO(K:PySem.W.Frag)(ta tv:TE)(f:Str):TS:=λD σ H=>tv σ H λy H1=>ta σ H1 λx H2=>∃a C dx fs,x=.ref a/\H2 a=some (.ins C dx fs)/\hJ K C/\ck K C f/\fs.length<1000/\
 D.nx σ (upd H2 a (.ins C dx (bM f y fs)))
noncomputable def vg(X:Cx)(op:Operator)(rd:V->V->Hp->VK->Prop):Prop:=
 ∀(pins:List (Addr×Obj)) (s:Shared) (σ:St) (H:Hp) (x y:V) (u v:Value) (Q:VK),Inv X pins σ H s->RelV x u->RelV y v->rd x y H Q->wpAny (model X.prog X.w) X.A (inplaceOp op u v) (EP X pins σ Q) X.xe s
noncomputable def MY(K:PySem.W.Frag)(ta tv:TE)(rd:V->V->Hp->VK->Prop)(f:Str):TS:=λD σ H=>ta σ H λx H1=>∃a C dx fs v,x=.ref a/\H1 a=some (.ins C dx fs)/\hJ K C/\ck K C f/\fs.lookup f=some v/\
 tv σ H1 λy H2=>rd v y H2 λz H3=>∃cG jP,H3 a=some (.ins C cG jP)/\jP.length<1000/\D.nx σ (upd H3 a (.ins C cG (bM f z jP)))
section
variable {X:Cx}{o e value:Expr}{f:Str}{pos pos' yT:Pos}{ta tv:TE}
theorem aj(he:PE X e ta)(hb:attributeBase e f X.env (eval e X.env)=eval e X.env):PE X (.Attribute e f pos) (dO X.K ta f):=by intro pins s σ H Q I h;refine MX hb (aI (he pins s σ H _ I h) λu s1 zq=>?_);obtain⟨x,H1,I1,rx,a,C,dx,fs,v,ex,ea,c,n,l,q⟩:=zq;subst ex;obtain rfl:u=Value.ref a:=rx;exact DM I1 ea c n l λu' s2 I2 ru=>⟨v,H1,I2,ru,q⟩
theorem bI(ha:PE X o ta)(hv:PE X value tv)(hs:swapsWith value (some (.Attribute o f pos')) pos.line X.env=pure false):PS X (.Assign [.Attribute o f pos'] value pos) (DO X.K ta tv f):=by intro pins s σ H D I h;refine plainObj_wpAny_Assign_Attribute (aI (hv pins s σ H _ I h) λu s1 zq=>?_) hs;obtain⟨y,H1,I1,ry,q⟩:=zq;refine aI (ha pins s1 σ H1 _ I1 q) λov s2 zq=>?_;obtain⟨x,H2,I2,rx,a,C,dx,fs,ex,ea,c,n,l,q2⟩:=zq;subst ex;obtain rfl:ov=Value.ref a:=rx;exact DN I2 ea c n l ry λs3 I3=>⟨σ,_,I3,q2⟩
theorem DP{op:Operator}{rd:V->V->Hp->VK->Prop}(ha:PE X o ta)(hv:PE X value tv)(yU:vg X op rd):PS X (.AugAssign (.Attribute o f yT) op value pos) (MY X.K ta tv rd f):=by intro pins s σ H D I h;refine wpAny_AugAssign_AttributeAny (aI (ha pins s σ H _ I h) λov s1 zq=>?_);obtain⟨x,H1,I1,rx,a,C,dx,fs,v,ex,ea,c,n,l,q⟩:=zq;subst ex;obtain rfl:ov=Value.ref a:=rx;refine DM I1 ea c n l λu s2 I2 ru=>aI (hv pins s2 σ H1 _ I2 q) λw3 s3 zq=>?_;obtain⟨y,H2,I3,ry,q3⟩:=zq;refine aI (yU pins s3 σ H2 v y u w3 _ I3 ru ry q3) λw4 s4 zq=>?_;obtain⟨z,H3,I4,rz,cG,jP,MZ,l',q4⟩:=zq;exact DN I4 MZ c n l' rz λs5 I5=>⟨σ,_,I5,q4⟩
noncomputable def M0:V->V->Hp->VK->Prop:=λx y H Q=>∃i j,x=.int i/\y=.int j/\Q (.int (i+j)) H
noncomputable def M3:V->V->Hp->VK->Prop:=λx y H Q=>∃i j,x=.int i/\y=.int j/\Q (.int (i-j)) H
theorem DQ:vg X .Add M0:=by rintro pins s σ H x y u v Q I rx ry ⟨i,j,rfl,rfl,q⟩;obtain⟨t,rfl⟩:=(show ∃t,u=Value.int i t from rx);obtain⟨t',rfl⟩:=(show ∃t',v=Value.int j t' from ry);exact PyProof.Rows.iadd_int ⟨.int (i+j),H,I.tok _,⟨_,rfl⟩,q⟩
theorem M4:vg X .Sub M3:=by rintro pins s σ H x y u v Q I rx ry ⟨i,j,rfl,rfl,q⟩;obtain⟨t,rfl⟩:=(show ∃t,u=Value.int i t from rx);obtain⟨t',rfl⟩:=(show ∃t',v=Value.int j t' from ry);exact PyProof.Rows.isub_int ⟨.int (i-j),H,I.tok _,⟨_,rfl⟩,q⟩
end
section
variable {X:Cx}{pins:List (Addr×Obj)}{σ:St}{H:Hp}{s:Shared}{A:Around}{E:Value->Shared->Prop}{Q:Value->Shared->Prop}{c:Value}{b:Bool}
end
structure cp(k:Nat)(A:Around):Prop where
 hd:A.handled=none
 dp:A.depth+3*k+5<recursionLimit
 un:A.units+16*k+200<cLine
theorem cp.mono{j k:Nat}{A:Around}(r:cp k A)(h:j<=k):cp j A:=⟨r.hd,by have:=r.dp;omega,by have:=r.un;omega⟩
theorem cp.deeper{k:Nat}{A:Around}(r:cp (k+1) A)(env:Env):cp k (A.deeper env):=
 ⟨r.hd,by have:=r.dp;show A.depth+1+3*k+5 < _;omega,by have:=r.un;show A.units+3+16*k+200 < _;omega⟩
theorem cp.in1{k:Nat}{A:Around}(r:cp (k+1) A):cp k A.in1:=
 ⟨r.hd,by have:=r.dp;show A.depth+3*k+5 < _;omega,by have:=r.un;show A.units+1+16*k+200 < _;omega⟩
theorem M5{A:Around}{C:Addr}{us:List Value}{kw:List (Str×Value)}:(A.under (.builtin "type.__call__" ⟨.ref C::us,kw⟩)).depth=A.depth+1:=by
 first|rfl | simp[Around.under,Code.weight,Code.isCreation,Code.isGuard,Code.isCaller,Code.frames,Code.isFrame,guardIds]
theorem M6{A:Around}{C:Addr}{us:List Value}{kw:List (Str×Value)}:(A.under (.builtin "type.__call__" ⟨.ref C::us,kw⟩)).units=A.units+1:=by
 first|rfl | simp[Around.under,Code.cUnits,Code.frames,Code.isFrame]
theorem cp.make{k:Nat}{A:Around}(r:cp (k+1) A)(C:Addr)(us:List Value)(kw:List (Str×Value)):cp k (A.under (.builtin "type.__call__" ⟨.ref C::us,kw⟩)):=
 ⟨r.hd,by have:=r.dp;rw[M5];omega,by have:=r.un;rw[M6];omega⟩
theorem cp.depth{k:Nat}{A:Around}(r:cp k A):A.depth<recursionLimit:=by have:=r.dp;omega
theorem cp.units{k:Nat}{A:Around}(r:cp k A):A.units+64<cLine:=by have:=r.un;omega
noncomputable def iG:TA:=λ_ H Q=>Q [] H
noncomputable def jj(ta:TE)(tr:TA):TA:=λσ H Q=>ta σ H λx H1=>tr σ H1 λxs H2=>Q (x::xs) H2
section
variable {X:Cx}{e:Expr}{es:List Expr}{te:TE}{t:TA}{pos:Pos}
theorem ae:PA X [] iG:=λ_ _ _ _ H Q I h=>Calls.spliced_nil ⟨[],H,I,.nil,h⟩
theorem aa(ha:PE X e te)(hr:PA X es t)(hs:starEach (e::es) X.env=(false,eval e X.env)::starEach es X.env:=by rfl):PA X (e::es) (jj te t):=by intro pos pins s σ H Q I h;rw[hs];show wpAny _ _ (spliced ((false,eval e X.env)::backTo pos (starEach es X.env))) _ _ s;refine Calls.spliced_cons (aI (ha pins s σ H _ I h) λu s1 zq=>?_);obtain⟨x,H1,I1,r1,q1⟩:=zq;refine aI (hr pos pins s1 σ H1 _ I1 q1) λus s2 zq=>?_;obtain⟨xs,H2,I2,r2,q2⟩:=zq;exact⟨x::xs,H2,I2,.cons r1 r2,q2⟩
noncomputable def M7(t:TA):TE:=λσ H Q=>t σ H λxs H1=>xs.length<=sizeLine/\∀p,H1 p=none->Q (.ref p) (upd H1 p (.tup xs))
noncomputable def yV(t:TA):TE:=λσ H Q=>t σ H λxs H1=>xs.length<=sizeLine/\∀p,H1 p=none->Q (.ref p) (upd H1 p (.lst xs))
theorem vh{x1}(h:PA X es t):PE X (.Tuple es x1 pos) (M7 t):=by intro pins s σ H Q I hq;refine wpAny_Tuple_spliced (aI (h pos pins s σ H _ I hq) λus s1 zq=>?_);obtain⟨xs,H1,I1,r,z,q⟩:=zq;refine⟨by rw[<-r.length];exact z,?_⟩;have hf:H1 s1.heap.objs.size=none:=I1.ao.fresh (bB _);refine⟨.ref s1.heap.objs.size,upd H1 s1.heap.objs.size (.tup xs),I1.laid (t':=s1.toks) (λb u e=>Heap.get?_push_of_some _ e) (bB _) ?_,rfl,q _ hf⟩;exact⟨z,us,r,⟨_,Heap.get?_push_size _ rfl,rfl,_,rfl⟩⟩
theorem br(h:PA X es t):PE X (.List es pos) (yV t):=by intro pins s σ H Q I hq;refine wpAny_List_spliced (aI (h pos pins s σ H _ I hq) λus s1 zq=>?_);obtain⟨xs,H1,I1,r,z,q⟩:=zq;refine⟨by rw[<-r.length];exact z,?_⟩;have hf:H1 s1.heap.objs.size=none:=I1.ao.fresh (bB _);refine⟨.ref s1.heap.objs.size,upd H1 s1.heap.objs.size (.lst xs),I1.laid (t':=s1.toks) (λb u e=>Heap.get?_push_of_some _ e) (bB _) ?_,rfl,q _ hf⟩;exact⟨z,us,0,r,Heap.get?_push_size _ rfl⟩
end
noncomputable abbrev Sp:=List V->Hp->VK->XK->Prop
noncomputable abbrev eP:=List Env->Hp->Shared->XK->Value->Shared->Prop
structure j2(P:Program)(w:World)(K:PySem.W.Frag)(mg:Str->Option Value)(base:Heap)(A:Around)(outer:List Env)(s:Shared)(H:Hp):Prop where
 frames:A.frames=some outer
 mod:Mod K mg base
 bs:∀b o,base.get? b=some o->s.heap.get? b=some o/\H b=none
 g0:base.objs.size<=s.heap.objs.size
 gn:s.heap.FunFrames base outer
 jR:∀b∈bZ outer,H b=none
 ao:bT P w H s.heap
 bare:AllBare s.gens
noncomputable def CE(outer:List Env)(P:Program)(w:World)(H:Hp)(s:Shared)(Q:VK)(u:Value)(s':Shared):Prop:=
 ∃v H',s'.os=s.os/\AllBare s'.gens/\Un (bZ outer) [] H H' s.heap s'.heap/\bT P w H' s'.heap/\RelV v u/\Q v H'
noncomputable def CR(CX:eP)(outer:List Env)(P:Program)(w:World)(H:Hp)(s:Shared)(Q:VK)(E:XK)(r:Result)(s':Shared):Prop:=
 match r with
 |.ok (.ret u)=>CE outer P w H s Q u s'
 |.ok _=>False
 |.error e=>CX outer H s E e s'
structure dZ(P:Program)(w:World)(K:PySem.W.Frag)(mg:Str->Option Value)(base:Heap)(CX:eP)(k:Nat)(f:Addr)(fd:FuncData)(ps:List Str)(sp:Sp):Prop where
 len:∀vs H Q E,sp vs H Q E->vs.length=ps.length
 run:∀(A:Around) (outer:List Env) (s:Shared) (H:Hp) (args:Args) (us:List Value) (vs:List V) (Q:VK) (E:XK),cp k A->j2 P w K mg base A outer s H->BindsTo s fd args (ps.zip us)->Vals vs us->sp vs H Q E->
  codeAny (model P w) A (.call (.ref f) args) (CR CX outer P w H s Q E) s
theorem dZ.mono{P:Program}{w:World}{K:PySem.W.Frag}{mg:Str->Option Value}{base:Heap}{CX:eP}{j k:Nat}{f:Addr}{fd:FuncData}{ps:List Str}{sp:Sp}(F:dZ P w K mg base CX j f fd ps sp)(h:j<=k) :
 dZ P w K mg base CX k f fd ps sp:=⟨F.len,λA outer s H args us vs Q E hr=>F.run A outer s H args us vs Q E (hr.mono h)⟩
theorem dZ.imp{P:Program}{w:World}{K:PySem.W.Frag}{mg:Str->Option Value}{base:Heap}{CX:eP}{k:Nat}{f:Addr}{fd:FuncData}{ps:List Str}{sp rK:Sp}(F:dZ P w K mg base CX k f fd ps sp)
 (h:∀vs H Q E,rK vs H Q E->sp vs H Q E):dZ P w K mg base CX k f fd ps rK:=
 ⟨λvs H Q E q=>F.len vs H Q E (h _ _ _ _ q),λA outer s H args us vs Q E hr he hb hv hs=>F.run A outer s H args us vs Q E hr he hb hv (h _ _ _ _ hs)⟩
theorem j2.make{P:Program}{w:World}{K:PySem.W.Frag}{mg:Str->Option Value}{base:Heap}{A:Around}{outer:List Env}{s:Shared}{H:Hp}(e:j2 P w K mg base A outer s H)(C:Addr)(us:List Value)(kw:List (Str×Value)) :
 j2 P w K mg base (A.under (.builtin "type.__call__" ⟨.ref C::us,kw⟩)) outer s H:=⟨by first|exact e.frames | (simpa [Around.under,Code.envs,Code.isFrame,pushEnvs] using e.frames),e.mod,e.bs,e.g0,e.gn,e.jR,e.ao,e.bare⟩
theorem j2.in1{P:Program}{w:World}{K:PySem.W.Frag}{mg:Str->Option Value}{base:Heap}{A:Around}{outer:List Env}{s:Shared}{H:Hp}(e:j2 P w K mg base A outer s H) :
 j2 P w K mg base A.in1 outer s H:=⟨e.frames,e.mod,e.bs,e.g0,e.gn,e.jR,e.ao,e.bare⟩
section
variable {X:Cx}{pins:List (Addr×Obj)}{σ:St}{H:Hp}{s s':Shared}
theorem Inv.DR(I:Inv X pins σ H s):j2 X.prog X.w X.K X.mg X.base X.A X.stack s H:=
 ⟨I.ok.frames,I.ok.mod,I.bs,aS I.ok.g0 I.sz,I.stack,I.uS,I.ao,I.bare⟩
theorem Inv.after{Q:VK}{u:Value}(I:Inv X pins σ H s)(h:CE X.stack X.prog X.w H s Q u s'):EP X pins σ Q u s':=by obtain⟨v,H',os,bare,un,ao,r,q⟩:=h;obtain⟨hh,g,d,t,M8⟩:=s';obtain rfl:M8=s.os:=os;exact⟨v,H',I.call (h':=hh) (g':=g) (d':=d) (t':=t) (ch:=[]) un ao bare (λb z=>absurd z (by simp)),r,q⟩
end
noncomputable def pL(sp:Sp)(fw:List V)(E:XK)(t:TA):TE:=λσ H Q=>t σ H λvs H1=>sp (vs++fw) H1 Q E
noncomputable def vi(C:Addr)(sp:Sp)(fw:List V)(E:XK)(t:TA):TE:=λσ H Q=>t σ H λvs H1=>∀x dx,H1 x=none->H1 dx=none->dx≠x->
 sp (.ref x::(vs++fw)) (upd (upd H1 dx (.own x)) x (.ins C dx [])) (λv H2=>v=.ak/\Q (.ref x) H2) E
noncomputable def Binds(K:PySem.W.Frag)(fd:FuncData)(ps:List Str)(ds:List Value):Prop:=
 ∀(s:Shared) (us:List Value),K.In s.heap->(us++ds).length=ps.length->BindsTo s fd ⟨us,[]⟩ (ps.zip (us++ds))
theorem Binds.all{K:PySem.W.Frag}{fd:FuncData}{ps:List Str}(h:∀us:List Value,us.length=ps.length->bindArgs fd ⟨us,[]⟩=pure (ps.zip us)):Binds K fd ps []:=λs us _ hl=>by rw[ez] at hl ⊢;exact .of_eq (h us hl)
noncomputable def Passes(CX:eP)(X:Cx)(E:XK):Prop:=∀(pins:List (Addr×Obj)) (σ:St) (H:Hp) (s:Shared) (e:Value) (s':Shared),Inv X pins σ H s->CX X.stack H s E e s'->X.xe e s'
section
variable {X:Cx}{CX:eP}{k:Nat}{f C:Addr}{fd:FuncData}{ps:List Str}{sp:Sp}{fw:List V}{ds:List Value}{E:XK}{x m:Str}{p pos apos:Pos}{e o:Expr}{es:List Expr}{ta:TE}{t:TA}
theorem M9{pins:List (Addr×Obj)}{σ:St}{H:Hp}{s:Shared}{Q:VK}{us:List Value}{vs:List V}(F:dZ X.prog X.w X.K X.mg X.base CX k f fd ps sp)(hr:cp k X.A)(hb:Binds X.K fd ps ds)(hd:Vals fw ds)(hx:Passes CX X E)
 (I:Inv X pins σ H s) (r:Vals vs us) (h:sp (vs++fw) H Q E):wpAny (model X.prog X.w) X.A (call (.ref f) us) (EP X pins σ Q) X.xe s:=by
 have r2:Vals (vs++fw) (us++ds):=r.append hd;have hl:(us++ds).length=ps.length:=by rw[<-r2.length];exact F.len _ _ _ _ h
 refine wpAny_call (codeAny_mono (F.run X.A X.stack s H ⟨us,[]⟩ (us++ds) (vs++fw) Q E hr I.DR (hb s us I.g9 hl) r2 h) λr s' hq=>?_);cases r with
 |error e=>exact hx pins σ H s e s' I hq
 |ok fl=>
  cases fl with
  |ret u=>exact I.after hq
  |next=>exact False.elim hq
  |brk=>exact False.elim hq
  |cont=>exact False.elim hq
theorem Na(F:dZ X.prog X.w X.K X.mg X.base CX k f fd ps sp)(hr:cp k X.A)(hg:Gl X x)(hm:X.mg x=some (.ref f))(hk:PySem.W.keepIn X.K (.ref f)=true)(hb:Binds X.K fd ps ds)(hd:Vals fw ds)(hx:Passes CX X E)
 (ha:PA X (e::es) t) (fz:(x==("__debug__":Str))=false:=by decide) (he:starEach (e::es) X.env=(false,eval e X.env)::starEach es X.env:=by rfl) (eQ:(backTo pos (starEach es X.env)).any (·.1)=false:=by rfl) :
 PE X (.Call (.Name x p) (e::es) [] pos) (pL sp fw E t):=by
 intro pins s σ H Q I h;refine wpAny_Call_Name_kw (pD I hg hm ?_ fz);refine PySem.W.callWith_K (h₀:=X.base) I.ok.mod.rn hk (aI (ha pos pins s σ H _ I h) λus s1 zq=>?_) he eQ;obtain⟨vs,H1,I1,r,q⟩:=zq;refine⟨I1.g9,?_⟩;exact M9 F hr hb hd hx I1 r q
structure Mk(K:PySem.W.Frag)(C f:Addr):Prop where
 makes:PySem.W.makesIn K C=true
 init:PySem.W.findIn K (.ref C) "__init__"=some (some (.ref f))
 fn:PySem.W.isFn K (.ref f)=true
 kp:PySem.W.keepIn K (.ref C)=true
theorem DS{pins:List (Addr×Obj)}{σ:St}{H:Hp}{s:Shared}{Q:VK}{us:List Value}{vs:List V}(M:Mk X.K C f)(F:dZ X.prog X.w X.K X.mg X.base CX k f fd ps sp)(hr:cp (k+1) X.A)(hb:Binds X.K fd ps ds)(hd:Vals fw ds)
 (hx:Passes CX X E) (I:Inv X pins σ H s) (r:Vals vs us)
 (h:∀x dx,H x=none->H dx=none->dx≠x->sp (.ref x::(vs++fw)) (upd (upd H dx (.own x)) x (.ins C dx [])) (λv H2=>v=.ak/\Q (.ref x) H2) E) :
 wpAny (model X.prog X.w) X.A (call (.ref C) us) (EP X pins σ Q) X.xe s:=by
 have hq:=h (s.heap.objs.size+1) s.heap.objs.size (I.ao.fresh (Nat.le_succ _)) (I.ao.fresh (bB _)) (gE (LJ _));have I2:=Inv.made (C:=C) I;have r2:Vals (V.ref (s.heap.objs.size+1)::(vs++fw)) (Value.ref (s.heap.objs.size+1)::(us++ds)):=.cons rfl (r.append hd);have hl:(Value.ref (s.heap.objs.size+1)::us++ds).length=ps.length:=by have e:=r2.length;rw[F.len _ _ _ _ hq] at e;exact e.symm
 refine wpAny_call (MU (f:=f) I.g9 M.makes M.init (jb.mp M.fn) (codeAny_mono (F.run _ X.stack _ _ ⟨Value.ref (s.heap.objs.size+1)::us,[]⟩ (Value.ref (s.heap.objs.size+1)::(us++ds)) _ _ E (hr.make C us [])
  (I2.DR.make C us []) (hb _ (Value.ref (s.heap.objs.size+1)::us) I2.g9 hl) r2 hq) λr s' fR=>?_))
 cases r with
 |error e=>exact hx pins σ _ _ e s' I2 fR
 |ok fl=>
  cases fl with
  |ret u=>obtain⟨v,H',I3,rv,ev,q3⟩:=I2.after fR;subst ev;exact⟨rv,⟨V.ref (s.heap.objs.size+1),H',I3,rfl,q3⟩⟩
  |next=>exact False.elim fR
  |brk=>exact False.elim fR
  |cont=>exact False.elim fR
theorem Nc(M:Mk X.K C f)(F:dZ X.prog X.w X.K X.mg X.base CX k f fd ps sp)(hr:cp (k+1) X.A)(hg:Gl X x)(hm:X.mg x=some (.ref C))(hb:Binds X.K fd ps ds)(hd:Vals fw ds)(hx:Passes CX X E)
 (ha:PA X (e::es) t) (fz:(x==("__debug__":Str))=false:=by decide) (he:starEach (e::es) X.env=(false,eval e X.env)::starEach es X.env:=by rfl) (eQ:(backTo pos (starEach es X.env)).any (·.1)=false:=by rfl) :
 PE X (.Call (.Name x p) (e::es) [] pos) (vi C sp fw E t):=by
 intro pins s σ H Q I h;refine wpAny_Call_Name_kw (pD I hg hm ?_ fz);refine PySem.W.callWith_K (h₀:=X.base) I.ok.mod.rn M.kp (aI (ha pos pins s σ H _ I h) λus s1 zq=>?_) he eQ;obtain⟨vs,H1,I1,r,q⟩:=zq;refine⟨I1.g9,?_⟩;exact DS M F hr hb hd hx I1 r q
theorem Nd(M:Mk X.K C f)(F:dZ X.prog X.w X.K X.mg X.base CX k f fd ps sp)(hr:cp (k+1) X.A)(hg:Gl X x)(hm:X.mg x=some (.ref C))(hb:Binds X.K fd ps ds)(hd:Vals fw ds)(hx:Passes CX X E)
 (fz:(x==("__debug__":Str))=false:=by decide):PE X (.Call (.Name x p) [] [] pos) (vi C sp fw E iG):=by
 intro pins s σ H Q I h;refine wpAny_Call_Name_kw (pD I hg hm ?_ fz);exact PySem.W.callWith_K0 I.g9 M.kp (DS (us:=[]) M F hr hb hd hx I .nil h)
end
section
variable {X:Cx}{CX:eP}{k:Nat}{f C:Addr}{fd:FuncData}{ps ks:List Str}{sp:Sp}{E:XK}{x m:Str}{p pos apos Zu:Pos}{e o:Expr}{es:List Expr}{Zv:List Keyword}{te ta:TE}{t tk:TA}{nm:Option Str}
variable {g:List Value->List Value->List Value}{gV:List V->List V->List V}
end
structure md(N P:List Str)(sc:Scope):Prop where
 kind:sc.kind=.function
 co:sc.isCoroutine=false
 gen:sc.isGenerator=false
 nd:N.Nodup
 pre:N.take P.length=P
 par:∀x∈P,sc.names.lookup x=some .local\/sc.names.lookup x=some .cell
 Nf:∀y∈sc.names,y.2≠.free
theorem DT{kindOf:Str->Option NameKind}{x:Str}:∀{binds:List (Str×Value)} {m:Str->Option Value},(∀v,(x,v)∉binds)->bindL kindOf binds m x=m x
 |[],_,_=>rfl
 |(n,v)::r,m,h=>by
  unfold bindL;rw[DT λw hw=>h w (bO _ hw)];split
  ·have:x≠n:=by rintro rfl;exact h v bP
   simp[this]
  ·rfl
theorem DU{kindOf:Str->Option NameKind}{x:Str}:∀{binds:List (Str×Value)} {m:Str->Option Value},(∀v,(x,v)∉binds)->bindC kindOf binds m x=m x
 |[],_,_=>rfl
 |(n,v)::r,m,h=>by
  unfold bindC;rw[DU λw hw=>h w (bO _ hw)];split
  ·rfl
  ·have:x≠n:=by rintro rfl;exact h v bP
   simp[this]
theorem DV{kindOf:Str->Option NameKind}{x:Str}{v:Value}:∀{P:List Str} {vs:List Value} {i:Nat} {m:Str->Option Value},P.Nodup->P[i]?=some x->vs[i]?=some v->kindOf x=some .local->
 bindL kindOf (P.zip vs) m x=some v
 |[],_,_,_,_,h,_,_=>by simp at h
 |_::_,[],_,_,_,_,h,_=>by simp at h
 |p::P,w::vs,0,m,nd,h1,h2,hk=>by simp at h1 h2;subst h1;subst h2;show bindL kindOf ((p,w)::P.zip vs) m p=_;unfold bindL;rw[DT λv hv=>(eL.mp nd).1 (LN hv).1,if_pos hk];simp
 |p::P,w::vs,i+1,m,nd,h1,h2,hk=>by show bindL kindOf ((p,w)::P.zip vs) m x=_;unfold bindL;exact DV (i:=i) (eL.mp nd).2 (by simpa using h1) (by simpa using h2) hk
theorem DW{kindOf:Str->Option NameKind}{x:Str}{v:Value}:∀{P:List Str} {vs:List Value} {i:Nat} {m:Str->Option Value},P.Nodup->P[i]?=some x->vs[i]?=some v->kindOf x≠some .local->
 bindC kindOf (P.zip vs) m x=some v
 |[],_,_,_,_,h,_,_=>by simp at h
 |_::_,[],_,_,_,_,h,_=>by simp at h
 |p::P,w::vs,0,m,nd,h1,h2,hk=>by simp at h1 h2;subst h1;subst h2;show bindC kindOf ((p,w)::P.zip vs) m p=_;unfold bindC;rw[DU λv hv=>(eL.mp nd).1 (LN hv).1,if_neg hk];simp
 |p::P,w::vs,i+1,m,nd,h1,h2,hk=>by show bindC kindOf ((p,w)::P.zip vs) m x=_;unfold bindC;exact DW (i:=i) (eL.mp nd).2 (by simpa using h1) (by simpa using h2) hk
noncomputable def start(N:List Str)(vs:List V):St:=vs.map some++List.replicate (N.length-vs.length) none
noncomputable def j3(CX:eP)(P:Program)(w:World)(K:PySem.W.Frag)(mg:Str->Option Value)(base:Heap)(N:List Str)(qual:Str)(scope:Scope)(f:Addr)(cd:Value)(A:Around)(outer:List Env)(s:Shared)(H:Hp)(E:XK):Cx where
 prog:=P
 w:=w
 K:=K
 mg:=mg
 base:=base
 A:=A.deeper (envOfC qual scope s.heap.objs.size f cd)
 N:=N
 cQ:=s
 jQ:=H
 env:=envOfC qual scope s.heap.objs.size f cd
 outer:=outer
 stack:=envOfC qual scope s.heap.objs.size f cd::outer
 ex:=[]
 calm:=true
 fn:=λ_=>true
 pn:=[]
 xe:=λe s'=>wpAny (model P w) (A.deeper (envOfC qual scope s.heap.objs.size f cd)) (leaving (envOfC qual scope s.heap.objs.size f cd) e) (λ_ nA=>CX outer H s E e nA) (λe' nA=>CX outer H s E e' nA) s'
theorem DX{sc:Scope}{n:Nat}{x:Str}(h:sc.names.lookup x=some .cell):∃c,(cellsFrom n sc.names []).lookup x=some c:=by have q:=PySem.W.cellsFrom_some sc.names n [] (.inl h);exact uB.mp q
theorem Ng{CX:eP}{P:Program}{w:World}{K:PySem.W.Frag}{mg:Str->Option Value}{base:Heap}{N ps:List Str}{qual:Str}{scope:Scope}{f:Addr}{cd:Value}{A:Around}{outer:List Env}{s s1:Shared}{H:Hp}{E:XK}{us:List Value}{vs:List V}
 (S:md N ps scope) (hd:A.handled=none) (e0:j2 P w K mg base A outer s H) (hl:vs.length=ps.length) (r:Vals vs us)
 (x:InCallC s s.heap.objs.size (bindL (envOfC qual scope s.heap.objs.size f cd).kindOf (ps.zip us) λ_=>none) (cellsFrom (s.heap.objs.size+1) scope.names []) (bindC (envOfC qual scope s.heap.objs.size f cd).kindOf (ps.zip us) λ_=>none) s1) :
 Inv (j3 CX P w K mg base N qual scope f cd A outer s H E) [] (start N vs) H s1:=by
 have eQ:ps.length<=N.length:=by have:=eW List.length S.pre;rw[eU] at this;omega
 obtain⟨h1,tk,rfl,hk⟩:=x.done;have pM:∀b:Addr,b∉(j3 CX P w K mg base N qual scope f cd A outer s H E).ex:=λb z=>absurd (show b∈([]:List Addr) from z) (by simp);refine⟨⟨e0.mod,S.kind,rfl,rfl,bB _,λy z c h1 h2=>?_,λy hy=>?_,λy c _ h=>?_,λ_=>hd,Around.frames_deeper e0.frames,.inr ⟨rfl,rfl⟩,λb z=>absurd z (pM b),e0.bs,e0.g0,λb _ _=>pM b,λb z=>absurd z (pM b),e0.gn,e0.jR⟩,
  rfl,e0.bare,Un.kept hk,⟨_,x.toInCall.ns,λi y v h1 h2 h3=>?_⟩,λy c h=>⟨_,x.cell y c h⟩,e0.ao.fresh (bB _),λy c h=>?_,λp hp=>absurd (show p∈([]:List (Addr×Obj)) from hp) (by simp),e0.ao.kept hk,?_⟩
 ·exact name_of_addr x.apart (gZ h1) (gZ h2)
 ·have hy:scope.names.lookup y=some .cell\/scope.names.lookup y=some .free:=hy;rcases hy with hy | hy
  ·exact DX hy
  ·exact absurd rfl (S.Nf _ (gZ hy))
 ·exact yx (x.above y c (gZ h))
 ·have hi:i<vs.length:=by
   unfold start at h2;by_cases hi:i<vs.length
   ·exact hi
   ·rw[Zl (by simpa using hi)] at h2;rw[yl] at h2;split at h2<;>cases h2
  have ha:vs[i]?=some v:=by
   unfold start at h2;rw[CN (by simpa using hi),cJ] at h2;cases e:vs[i]? with
   |none=>rw[e] at h2;cases h2
   |some a=>rw[e] at h2;cases h2;rfl
  obtain⟨u,hu,rv⟩:=r.get ha;have hp:ps[i]?=some y:=by rw[<-S.pre,List.getElem?_take_of_lt (by omega)];exact h1
  have DY:ps.Nodup:=by rw[<-S.pre];exact S.nd.sublist (List.take_sublist _ _)
  refine⟨u,rv,?_⟩;rcases S.par y (cE hp) with k | k
  ·exact .inl ⟨k,DV DY hp hu k⟩
  ·obtain⟨c,e⟩:=DX (n:=s.heap.objs.size+1) k;refine .inr ⟨.inl k,c,e,?_⟩;have q:=x.cell y c e;rw[DW DY hp hu (by show scope.names.lookup y≠_;rw[k];decide)] at q;exact q
 ·exact e0.ao.fresh (yx (x.above y c (gZ h)))
 ·unfold start;show _=N.length;rw[aX,aF,CT];omega
theorem DZ{CX:eP}{P:Program}{w:World}{K:PySem.W.Frag}{mg:Str->Option Value}{base:Heap}{k:Nat}{f:Addr}{name qual:Str}{params:Arguments}{body:List Stmt}{scope:Scope}{dV kV doc pm aD ct oc:Value}{an od:Option Addr}
 {fA:Array (Option Value)} {N ps:List Str} {sp:Sp} (lk:K.lookup f=some ⟨oc,od,.func (PySem.W.fnOf name qual params body scope dV kV doc pm an aD ct),fA⟩) (je:PySem.W.codeIn K aD qual=true) (S:md N ps scope)
 (len:∀vs H Q E,sp vs H Q E->vs.length=ps.length)
 (kL:∀(A:Around) (outer:List Env) (s:Shared) (H:Hp) (vs:List V) (Q:VK) (E:XK),cp k (A.deeper (envOfC qual scope s.heap.objs.size f aD))->sp vs H Q E->
  ∃t,eZ (j3 CX P w K mg base N qual scope f aD A outer s H E) body t/\t {nx:=λ_ H'=>Q .ak H',rt:=Q} (start N vs) H) :
 dZ P w K mg base CX (k+1) f (PySem.W.fnOf name qual params body scope dV kV doc pm an aD ct) ps sp:=by
 refine⟨len,λA outer s H args us vs Q E hr e0 hb r fS=>?_⟩;have hl:=len _ _ _ _ fS;have KX:K.In s.heap:=e0.mod.rn.keeps λb o e=>(e0.bs b o e).1;have lim:s.heap.NoLimit:=e0.mod.nolimit.keeps λb o e=>(e0.bs b o e).1;have Nh:∀y∈ps.zip us,scope.names.lookup y.1=some .local\/(scope.names.lookup y.1=some .cell/\((cellsFrom (s.heap.objs.size+1) scope.names []).lookup y.1).isSome=true):=λ⟨n,v⟩ hy=>by
  rcases S.par n (LN hy).1 with q | q
  ·exact .inl q
  ·exact .inr ⟨q,PySem.W.cellsFrom_some _ _ _ (.inl q)⟩
 refine codeAny_call_function hr.depth (KX _ _ lk) rfl S.co S.gen rfl (PySem.W.codeRec_of KX je) (hb _ _ _ _ ?_);refine wpAny_newFunctionEnv_cells S.kind Nh λenv he s1 x=>?_;subst he;refine⟨lim.keeps x.toInCall.keep,codeAny_func ?_⟩;obtain⟨t,ht,hq⟩:=kL A outer s H vs Q E (hr.deeper _) fS;have I:Inv (j3 CX P w K mg base N qual scope f aD A outer s H E) [] (start N vs) H s1:=Ng S hr.hd e0 hl r x;refine wpAny_mono (ht [] s1 (start N vs) H _ I hq) (λfl s' hs=>?_) λe s' hs=>hs;have fin:∀{σ':St} {H':Hp} {v:V} {u:Value},Inv (j3 CX P w K mg base N qual scope f aD A outer s H E) [] σ' H' s'->RelV v u->Q v H'->CE outer P w H s Q u s':=
  λ{σ' H' v u} J rv q=>⟨v,H',J.os,J.bare,J.base,J.ao,rv,q⟩
 cases fl with
 |ret u=>obtain⟨v,σ',H',J,rv,q⟩:=hs;exact fin J rv q
 |next=>obtain⟨σ',H',J,q⟩:=hs;exact fin (v:=V.ak) (u:=Value.none) J rfl q
 |brk=>obtain⟨_,_,_,q⟩:=hs;exact False.elim q
 |cont=>obtain⟨_,_,_,q⟩:=hs;exact False.elim q
section
variable {X:Cx}{x:Str}{p pos:Pos}{e:Expr}{es:List Expr}{t:TA}{id T:String}{r:List V->Hp->VK->Prop}
noncomputable def yW(r:List V->Hp->VK->Prop)(t:TA):TE:=λσ H Q=>t σ H λvs H1=>r vs H1 Q
theorem dv(hc:jY X (.builtin id) r)(hg:Gl X x)(hm:X.mg x=none)(hv:bootBuiltins x=some (.builtin id))(ha:PA X (e::es) t)(hn:x≠"__name__":=by decide)(fz:(x==("__debug__":Str))=false:=by decide)
 (he:starEach (e::es) X.env=(false,eval e X.env)::starEach es X.env:=by rfl) (eQ:(backTo pos (starEach es X.env)).any (·.1)=false:=by rfl):PE X (.Call (.Name x p) (e::es) [] pos) (yW r t):=by
 intro pins s σ H Q I h;refine wpAny_Call_Name_kw (uV I hg hm hv ?_ hn fz);refine PyProof.Rows.callWith_builtin1 (aI (ha pos pins s σ H _ I h) λus s1 zq=>?_) he eQ;obtain⟨vs,H1,I1,r1,q1⟩:=zq;exact hc pins s1 σ H1 vs us Q I1 r1 q1
theorem kM(hc:jY X (.type T) r)(hg:Gl X x)(hm:X.mg x=none)(hv:bootBuiltins x=some (.type T))(ha:PA X (e::es) t)(hn:x≠"__name__":=by decide)(fz:(x==("__debug__":Str))=false:=by decide)
 (he:starEach (e::es) X.env=(false,eval e X.env)::starEach es X.env:=by rfl) (eQ:(backTo pos (starEach es X.env)).any (·.1)=false:=by rfl):PE X (.Call (.Name x p) (e::es) [] pos) (yW r t):=by
 intro pins s σ H Q I h;refine wpAny_Call_Name_kw (uV I hg hm hv ?_ hn fz);refine Lu (aI (ha pos pins s σ H _ I h) λus s1 zq=>?_) he eQ;obtain⟨vs,H1,I1,r1,q1⟩:=zq;exact hc pins s1 σ H1 vs us Q I1 r1 q1
end
end L2
namespace HT
open PySem PyProof.Rows
section
open PySem.SeqAt
open PySem.AutoSeq1 (wpAny_loadPart')
open PySem.MeetsSeq PySem.MeetsSeq2 PySem.MeetsSeq3
end
section
variable {prog:Program}{w:World}{A:Around}{E:Value->Shared->Prop}{s:Shared}
noncomputable def bb(n d:Nat):Option Int->Nat
 |none=>d
 |some v=>if v<0 then (v+(n:Int)).toNat else min v.toNat n
theorem Ni(n d:Nat):bb n d none=d:=rfl
theorem rL(n d k:Nat):bb n d (some (k:Int))=min k n:=by show(if (k:Int)<0 then ((k:Int)+(n:Int)).toNat else min (k:Int).toNat n)=min k n;rw[if_neg (by omega),ja]
theorem Nj(n d:Nat)(hd:d<=n)(o:Option Int):bb n d o<=n:=by
 cases o with
 |none=>exact hd
 |some v=>
  show(if v<0 then (v+(n:Int)).toNat else min v.toNat n)<=n;by_cases hv:v<0
  ·rw[if_pos hv];omega
  ·rw[if_neg hv];exact jK _ _
theorem D0(v:Int)(n d:Nat):(if v<0 then max (v+(n:Int)) 0 else min v (n:Int))=((bb n d (some v):Nat):Int):=by
 show(if v<0 then max (v+(n:Int)) 0 else min v (n:Int))=(((if v<0 then (v+(n:Int)).toNat else min v.toNat n):Nat):Int);by_cases hv:v<0
 ·simp only[if_pos hv];omega
 ·simp only[if_neg hv];omega
theorem Nk(lo hi:Option Int)(n:Nat):Builtin.Slice.sliceAdjust lo hi 1 (n:Int)=(((bb n 0 lo:Nat):Int),((bb n n hi:Nat):Int)):=by
 have h1:¬((1:Int)<0):=by omega
 unfold Builtin.Slice.sliceAdjust;simp only[h1,dS];refine Prod.ext ?_ ?_
 ·cases lo with
  |none=>rfl
  |some v=>exact D0 v n 0
 ·cases hi with
  |none=>rfl
  |some v=>exact D0 v n n
theorem Nl(i j:Nat):Builtin.Slice.slicePlaces (i:Int) (j:Int) 1=j-i:=by
 unfold Builtin.Slice.slicePlaces;have h1:(1:Int)>0:=by omega
 simp only[h1,eM,Int.ediv_one];split<;>omega
theorem Ea{v:Value}{o:Option Int}{Q:Option Int->Shared->Prop}(p:IsPart v o)(h:Q o s):wpAny (model prog w) A (Builtin.Slice.slicePartIndex v) Q E s:=by
 cases p with
 |none=>exact slicePart_none h
 |int i t=>exact slicePart_int h
theorem Eb{sl:Addr}{vl vu:Value}{lo hi:Option Int}{n:Nat}{Q:Int×Int×Nat->Shared->Prop}(hs:s.heap.IsSliceOf sl vl vu .none)(pl:IsPart vl lo)(pu:IsPart vu hi)
 (h:Q (((bb n 0 lo:Nat):Int),1,bb n n hi-bb n 0 lo) s):wpAny (model prog w) A (Builtin.Slice.sliceApplied (.ref sl) (pure (n:Int))) Q E s:=by
 obtain⟨os,nB,aZ,rM⟩:=id hs;unfold Builtin.Slice.sliceApplied Builtin.Slice.sliceFields;refine wpAny_bind (wpAny_bind (wpAny_field nB rM (x:=vl) rfl (wpAny_bind (wpAny_field nB rM (x:=vu) rfl (wpAny_bind (wpAny_field nB rM (x:=.none) rfl (wpAny_pure ?_)))))));refine wpAny_bind (slicePart_none ?_);show wpAny _ _ (if ((1:Int)==0)=true then _ else _) _ _ s;rw[if_neg (by decide)];refine wpAny_bind (Ea pl (wpAny_bind (Ea pu (wpAny_bind (wpAny_pure ?_)))));show wpAny _ _ (match Builtin.Slice.sliceAdjust lo hi 1 (n:Int) with | (lo,hi)=>pure (lo,(1:Int),Builtin.Slice.slicePlaces lo hi 1)) _ _ s;rw[Nk lo hi n];show wpAny _ _ (pure (((bb n 0 lo:Nat):Int),(1:Int),Builtin.Slice.slicePlaces ((bb n 0 lo:Nat):Int) ((bb n n hi:Nat):Int) 1)) _ _ s;rw[Nl];exact wpAny_pure h
theorem Nm(xs:Array Value)(i k:Nat):((List.range k).filterMap λ(m:Nat)=>xs[((i:Int)+(m:Int)*1).toNat]?).toArray=((xs.toList.drop i).take k).toArray:=by
 have e:(λ(m:Nat)=>xs[((i:Int)+(m:Int)*1).toNat]?)=λm=>xs[i+m]?:=by
  funext m;have:((i:Int)+(m:Int)*1).toNat=i+m:=by omega
  rw[this]
 rw[e];have:=pick_run xs i k;rw[List.filterMap_map] at this;have e2:((λx=>xs[x]?)∘λx=>i+x)=λm=>xs[i+m]?:=rfl;rw[e2] at this;rw[this]
theorem Nn{t sl:Addr}{items:Array Value}{vl vu:Value}{lo hi:Option Int}{Q:Value->Shared->Prop}(ht:IsTup s.heap t items)(hs:s.heap.IsSliceOf sl vl vu .none)(pl:IsPart vl lo)(pu:IsPart vu hi)
 (hw:¬(bb items.size 0 lo=0/\bb items.size items.size hi=items.size))
 (h:Q (.ref s.heap.objs.size) {s with heap:=s.heap.push {cls:=.type "tuple",data:=.seq ((items.toList.drop (bb items.size 0 lo)).take (bb items.size items.size hi-bb items.size 0 lo)).toArray}})
 (hsz:items.size<=sizeLine):wpAny (model prog w) A (getItem (.ref t) (.ref sl)) Q E s:=by
 have vj:sizeOk (.seq ((items.toList.drop (bb items.size 0 lo)).take (bb items.size items.size hi-bb items.size 0 lo)).toArray):=by show((items.toList.drop (bb items.size 0 lo)).take (bb items.size items.size hi-bb items.size 0 lo)).toArray.size<=sizeLine;rw[cI,eU,lP,CV];omega
 have hj:bb items.size items.size hi<=items.size:=Nj _ _ (bB _) hi;obtain⟨os,nB,aZ,rM⟩:=id hs;have yX:s.TypeIs (.ref sl) "slice":=⟨os,nB,aZ⟩;unfold getItem
 try with_reducible refine wpAny_holding ?_
 first|refine wpAny_bind (wpAny_pure ?_) | skip
 refine wpAny_bind (wpAny_sequenceKey ht.typeIs (by decide) ?_);refine wpAny_bind (wpAny_callSpecial?_slot (name:=Str.ofString "__getitem__") ht.typeIs pd
  (wpAny_call_entry pd ht.typeIs entry_tuple_getitem ?_ (args_tuple_getitem _ _)))
 show wpAny _ _ (Builtin.Tuple.tupleItemsOf (.ref t) >>= _) _ _ s;refine wpAny_bind (tupleItemsOf_ ht ?_);refine wpAny_bind (wpAny_typeOf yX ?_);rw[if_pos (by decide)];refine wpAny_bind (Eb hs pl pu ?_);have gI:¬((((bb items.size 0 lo:Nat):Int)==0&&(1:Int)==1&&(bb items.size items.size hi-bb items.size 0 lo)==items.size)=true):=by intro q;rw[bq,bq] at q;have q1:((bb items.size 0 lo:Nat):Int)=0:=eq_of_beq q.1.1;have q2:bb items.size items.size hi-bb items.size 0 lo=items.size:=eq_of_beq q.2;exact hw ⟨by omega,by omega⟩
 show wpAny _ _ (if (((bb items.size 0 lo:Nat):Int)==0&&(1:Int)==1&&(bb items.size items.size hi-bb items.size 0 lo)==items.size)=true then _ else _) _ _ s;rw[if_neg gI,Nm]
 first
  |exact wpAny_bind (m:=Builtin.Tuple.tupleExact _) (wpAny_newObj_type (wpAny_pure ⟨_,rfl,wpAny_pure h⟩) vj)
  |exact wpAny_bind (m:=Builtin.Tuple.tupleExact _) (wpAny_newObj_type (wpAny_bind (wpAny_pure (wpAny_pure ⟨_,rfl,wpAny_pure h⟩))) vj)
  |exact wpAny_bind (wpAny_bind (m:=Builtin.Tuple.tupleExact _) (wpAny_newObj_type (wpAny_pure (wpAny_pure ⟨_,rfl,wpAny_pure h⟩)) vj))
  |exact wpAny_bind (wpAny_bind (m:=Builtin.Tuple.tupleExact _) (wpAny_newObj_type (wpAny_pure ⟨_,rfl,wpAny_pure h⟩) vj))
end
end HT
namespace L2
open PySem PySem.Spec PyProof.Rows
noncomputable abbrev TO:=St->Hp->(Option Int->Hp->Prop)->Prop
noncomputable def PO(X:Cx)(e:Option Expr)(t:TO):Prop:=
 ∀(pins:List (Addr×Obj)) (s:Shared) (σ:St) (H:Hp) (Q:Option Int->Hp->Prop),Inv X pins σ H s->t σ H Q->
  wpAny (model X.prog X.w) X.A (evalPart e X.env) (λu s'=>∃o H',Inv X pins σ H' s'/\IsPart u o/\Q o H') X.xe s
noncomputable def Np:TO:=λ_ H Q=>Q none H
noncomputable def Nq(t:TE):TO:=λσ H Q=>t σ H λx H1=>∃i,x=.int i/\Q (some i) H1
theorem intsAre_of{ns:List Int}:∀{us:List Value},Vals (ns.map V.int) us->IntsAre us ns:=by
 induction ns with
 |nil=>intro us r;rw[rk] at r;cases r;exact .nil
 |cons n ns ih=>
  intro us r;rw[bX] at r;cases r with
  |cons r1 r2=>obtain⟨t,e⟩:=r1;subst e;exact .cons n t (ih r2)
section
variable {X:Cx}{e:Expr}{te:TE}{lo hi:Option Expr}{tl th:TO}{pos p2:Pos}
theorem Nr:PO X none Np:=by intro pins s σ H Q I h;rw[evalPart_none];exact wpAny_pure ⟨none,H,I,.none,h⟩
theorem nE(h:PE X e te):PO X (some e) (Nq te):=by intro pins s σ H Q I hw;rw[evalPart_some];refine aI (h pins s σ H _ I hw) λu s1 zq=>?_;obtain⟨x,H1,I1,r1,q1⟩:=zq;obtain⟨i,rfl,q⟩:=q1;obtain⟨t,rfl⟩:=r1;exact⟨some i,H1,I1,.int i t,q⟩
noncomputable def me(X:Cx)(r:V->Option Int->Option Int->Hp->VK->Prop):Prop:=
 ∀(pins:List (Addr×Obj)) (s:Shared) (σ:St) (H:Hp) (x:V) (v vl vu:Value) (lo hi:Option Int) (sl:Addr) (Q:VK),Inv X pins σ H s->RelV x v->s.heap.IsSliceOf sl vl vu .none->IsPart vl lo->IsPart vu hi->r x lo hi H Q->
  ∃T id,typeLookup (.type T) "__getitem__"=pure (some (.builtin id))/\s.TypeIs v T/\wpAny (model X.prog X.w) X.A (getItem v (.ref sl)) (EP X pins σ Q) X.xe s
theorem me.or{r r':V->Option Int->Option Int->Hp->VK->Prop}(h:me X r)(h':me X r'):me X (λx lo hi H Q=>r x lo hi H Q\/r' x lo hi H Q):=by
 intro pins s σ H x v vl vu lo hi sl Q I rx hs pl pu q;rcases q with q | q
 ·exact h pins s σ H x v vl vu lo hi sl Q I rx hs pl pu q
 ·exact h' pins s σ H x v vl vu lo hi sl Q I rx hs pl pu q
noncomputable def Nt(r:V->Option Int->Option Int->Hp->VK->Prop)(te:TE)(tl th:TO):TE:=λσ H Q=>te σ H λx H1=>tl σ H1 λl H2=>th σ H2 λu H3=>r x l u H3 Q
theorem vk{r:V->Option Int->Option Int->Hp->VK->Prop}(hr:me X r)(he:PE X e te)(hl:PO X lo tl)(hu:PO X hi th):PE X (.Subscript e (.Slice lo hi none p2) pos) (Nt r te tl th):=by intro pins s σ H Q I h;refine Subscript_ (aI (he pins s σ H _ I h) λv s1 zq=>?_);obtain⟨x,H1,I1,r1,q1⟩:=zq;refine wpAny_Slice (aI (hl pins s1 σ H1 _ I1 q1) λvl s2 zq=>?_);obtain⟨l,H2,I2,pl,q2⟩:=zq;refine aI (hu pins s2 σ H2 _ I2 q2) λvu s3 zq=>?_;obtain⟨u,H3,I3,pu,q3⟩:=zq;rw[evalPart_none];refine wpAny_pure ?_;have I4:Inv X pins σ H3 {s3 with heap:=s3.heap.push {cls:=.type "slice",data:=.fields #[vl,vu,.none]}}:=I3.kept (t':=s3.toks) λb ob q=>Heap.get?_push_of_some _ q;obtain⟨T,id,hT,ht,hg⟩:=hr pins {s3 with heap:=s3.heap.push {cls:=.type "slice",data:=.fields #[vl,vu,.none]}} σ H3 x v vl vu l u s3.heap.objs.size Q I4 r1 (Heap.IsSliceOf.new ..) pl pu q3;show wpAny (model X.prog X.w) X.A (subscriptTail e (.Slice lo hi none p2) v (.ref s3.heap.objs.size)) (EP X pins σ Q) X.xe {s3 with heap:=s3.heap.push {cls:=.type "slice",data:=.fields #[vl,vu,.none]}};exact tail_any (ops:=[.ref s3.heap.objs.size,v]) ht hT hg (by with_unfolding_all rfl)
noncomputable def gJ(xs:List V)(lo hi:Option Int):List V:=(xs.drop (HT.bb xs.length 0 lo)).take (HT.bb xs.length xs.length hi-HT.bb xs.length 0 lo)
theorem Ec(xs:List V)(lo hi:Option Int):(gJ xs lo hi).length<=xs.length:=by unfold gJ;rw[eU,lP];omega
noncomputable def Nu(K:PySem.W.Frag):V->Option Int->Option Int->Hp->VK->Prop:=λx lo hi H Q=>∃a xs,x=.ref a/\aQ K H a xs/\
 ¬(HT.bb xs.length 0 lo=0/\HT.bb xs.length xs.length hi=xs.length)/\∀p,H p=none->Q (.ref p) (upd H p (.tup (gJ xs lo hi)))
theorem Nv:me X (Nu X.K):=by
 intro pins s σ H x v vl vu lo hi sl Q I rx hs pl pu h;obtain⟨a,xs,rfl,hx,hw,q⟩:=h;cases rx;obtain⟨au,r,ht,hz⟩:=I.tuple hx;have hlen:au.toArray.size=xs.length:=by rw[cI];exact r.length.symm
 refine⟨"tuple",_,pd.lookup,ht.typeIs,?_⟩;refine HT.Nn ht hs pl pu (by rw[hlen];exact hw) ?_ (by rw[hlen];exact hz);rw[hlen];refine⟨.ref s.heap.objs.size,_,I.laid (t':=s.toks) (o:=.tup (gJ xs lo hi)) (λb ob q=>Heap.get?_push_of_some _ q) (bB _) ?_,rfl,q _ (I.ao.fresh (bB _))⟩;exact⟨aS (Ec xs lo hi) hz,_,(r.drop (HT.bb xs.length 0 lo)).take (HT.bb xs.length xs.length hi-HT.bb xs.length 0 lo),IsTup.new _ _⟩
end
noncomputable def jk(n:Nat)(i:Int):Option Nat:=if 0<=i then (if i<n then some i.toNat else none) else if -(n:Int)<=i then some (i+n).toNat else none
noncomputable def kN{α:Type}(xs:List α)(i:Int):Option α:=(jk xs.length i).bind λj=>xs[j]?
theorem yY{n:Nat}{i:Int}{j:Nat}(h:jk n i=some j):seqIndex? i n=some j/\j<n/\-(n:Int)<=i/\i<n:=by
 unfold jk at h;by_cases h0:0<=i
 ·rw[if_pos h0] at h;by_cases h1:i<n
  ·rw[if_pos h1] at h;have e:i.toNat=j:=a4 h;exact⟨by rw[seqIndex_of h0 h1,e],by omega,by omega,h1⟩
  ·rw[if_neg h1] at h;cases h
 ·rw[if_neg h0] at h;by_cases h1:-(n:Int)<=i
  ·rw[if_pos h1] at h;have e:(i+n).toNat=j:=a4 h;exact⟨by rw[seqIndex_neg (by omega) h1,e],by omega,h1,by omega⟩
  ·rw[if_neg h1] at h;cases h
theorem Ed{α:Type}{xs:List α}{i:Int}{v:α}(h:kN xs i=some v):∃j,seqIndex? i xs.length=some j/\xs[j]?=some v/\j<xs.length/\-(xs.length:Int)<=i/\i<xs.length:=by
 unfold kN at h;cases e:jk xs.length i with
 |none=>rw[e] at h;cases h
 |some j=>rw[e] at h;obtain⟨h1,h2,h3,h4⟩:=yY e;exact⟨j,h1,h,h2,h3,h4⟩
theorem vm{α:Type}{xs:List α}{j:Nat}{v:α}(h:xs[j]?=some v):kN xs (j:Int)=some v:=by
 have hj:j<xs.length:=(bh.mp h).1;have e:jk xs.length (j:Int)=some j:=by unfold jk;rw[if_pos (by omega),if_pos (by omega)];simp
 unfold kN;rw[e];exact h
noncomputable def Nw(b:Expr):Prop:=∀o i,subscripted b false o i=operate [o,i] (getItem o i)
noncomputable def nF(X:Cx)(r:R2):Prop:=
 ∀(value slice:Expr) (pins:List (Addr×Obj)) (s:Shared) (σ:St) (H:Hp) (x y:V) (v u:Value) (Q:VK),Inv X pins σ H s->RelV x v->RelV y u->r x y H Q->
  subscripted slice false v u=operate [v,u] (getItem v u)->wpAny (model X.prog X.w) X.A (subscriptTail value slice v u) (EP X pins σ Q) X.xe s
noncomputable def nG(X:Cx)(id:String)(r:V->List V->Hp->VK->Prop):Prop:=
 ∀(pins:List (Addr×Obj)) (s:Shared) (σ:St) (H:Hp) (x:V) (xs:List V) (v:Value) (us:List Value) (Q:VK),Inv X pins σ H s->RelV x v->Vals xs us->r x xs H Q->
  wpAny (model X.prog X.w) X.A (call (.builtin id) (v::us)) (EP X pins σ Q) X.xe s
section
variable {X:Cx}{a b:Expr}{ta tb:TE}{pos:Pos}
theorem nF.or{r r':R2}(h:nF X r)(h':nF X r'):nF X (λx y H Q=>r x y H Q\/r' x y H Q):=by
 intro value slice pins s σ H x y v u Q I rx ry q hs;rcases q with q | q
 ·exact h value slice pins s σ H x y v u Q I rx ry q hs
 ·exact h' value slice pins s σ H x y v u Q I rx ry q hs
theorem nG.or{id:String}{r r':V->List V->Hp->VK->Prop}(h:nG X id r)(h':nG X id r'):nG X id (λx xs H Q=>r x xs H Q\/r' x xs H Q):=by
 intro pins s σ H x xs v us Q I rx rs q;rcases q with q | q
 ·exact h pins s σ H x xs v us Q I rx rs q
 ·exact h' pins s σ H x xs v us Q I rx rs q
theorem cx{r:R2}(hr:nF X r)(ha:PE X a ta)(hb:PE X b tb)(hs:Nw b):PE X (.Subscript a b pos) (iF r ta tb):=by intro pins s σ H Q I h;exact Subscript_ (yN ha hb I h λv u s2 x y H2 I2 rx ry q=>hr a b pins s2 σ H2 x y v u Q I2 rx ry q (hs _ _))
noncomputable def Ny(K:PySem.W.Frag):R2:=λx y H Q=>∃p xs i v,x=.ref p/\y=.int i/\ax K H p xs/\kN xs i=some v/\Q v H
noncomputable def Nz(K:PySem.W.Frag):R2:=λx y H Q=>∃p xs i v,x=.ref p/\y=.int i/\aQ K H p xs/\kN xs i=some v/\Q v H
theorem cC:nF X (Ny X.K):=by
 intro value slice pins s σ H x y v u Q I rx ry h hs;obtain⟨p,xs,i,z,rfl,rfl,hq,he,q⟩:=h;cases rx;obtain⟨t,rfl⟩:=ry;obtain⟨au,r,pl,hz⟩:=I.list hq;obtain⟨j,h1,h2,h3,h4,h5⟩:=Ed he;obtain⟨w,ew,d6⟩:=r.get h2;have hl:=r.length;have hn:=ve;have fin:EP X pins σ Q w s:=⟨z,H,I,d6,q⟩;by_cases h0:0<=i
 ·have hj:i.toNat=j:=by rw[seqIndex_of h0 h5] at h1;exact a4 h1
  exact item_listR pl.isList h0 (by omega) (by rw[hj];simpa using ew) fin hs
 ·have hj:(i+(au.toArray.size:Int)).toNat=j:=by rw[seqIndex_neg (by omega) h4] at h1;rw[cI,<-hl];exact a4 h1
  exact subscriptTail_builtinR (x:=w) pl.isList.typeIs slot_list_getitem.lookup
   (wpAny_getItem_list_neg (Q:=λr s'=>r=w/\EP X pins σ Q r s') pl.isList (by omega) (by rw[cI]<;>omega) (by omega) (by rw[hj];simpa using ew) ⟨rfl,fin⟩) hs
theorem NA:nF X (Nz X.K):=by
 intro value slice pins s σ H x y v u Q I rx ry h hs;obtain⟨p,xs,i,z,rfl,rfl,hq,he,q⟩:=h;cases rx;obtain⟨t,rfl⟩:=ry;obtain⟨au,r,pl,hz⟩:=I.tuple hq;obtain⟨j,h1,h2,h3,h4,h5⟩:=Ed he;obtain⟨w,ew,d6⟩:=r.get h2;have hl:=r.length;have hn:=ve;have fin:EP X pins σ Q w s:=⟨z,H,I,d6,q⟩;exact subscriptTail_builtinR (x:=w) pl.typeIs slot_tuple_getitem.lookup
  (getItem_tuple (j:=j) (Q:=λr s'=>r=w/\EP X pins σ Q r s') pl (by omega) (by omega) (by rw[cI,<-hl];exact h1) (by simpa using ew) ⟨rfl,fin⟩) hs
theorem NC(au:List Value)(n j:Nat)(u:Value):Obj.mapSeq (·.setIfInBounds j u) {cls:=.type "list",data:=.seq au.toArray n}={cls:=.type "list",data:=.seq (au.set j u).toArray n}:=by simp[Obj.mapSeq]
theorem Inv.lst{pins:List (Addr×Obj)}{σ:St}{H:Hp}{s:Shared}{p:Addr}{xs:List V}(I:Inv X pins σ H s)(h:H p=some (.lst xs)) :
 ∃(au:List Value) (n:Nat),Vals xs au/\s.heap.get? p=some {cls:=.type "list",data:=.seq au.toArray n}/\xs.length<=sizeLine:=by
 obtain⟨z,au,n,r,e⟩:=I.ao p _ h;exact⟨au,n,r,e,z⟩
theorem Inv.NF{pins:List (Addr×Obj)}{σ:St}{H:Hp}{s:Shared}{p:Addr}{xs ys:List V}{au its':List Value}{n n':Nat}{f:Obj->Obj}(I:Inv X pins σ H s)(h:H p=some (.lst xs))
 (ho:s.heap.get? p=some {cls:=.type "list",data:=.seq au.toArray n}) (hf:f {cls:=.type "list",data:=.seq au.toArray n}={cls:=.type "list",data:=.seq its'.toArray n'}) (r:Vals ys its') (hz:ys.length<=sizeLine) (t:Nat) :
 Inv X pins σ (upd H p (.lst ys)) {s with heap:=s.heap.update p f,toks:=t}:=by
 have e:(s.heap.update p f).get? p=some {cls:=.type "list",data:=.seq its'.toArray n'}:=by rw[Heap.get?_update_self f ho (by rw[hf]<;>rfl),hf]
 refine I.write (x:=p) (e:=p) (by rw[h];trivial) (.inl rfl) (λb u hb q=>(Heap.get?_update_other _ _ (bu hb)).trans q) ⟨_,e⟩ ?_;exact⟨hz,its',n',r,e⟩
noncomputable def NG:V->V->V->Hp->(Hp->Prop)->Prop:=λo i v H Q=>∃p xs k j,o=.ref p/\i=.int k/\H p=some (.lst xs)/\jk xs.length k=some j/\Q (upd H p (.lst (xs.set j v)))
theorem set_list:Ds X NG:=by
 intro pins s σ H o i v ov iv u Q I ro ri rv h;obtain⟨p,xs,k,j,rfl,rfl,hp,hj,q⟩:=h;cases ro;obtain⟨t,rfl⟩:=ri;obtain⟨au,n,r,ho,hz⟩:=I.lst hp;obtain⟨h1,h2,h3,h4⟩:=yY hj;have hl:=r.length;have hn:=ve;have I':Inv X pins σ (upd H p (.lst (xs.set j v))) {s with heap:=s.heap.update p (Obj.mapSeq (·.setIfInBounds j u))}:=
  I.NF hp ho (NC au n j u) (r.set rv j) (by rw[rb];exact hz) s.toks
 by_cases h0:0<=k
 ·have hk:k.toNat=j:=by rw[seqIndex_of h0 h4] at h1;exact a4 h1
  exact PySem.W.ki_setAt ho h0 (by omega) (by rw[cI,<-hl];exact h4) (by rw[hk];exact⟨_,I',q⟩)
 ·have hk:(k+(au.toArray.size:Int)).toNat=j:=by rw[seqIndex_neg (by omega) h3] at h1;rw[cI,<-hl];exact a4 h1
  exact PySem.W.ki_setBack ho (by omega) (by rw[cI,<-hl];exact h3) (by omega) (by rw[hk];exact⟨_,I',q⟩)
theorem NH(lo hi:Option Int)(n:Nat):(sliceBounds lo hi none n).1=((HT.bb n 0 lo:Nat):Int)/\(sliceBounds lo hi none n).2.1=((HT.bb n n hi:Nat):Int)/\(sliceBounds lo hi none n).2.2=1:=by
 refine⟨?_,?_,rfl⟩
 ·cases lo with
  |none=>simp[sliceBounds,HT.bb]
  |some i=>
   simp only[sliceBounds,HT.bb,Option.getD_none,show(1:Int)>0 by decide,eM];by_cases h:i<0
   ·simp only[h,eM]<;>omega
   ·simp only[h,dS]<;>omega
 ·cases hi with
  |none=>simp[sliceBounds,HT.bb]
  |some i=>
   simp only[sliceBounds,HT.bb,Option.getD_none,show(1:Int)>0 by decide,eM];by_cases h:i<0
   ·simp only[h,eM]<;>omega
   ·simp only[h,dS]<;>omega
theorem NI(au:List Value)(lo hi:Option Int):slicePick au.toArray lo hi none=((au.drop (HT.bb au.length 0 lo)).take (HT.bb au.length au.length hi-HT.bb au.length 0 lo)).toArray:=by obtain⟨h1,h2,h3⟩:=NH lo hi au.toArray.size;unfold slicePick;rw[h1,h2,h3];simp only[sliceRange_one,pick_run,cI]<;>rfl
noncomputable def NJ(K:PySem.W.Frag):V->Option Int->Option Int->Hp->VK->Prop:=λx lo hi H Q=>∃a xs,x=.ref a/\ax K H a xs/\∀p,H p=none->Q (.ref p) (upd H p (.lst (gJ xs lo hi)))
theorem yZ:me X (NJ X.K):=by intro pins s σ H x v vl vu lo hi sl Q I rx hs pl pu h;obtain⟨a,xs,rfl,hx,q⟩:=h;cases rx;obtain⟨au,r,ht,hz⟩:=I.list hx;have hlen:=r.length;refine⟨"list",_,slot_list_getitem.lookup,ht.isList.typeIs,?_⟩;refine wpAny_getItem_list_slice ht.isList hs pl pu .none (by simp) ?_ (by rw[cI]<;>omega);rw[NI,<-hlen];refine⟨.ref s.heap.objs.size,_,I.laid (t':=s.toks) (o:=.lst (gJ xs lo hi)) (λb ob q=>Heap.get?_push_of_some _ q) (bB _) ?_,rfl,q _ (I.ao.fresh (bB _))⟩;exact⟨aS (Ec xs lo hi) hz,_,0,(r.drop (HT.bb xs.length 0 lo)).take (HT.bb xs.length xs.length hi-HT.bb xs.length 0 lo),Heap.get?_push_size _ rfl⟩
noncomputable def gK:V->Bool
 |.ak=>true
 |.bl _=>true
 |.int _=>true
 |.str _=>true
 |_=>false
noncomputable def jl:V->V->Bool
 |.ak,.ak=>true
 |.bl a,.bl b=>a==b
 |.bl a,.int b=>(if a then 1 else 0)==b
 |.int a,.bl b=>a==(if b then 1 else 0)
 |.int a,.int b=>a==b
 |.str a,.str b=>a==b
 |_,_=>false
theorem NK{A:Around}{s:Shared}{y x:V}{u v:Value}(ry:RelV y u)(rx:RelV x v)(fy:gK y=true)(fx:gK x=true):SeqAt.EqAt A s u v (jl y x):=by
 cases y with
 |ak=>
  cases ry;cases x with
  |ak=>cases rx;exact SeqAt.EqAt.same _
  |bl b=>cases rx;exact SeqAt.EqAt.none_bool b
  |int b=>obtain⟨t,rfl⟩:=rx;exact SeqAt.EqAt.none_int b t
  |str b=>obtain⟨t,rfl⟩:=rx;exact SeqAt.EqAt.none_str b t
  |_=>exact absurd (show false=true from fx) dj
 |bl a=>
  cases ry;cases x with
  |ak=>cases rx;exact SeqAt.EqAt.bool_none a
  |bl b=>cases rx;exact SeqAt.EqAt.bool_bool a b
  |int b=>obtain⟨t,rfl⟩:=rx;exact SeqAt.EqAt.bool_int a b t
  |str b=>obtain⟨t,rfl⟩:=rx;exact SeqAt.EqAt.bool_str a b t
  |_=>exact absurd (show false=true from fx) dj
 |int a=>
  obtain⟨t',rfl⟩:=ry;cases x with
  |ak=>cases rx;exact SeqAt.EqAt.int_none a t'
  |bl b=>cases rx;exact SeqAt.EqAt.int_bool a t' b
  |int b=>obtain⟨t,rfl⟩:=rx;exact SeqAt.EqAt.int_int a t' b t
  |str b=>obtain⟨t,rfl⟩:=rx;exact SeqAt.EqAt.int_str a t' b t
  |_=>exact absurd (show false=true from fx) dj
 |str a=>
  obtain⟨t',rfl⟩:=ry;cases x with
  |ak=>cases rx;exact SeqAt.EqAt.str_none a t'
  |bl b=>cases rx;exact SeqAt.EqAt.str_bool a t' b
  |int b=>obtain⟨t,rfl⟩:=rx;exact SeqAt.EqAt.str_int a t' b t
  |str b=>obtain⟨t,rfl⟩:=rx;exact SeqAt.EqAt.str_str a t' b t
  |_=>exact absurd (show false=true from fx) dj
 |_=>exact absurd (show false=true from fy) dj
noncomputable def j4(x:V)(u:Value):Bool:=match u with
 |.none=>jl .ak x
 |.bool b=>jl (.bl b) x
 |.int i _=>jl (.int i) x
 |.str z _=>jl (.str z) x
 |_=>false
theorem vn{x y:V}{u:Value}(r:RelV y u)(f:gK y=true):j4 x u=jl y x:=by
 cases y with
 |ak=>cases r;rfl
 |bl b=>cases r;rfl
 |int i=>obtain⟨t,rfl⟩:=r;rfl
 |str z=>obtain⟨t,rfl⟩:=r;rfl
 |_=>exact absurd (show false=true from f) dj
theorem y0{x:V}:∀{xs:List V} {us:List Value},Vals xs us->xs.all gK=true->us.any (j4 x)=xs.any λy=>jl y x
 |_,_,.nil,_=>rfl
 |y::xs,u::us,.cons r t,f=>by rw[uN,bq] at f;rw[uM,uM,vn r f.1,y0 t f.2]
theorem vo{A:Around}{s:Shared}{x:V}{v:Value}(rx:RelV x v)(fx:gK x=true):∀{xs:List V} {us:List Value},Vals xs us->xs.all gK=true->∀u∈us,SeqAt.EqAt A s u v (j4 x u)
 |_,_,.nil,_=>λu hu=>by cases hu
 |y::xs,u::us,.cons r t,f=>λu' hu=>by
  rw[uN,bq] at f;rcases bL.mp hu with rfl | hu
  ·rw[vn r f.1];exact NK r rx f.1 fx
  ·exact vo rx fx t f.2 u' hu
noncomputable def mf(x:V)(xs:List V):Bool:=xs.any λy=>jl y x
noncomputable def NL(K:PySem.W.Frag)(neg:Bool):R2:=λx y H Q=>∃p xs,y=.ref p/\(ax K H p xs\/aQ K H p xs)/\gK x=true/\xs.all gK=true/\Q (.bl (if neg then !mf x xs else mf x xs)) H
theorem Ee:cF X (compareOp .In) (NL X.K false):=by
 intro pins s σ H x y v u Q I rx ry h;obtain⟨p,xs,rfl,hq,fx,fs,q⟩:=h;cases ry;rcases hq with hq | hq
 ·obtain⟨au,r,pl,hz⟩:=I.list hq;refine SeqAt.in_listAt (j4 x) pl.isList (λw hw=>vo rx fx r fs w (by simpa using hw)) ⟨.bl _,H,I,rfl,?_⟩;rw[show au.toArray.any (j4 x)=au.any (j4 x) by simp,y0 r fs];exact q
 ·obtain⟨au,r,pl,hz⟩:=I.tuple hq;refine SeqAt.in_tupleAt (j4 x) pl (λw hw=>vo rx fx r fs w (by simpa using hw)) ⟨.bl _,H,I,rfl,?_⟩;rw[show au.toArray.any (j4 x)=au.any (j4 x) by simp,y0 r fs];exact q
theorem dE:jY X (.builtin "len") (λxs H Q=>∃p ys,xs=[.ref p]/\(ax X.K H p ys\/aQ X.K H p ys)/\Q (.int ys.length) H):=by
 intro pins s σ H xs us Q I r h;obtain⟨p,ys,rfl,hq,q⟩:=h;obtain⟨u,rfl,rx⟩:=vals1 r;cases rx;have hn:=ve;rcases hq with hq | hq
 ·obtain⟨au,r',pl,hz⟩:=I.list hq;have hlen:=r'.length;exact Calls.call_len_list pl.isList (by simp only[cI]<;>omega) ⟨.int ys.length,H,I.tok _,⟨s.toks+1,by rw[cI,hlen]⟩,q⟩
 ·obtain⟨au,r',pl,hz⟩:=I.tuple hq;have hlen:=r'.length;exact len_tuple pl (by simp only[cI]<;>omega) ⟨.int ys.length,H,I.tok _,⟨s.toks+1,by rw[cI,hlen]⟩,q⟩
theorem jY.or{f:Value}{r r':List V->Hp->VK->Prop}(h:jY X f r)(h':jY X f r'):jY X f (λxs H Q=>r xs H Q\/r' xs H Q):=by
 intro pins s σ H xs us Q I rs q;rcases q with q | q
 ·exact h pins s σ H xs us Q I rs q
 ·exact h' pins s σ H xs us Q I rs q
theorem vp:jY X (.type "list") (λxs H Q=>∃p ys,xs=[.ref p]/\(ax X.K H p ys\/aQ X.K H p ys)/\∀l,H l=none->Q (.ref l) (upd H l (.lst ys))):=by
 intro pins s σ H xs us Q I r h;obtain⟨p,ys,rfl,hq,q⟩:=h;obtain⟨u,rfl,rx⟩:=vals1 r;cases rx;have fin:∀(au:List Value),Vals ys au->ys.length<=sizeLine->∀(h':Heap) (c':Nat),(∀b o',s.heap.get? b=some o'->h'.get? b=some o')->
  h'.get? s.heap.objs.size=some {cls:=.type "list",dict:=none,data:=.seq au.toArray c',slots:=#[]}->EP X pins σ Q (.ref s.heap.objs.size) {s with heap:=h'}:=λau r' hz h' c' kp e=>
  ⟨.ref s.heap.objs.size,_,I.laid (t':=s.toks) kp (bB _) (show cV X.prog X.w _ h' _ (.lst ys) from ⟨hz,au,c',r',e⟩),rfl,q _ (I.ao.fresh (bB _))⟩
 rcases hq with hq | hq
 ·obtain⟨au,r',pl,hz⟩:=I.list hq;have hlen:=r'.length;obtain⟨o,ho,hc,n,hd⟩:=pl.isList;exact call_list_seq p (.inl rfl) ho hc hd (λh' c' kp e=>fin au r' hz h' c' kp e) (by simp only[cI]<;>omega)
 ·obtain⟨au,r',pl,hz⟩:=I.tuple hq;have hlen:=r'.length;obtain⟨o,ho,hc,n,hd⟩:=pl;exact call_list_seq p (.inr rfl) ho hc hd (λh' c' kp e=>fin au r' hz h' c' kp e) (by simp only[cI]<;>omega)
theorem rN:jY X (.type "tuple") (λxs H Q=>∃p ys,xs=[.ref p]/\((ax X.K H p ys/\∀l,H l=none->Q (.ref l) (upd H l (.tup ys)))\/(aQ X.K H p ys/\Q (.ref p) H))):=by
 intro pins s σ H xs us Q I r h;obtain⟨p,ys,rfl,h⟩:=h;obtain⟨u,rfl,rx⟩:=vals1 r;cases rx;rcases h with ⟨hq,q⟩ | ⟨hq,q⟩
 ·obtain⟨au,r',pl,hz⟩:=I.list hq;have hlen:=r'.length;refine call_tuple_list pl.isList (λh' kp=>?_) (by simp only[cI]<;>omega);have I1:Inv X pins σ H {s with heap:=h'}:=I.kept (t':=s.toks) kp;have I2:Inv X pins σ (upd H h'.objs.size (.tup ys)) {s with heap:=h'.push {cls:=.type "tuple",data:=.seq au.toArray}}:=
   I1.laid (t':=s.toks) (λb o e=>Heap.get?_push_of_some _ e) (bB _) (show cV X.prog X.w _ _ _ (.tup ys) from ⟨hz,au,r',IsTup.new _ _⟩)
  exact⟨.ref h'.objs.size,_,I2,rfl,q _ (I1.ao.fresh (bB _))⟩
 ·obtain⟨au,r',pl,hz⟩:=I.tuple hq;exact call_tuple_same pl ⟨.ref p,H,I,rfl,q⟩
noncomputable def Ef(K:PySem.W.Frag)(T:String)(x:V)(H:Hp):Prop:=match x with
 |.str _=>T="str"
 |.int _=>T="int"
 |.ref p=>(T="list"/\∃xs,ax K H p xs)\/(T="tuple"/\∃o,K.lookup p=some o/\o.cls=.type "tuple"/\o.dict=none)\/
  (T="dict"/\((∃kvs,H p=some (.dK kvs))\/∃kvs,H p=some (.dT kvs)))\/(T="set"/\∃S n,H p=some (.set S n))
 |_=>False
theorem NM{pins:List (Addr×Obj)}{σ:St}{H:Hp}{s:Shared}{T:String}{x:V}{v:Value}(I:Inv X pins σ H s)(r:RelV x v)(ty:Ef X.K T x H) :
 s.TypeIs v T/\∀a,v=.ref a->∃ob,s.heap.get? a=some ob/\ob.dict=none:=by
 cases x with
 |str z=>obtain⟨t,rfl⟩:=r;cases(show T="str" from ty);exact⟨typeIs_str s z t,λ_ e=>nomatch e⟩
 |int i=>obtain⟨t,rfl⟩:=r;cases(show T="int" from ty);exact⟨typeIs_int s i t,λ_ e=>nomatch e⟩
 |ref p=>
  cases r;rcases ty with ⟨rfl,xs,hq⟩ | ⟨rfl,o,hk,hc,hd⟩ | ⟨rfl,hk⟩ | ⟨rfl,S,n,hk⟩
  ·obtain⟨au,_,pl,_⟩:=I.list hq;refine⟨pl.isList.typeIs,λa e=>?_⟩;cases e;obtain⟨o,n,e,c,hd,_⟩:=pl;exact⟨o,e,hd⟩
  ·refine⟨⟨o,I.g9 p o hk,hc⟩,λa e=>?_⟩;cases e;exact⟨o,I.g9 _ o hk,hd⟩
  ·have z:∃o,s.heap.get? p=some o/\o.ExactDict:=by
    rcases hk with ⟨kvs,hk⟩ | ⟨kvs,hk⟩
    ·obtain⟨_,_,_,_,o,_,_,e,ex,_⟩:=I.ao p _ hk;exact⟨o,e,ex⟩
    ·obtain⟨_,_,_,_,o,_,_,e,ex,_⟩:=I.ao p _ hk;exact⟨o,e,ex⟩
   obtain⟨o,e,ex⟩:=z;refine⟨⟨o,e,ex.1⟩,λa e2=>?_⟩;cases e2;exact⟨o,e,ex.2.1⟩
  ·obtain⟨o,_,_,_,e,ex,_⟩:=I.ao p _ hk;refine⟨⟨o,e,ex.1⟩,λa e2=>?_⟩;cases e2;exact⟨o,e,ex.2.1⟩
 |_=>exact False.elim ty
noncomputable def y4(K:PySem.W.Frag)(T:String)(r:V->List V->Hp->VK->Prop)(to:TE)(t:TA):TE:=λσ H Q=>to σ H λx H1=>Ef K T x H1/\t σ H1 λxs H2=>r x xs H2 Q
variable {o e:Expr}{es:List Expr}{to:TE}{t:TA}{name:Str}{apos bN:Pos}{T id:String}{r:V->List V->Hp->VK->Prop}
theorem cZ(pa:PlainAttrs T)(slot:Slot T name id)(NN:typeOf (.builtin id)=pure (.type "method_descriptor"))(hm:nG X id r)(ho:PE X o to)(ha:PA X (e::es) t)
 (y6:attributeBase o name X.env (eval o X.env)=eval o X.env:=by rfl)
 (NO:((backTo bN (starEach (e::es) X.env)).all (λx=>!x.1)&&(backToKw bN (keywordEach [] X.env)).all (λx=>x.1.isSome)
  && decide ((e::es).length+([]:List Keyword).length+(if ([]:List Keyword).isEmpty then 0 else 1)<30))=true:=by rfl)
 (NP:(apos.endLine==bN.line)=true:=by rfl) (hs:starEach (e::es) X.env=(false,eval e X.env)::starEach es X.env:=by rfl) (NQ:(backTo bN (starEach es X.env)).any (·.1)=false:=by rfl) :
 PE X (.Call (.Attribute o name apos) (e::es) [] bN) (y4 X.K T r to t):=by
 intro pins s σ H Q I h;refine wpAny_Call_method_late y6 NO NP rfl (aI (ho pins s σ H _ I h) λv s1 zq=>?_);obtain⟨x,H1,I1,r1,ty,q1⟩:=zq;obtain⟨h1,h2⟩:=NM I1 r1 ty;refine⟨T,id,pa,slot,NN,h1,h2,?_⟩;have hA:=ha bN pins s1 σ H1 _ I1 q1;rw[hs] at hA ⊢;refine Calls.callWith_builtin (by show(false||(backTo bN (starEach es X.env)).any (·.1))=false;rw[NQ]<;>rfl) (Calls.evalArgs_plain ?_);refine aI hA λus s2 zq=>?_;obtain⟨vs,H2,I2,r2,q2⟩:=zq;exact hm pins s2 σ H2 x vs v us Q I2 r1 r2 q2
end
noncomputable def y8(X:Cx)(id:String)(r:V->List V->Hp->VK->Prop):Prop:=
 ∀(pins:List (Addr×Obj)) (s:Shared) (σ:St) (H:Hp) (x:V) (xs:List V) (v:Value) (us:List Value) (Q:VK),Inv X pins σ H s->RelV x v->Vals xs us->r x xs H Q->
  wpAny (model X.prog X.w) X.A (call (.builtin id) (v::us)) (EP X pins σ Q) X.xe s
theorem Vals.one:∀{x:V} {us:List Value},Vals [x] us->∃u,us=[u]/\RelV x u
 |_,_,.cons r .nil=>⟨_,rfl,r⟩
theorem Vals.zero:∀{us:List Value},Vals [] us->us=[]
 |_,.nil=>rfl
theorem Vals.eraseIdx:∀{xs:List V} {us:List Value} (i:Nat),Vals xs us->Vals (xs.eraseIdx i) (us.eraseIdx i)
 |_,_,_,.nil=>.nil
 |_,_,0,.cons _ t=>t
 |_,_,i+1,.cons r t=>.cons r (Vals.eraseIdx i t)
theorem Vals.reverse{xs:List V}{us:List Value}(h:Vals xs us):Vals xs.reverse us.reverse:=by
 induction h with
 |nil=>exact .nil
 |cons r t ih=>rw[List.reverse_cons,List.reverse_cons];exact Vals.append ih (.cons r .nil)
section
variable {X:Cx}{pins:List (Addr×Obj)}{σ:St}{H:Hp}{s:Shared}{l b:Addr}{xs ys zs:List V}
theorem Inv.y9{au its':List Value}{n:Nat}{f:Array Value->Array Value}{t':Nat}(I:Inv X pins σ H s)(hH:H l=some (.lst xs))
 (e:s.heap.get? l=some {cls:=.type "list",data:=.seq au.toArray n}) (hf:f au.toArray=its'.toArray) (hv:Vals ys its') (hz:ys.length<=sizeLine) :
 Inv X pins σ (upd H l (.lst ys)) {s with heap:=s.heap.update l (Obj.mapSeq f),toks:=t'}:=by
 have q:=PySem.IsL.update e f;rw[hf] at q;refine I.write (x:=l) (e:=l) (by rw[hH];exact trivial) (.inl rfl) (λb' u hb hu=>(Heap.get?_update_other s.heap (Obj.mapSeq f) (bu hb)).trans hu) ⟨_,q⟩ ?_;exact⟨hz,its',_,hv,q⟩
theorem Inv.NR{au:List Value}{t':Nat}(I:Inv X pins σ H s)(hv:Vals ys au)(hz:ys.length<=sizeLine) :
 Inv X pins σ (upd H s.heap.objs.size (.lst ys)) {s with heap:=s.heap.push {cls:=.type "list",data:=.seq au.toArray},toks:=t'}:=
 I.laid (λ_ _ q=>Heap.get?_push_of_some _ q) (bB _) ⟨hz,au,0,hv,Heap.get?_push_size _ rfl⟩
theorem Inv.fresh(I:Inv X pins σ H s):H s.heap.objs.size=none:=I.ao.fresh (bB _)
theorem Inv.pN(I:Inv X pins σ H s)(hH:H l=some (.lst xs)):xs.length<=sizeLine/\∃(au:List Value) (n:Nat),Vals xs au/\xs.length=au.length/\s.heap.get? l=some {cls:=.type "list",data:=.seq au.toArray n}:=by obtain⟨z,au,n,r,e⟩:=I.ao l _ hH;exact⟨z,au,n,r,r.length,e⟩
theorem Eg{n:Nat}(h:n<=sizeLine):Builtin.List.listTooLong n=false:=by unfold Builtin.List.listTooLong;exact eo (by omega)
end
section
variable {X:Cx}
noncomputable def za:V->List V->Hp->VK->Prop:=λx vs H Q=>∃l xs y,x=.ref l/\vs=[y]/\H l=some (.lst xs)/\xs.length<sizeLine/\Q .ak (upd H l (.lst (xs++[y])))
theorem fT:y8 X "list.append" za:=by intro pins s σ H x vs v us Q I rx rv h;obtain⟨l,xs,y,rfl,rfl,hH,hz,q⟩:=h;cases rx;obtain⟨u,rfl,ru⟩:=rv.one;obtain⟨z,au,n,r,hl,e⟩:=I.pN hH;refine call_meets F.slot_list_append ⟨_,e,rfl⟩ F.entry_list_append (F.args_list_append_2 _ _) (PySem.list_append l au.toArray n u (by rw[cI];omega)) ⟨e,?_⟩;refine⟨.ak,_,I.y9 (its':=au++[u]) hH e (by simp) (r.append (.cons ru .nil)) ?_,rfl,q⟩;rw[aX,List.length_singleton];omega
noncomputable def NS:V->List V->Hp->VK->Prop:=λx vs H Q=>∃l b xs zs,x=.ref l/\vs=[.ref b]/\H l=some (.lst xs)/\H b=some (.lst zs)/\xs.length+zs.length<=sizeLine/\Q .ak (upd H l (.lst (xs++zs)))
theorem pO:y8 X "list.extend" NS:=by
 intro pins s σ H x vs v us Q I rx rv h;obtain⟨l,b,xs,zs,rfl,rfl,hH,hB,hz,q⟩:=h;cases rx;obtain⟨u,rfl,ru⟩:=rv.one;cases ru;obtain⟨z,au,n,r,hl,e⟩:=I.pN hH;obtain⟨z2,hU,n2,r2,fU,e2⟩:=I.pN hB;have hsz:au.toArray.size+hU.toArray.size<=sizeLine:=by rw[cI,cI];omega
 have zb:¬(!au.toArray.isEmpty&&Builtin.List.listTooLong (au.toArray.size+hU.toArray.size))=true:=by rw[Eg hsz,yq];exact dj
 refine call_meets F.slot_list_extend ⟨_,e,rfl⟩ F.entry_list_extend (F.args_list_extend_2 _ _)
  (AutoSeq1.list_extend_list_list_0 l au.toArray n b hU.toArray n2 zb (by rw[cI];omega) (by omega)) ⟨e,e2,?_⟩
 refine⟨.ak,_,I.y9 (its':=au++hU) hH e (by simp) (r.append r2) ?_,rfl,q⟩;rw[aX];omega
noncomputable def Eh:R2:=λx y H Q=>∃l b xs zs,x=.ref l/\y=.ref b/\H l=some (.lst xs)/\H b=some (.lst zs)/\xs.length+zs.length<=sizeLine/\∀p,H p=none->Q (.ref p) (upd H p (.lst (xs++zs)))
theorem ff:cF X (binaryOp .Add) Eh:=by
 intro pins s σ H x y v u Q I rx ry h;obtain⟨l,b,xs,zs,rfl,rfl,hH,hB,hz,q⟩:=h;cases rx;cases ry;obtain⟨z,au,n,r,hl,e⟩:=I.pN hH;obtain⟨z2,hU,n2,r2,fU,e2⟩:=I.pN hB;refine PySem.P.add_list e e2 ?_ (by rw[cI,cI];omega);have ea:au.toArray++hU.toArray=(au++hU).toArray:=by simp
 rw[ea];exact⟨.ref _,_,I.NR (t':=s.toks) (r.append r2) (by rw[aX];omega),rfl,q _ I.fresh⟩
end
section
variable {prog:Program}{w:World}{A:Around}{E:Value->Shared->Prop}{s:Shared}
end
section
variable {X:Cx}
end
section
variable {prog:Program}{w:World}{A:Around}{E:Value->Shared->Prop}{s:Shared}{l:Addr}{au:List Value}{ns:List Int}{Q:Value->Shared->Prop}
end
section
variable {X:Cx}
noncomputable def NT(K:PySem.W.Frag):V->List V->Hp->VK->Prop:=λx xs H Q=>∃(a:Addr) (ys:List V) (y:V) (j:Nat) (z:V),x=V.ref a/\xs=[y]/\ax K H a ys/\gK y=true/\ys.all gK=true/\ys[j]?=some z/\jl z y=true/\
 (∀(m:Nat) (z':V),m<j->ys[m]?=some z'->jl z' y=false)/\Q (.int (j:Nat)) H
theorem Ei{ys:List V}(f:ys.all gK=true){j:Nat}{z:V}(h:ys[j]?=some z):gK z=true:=eV.mp f z (cE h)
theorem zc:nG X "list.index" (NT X.K):=by
 intro pins s σ H x xs v us Q I rx NU h;obtain⟨a,ys,y,j,z,rfl,rfl,hs,fy,zd,hz,NV,gI,q⟩:=h;cases rx;cases NU with
 |cons ry rt=>
  rename_i uy ut;cases rt;obtain⟨au,rv,⟨⟨cls,dd,data,sl⟩,n,ho,hc,Zw,hd⟩,hlen⟩:=I.list hs;simp only at hc hd;subst hc hd;obtain⟨u,hu,ru⟩:=rv.get hz;obtain⟨ze,NW⟩:=bh.mp hu;have Ej:=rv.length;have hj:j<au.toArray.size:=by simpa using ze
  have vq:=sizeLine_eq;refine call_meets CO ⟨_,ho,rfl⟩ PySem.F.entry_list_index (PySem.F.args_list_index_2 _ _)
   (SeqAt.list_indexAt a au.toArray n dd sl uy (j4 y) j hj (by omega) ?_ ?_) ⟨ho,λu' NX=>vo ry fy rv zd u' (by simpa using NX),?_⟩
  ·have e1:au.toArray[j]=u:=by simpa using NW
   rw[e1,vn ru (Ei zd hz)];exact NV
  ·intro m hm NY;have Zx:m<au.length:=by simpa using hm
   have NZ:m<ys.length:=by omega
   have nH:ys[m]?=some ys[m]:=fm NZ;obtain⟨u2,N0,N1⟩:=rv.get nH;obtain⟨_,N2⟩:=bh.mp N0;have e1:au.toArray[m]=u2:=by simpa using N2
   rw[e1,vn N1 (Ei zd nH)];exact gI m _ NY nH
  ·exact⟨.int (j:Nat),H,I.tok _,⟨_,rfl⟩,q⟩
end
mutual
inductive Dp(K:PySem.W.Frag)(H:Hp):V->PyData->Prop
 |ak:Dp K H .ak .none
 |bl (b:Bool):Dp K H (.bl b) (.bool b)
 |int (i:Int):Dp K H (.int i) (.int i)
 |str (x:Str):Dp K H (.str x) (.str x)
 |lst {a:Addr} {xs:List V} {ds:List PyData}:ax K H a xs->mh K H xs ds->Dp K H (.ref a) (.list ds)
 |tup {a:Addr} {xs:List V} {ds:List PyData}:aQ K H a xs->mh K H xs ds->Dp K H (.ref a) (.tuple ds)
inductive mh(K:PySem.W.Frag)(H:Hp):List V->List PyData->Prop
 |nil:mh K H [] []
 |cons {v:V} {vs:List V} {d:PyData} {ds:List PyData}:Dp K H v d->mh K H vs ds->mh K H (v::vs) (d::ds)
end
section
variable {X:Cx}{pins:List (Addr×Obj)}{σ:St}{H:Hp}{s:Shared}
mutual
theorem Dp.reads(I:Inv X pins σ H s):∀(d:PyData) (v:V) (u:Value),Dp X.K H v d->RelV v u->∃as,Reads s.heap u d as
 |.none,_,_,h,r=>by cases h;cases r;exact⟨_,Reads.none⟩
 |.bool b,_,_,h,r=>by cases h;cases r;exact⟨_,Reads.bool b⟩
 |.int i,_,_,h,r=>by cases h;obtain⟨t,rfl⟩:=r;exact⟨_,Reads.int i t⟩
 |.str x,_,_,h,r=>by cases h;obtain⟨t,rfl⟩:=r;exact⟨_,Reads.str x t⟩
 |.list ds,_,_,h,r=>by
  cases h with
  |lst hs ha=>cases r;obtain⟨au,rv,⟨o,n,ho,hc,_,hd⟩,_⟩:=I.list hs;obtain⟨as,hr⟩:=Dp.readsAll I ds _ au ha rv;exact⟨_,Reads.list ho hc hd hr⟩
 |.tuple ds,_,_,h,r=>by
  cases h with
  |tup hs ha=>cases r;obtain⟨au,rv,⟨o,ho,hc,n,hd⟩,_⟩:=I.tuple hs;obtain⟨as,hr⟩:=Dp.readsAll I ds _ au ha rv;exact⟨_,Reads.tuple ho hc hd hr⟩
 |.dict _,_,_,h,_=>by cases h
theorem Dp.readsAll(I:Inv X pins σ H s):∀(ds:List PyData) (vs:List V) (us:List Value),mh X.K H vs ds->Vals vs us->∃as,ReadsAll s.heap us ds as
 |[],_,_,h,r=>by cases h;cases r;exact⟨_,ReadsAll.nil⟩
 |d::ds,_,_,h,r=>by
  cases h with
  |cons h1 h2=>
   cases r with
   |cons r1 r2=>obtain⟨as,q1⟩:=Dp.reads I d _ _ h1 r1;obtain⟨bs,q2⟩:=Dp.readsAll I ds _ _ h2 r2;exact⟨_,ReadsAll.cons q1 q2⟩
end
end
section
variable {X:Cx}
noncomputable def N3(K:PySem.W.Frag):R2:=λx y H Q=>∃d e,Dp K H x d/\Dp K H y e/\SeqAt.shaped d=true/\SeqAt.shaped e=true/\Q (.bl (PyData.eqv d e)) H
noncomputable def N4(K:PySem.W.Frag):R2:=λx y H Q=>∃d e,Dp K H x d/\Dp K H y e/\SeqAt.shaped d=true/\SeqAt.shaped e=true/\Q (.bl (!PyData.eqv d e)) H
theorem Ek(hu:X.A.units+64<cLine):cF X (compareOp .Eq) (N3 X.K):=by intro pins s σ H x y v u Q I rx ry h;obtain⟨d,e,hd,he,sd,se,q⟩:=h;obtain⟨as,r1⟩:=Dp.reads I d x v hd rx;obtain⟨bs,r2⟩:=Dp.reads I e y u he ry;exact SeqAt.compareEq_shaped r1 r2 sd se hu ⟨.bl _,H,I,rfl,q⟩
theorem El(hu:X.A.units+64<cLine):cF X (compareOp .NotEq) (N4 X.K):=by intro pins s σ H x y v u Q I rx ry h;obtain⟨d,e,hd,he,sd,se,q⟩:=h;obtain⟨as,r1⟩:=Dp.reads I d x v hd rx;obtain⟨bs,r2⟩:=Dp.reads I e y u he ry;exact SeqAt.compareNe_shaped r1 r2 sd se hu ⟨.bl _,H,I,rfl,q⟩
end
noncomputable abbrev bt(h:Heap)(c:Addr)(v:Option Value):Prop:=h.IsCell c v
noncomputable def N5(scope sc:Scope):Scope:=
 {scope with names:=scope.names.map λ(n,k)=>if (k==.free&&sc.kind==.function&&sc.names.lookup n==some .cell) then (n,.cell) else (n,k)}
noncomputable def dk(cells:List (Str×Addr)):List (Str×NameKind)->List (Str×Addr)->List (Str×Addr)
 |[],acc=>acc
 |(n,k)::r,acc=>if k==.free then dk cells r ((n,(cells.lookup n).getD 0)::acc) else dk cells r acc
theorem Em(env:Env)(f:Str×NameKind->List (Str×Addr)->Sem (ForInStep (List (Str×Addr))))
 (hf:∀n k c,f (n,k) c=if k==.free then (do let a <-cellOf env n;pure (.yield ((n,a)::c))) else pure (.yield c)) :
 ∀(names:List (Str×NameKind)) (acc:List (Str×Addr)),(∀y∈names,y.2=.free->∃c,env.cells.lookup y.1=some c)->forIn names acc f=pure (dk env.cells names acc)
 |[],acc,_=>by rw[List.forIn_nil];rfl
 |(n,k)::r,acc,h=>by
  rw[List.forIn_cons,hf];have ih:=λacc=>Em env f hf r acc λy hy=>h y (bO _ hy);unfold dk;by_cases hk:(k==NameKind.free)=true
  ·rw[if_pos hk,if_pos hk];obtain⟨c,hc⟩:=h (n,k) bP (by simpa using hk);have e:cellOf env n=pure c:=by unfold cellOf;rw[hc]
   rw[e];have e2:(env.cells.lookup n).getD 0=c:=by rw[hc];rfl
   rw[e2];exact ih _
  ·rw[if_neg hk,if_neg hk];exact ih _
theorem En{scope:Scope}{env:Env}(h:∀y∈scope.names,y.2=.free->∃c,env.cells.lookup y.1=some c):closureFor scope env=pure (dk env.cells scope.names []):=by simp only[closureFor];rw[Em env _ (λn k c=>rfl) scope.names [] h];rfl
theorem mem_lookup{α:Type}:∀{l:List (Str×α)} {n:Str} {c:α},(n,c)∈l->∃c',l.lookup n=some c'
 |(k,v)::r,n,c,h=>by
  rw[qX];cases hb:n==k with
  |true=>exact⟨_,rfl⟩
  |false=>
   rcases bL.mp h with e | h
   ·cases e;simp at hb
   ·exact mem_lookup h
theorem vt{cells:List (Str×Addr)}:∀{names:List (Str×NameKind)} {acc:List (Str×Addr)} {n:Str} {c:Addr},(n,c)∈dk cells names acc->(n,c)∈acc\/((n,.free)∈names/\c=(cells.lookup n).getD 0)
 |[],_,_,_,h=>.inl h
 |(m,k)::r,acc,n,c,h=>by
  unfold dk at h;split at h
  ·rename_i hk;have hk:k=.free:=by simpa using hk
   rcases vt h with h | ⟨h1,h2⟩
   ·rcases bL.mp h with e | h
    ·cases e;exact .inr ⟨hk▸bP,rfl⟩
    ·exact .inl h
   ·exact .inr ⟨bO _ h1,h2⟩
  ·rcases vt h with h | ⟨h1,h2⟩
   ·exact .inl h
   ·exact .inr ⟨bO _ h1,h2⟩
theorem zf{cells:List (Str×Addr)}:∀{names:List (Str×NameKind)} {acc:List (Str×Addr)} {p:Str×Addr},p∈acc->p∈dk cells names acc
 |[],_,_,h=>h
 |(m,k)::r,acc,p,h=>by
  unfold dk;split
  ·exact zf (bO _ h)
  ·exact zf h
theorem zg{cells:List (Str×Addr)}:∀{names:List (Str×NameKind)} {acc:List (Str×Addr)} {n:Str},(n,.free)∈names->(n,(cells.lookup n).getD 0)∈dk cells names acc
 |(m,k)::r,acc,n,h=>by
  unfold dk;rcases bL.mp h with e | h
  ·cases e;exact zf bP
  ·split
   ·exact zg h
   ·exact zg h
theorem rO:∀{names:List (Str×NameKind)} {h:Heap} {acc:List (Str×Addr)} {x:Str} {c:Addr},(x,c)∈cellsFrom h.objs.size names acc->
 (x,c)∈acc\/((x,.cell)∈names/\h.objs.size<=c/\bt (pushCells h names) c none)
 |[],_,_,_,_,h=>.inl h
 |(n,k)::r,h,acc,x,c,hm=>by
  unfold cellsFrom at hm;unfold pushCells;split at hm
  ·rename_i hk;rw[if_pos hk];have hk:k=.cell:=by simpa using hk
   rw[<-Heap.size_push h {cls:=.type "cell",data:=.cell none}] at hm;rcases rO hm with hm | ⟨h1,h2,h3⟩
   ·rcases bL.mp hm with e | hm
    ·cases e;exact .inr ⟨hk▸bP,bB _,_,pushCells_keeps r _ _ _ (Heap.get?_push_size _ rfl),rfl⟩
    ·exact .inl hm
   ·rw[Heap.size_push] at h2;exact .inr ⟨bO _ h1,CZ h2,h3⟩
  ·rename_i hk;rw[if_neg hk];rcases rO hm with hm | ⟨h1,h2,h3⟩
   ·exact .inl hm
   ·exact .inr ⟨bO _ h1,h2,h3⟩
theorem vv:∀{names:List (Str×NameKind)} {n:Nat} {acc:List (Str×Addr)} {p:Str×Addr},p∈acc->p∈cellsFrom n names acc
 |[],_,_,_,h=>h
 |(m,k)::r,n,acc,p,h=>by
  unfold cellsFrom;split
  ·exact vv (bO _ h)
  ·exact vv h
theorem zh:∀{names:List (Str×NameKind)} {n:Nat} {acc:List (Str×Addr)} {x:Str},(x,.cell)∈names->∃c,(x,c)∈cellsFrom n names acc
 |(m,k)::r,n,acc,x,h=>by
  unfold cellsFrom;rcases bL.mp h with e | h
  ·cases e;exact⟨n,vv bP⟩
  ·split
   ·exact zh h
   ·exact zh h
theorem zi:∀{names:List (Str×NameKind)} {h:Heap} {acc:List (Str×Addr)} {x y:Str} {c:Addr},(∀p∈acc,p.2<h.objs.size)->(∀x y c,(x,c)∈acc->(y,c)∈acc->x=y)->
 (x,c)∈cellsFrom h.objs.size names acc->(y,c)∈cellsFrom h.objs.size names acc->x=y
 |[],_,_,_,_,_,_,hi,h1,h2=>hi _ _ _ h1 h2
 |(n,k)::r,h,acc,x,y,c,hl,hi,h1,h2=>by
  unfold cellsFrom at h1 h2;split at h1
  ·rename_i hk;rw[if_pos hk] at h2;rw[<-Heap.size_push h {cls:=.type "cell",data:=.cell none}] at h1 h2;refine zi (h:=h.push _) (λp hp=>?_) (λx y c a b=>?_) h1 h2
   ·rw[Heap.size_push];rcases bL.mp hp with rfl | hp
    ·exact LJ _
    ·exact yn (hl p hp)
   ·rcases bL.mp a with e | a<;>rcases bL.mp b with e' | b
    ·cases e;cases e';rfl
    ·cases e;exact absurd (hl _ b) (lQ _)
    ·cases e';exact absurd (hl _ a) (lQ _)
    ·exact hi _ _ _ a b
  ·rename_i hk;rw[if_neg hk] at h2;exact zi hl hi h1 h2
theorem Eo{M:Model}{A:Around}{E:Value->Shared->Prop}{s:Shared}{scope:Scope}{globals:Addr}{closure:List (Str×Addr)}{qual:Str}{func:Option Addr}{code:Value}{around:Env}{builtins:Addr}{Q:Env->Shared->Prop}
 (h:Q (newEnv scope s.heap.objs.size globals (cellsFrom (s.heap.objs.size+1) scope.names closure) qual func code (some around) builtins)
  {s with heap:=pushCells (s.heap.push {cls:=.type "dict",data:=.dict #[]}) scope.names}) :
 wpAny M A (newFunctionEnv scope globals closure [] qual func code (some around) builtins) Q E s:=by
 simp only[newFunctionEnv,Option.isSome_some,eM];refine wpAny_bind (wpAny_alloc ?_);refine wpAny_bind (wpAny_layCells _ (λn k c=>rfl) scope.names closure _ _ ?_);rw[show({s with heap:=s.heap.push {cls:=.type "dict",data:=.dict #[]}}:Shared).heap.objs.size=s.heap.objs.size+1 from Heap.size_push ..];rw[List.forIn_nil];exact wpAny_bind (wpAny_pure (wpAny_pure h))
theorem zj{sc:Scope}:∀{names:List (Str×NameKind)} {x:Str} {k:NameKind},
 (names.map λ(n,k)=>if (k==NameKind.free&&sc.kind==.function&&sc.names.lookup n==some .cell) then (n,NameKind.cell) else (n,k)).lookup x=some k->
 ∃k',names.lookup x=some k'/\(k=k'\/(k'=.free/\k=.cell))
 |[],_,_,h=>by simp at h
 |(n,k₀)::r,x,k,h=>by
  have ih:=@zj sc r x k;have h':List.lookup x ((if (k₀==NameKind.free&&sc.kind==.function&&sc.names.lookup n==some .cell)=true then (n,NameKind.cell) else (n,k₀))::(r.map _))=some k:=h;cases hx:x==n with
  |true=>
   simp only[qX,hx];by_cases hc:(k₀==NameKind.free&&sc.kind==.function&&sc.names.lookup n==some .cell)=true
   ·rw[if_pos hc] at h';simp only[qX,hx] at h';cases h';simp only[bq,jb] at hc;exact⟨k₀,rfl,.inr ⟨hc.1.1,rfl⟩⟩
   ·rw[if_neg hc] at h';simp only[qX,hx] at h';cases h';exact⟨_,rfl,.inl rfl⟩
  |false=>
   simp only[qX,hx];by_cases hc:(k₀==NameKind.free&&sc.kind==.function&&sc.names.lookup n==some .cell)=true
   ·rw[if_pos hc] at h';simp only[qX,hx] at h';exact ih h'
   ·rw[if_neg hc] at h';simp only[qX,hx] at h';exact ih h'
structure nI(N:List Str)(sc scope:Scope)(own:List (Str×Nat)):Prop where
 kind:scope.kind=.function
 uniq:∀y∈scope.names,scope.names.lookup y.1=some y.2
 ix:∀p∈own,N[p.2]?=some p.1
 free:∀y∈scope.names,y.2=.free->sc.names.lookup y.1=some .cell\/sc.names.lookup y.1=some .free
 own:∀y∈scope.names,y.2=.local\/y.2=.cell->y.1∈own.map (·.1)\/y.1∉N
noncomputable def wipe(σ:St):List Nat->St
 |[]=>σ
 |v::vs=>(wipe σ vs).set v none
theorem vw(σ:St):∀vs:List Nat,(wipe σ vs).length=σ.length
 |[]=>rfl
 |v::vs=>by unfold wipe;rw[rb,vw σ vs]
theorem vx{σ:St}{i:Nat}{x:V}:∀{vs:List Nat},(wipe σ vs)[i]?=some (some x)->σ[i]?=some (some x)/\i∉vs
 |[],h=>⟨h,by simp⟩
 |v::vs,h=>by
  unfold wipe at h;by_cases hi:v=i
  ·subst hi;by_cases hv:v<(wipe σ vs).length
   ·rw[m6 hv] at h;cases h
   ·rw[lN (by simpa using hv)] at h;cases h
  ·rw[m7 hi] at h;obtain⟨h1,h2⟩:=vx h;exact⟨h1,by simp only[bL,not_or];exact⟨λe=>hi e.symm,h2⟩⟩
noncomputable abbrev Cx.cD(X:Cx)(s:Shared)(H:Hp)(scope:Scope)(b4:Env)(fp:List Addr):Cx:={X with cQ:=s,jQ:=H,env:=b4,outer:=X.stack,ex:=fp,fn:=λx=>scope.names.lookup x==some .cell,pn:=[],xe:=λ_ _=>False}
section
variable {X:Cx}{pins:List (Addr×Obj)}{σ:St}{H:Hp}{s:Shared}
theorem Ep{scope:Scope}{own:List (Str×Nat)}{fp:List Addr}(I:Inv X pins σ H s)(ok:nI X.N X.env.scope scope own)(hN:X.N.Nodup)(pP:∀b∈fp,gF X pins H b/\b<s.heap.objs.size) :
 Inv (X.cD s H scope (compEnvC scope (cellsFrom (s.heap.objs.size+1) scope.names (dk X.env.cells scope.names [])) s.heap.objs.size X.env) fp) [] (wipe σ (own.map (·.2))) H {s with heap:=pushCells (s.heap.push {cls:=.type "dict",data:=.dict #[]}) scope.names}:=by
 have lV:∀y∈scope.names,y.2=.free->∃c,X.env.cells.lookup y.1=some c:=λy hy e=>by
  rcases ok.free y hy e with k | k
  ·exact I.ok.has _ (.inl k)
  ·exact I.ok.has _ (.inr k)
 generalize rP:compEnvC scope (cellsFrom (s.heap.objs.size+1) scope.names (dk X.env.cells scope.names [])) s.heap.objs.size X.env=b4;have kp:∀b o,s.heap.get? b=some o->(pushCells (s.heap.push {cls:=.type "dict",data:=.dict #[]}) scope.names).get? b=some o:=λb o e=>pushCells_keeps _ _ _ _ (Heap.get?_push_of_some _ e);have hL:b4.locals=s.heap.objs.size:=by rw[<-rP];rfl
 have dW:b4.cells=cellsFrom (s.heap.objs.size+1) scope.names (dk X.env.cells scope.names []):=by rw[<-rP];rfl
 have zk:b4.scope=N5 scope X.env.scope:=by rw[<-rP];rfl
 rw[<-Heap.size_push s.heap {cls:=.type "dict",data:=.dict #[]}] at dW;have cm:∀{y c},(y,c)∈dk X.env.cells scope.names []->X.env.cells.lookup y=some c/\c<s.heap.objs.size:=λ{y c} hm=>by
  rcases vt hm with hm | ⟨h1,rfl⟩
  ·cases hm
  ·obtain⟨c,hc⟩:=lV _ h1 rfl;rw[hc];obtain⟨w,z⟩:=I.cell _ _ hc;exact⟨rfl,z.lt⟩
 have mem:∀{y c},b4.cells.lookup y=some c->(X.env.cells.lookup y=some c/\c<s.heap.objs.size)\/(s.heap.objs.size+1<=c/\bt (pushCells (s.heap.push {cls:=.type "dict",data:=.dict #[]}) scope.names) c none):=λ{y c} e=>by
  rw[dW] at e;rcases rO (gZ e) with hm | ⟨_,h2,h3⟩
  ·exact .inl (cm hm)
  ·rw[Heap.size_push] at h2;exact .inr ⟨h2,h3⟩
 have look:∀{y},scope.names.lookup y=some .free->∃c,b4.cells.lookup y=some c/\X.env.cells.lookup y=some c:=λ{y} hl=>by
  have hy:(y,NameKind.free)∈scope.names:=gZ hl;obtain⟨c',e'⟩:=mem_lookup (vv (names:=scope.names) (n:=(s.heap.push {cls:=.type "dict",data:=.dict #[]}).objs.size) (zg (cells:=X.env.cells) (acc:=[]) hy));rw[<-dW] at e';refine⟨c',e',?_⟩;rw[dW] at e';rcases rO (gZ e') with hm | ⟨h1,_,_⟩
  ·exact(cm hm).1
  ·have:=ok.uniq _ h1;rw[hl] at this;cases this
 have N6:(X.cD s H scope b4 fp).Ok:=by
  refine⟨I.ok.mod,by show b4.scope.kind=_;rw[zk];exact ok.kind,by show b4.globals=_;rw[<-rP];exact I.ok.glob,by show b4.builtins=_;rw[<-rP];exact I.ok.blt,by show s.heap.objs.size<=b4.locals;rw[hL];exact bB _,
   λy z c e1 e2=>?_,λy hy=>?_,λy c z e=>?_,I.ok.hd,I.ok.frames,.inl rfl,λb hb=>⟨?_,λy c e z=>?_⟩,I.bs,aS I.ok.g0 I.sz,λb o e hb=>?_,λb hb z=>?_,I.stack,I.uS⟩
  ·have e1:b4.cells.lookup y=some c:=e1;have e2:b4.cells.lookup z=some c:=e2;rw[dW] at e1 e2;refine zi (λp hp=>?_) (λy z c a b=>I.ok.inj y z c (cm a).1 (cm b).1) (gZ e1) (gZ e2);rw[Heap.size_push];exact yn (cm (y:=p.1) (c:=p.2) hp).2
  ·show ∃c,b4.cells.lookup y=some c;have key:∀k,b4.kindOf y=some k->(k=.cell\/k=.free)->∃c,b4.cells.lookup y=some c:=λk hk hW=>by
    unfold Env.kindOf at hk;rw[zk] at hk;obtain⟨k',e,r⟩:=zj hk;have:k'=.cell\/k'=.free:=by
     rcases r with rfl | ⟨rfl,_⟩
     ·exact hW
     ·exact .inr rfl
    rcases this with rfl | rfl
    ·obtain⟨c,hm⟩:=zh (n:=(s.heap.push {cls:=.type "dict",data:=.dict #[]}).objs.size) (acc:=dk X.env.cells scope.names []) (gZ e);obtain⟨c',e'⟩:=mem_lookup hm;exact⟨c',by rw[dW];exact e'⟩
    ·obtain⟨c,h1,_⟩:=look e;exact⟨c,h1⟩
   rcases hy with hy | hy
   ·exact key _ hy (.inl rfl)
   ·exact key _ hy (.inr rfl)
  ·have z:(scope.names.lookup y==some NameKind.cell)=true:=z;have z:scope.names.lookup y=some .cell:=by simpa using z
   have e:b4.cells.lookup y=some c:=e;rw[dW] at e;rcases rO (gZ e) with hm | ⟨_,h2,_⟩
   ·rcases vt hm with hm | ⟨h1,_⟩
    ·cases hm
    ·have q:=ok.uniq _ h1;rw[z] at q;cases q
   ·rw[Heap.size_push] at h2;exact CZ h2
  ·show b≠b4.locals;rw[hL];exact gE (pP b hb).2
  ·have e:b4.cells.lookup y=some c:=e;rcases mem e with ⟨h1,_⟩ | ⟨h1,_⟩
   ·exact(pP b hb).1.2.2.2.2.1 y c h1 z
   ·have h2:s.heap.objs.size+1<=b:=by rw[<-z];exact h1
    exact absurd (eh (pP b hb).2 (CZ h2)) (lQ _)
  ·rcases(pP b hb).1.2.2.2.1 with z | z
   ·exact I.ok.ng b o e z
   ·exact absurd (eh (Heap.lt_size e) (aS I.ok.g0 z)) (lQ _)
  ·rcases bL.mp (I.pC b z) with z | z
   ·exact(pP b hb).1.2.1 z
   ·exact(pP b hb).1.2.2.1 z
 refine⟨N6,rfl,I.bare,Un.kept kp,⟨λ_=>none,?_,λi y av e1 e2 e3=>?_⟩,λy c e=>?_,?_,λy c e=>?_,λp hp=>?_,I.ao.kept kp,by rw[vw];exact I.len⟩
 ·show Heap.Ns _ b4.locals _;rw[hL];exact Heap.Ns.keeps (Heap.Ns.new ..) λb o e=>pushCells_keeps _ _ _ _ e
 ·obtain⟨e2,bG⟩:=vx e2;have gL:scope.names.lookup y=some .free/\(b4.kindOf y=some .cell\/b4.kindOf y=some .free):=by
   have key:∀k,b4.scope.names.lookup y=some k->k=.local\/k=.cell\/k=.free->scope.names.lookup y=some .free/\(b4.kindOf y=some .cell\/b4.kindOf y=some .free):=λk hk hW=>by
    have Er:=hk;rw[zk] at hk;obtain⟨k',e,r⟩:=zj hk;have no:¬(k'=.local\/k'=.cell):=λhh=>by
     rcases ok.own _ (gZ e) hh with e' | e'
     ·obtain⟨p,hp,N7⟩:=cU.mp e';have e3:=ok.ix p hp;have:p.1=y:=N7;rw[this] at e3;exact bG (cU.mpr ⟨p,hp,yB hN e3 e1⟩)
     ·exact e' (cE e1)
    rcases r with rfl | ⟨rfl,rfl⟩
    ·rcases hW with rfl | rfl | rfl
     ·exact absurd (.inl rfl) no
     ·exact absurd (.inr rfl) no
     ·exact⟨e,.inr Er⟩
    ·exact⟨e,.inl Er⟩
   have e3:pB b4.scope y:=e3;rcases e3 with e3 | e3 | e3
   ·exact key _ e3 (.inl rfl)
   ·exact key _ e3 (.inr (.inl rfl))
   ·exact key _ e3 (.inr (.inr rfl))
  obtain⟨m,hn,hl⟩:=I.loc;have N8:pB X.env.scope y:=(ok.free _ (gZ gL.1) rfl).elim (λk=>.inr (.inl k)) (λk=>.inr (.inr k));obtain⟨w,r,q⟩:=hl i y av e1 e2 N8;refine⟨w,r,.inr ⟨gL.2,?_⟩⟩;obtain⟨c,h1,h2⟩:=look gL.1;rcases q with ⟨k,_⟩ | ⟨_,c',e',z⟩
  ·have k:X.env.scope.names.lookup y=some .local:=k;rcases ok.free _ (gZ gL.1) rfl with k' | k'<;>rw[show X.env.scope.names.lookup y=_ from k'] at k<;>cases k
  ·rw[h2] at e';cases e';exact⟨c,h1,z.keeps kp⟩
 ·have e:b4.cells.lookup y=some c:=e;rcases mem e with ⟨h1,_⟩ | ⟨_,z⟩
  ·obtain⟨w,z⟩:=I.cell y c h1;exact⟨w,z.keeps kp⟩
  ·exact⟨_,z⟩
 ·show H b4.locals=none;rw[hL];exact I.ao.fresh (bB _)
 ·have e:b4.cells.lookup y=some c:=e;rcases mem e with ⟨h1,_⟩ | ⟨h1,_⟩
  ·exact I.eC y c h1
  ·exact I.ao.fresh (CZ h1)
 ·exact absurd (show p∈([]:List (Addr×Obj))++[] from hp) (by simp)
theorem Es{E:Value->Shared->Prop}{D:Addr}{xs:List V}{y:V}{v:Value}{Q:Value->Shared->Prop}(I:Inv X pins σ H s)(hD:H D=some (.lst xs))(hz:xs.length<sizeLine)(r:RelV y v)
 (h:∀s',Inv X pins σ (upd H D (.lst (xs++[y]))) s'->Q .none s'):wpAny (model X.prog X.w) X.A (call (.builtin "list.append") [.ref D,v]) Q E s:=by
 obtain⟨Et,au,n,ri,e⟩:=I.ao D _ hD;have hl:=ri.length;refine append_at (hsz:=by rw[cI];omega) e λh' sb cX=>?_;refine h {s with heap:=h'} (I.write (t':=s.toks) (by rw[hD];trivial) (.inl rfl) (λb u hb q=>(sb.2 b hb).trans q) ⟨_,cX⟩ ⟨by rw[aX];exact hz,au++[v],n+1,ri.append (.cons r .nil),?_⟩);rw[cX];simp
noncomputable def nJ(X:Cx)(ifs:List Expr)(t:TT):Prop:=
 ∀(pins:List (Addr×Obj)) (s:Shared) (σ:St) (H:Hp) (Q:Bool->Hp->Prop),Inv X pins σ H s->t σ H Q->
  wpAny (model X.prog X.w) X.A (forIn ifs true λc r=>if r=true then do let ok <-isTrue c X.env (eval c X.env);pure (ForInStep.yield ok) else pure (ForInStep.yield r)) (TP X pins σ Q) X.xe s
noncomputable def Eu:TT:=λ_ H Q=>Q true H
theorem jm:nJ X [] Eu:=λ_ _ _ H _ I h=>wpAny_tests_nil ⟨H,I,h⟩
theorem vy{c:Expr}{t:TT}(h:PT X c t):nJ X [c] t:=λpins s σ H Q I hw=>wpAny_tests_one (h pins s σ H Q I hw)
end
theorem jo{α:Type}{t:Sem α}{Q Q':α->Shared->Prop}{M:Model}{A:Around}{E:Value->Shared->Prop}{s:Shared}(h:wpAny M A t Q (λ_ _=>False) s)(hQ:∀a s,Q a s->Q' a s):wpAny M A t Q' E s:=wpAny_mono h hQ λ_ _ z=>False.elim z
theorem Ew{prog:Program}{w:World}{A:Around}{R:Result->Shared->Prop}{s:Shared}{elt target iter:Expr}{ifs:List Expr}{scope:Scope}{pos:Pos}{it acc:Value}{env:Env}(I:Nat->Shared->Prop)
 (turn:∀n s,I n s->wpAny (model prog w) A (pyNext it) (λr s₁=>match r with
  |none=>R (.ok .next) s₁
  |some v=>wpAny (model prog w) A (letOwnedTupleGo target it v) (λ_ s₁'=>wpAny (model prog w) A (assign target env v) (λ_ s₂=>
   wpAny (model prog w) A (forIn ifs true λc r=>if r=true then do let ok <-isTrue c env (eval c env);pure (ForInStep.yield ok) else pure (ForInStep.yield r)) (λok s₃=>
    if ok=true then wpAny (model prog w) A (eval elt env) (λx s₄=>
     wpAny (model prog w) A (call (.builtin "list.append") [acc,x]) (λ_ s₅=>∃m,m<n/\I m s₅) (notedBy (model prog w) A env λe s'=>R (.error e) s') s₄) (notedBy (model prog w) A env λe s'=>R (.error e) s') s₃
    else ∃m,m<n/\I m s₃) (notedBy (model prog w) A env λe s'=>R (.error e) s') s₂) (notedBy (model prog w) A env λe s'=>R (.error e) s') s₁') (notedBy (model prog w) A env λe s'=>R (.error e) s') s₁) (notedBy (model prog w) A env λe s'=>R (.error e) s') s)
 (n:Nat) (h:I n s) :
 codeAny (model prog w) A (.compLoop (.ListComp elt [⟨target,iter,ifs,0⟩] scope pos) 0 it acc env) R s:=by
 refine codeAny_loop rfl I (λn s hI=>?_) n h;show wpAny _ A ((compTurn (.ListComp elt [⟨target,iter,ifs,0⟩] scope pos) 0 it acc env).onRaise (λx=>do noteFrame x env;theTreesLotGoes x)) _ _ s;refine wpAny_noted ?_;rw[compTurn_list];refine wpAny_bind (wpAny_standAt (wpAny_bind (wpAny_mono (turn n s hI) (λr s₁ h₁=>?_) λ_ _ h'=>h')));cases r with
 |none=>exact wpAny_pure h₁
 |some v=>
  refine wpAny_bind (wpAny_mono h₁ (λ_ s₁' h₁'=>?_) λ_ _ h'=>h');refine wpAny_bind (wpAny_mono h₁' (λ_ s₂ h₂=>wpAny_bind (wpAny_mono h₂ (λok s₃ h₃=>?_) λ_ _ h'=>h')) λ_ _ h'=>h');cases ok with
  |false=>exact wpAny_pure ⟨rfl,h₃⟩
  |true=>exact wpAny_bind (wpAny_bind (wpAny_mono h₃ (λx s₄ h₄=>wpAny_bind (wpAny_mono h₄ (λ_ s₅ h₅=>wpAny_pure (wpAny_pure ⟨rfl,h₅⟩)) λ_ _ h'=>h')) λ_ _ h'=>h'))
section
variable {X:Cx}
noncomputable def pQ(wi:TI)(g:TG)(tt:TT)(te:TE)(vs:List Nat):TE:=λσ H Q=>wi σ H λJ H1=>∀D,H1 D=none->∃W:Nat->Nat->Hp->Prop,(∃m,W 0 m (upd H1 D (.lst [])))/\∀i m H,W i m H->
 (J.stop i H/\Q (.ref D) H)\/(J.go i H/\∃Nx:Hp->Prop,(∀H',Nx H'->∃m',m'<m/\W (i+1) m' H')/\∀x H',J.iE i H x H'->g x (wipe σ vs) H' λσ2 H2=>wipe σ2 vs=wipe σ vs/\tt σ2 H2 λb H3=>
  if b=true then te σ2 H3 λy H4=>∃acc,H4 D=some (.lst acc)/\acc.length<sizeLine/\Nx (upd H4 D (.lst (acc++[y]))) else Nx H3)
theorem Ex{pins:List (Addr×Obj)}{s:Shared}{σ:St}{H:Hp}{Q:VK}{elt tg iter:Expr}{ifs:List Expr}{scope:Scope}{own:List (Str×Nat)}{pos pos':Pos}{wi:TI}{g:TG}{tt:TT}{te:TE}{use:Option (Value->Sem Unit)}{Qf:Value->Shared->Prop}
 (hc:X.calm=true) (hN:X.N.Nodup) (I:Inv X pins σ H s) (hi:PI X tg iter wi) (ok:nI X.N X.env.scope scope own)
 (hg:∀(s:Shared) (H:Hp) (C:Addr) (cl:List (Str×Addr)) (fp:List Addr),PG (X.cD s H scope (compEnvC scope cl C X.env) fp) tg g) (ht:∀(s:Shared) (H:Hp) (C:Addr) (cl:List (Str×Addr)) (fp:List Addr),nJ (X.cD s H scope (compEnvC scope cl C X.env) fp) ifs tt)
 (he:∀(s:Shared) (H:Hp) (C:Addr) (cl:List (Str×Addr)) (fp:List Addr),PE (X.cD s H scope (compEnvC scope cl C X.env) fp) elt te) (hs:∀x,foldedSetIterable iter X.env x=pure x)
 (h:pQ wi g tt te (own.map (·.2)) σ H Q)
 (zl:∀D C s' m H',Inv X pins σ H' s'->Q (.ref D) H'->s'.heap.Ns C m->gF X pins H' C->compPost (model X.prog X.w) X.A X.xe use Qf (.ref D) C (.ok .next) s') :
 wpAny (model X.prog X.w) X.A (comprehension (.ListComp elt [⟨tg,iter,ifs,0⟩] scope pos) scope X.env pos' (newList []) false (eval iter X.env) use) Qf X.xe s:=by
 have lV:∀y∈scope.names,y.2=.free->∃c,X.env.cells.lookup y.1=some c:=λy hy e=>by
  rcases ok.free y hy e with k | k
  ·exact I.ok.has _ (.inl k)
  ·exact I.ok.has _ (.inr k)
 refine wpAny_comprehension_free (use:=use) rfl hs (En lV) ok.kind (λy hy e=>by rw[ok.uniq y hy,e])
  (aI (hi pins s σ H _ I h) λxv s1 hx=>aI hx λu7 s2 h2=>?_)
 obtain⟨it,fp,tn,J,H2,e,I2,T,nq,f2,q⟩:=h2;subst e;refine wpAny_newObj_type (Eo ?_) (by show 0<=sizeLine;decide);generalize hD:s2.heap.objs.size=D;have zm:H2 D=none:=I2.ao.fresh (uP hD);obtain⟨W,⟨m0,w0⟩,turn⟩:=q D zm;generalize rQ:({s2 with heap:=s2.heap.push {cls:=.type "list",data:=.seq ([]:List Value).toArray}}:Shared)=s3;have I3:Inv X pins σ (upd H2 D (.lst [])) s3:=by rw[<-rQ];refine I2.laid (t':=s2.toks) (λb o e=>Heap.get?_push_of_some _ e) (uP hD) ⟨bY _,[],0,.nil,?_⟩;rw[<-hD];exact Heap.get?_push_size _ rfl
 have h3:s3.heap=s2.heap.push {cls:=.type "list",data:=.seq ([]:List Value).toArray}:=by rw[<-rQ]
 have sz:∀b∈fp,b<s2.heap.objs.size:=λb hb=>by obtain⟨o,e,_⟩:=T.obj _ _ nq b hb;exact Heap.lt_size e
 have f3:∀b∈fp,gF X pins (upd H2 D (.lst [])) b/\b<s3.heap.objs.size:=λb hb=>by have aL:=sz b hb;refine⟨⟨?_,(f2 b hb).2⟩,by rw[h3,Heap.size_push];exact yn aL⟩;rw[aw (by rw[<-hD];exact gE aL)];exact(f2 b hb).1
 have pI:tn 0 s3.heap:=T.keep _ _ _ nq λb _ o e=>by rw[h3];exact Heap.get?_push_of_some _ e
 have I4:=Ep I3 ok hN f3;have pg:=hg s3 (upd H2 D (.lst [])) s3.heap.objs.size (cellsFrom (s3.heap.objs.size+1) scope.names (dk X.env.cells scope.names [])) fp;have pt:=ht s3 (upd H2 D (.lst [])) s3.heap.objs.size (cellsFrom (s3.heap.objs.size+1) scope.names (dk X.env.cells scope.names [])) fp;have pe:=he s3 (upd H2 D (.lst [])) s3.heap.objs.size (cellsFrom (s3.heap.objs.size+1) scope.names (dk X.env.cells scope.names [])) fp;show codeAny _ _ (.compStart (.ListComp elt [⟨tg,iter,ifs,0⟩] scope pos) 0 (.ref it) (.ref D) (compEnvC scope (cellsFrom (s3.heap.objs.size+1) scope.names (dk X.env.cells scope.names [])) s3.heap.objs.size X.env)) (compPost (model X.prog X.w) X.A X.xe use Qf (.ref D) s3.heap.objs.size) {s3 with heap:=pushCells (s3.heap.push {cls:=.type "dict",data:=.dict #[]}) scope.names};have rR:∀b∈fp,(upd H2 D (.lst [])) b=none:=λb hb=>(f3 b hb).1.1;generalize vz:compEnvC scope (cellsFrom (s3.heap.objs.size+1) scope.names (dk X.env.cells scope.names [])) s3.heap.objs.size X.env=ce at I4 pg pt pe ⊢;have cL:ce.locals=s3.heap.objs.size:=by subst vz;rfl
 generalize vA:upd H2 D (.lst [])=H3 at I3 I4 pg pt pe w0 rR f3;generalize zo:({s3 with heap:=pushCells (s3.heap.push {cls:=.type "dict",data:=.dict #[]}) scope.names}:Shared)=s4 at I4 ⊢;have mi:tn 0 s4.heap:=T.keep _ _ _ pI λb _ o e=>by rw[<-zo];exact pushCells_keeps _ _ _ _ (Heap.get?_push_of_some _ e)
 have jh:∀{σ':St} {H':Hp} {s':Shared},Inv (X.cD s3 H3 scope ce fp) [] σ' H' s'->(∀b∈fp,H' b=none)->∀b∈fp,gF (X.cD s3 H3 scope ce fp) [] H' b:=λ{σ' H' s'} I' hn b hb=>
  ⟨hn b hb,(I'.ok.lT b hb).1,I'.ok.lU b hb,.inl hb,λx c e=>(I'.ok.lT b hb).2 x c e,λp hp=>absurd (show p∈([]:List (Addr×Obj))++[] from hp) (by simp)⟩
 have loop:codeAny (model X.prog X.w) X.A (.compLoop (.ListComp elt [⟨tg,iter,ifs,0⟩] scope pos) 0 (.ref it) (.ref D) ce) (compPost (model X.prog X.w) X.A X.xe use Qf (.ref D) s3.heap.objs.size) s4:=by
  refine Ew (λn s'=>∃i H',Inv (X.cD s3 H3 scope ce fp) [] (wipe σ (own.map (·.2))) H' s'/\tn i s'.heap/\(∀b∈fp,H' b=none)/\W i n H') ?_ m0 ⟨0,H3,I4,mi,rR,w0⟩;rintro n s5 ⟨i,H5,I5,kK,n5,w5⟩;rcases turn i n H5 w5 with ⟨stop,qq⟩ | ⟨go,Nx,zp,step⟩
  ·have td:=T.done (X.cD s3 H3 scope ce fp) rfl rfl rfl hc i [] s5 _ H5 (λ_ _=>False) I5 (jh I5 n5) kK stop;refine jo td λr s6 zq=>?_;obtain⟨hr,I6⟩:=zq;subst hr;have I7:Inv X pins σ H5 s6:=I3.uT (ch:=fp) I6.os I6.base I6.ao I6.bare λb hb=>⟨(f3 b hb).1.2.2.2.1,(f3 b hb).1.2.1,(f3 b hb).1.2.2.2.2.1,(f3 b hb).1.2.2.2.2.2⟩;have nC:H5 s3.heap.objs.size=none:=by have z:H5 ce.locals=none:=I6.free;rw[cL] at z;exact z
   obtain⟨m,hn,_⟩:=I6.loc;have hn:s6.heap.Ns ce.locals m:=hn;rw[cL] at hn;exact zl D s3.heap.objs.size s6 m H5 I7 qq hn (I3.nj (bB _) nC)
  ·have ti:=T.item (X.cD s3 H3 scope ce fp) rfl rfl rfl hc i [] s5 _ H5 (λ_ _=>False) I5 (jh I5 n5) kK go;refine jo ti λr s6 zq=>?_;obtain⟨u,hr,h6⟩:=zq;subst hr;refine jo h6 λ_ s7 zq=>?_;obtain⟨x,H7,I7,r7,y7,nL,n7⟩:=zq;have zq:=I7.pinned (jh I7 n7) (T.obj _ _ nL);refine jo (pg _ s7 _ H7 x u _ zq r7 (step x H7 y7)) λ_ s8 zq=>?_;obtain⟨σ8,H8,I8,rS,q8⟩:=zq;refine jo (pt _ s8 σ8 H8 _ I8 q8) λb s9 zq=>?_;obtain⟨H9,I9,q9⟩:=zq;have fin:∀{s':Shared} {H':Hp},Inv (X.cD s3 H3 scope ce fp) ([]++pH fp s7.heap) σ8 H' s'->Nx H'->∃m,m<n/\∃i H',Inv (X.cD s3 H3 scope ce fp) [] (wipe σ (own.map (·.2))) H' s'/\tn i s'.heap/\(∀b∈fp,H' b=none)/\W i m H':=λ{s' H'} I' nx=>by
    obtain⟨m',hm,w'⟩:=zp H' nx;have rT:∀b∈fp,∀o,s7.heap.get? b=some o->s'.heap.get? b=some o/\H' b=none:=λb hb o e=>
     let z:=I'.pin (b,o) (i5 _ (i5 _ (u9 hb e)))
     ⟨z.1,z.2.1⟩
    have hl:(wipe σ (own.map (·.2))).length=σ8.length:=by rw[<-rS,vw]
    refine⟨m',hm,i+1,H',(I'.rF (pins:=[])).weak hl (λj v e=>?_),T.keep _ _ _ nL λb hb o e=>(rT b hb o e).1,λb hb=>?_,w'⟩
    ·rw[<-rS] at e;exact(vx e).1
    ·obtain⟨o,e,_⟩:=T.obj _ _ nL b hb;exact(rT b hb o e).2
   cases b with
   |false=>simp only[gi,dS] at q9 ⊢;exact fin I9 q9
   |true=>simp only[eM] at q9 ⊢;refine jo (pe _ s9 σ8 H9 _ I9 q9) λz hX zq=>?_;obtain⟨yv,N9,zr,vB,acc,zu,zw,nx⟩:=zq;exact Es (X:=X.cD s3 H3 scope ce fp) zr zu zw vB λOa zx=>fin zx nx
 exact codeAny_compStart_list loop (T.self X.A 0 _ _ _ mi loop)
theorem nM{elt tg iter:Expr}{ifs:List Expr}{scope:Scope}{own:List (Str×Nat)}{pos:Pos}{wi:TI}{g:TG}{tt:TT}{te:TE}(hc:X.calm=true)(hN:X.N.Nodup)(hi:PI X tg iter wi)(ok:nI X.N X.env.scope scope own)
 (hg:∀(s:Shared) (H:Hp) (C:Addr) (cl:List (Str×Addr)) (fp:List Addr),PG (X.cD s H scope (compEnvC scope cl C X.env) fp) tg g) (ht:∀(s:Shared) (H:Hp) (C:Addr) (cl:List (Str×Addr)) (fp:List Addr),nJ (X.cD s H scope (compEnvC scope cl C X.env) fp) ifs tt)
 (he:∀(s:Shared) (H:Hp) (C:Addr) (cl:List (Str×Addr)) (fp:List Addr),PE (X.cD s H scope (compEnvC scope cl C X.env) fp) elt te) (hs:∀x,foldedSetIterable iter X.env x=pure x:=by intro _;rfl) :
 PE X (.ListComp elt [⟨tg,iter,ifs,0⟩] scope pos) (pQ wi g tt te (own.map (·.2))):=by
 intro pins s σ H Q I h;rw[eval_ListComp];refine Ex hc hN I hi ok hg ht he hs h λD C s' m H' I' q hn f=>⟨m,hn,λOb sb=>?_⟩;obtain⟨f0,f1,f2,f3,f4,f5⟩:=f;exact⟨.ref D,H',I'.turned (t':=s'.toks) (λb o hb e=>(sb.2 b hb).trans e) f0 f1 f3 f4 f5,rfl,q⟩
theorem pR{i:Nat}{y:Str}{py:Pos}{elt tg iter:Expr}{ifs:List Expr}{scope:Scope}{own:List (Str×Nat)}{pos Ey:Pos}{wi:TI}{g:TG}{tt:TT}{te:TE}(hc:X.calm=true)(hN:X.N.Nodup)(hy:X.N[i]?=some y)(Ez:X.env.scope.names.lookup y=some .local)
 (Oc:swapsWith (.ListComp elt [⟨tg,iter,ifs,0⟩] scope pos) (some (.Name y py)) Ey.line X.env=pure true) (hi:PI X tg iter wi) (ok:nI X.N X.env.scope scope own)
 (hg:∀(s:Shared) (H:Hp) (C:Addr) (cl:List (Str×Addr)) (fp:List Addr),PG (X.cD s H scope (compEnvC scope cl C X.env) fp) tg g) (ht:∀(s:Shared) (H:Hp) (C:Addr) (cl:List (Str×Addr)) (fp:List Addr),nJ (X.cD s H scope (compEnvC scope cl C X.env) fp) ifs tt)
 (he:∀(s:Shared) (H:Hp) (C:Addr) (cl:List (Str×Addr)) (fp:List Addr),PE (X.cD s H scope (compEnvC scope cl C X.env) fp) elt te) (hs:∀x,foldedSetIterable iter X.env x=pure x:=by intro _;rfl) :
 PS X (.Assign [.Name y py] (.ListComp elt [⟨tg,iter,ifs,0⟩] scope pos) Ey) (yK (pQ wi g tt te (own.map (·.2))) (rE i)):=by
 intro pins s σ H D I h;rw[exec_Assign_Name_used _ _ _ _ Oc];refine wpAny_bind (wpAny_standAt (wpAny_bind ?_));show wpAny _ X.A (do let _ <-comprehension (.ListComp elt [⟨tg,iter,ifs,0⟩] scope pos) scope X.env (firstIterPos [⟨tg,iter,ifs,0⟩] pos) (newList []) false (eval iter X.env) (some (assign (.Name y py) X.env))) _ _ s;have h:pQ wi g tt te (own.map (·.2)) σ H (λx H1=>rE i x σ H1 D.nx):=h;refine wpAny_bind (aI (Ex (Qf:=λ_ s'=>SP X pins D .next s') hc hN I hi ok hg ht he hs h λL C s' m H' I' q hn f=>?_) λ_ s' hq=>wpAny_pure (wpAny_pure hq));show wpAny _ _ (assign (.Name y py) X.env (.ref L)) _ _ _;refine wpAny_assign_Name (Dh (v:=V.ref L) I' hN hy (.inl Ez) rfl (λs2 I2 zq=>?_) (.inr Ez));obtain⟨a,sb,ha⟩:=zq;obtain⟨f0,f1,f2,f3,f4,f5⟩:=f;have Od:C≠a:=by
  rcases ha with z | z
  ·rw[z];exact f1
  ·exact λe=>f4 y a z e.symm
 refine⟨m,hn.sameBut sb Od,λh3 Oe=>?_⟩;exact⟨_,H',I2.turned (t':=s2.toks) (λb o hb e=>(Oe.2 b hb).trans e) f0 f1 f3 f4 f5,q⟩
end
theorem EA{lo:Int}{n:Nat}{g:TG}{tt:TT}{te:TE}{vs:List Nat}{σ:St}{H1:Hp}{D:Addr}{Qd:Hp->Prop}(Pv:Nat->Hp->Prop)(h0:Pv 0 (upd H1 D (.lst [])))
 (hs:∀i H,i<n->Pv i H->g (.int (lo+i)) (wipe σ vs) H λσ2 H2=>wipe σ2 vs=wipe σ vs/\tt σ2 H2 λb H3=>
  if b=true then te σ2 H3 λy H4=>∃acc,H4 D=some (.lst acc)/\acc.length<sizeLine/\Pv (i+1) (upd H4 D (.lst (acc++[y]))) else Pv (i+1) H3) (hd:∀H,Pv n H->Qd H) :
 ∃W:Nat->Nat->Hp->Prop,(∃m,W 0 m (upd H1 D (.lst [])))/\∀i m H,W i m H->
  ((kJ lo n).stop i H/\Qd H)\/((kJ lo n).go i H/\∃Nx:Hp->Prop,(∀H',Nx H'->∃m',m'<m/\W (i+1) m' H')/\∀x H',(kJ lo n).iE i H x H'->g x (wipe σ vs) H' λσ2 H2=>wipe σ2 vs=wipe σ vs/\tt σ2 H2 λb H3=>
   if b=true then te σ2 H3 λy H4=>∃acc,H4 D=some (.lst acc)/\acc.length<sizeLine/\Nx (upd H4 D (.lst (acc++[y]))) else Nx H3):=by
 refine⟨λi m H=>m=n-i/\i<=n/\Pv i H,⟨n,by simp,bY _,h0⟩,?_⟩;rintro i m H ⟨rfl,hi,p⟩;by_cases aL:i<n
 ·refine .inr ⟨aL,Pv (i+1),λH' p'=>⟨n-(i+1),by omega,rfl,aL,p'⟩,λx H' y=>?_⟩;obtain⟨e,y⟩:=y;subst e y;exact hs i _ aL p
 ·have e:i=n:=by omega
  subst e;exact .inl ⟨bB _,hd H p⟩
theorem mj{K:PySem.W.Frag}{a:Addr}{xs:List V}{g:TG}{tt:TT}{te:TE}{vs:List Nat}{σ:St}{H1:Hp}{D:Addr}{Qd:Hp->Prop}(Pv:Nat->Hp->Prop)(h0:Pv 0 (upd H1 D (.lst [])))(hl:∀i H,i<=xs.length->Pv i H->ax K H a xs)
 (hs:∀i x H,xs[i]?=some x->Pv i H->g x (wipe σ vs) H λσ2 H2=>wipe σ2 vs=wipe σ vs/\tt σ2 H2 λb H3=>
  if b=true then te σ2 H3 λy H4=>∃acc,H4 D=some (.lst acc)/\acc.length<sizeLine/\Pv (i+1) (upd H4 D (.lst (acc++[y]))) else Pv (i+1) H3) (hd:∀H,Pv xs.length H->Qd H) :
 ∃W:Nat->Nat->Hp->Prop,(∃m,W 0 m (upd H1 D (.lst [])))/\∀i m H,W i m H->
  ((lX K a).stop i H/\Qd H)\/((lX K a).go i H/\∃Nx:Hp->Prop,(∀H',Nx H'->∃m',m'<m/\W (i+1) m' H')/\∀x H',(lX K a).iE i H x H'->g x (wipe σ vs) H' λσ2 H2=>wipe σ2 vs=wipe σ vs/\tt σ2 H2 λb H3=>
   if b=true then te σ2 H3 λy H4=>∃acc,H4 D=some (.lst acc)/\acc.length<sizeLine/\Nx (upd H4 D (.lst (acc++[y]))) else Nx H3):=by
 refine⟨λi m H=>m=xs.length-i/\i<=xs.length/\Pv i H,⟨xs.length,by simp,bY _,h0⟩,?_⟩;rintro i m H ⟨rfl,hi,p⟩;have q:=hl i H hi p;by_cases aL:i<xs.length
 ·refine .inr ⟨⟨xs,xs[i],q,by simp[aL]⟩,Pv (i+1),λH' p'=>⟨xs.length-(i+1),by omega,rfl,aL,p'⟩,λx H' y=>?_⟩;obtain⟨e,y⟩:=y;subst e;exact hs i x _ (y xs q) p
 ·have e:i=xs.length:=by omega
  subst e;exact .inl ⟨⟨xs,q,bB _⟩,hd H p⟩
theorem vC{K:PySem.W.Frag}{a:Addr}{xs:List V}{g:TG}{tt:TT}{te:TE}{vs:List Nat}{σ:St}{H1:Hp}{D:Addr}{Qd:Hp->Prop}(Pv:Nat->Hp->Prop)(h0:Pv 0 (upd H1 D (.lst [])))(hl:∀i H,i<=xs.length->Pv i H->aQ K H a xs)
 (hs:∀i x H,xs[i]?=some x->Pv i H->g x (wipe σ vs) H λσ2 H2=>wipe σ2 vs=wipe σ vs/\tt σ2 H2 λb H3=>
  if b=true then te σ2 H3 λy H4=>∃acc,H4 D=some (.lst acc)/\acc.length<sizeLine/\Pv (i+1) (upd H4 D (.lst (acc++[y]))) else Pv (i+1) H3) (hd:∀H,Pv xs.length H->Qd H) :
 ∃W:Nat->Nat->Hp->Prop,(∃m,W 0 m (upd H1 D (.lst [])))/\∀i m H,W i m H->
  ((lY K a).stop i H/\Qd H)\/((lY K a).go i H/\∃Nx:Hp->Prop,(∀H',Nx H'->∃m',m'<m/\W (i+1) m' H')/\∀x H',(lY K a).iE i H x H'->g x (wipe σ vs) H' λσ2 H2=>wipe σ2 vs=wipe σ vs/\tt σ2 H2 λb H3=>
   if b=true then te σ2 H3 λy H4=>∃acc,H4 D=some (.lst acc)/\acc.length<sizeLine/\Nx (upd H4 D (.lst (acc++[y]))) else Nx H3):=by
 refine⟨λi m H=>m=xs.length-i/\i<=xs.length/\Pv i H,⟨xs.length,by simp,bY _,h0⟩,?_⟩;rintro i m H ⟨rfl,hi,p⟩;have q:=hl i H hi p;by_cases aL:i<xs.length
 ·refine .inr ⟨⟨xs,xs[i],q,by simp[aL]⟩,Pv (i+1),λH' p'=>⟨xs.length-(i+1),by omega,rfl,aL,p'⟩,λx H' y=>?_⟩;obtain⟨e,y⟩:=y;subst e;exact hs i x _ (y xs q) p
 ·have e:i=xs.length:=by omega
  subst e;exact .inl ⟨⟨xs,q,bB _⟩,hd H p⟩
noncomputable def EB(N:List Str)(sc scope:Scope)(own:List (Str×Nat)):Bool:=
 (match scope.kind with | .function=>true | _=>false)&&(scope.names.all λy=>decide (scope.names.lookup y.1=some y.2))&&(own.all λp=>decide (N[p.2]?=some p.1)) &&
  (scope.names.all λy=>match y.2 with
   |.free=>(match sc.names.lookup y.1 with | some .cell=>true | some .free=>true | _=>false)
   |.local=>decide (y.1∈own.map (·.1))||decide (y.1∉N)
   |.cell=>decide (y.1∈own.map (·.1))||decide (y.1∉N)
   |_=>true)
theorem gq{N:List Str}{sc scope:Scope}{own:List (Str×Nat)}(h:EB N sc scope own=true):nI N sc scope own:=by
 unfold EB at h;simp only[bq,eV,decide_eq_true_eq] at h;obtain⟨⟨⟨h1,h2⟩,h3⟩,h4⟩:=h;refine⟨?_,h2,h3,λy hy e=>?_,λy hy e=>?_⟩
 ·split at h1
  ·assumption
  ·cases h1
 ·have q:=h4 y hy;simp only[e] at q;split at q<;>first|exact .inl (by assumption) | exact .inr (by assumption) | cases q
 ·have q:=h4 y hy;rcases e with e | e<;>(simp only[e,px,decide_eq_true_eq] at q;exact q)
section
variable {prog:Program}{w:World}{A:Around}{R:Result->Shared->Prop}{s:Shared}{elt t0 i0 t1 i1:Expr}{Zy Zz:List Expr}{scope:Scope}{pos:Pos}{it acc:Value}{env:Env}
end
section
variable {X:Cx}
end
section
variable {κ:Type}[DecidableEq κ]
noncomputable def aV(kvs:List (κ×V))(k:κ):Option V:=(kvs.find? λkv=>decide (kv.1=k)).map (·.2)
noncomputable def putK(kvs:List (κ×V))(k:κ)(v:V):List (κ×V):=
 if (kvs.any λkv=>decide (kv.1=k))=true then kvs.map (λkv=>if kv.1=k then (kv.1,v) else kv) else kvs++[(k,v)]
noncomputable def d7(kvs:List (κ×V))(k:κ):List (κ×V):=kvs.filter λkv=>decide (kv.1≠k)
theorem gs{p:κ×V}{r:List (κ×V)}{k:κ}(e:p.1=k):aV (p::r) k=some p.2:=by simp[aV,uI,e]
theorem fB{p:κ×V}{r:List (κ×V)}{k:κ}(e:¬p.1=k):aV (p::r) k=aV r k:=by simp[aV,uI,e]
theorem nN(k:κ):∀kvs:List (κ×V),(kvs.any λkv=>decide (kv.1=k))=(aV kvs k).isSome
 |[]=>rfl
 |p::r=>by
  rw[uM];by_cases e:p.1=k
  ·simp only[gs e,bp e,yz,Option.isSome_some]
  ·rw[fB e,eo e,uO];exact nN k r
theorem EC(k j:κ)(y:V):∀kvs:List (κ×V),aV (kvs.map λkv=>if kv.1=k then (kv.1,y) else kv) j=(aV kvs j).map λx=>if j=k then y else x
 |[]=>rfl
 |p::r=>by
  have ih:=EC k j y r;rw[bX];by_cases h:p.1=k
  ·rw[if_pos h];by_cases e:p.1=j
   ·rw[gs (p:=(p.1,y)) e,gs e,C6,if_pos (e.symm.trans h)]
   ·rw[fB (p:=(p.1,y)) e,fB e,ih]
  ·rw[if_neg h];by_cases e:p.1=j
   ·rw[gs (p:=p) e,gs e,C6,if_neg (λz=>h (e.trans z))]
   ·rw[fB (p:=p) e,fB e,ih]
theorem ED(k j:κ)(y:V):∀kvs:List (κ×V),aV kvs k=none->aV (kvs++[(k,y)]) j=if j=k then some y else aV kvs j
 |[],_=>by
  by_cases e:k=j
  ·rw[if_pos e.symm];exact gs (p:=(k,y)) e
  ·rw[if_neg (λz=>e z.symm)];exact fB (p:=(k,y)) e
 |p::r,hn=>by
  rw[qY];have hk:¬p.1=k:=λz=>by rw[gs z] at hn;cases hn
  rw[fB hk] at hn;have ih:=ED k j y r hn;by_cases e:p.1=j
  ·rw[gs e,gs e,if_neg (λz=>hk (e.trans z))]
  ·rw[fB e,fB e,ih]
theorem pS(kvs:List (κ×V))(k j:κ)(y:V):aV (putK kvs k y) j=if j=k then some y else aV kvs j:=by
 unfold putK;by_cases a:(kvs.any λkv=>decide (kv.1=k))=true
 ·rw[if_pos a,EC];rw[nN] at a;by_cases e:j=k
  ·obtain⟨x,hx⟩:=uB.mp a;rw[if_pos e,e,hx,C6,if_pos rfl]
  ·rw[if_neg e];cases aV kvs j with
   |none=>rfl
   |some x=>rw[C6,if_neg e]
 ·rw[if_neg a];refine ED k j y kvs ?_;rw[nN] at a;cases q:aV kvs k with
  |none=>rfl
  |some x=>rw[q] at a;exact(a rfl).elim
theorem rU(kvs:List (κ×V))(k:κ)(v:V):(putK kvs k v).length<=kvs.length+1:=by
 unfold putK;split
 ·rw[aF];omega
 ·rw[aX,cu,List.length_nil];omega
theorem vD{kvs:List (κ×V)}{k:κ}(v:V)(h:aV kvs k=none):putK kvs k v=kvs++[(k,v)]:=by unfold putK;rw[nN,h];exact if_neg (by decide)
theorem eX.rV{o:Option V}{u:Option Value}(r:eX o u):o.isSome=u.isSome:=by
 cases o with
 |none=>cases u with
  |none=>rfl
  |some _=>exact(show False from r).elim
 |some _=>cases u with
  |none=>exact(show False from r).elim
  |some _=>rfl
theorem eX.getD{o:Option V}{u:Option Value}{d:V}{d':Value}(r:eX o u)(rd:RelV d d'):RelV (o.getD d) (u.getD d'):=by
 cases o with
 |none=>cases u with
  |none=>exact rd
  |some _=>exact(show False from r).elim
 |some _=>cases u with
  |none=>exact(show False from r).elim
  |some _=>exact r
theorem KV.val{kvs:List (κ×V)}{vs:List (κ×Value)}(r:KV kvs vs)(k:κ):eX (aV kvs k) (valueAt vs k):=by
 unfold KV at r;induction r with
 |nil=>exact True.intro
 | @cons p q ps qs h t ih=>
  obtain⟨h1,h2⟩:=h;by_cases e:p.1=k
  ·have e':q.1=k:=h1.symm.trans e;have b:valueAt (q::qs) k=some q.2:=by simp[valueAt,uI,e']
   rw[gs e,b];exact h2
  ·have e':¬q.1=k:=λz=>e (h1.trans z);have b:valueAt (q::qs) k=valueAt qs k:=by simp[valueAt,uI,e']
   rw[fB e,b];exact ih
theorem KV.any{kvs:List (κ×V)}{vs:List (κ×Value)}(r:KV kvs vs)(k:κ):(kvs.any λkv=>decide (kv.1=k))=vs.any λkv=>decide (kv.1=k):=by
 unfold KV at r;induction r with
 |nil=>rfl
 |cons h t ih=>rw[uM,uM,ih,h.1]
theorem KV.zy{kvs:List (κ×V)}{vs:List (κ×Value)}(r:KV kvs vs)(k:κ){y:V}{u:Value}(ry:RelV y u) :
 KV (kvs.map λkv=>if kv.1=k then (kv.1,y) else kv) (vs.map λkv=>if kv.1=k then (kv.1,u) else kv):=by
 unfold KV at r ⊢;induction r with
 |nil=>exact .nil
 | @cons p q ps qs h t ih=>
  rw[bX,bX];refine .cons ?_ ih;obtain⟨h1,h2⟩:=h;by_cases e:p.1=k
  ·rw[if_pos e,if_pos (h1.symm.trans e)];exact⟨h1,ry⟩
  ·rw[if_neg e,if_neg (λz=>e (h1.trans z))];exact⟨h1,h2⟩
theorem KV.put{kvs:List (κ×V)}{vs:List (κ×Value)}(r:KV kvs vs)(k:κ){y:V}{u:Value}(ry:RelV y u):KV (putK kvs k y) (stored vs k u):=by
 unfold putK stored;rw[r.any k];by_cases e:(vs.any λkv=>decide (kv.1=k))=true
 ·rw[if_pos e,if_pos e];exact r.zy k ry
 ·rw[if_neg e,if_neg e];exact Paired.snoc r ⟨rfl,ry⟩
theorem KV.length{kvs:List (κ×V)}{vs:List (κ×Value)}(r:KV kvs vs):kvs.length=vs.length:=Paired.length r
theorem Of(kvs:List (κ×V))(k:κ):(d7 kvs k).length<=kvs.length:=pk _ _
end
theorem nO{P:Program}{w:World}{k:Key}{u:Value}(r:RelV (kV k) u):(eA P w).is k u=true:=by
 cases k with
 |inl i=>obtain⟨t,e⟩:=(show ∃t,u=Value.int i t from r);subst e;exact L8 P w i t
 |inr x=>obtain⟨t,e⟩:=(show ∃t,u=Value.str x t from r);subst e;exact L9 P w x t
theorem EE{P:Program}{w:World}:∀{ks:List Key} {us:List Value},Vals (ks.map kV) us->ItemsAre (eA P w) ks us
 |[],_,r=>by rw[rk] at r;cases r;exact .nil
 |k::ks,_,r=>by
  rw[bX] at r;cases r with
  |cons h t=>exact .cons (nO h) (EE t)
noncomputable abbrev KT(H:Hp):List (List Key×V)->List (List Key×Addr×Value)->Prop:=Paired λp q=>p.1=q.1/\H q.2.1=some (.tup (p.1.map kV))/\RelV p.2 q.2.2
theorem KT.val{H:Hp}{kvs:List (List Key×V)}{xs:List (List Key×Addr×Value)}(r:KT H kvs xs)(k:List Key):eX (aV kvs k) ((atKey xs k).map (·.2)):=by
 induction r with
 |nil=>exact True.intro
 | @cons p q ps qs h t ih=>
  obtain⟨h1,_,h2⟩:=h;by_cases e:p.1=k
  ·have e':q.1=k:=h1.symm.trans e;have b:atKey (q::qs) k=some q.2:=by simp[atKey,uI,e']
   rw[gs e,b];exact h2
  ·have e':¬q.1=k:=λz=>e (h1.trans z);have b:atKey (q::qs) k=atKey qs k:=by simp[atKey,uI,e']
   rw[fB e,b];exact ih
theorem KT.zy{H:Hp}{kvs:List (List Key×V)}{xs:List (List Key×Addr×Value)}(r:KT H kvs xs)(k:List Key){y:V}{u:Value}(ry:RelV y u) :
 KT H (kvs.map λkv=>if kv.1=k then (kv.1,y) else kv) (xs.map (putAt k u)):=by
 induction r with
 |nil=>exact .nil
 | @cons p q ps qs h t ih=>
  rw[bX,bX];refine .cons ?_ ih;obtain⟨h1,h2,h3⟩:=h;unfold putAt;by_cases e:p.1=k
  ·rw[if_pos e,if_pos (h1.symm.trans e)];exact⟨h1,h2,ry⟩
  ·rw[if_neg e,if_neg (λz=>e (h1.trans z))];exact⟨h1,h2,h3⟩
theorem KT.put{H:Hp}{kvs:List (List Key×V)}{xs:List (List Key×Addr×Value)}(r:KT H kvs xs)(k:List Key){b:Addr}{y:V}{u:Value}(hb:H b=some (.tup (k.map kV)))(ry:RelV y u) :
 KT H (putK kvs k y) (storedH xs k b u):=by
 have e:(kvs.any λkv=>decide (kv.1=k))=(atKey xs k).isSome:=by rw[nN,(r.val k).rV,LH]
 unfold putK storedH;rw[e];by_cases q:(atKey xs k).isSome=true
 ·rw[if_pos q,if_pos q];exact r.zy k ry
 ·rw[if_neg q,if_neg q];exact Paired.snoc r ⟨rfl,hb,ry⟩
theorem KT.keeps{H H':Hp}{kvs:List (List Key×V)}{xs:List (List Key×Addr×Value)}(r:KT H kvs xs)(ht:∀b ys,H b=some (.tup ys)->H' b=some (.tup ys)):KT H' kvs xs:=
 Paired.cW r λ_ _ z=>⟨z.1,ht _ _ z.2.1,z.2.2⟩
section
variable {P:Program}{w:World}{H:Hp}{h:Heap}{a:Addr}
theorem EF{u:HO}(ok:bT P w H h)(e:Rd H a u):cV P w H h a u:=e.ok ok
theorem ml{kvs:List (Key×V)}(ok:bT P w H h)(e:Rd H a (.dK kvs)):kvs.length<=sizeLine/\(a==sysModules)=false/\∃vs,KV kvs vs/\h.DictOf (eA P w) a vs:=
 show cV P w H h a (.dK kvs) from EF ok e
theorem Og{kvs:List (Key×V)}(ok:bT P w H h)(e:H a=some (.dK kvs)):kvs.length<=sizeLine/\(a==sysModules)=false/\∃vs,KV kvs vs/\h.DictOf (eA P w) a vs:=ml ok (.inl e)
theorem kO{ks:List Key}(ok:bT P w H h)(e:H a=some (.tup (ks.map kV))):(tupleKind (eA P w)).is h ks a:=by obtain⟨_,au,r,o,h1,h2,n,h3⟩:=(show cV P w H h a (.tup (ks.map kV)) from ok a _ e);exact⟨o,au.toArray,n,h1,h2,h3,by simpa using EE r⟩
theorem kP{kvs:List (List Key×V)}(ok:bT P w H h)(e:Rd H a (.dT kvs)):kvs.length<=sizeLine/\(a==sysModules)=false/\
 ∃xs,KT H kvs xs/\h.DictOfH (tupleKind (eA P w)) a xs:=by
 obtain⟨z,y,xs,r,o,es,ep,h1,h2,h3,h4,h5⟩:=(show cV P w H h a (.dT kvs) from EF ok e);refine⟨z,y,xs,r,o,es,ep,h1,h2,h3,h4,λx hx=>?_,h5⟩;have all:∀{l:List (List Key×V)} {m:List (List Key×Addr×Value)},KT H l m->∀x∈m,(tupleKind (eA P w)).is h x.1 x.2.1:=by
  intro l m q;induction q with
  |nil=>intro x hx;exact nomatch hx
  | @cons p q ps qs hq t ih=>
   intro x hx;rcases bL.mp hx with e | hx
   ·subst e;exact kO ok (by rw[<-hq.1];exact hq.2.1)
   ·exact ih x hx
 exact all r x hx
theorem zz{kvs:List (List Key×V)}(ok:bT P w H h)(e:H a=some (.dT kvs)):kvs.length<=sizeLine/\(a==sysModules)=false/\
 ∃xs,KT H kvs xs/\h.DictOfH (tupleKind (eA P w)) a xs:=kP ok (.inl e)
end
noncomputable def b5(H:Hp)(a:Addr)(y:V)(r:Option V):Prop:=
 (∃kvs k,Rd H a (.dK kvs)/\y=kV k/\r=aV kvs k)\/∃kvs k b,Rd H a (.dT kvs)/\y=.ref b/\H b=some (.tup (k.map kV))/\r=aV kvs k
noncomputable def ia(H:Hp)(a:Addr)(y v:V)(H':Hp):Prop:=
 (∃kvs k,H a=some (.dK kvs)/\y=kV k/\kvs.length<sizeLine/\H'=upd H a (.dK (putK kvs k v)))\/
 ∃kvs k b,H a=some (.dT kvs)/\y=.ref b/\H b=some (.tup (k.map kV))/\kvs.length<sizeLine/\H'=upd H a (.dT (putK kvs k v))
theorem b5.k{H:Hp}{a:Addr}{kvs:List (Key×V)}{k:Key}(e:H a=some (.dK kvs)):b5 H a (kV k) (aV kvs k):=.inl ⟨kvs,k,.inl e,rfl,rfl⟩
theorem b5.t{H:Hp}{a b:Addr}{kvs:List (List Key×V)}{k:List Key}(e:H a=some (.dT kvs))(eb:H b=some (.tup (k.map kV))):b5 H a (.ref b) (aV kvs k):=.inr ⟨kvs,k,b,.inl e,rfl,eb,rfl⟩
theorem ia.k{H:Hp}{a:Addr}{kvs:List (Key×V)}{k:Key}{v:V}(e:H a=some (.dK kvs))(hl:kvs.length<sizeLine):ia H a (kV k) v (upd H a (.dK (putK kvs k v))):=.inl ⟨kvs,k,e,rfl,hl,rfl⟩
theorem ia.t{H:Hp}{a b:Addr}{kvs:List (List Key×V)}{k:List Key}{v:V}(e:H a=some (.dT kvs))(eb:H b=some (.tup (k.map kV)))(hl:kvs.length<sizeLine) :
 ia H a (.ref b) v (upd H a (.dT (putK kvs k v))):=.inr ⟨kvs,k,b,e,rfl,eb,hl,rfl⟩
section
variable {X:Cx}{pins:List (Addr×Obj)}{σ:St}{H:Hp}{s:Shared}{a:Addr}{y v:V}{u r:Value}{o:Option V}{A:Around}{E:Value->Shared->Prop}
theorem Inv.big(I:Inv X pins σ H s):sysModules<s.heap.objs.size:=by have h:mainGlobals<s.heap.objs.size:=(I.mod.glob.keeps I.bk).lt;exact yw (by decide) h
theorem EG{Q:Value->Shared->Prop}(hu:A.units+1<cLine)(I:Inv X pins σ H s)(g:b5 H a y (some v))(ry:RelV y u)(h:∀w' s',Inv X pins σ H s'->RelV v w'->Q w' s') :
 wpAny (model X.prog X.w) A (getItem (.ref a) u) Q E s:=by
 rcases g with ⟨kvs,k,e,ey,l⟩ | ⟨kvs,k,b,e,ey,eb,l⟩
 ·subst ey;obtain⟨z,hd,vs,rel,dd⟩:=ml I.ao e;obtain⟨w',hw,d6⟩:=eX.some_of (v:=v) (o:=valueAt vs k) (by rw[l];exact rel.val k);exact wpAny_getItem_of (nO ry) dd.mapOf hw (h w' _ (I.tok _) d6)
 ·subst ey;cases(show u=Value.ref b from ry);obtain⟨z,hd,xs,rel,dd⟩:=kP I.ao e;obtain⟨w',hw,d6⟩:=eX.some_of (v:=v) (o:=(atKey xs k).map (·.2)) (by rw[l];exact rel.val k);obtain⟨p,hp,iH⟩:=Option.map_eq_some_iff.mp hw;refine wpAny_getItem_heap (tupleKind_room_in1 hu) (kO I.ao eb) dd hp ?_;rw[iH];exact h w' _ (I.tok _) d6
theorem Oh{Q:Value->Shared->Prop}(hu:A.units+1<cLine)(I:Inv X pins σ H s)(g:b5 H a y o)(ry:RelV y u)(h:∀s',Inv X pins σ H s'->Q (.bool o.isSome) s') :
 wpAny (model X.prog X.w) A (compareOp .In u (.ref a)) Q E s:=by
 rcases g with ⟨kvs,k,e,ey,l⟩ | ⟨kvs,k,b,e,ey,eb,l⟩
 ·subst ey;obtain⟨z,hd,vs,rel,dd⟩:=ml I.ao e;refine wpAny_in_of (nO ry) hd dd.mapOf ?_;rw[<-(rel.val k).rV,<-l];exact h _ (I.tok _)
 ·subst ey;cases(show u=Value.ref b from ry);obtain⟨z,hd,xs,rel,dd⟩:=kP I.ao e;refine wpAny_in_heap (tupleKind_room_in1 hu) (kO I.ao eb) hd dd ?_;have q:=(rel.val k).rV;rw[LH] at q;rw[<-q,<-l];exact h _ (I.tok _)
theorem Oi{Q:Value->Shared->Prop}(hu:A.units+1<cLine)(I:Inv X pins σ H s)(g:b5 H a y o)(ry:RelV y u)(h:∀s',Inv X pins σ H s'->Q (.bool (!o.isSome)) s') :
 wpAny (model X.prog X.w) A (compareOp .NotIn u (.ref a)) Q E s:=by
 rcases g with ⟨kvs,k,e,ey,l⟩ | ⟨kvs,k,b,e,ey,eb,l⟩
 ·subst ey;obtain⟨z,hd,vs,rel,dd⟩:=ml I.ao e;refine wpAny_notIn_of (nO ry) hd dd.mapOf ?_;rw[<-(rel.val k).rV,<-l];exact h _ (I.tok _)
 ·subst ey;cases(show u=Value.ref b from ry);obtain⟨z,hd,xs,rel,dd⟩:=kP I.ao e;refine wpAny_notIn_heap (tupleKind_room_in1 hu) (kO I.ao eb) hd dd ?_;have q:=(rel.val k).rV;rw[LH] at q;rw[<-q,<-l];exact h _ (I.tok _)
theorem vE{h':Heap}{t':Nat}{ob:HO}(I:Inv X pins σ H s)(mu:lS (H a))(hs:Heap.SameBut a s.heap h')(he:∃q,h'.get? a=some q)(new:cV X.prog X.w (upd H a ob) h' a ob) :
 Inv X pins σ (upd H a ob) {s with heap:=h',toks:=t'}:=
 I.write (x:=a) (e:=a) mu (.inl rfl) (λb q hb z=>(hs.2 b hb).trans z) he new
theorem Oj{P:Program}{w:World}{H':Hp}{h':Heap}{kvs:List (Key×V)}{vs:List (Key×Value)}(z:kvs.length<=sizeLine)(hd:(a==sysModules)=false)(rel:KV kvs vs)(dd:h'.DictOf (eA P w) a vs) :
 cV P w H' h' a (.dK kvs):=⟨z,hd,vs,rel,dd⟩
theorem EH{H':Hp}{Q:Unit->Shared->Prop}(hu:A.units+1<cLine)(I:Inv X pins σ H s)(g:ia H a y v H')(ry:RelV y u)(rv:RelV v r)(h:∀s',Inv X pins σ H' s'->Q () s') :
 wpAny (model X.prog X.w) A (setItem (.ref a) u r) Q E s:=by
 rcases g with ⟨kvs,k,e,ey,l,eH⟩ | ⟨kvs,k,b,e,ey,eb,l,eH⟩
 ·subst ey eH;obtain⟨z,hd,vs,rel,dd⟩:=Og I.ao e;have hz:vs.length<=sizeLine:=by rw[<-rel.length];exact z
  have hl:(putK kvs k v).length<=sizeLine:=by have:=rU kvs k v;omega
  refine wpAny_setItem_pairs (hsz:=hz) (nO ry) dd λh' mn hs=>h _ ?_;have he:∃q,h'.get? a=some q:=let ⟨q,_,_,hq,_⟩:=mn;⟨q,hq⟩;exact vE I (by rw[e];exact True.intro) hs he (Oj hl hd (rel.put k rv) mn)
 ·subst ey eH;cases(show u=Value.ref b from ry);obtain⟨z,hd,xs,rel,dd⟩:=zz I.ao e;have hz:xs.length<=sizeLine:=by rw[<-Paired.length rel];exact z
  have hl:(putK kvs k v).length<=sizeLine:=by have:=rU kvs k v;omega
  refine wpAny_setItem_heap (hsz:=hz) (tupleKind_room_in1 hu) (kO I.ao eb) dd λh' mn hs=>h _ ?_;obtain⟨q,es,ep,hq,h2,h3,h4,_,h5⟩:=mn;refine vE I (by rw[e];exact True.intro) hs ⟨q,hq⟩ ⟨hl,hd,_,(rel.put k eb rv).keeps λc ys ec=>?_,q,es,ep,hq,h2,h3,h4,h5⟩;rw[aw (b9 ec e (λz=>nomatch z))];exact ec
end
section
variable {X:Cx}{pins:List (Addr×Obj)}{σ:St}{H:Hp}{s:Shared}{a:Addr}{kvs:List (Key×V)}{k:Key}{u:Value}{A:Around}{E:Value->Shared->Prop}
end
noncomputable def EI(i:Expr):Prop:=∀ov iv,subscripted i false ov iv=operate [ov,iv] (getItem ov iv)
theorem Ol{prog:Program}{w:World}{A:Around}{E:Value->Shared->Prop}{s:Shared}{env:Env}{value slice:Expr}{pos:Pos}{T id:String}{Q:Value->Shared->Prop}
 (hl:typeLookup (.type T) "__getitem__"=pure (some (.builtin id))) (hs:EI slice)
 (h:wpAny (model prog w) A (eval value env) (λo s₁=>wpAny (model prog w) A (eval slice env) (λi s₂=>s₂.TypeIs o T/\wpAny (model prog w) A (getItem o i) Q E s₂) E s₁) E s) :
 wpAny (model prog w) A (eval (.Subscript value slice pos) env) Q E s:=by
 refine Subscript_ (wpAny_mono h (λo s₁ h₁=>wpAny_mono h₁ (λi s₂ h₂=>?_) λ_ _ x=>x) λ_ _ x=>x);obtain⟨hT,h₂⟩:=h₂;unfold subscriptTail;refine wpAny_bind ?_;rw[getitemInPython_of_ne hT.not_modules];refine wpAny_bind (wpAny_specialOf hT hl ?_);have fin:wpAny (model prog w) A (subscripted slice false o i) (λr s₃=>wpAny (model prog w) A (letTemporaryGo value o r >>= λ_=>pure r) Q E s₃) E s₂:=by rw[hs o i];exact wpAny_operating (wpAny_mono h₂ (λr s₃ h₃=>wpAny_bind (wpAny_letTemporaryGo (wpAny_pure h₃))) λ_ _ x=>x)
 first
  |exact wpAny_pure (wpAny_bind fin)
  |exact wpAny_bind (wpAny_pure (wpAny_bind fin))
  |exact wpAny_bind fin
theorem Om{X:Cx}{pins:List (Addr×Obj)}{σ:St}{H:Hp}{s:Shared}{a:Addr}{y:V}{o:Option V}(I:Inv X pins σ H s)(g:b5 H a y o):s.TypeIs (.ref a) "dict":=by
 rcases g with ⟨kvs,k,e,_,_⟩ | ⟨kvs,k,b,e,_,_,_⟩
 ·obtain⟨_,_,vs,_,dd⟩:=ml I.ao e;exact dd.typeIs
 ·obtain⟨_,_,xs,_,dd⟩:=kP I.ao e;exact dd.typeIs
noncomputable def EJ(td ty:TE):TE:=λσ H Q=>td σ H λx H1=>ty σ H1 λy H2=>∃a v,x=.ref a/\b5 H2 a y (some v)/\Q v H2
noncomputable def EK(ty td:TE):TE:=λσ H Q=>ty σ H λy H1=>td σ H1 λx H2=>∃a o,x=.ref a/\b5 H2 a y o/\Q (.bl o.isSome) H2
noncomputable def EL(ty td:TE):TE:=λσ H Q=>ty σ H λy H1=>td σ H1 λx H2=>∃a o,x=.ref a/\b5 H2 a y o/\Q (.bl (!o.isSome)) H2
noncomputable def Oo(td ty tv:TE):TS:=λD σ H=>tv σ H λv H1=>td σ H1 λx H2=>ty σ H2 λy H3=>∃a H4,x=.ref a/\ia H3 a y v H4/\D.nx σ H4
noncomputable def Oq(td ty tv:TE)(rd:V->V->Hp->VK->Prop):TS:=λD σ H=>td σ H λx H1=>ty σ H1 λy H2=>∃a v,x=.ref a/\b5 H2 a y (some v)/\
 tv σ H2 λy2 H3=>rd v y2 H3 λz H4=>∃H5,ia H4 a y z H5/\D.nx σ H5
section
variable {X:Cx}{o i e value:Expr}{pos pos' yT:Pos}{td ty tv:TE}
theorem mq(hu:X.A.units+1<cLine)(ho:PE X o td)(hi:PE X i ty)(hs:EI i):PE X (.Subscript o i pos) (EJ td ty):=by intro pins s σ H Q I h;refine Ol PySem.F.slot_dict_getitem.lookup hs (aI (ho pins s σ H _ I h) λu s1 zq=>?_);obtain⟨x,H1,I1,rx,q1⟩:=zq;refine aI (hi pins s1 σ H1 _ I1 q1) λiv s2 zq=>?_;obtain⟨y,H2,I2,ry,a,v,ex,g,q2⟩:=zq;subst ex;obtain rfl:u=Value.ref a:=rx;exact⟨Om I2 g,EG hu I2 g ry λw' s3 I3 d6=>⟨v,H2,I3,d6,q2⟩⟩
theorem zA(hu:X.A.units+1<cLine)(hi:PE X i ty)(ho:PE X o td):PC X .In i o (EK ty td):=by intro pins s σ H Q I h;refine aI (hi pins s σ H _ I h) λiv s1 zq=>?_;obtain⟨y,H1,I1,ry,q1⟩:=zq;refine aI (ho pins s1 σ H1 _ I1 q1) λu s2 zq=>?_;obtain⟨x,H2,I2,rx,a,ov,ex,g,q2⟩:=zq;subst ex;obtain rfl:u=Value.ref a:=rx;exact Oh hu I2 g ry λs3 I3=>⟨.bl ov.isSome,H2,I3,rfl,q2⟩
theorem vF(hu:X.A.units+1<cLine)(hi:PE X i ty)(ho:PE X o td):PC X .NotIn i o (EL ty td):=by intro pins s σ H Q I h;refine aI (hi pins s σ H _ I h) λiv s1 zq=>?_;obtain⟨y,H1,I1,ry,q1⟩:=zq;refine aI (ho pins s1 σ H1 _ I1 q1) λu s2 zq=>?_;obtain⟨x,H2,I2,rx,a,ov,ex,g,q2⟩:=zq;subst ex;obtain rfl:u=Value.ref a:=rx;exact Oi hu I2 g ry λs3 I3=>⟨.bl (!ov.isSome),H2,I3,rfl,q2⟩
theorem rW(hu:X.A.units+1<cLine)(ho:PE X o td)(hi:PE X i ty)(hv:PE X value tv)(hs:swapsWith value (some (.Subscript o i pos')) pos.line X.env=pure false) :
 PS X (.Assign [.Subscript o i pos'] value pos) (Oo td ty tv):=by
 intro pins s σ H D I h;refine wpAny_Assign_Subscript (aI (hv pins s σ H _ I h) λr s1 zq=>?_) hs;obtain⟨v,H1,I1,rv,q1⟩:=zq;refine aI (ho pins s1 σ H1 _ I1 q1) λu s2 zq=>?_;obtain⟨x,H2,I2,rx,q2⟩:=zq;refine aI (hi pins s2 σ H2 _ I2 q2) λiv s3 zq=>?_;obtain⟨y,H3,I3,ry,a,H4,ex,g,q3⟩:=zq;subst ex;obtain rfl:u=Value.ref a:=rx;exact EH hu I3 g ry rv λs4 I4=>⟨σ,H4,I4,q3⟩
theorem Ot{op:Operator}{rd:V->V->Hp->VK->Prop}(hu:X.A.units+1<cLine)(ho:PE X o td)(hi:PE X i ty)(hv:PE X value tv)(yU:vg X op rd)
 (ha:∀ov iv new,augStore i ov iv new=(do holding [new,ov,iv] (setItem ov iv new);release [new,ov,iv] [];pure .next)):PS X (.AugAssign (.Subscript o i yT) op value pos) (Oq td ty tv rd):=by
 intro pins s σ H D I h;refine wpAny_AugAssign_SubscriptAny (aI (ho pins s σ H _ I h) λu s1 zq=>?_) ha;obtain⟨x,H1,I1,rx,q1⟩:=zq;refine aI (hi pins s1 σ H1 _ I1 q1) λiv s2 zq=>?_;obtain⟨y,H2,I2,ry,a,v,ex,g,q2⟩:=zq;subst ex;obtain rfl:u=Value.ref a:=rx;refine EG hu I2 g ry λw' s3 I3 d6=>aI (hv pins s3 σ H2 _ I3 q2) λw2 s4 zq=>?_;obtain⟨y2,H3,I4,Ou,q3⟩:=zq;refine aI (yU pins s4 σ H3 v y2 w' w2 _ I4 d6 Ou q3) λw3 s5 zq=>?_;obtain⟨z,H4,I5,rz,H5,g5,q4⟩:=zq;exact EH hu I5 g5 ry rz λs6 I6=>⟨σ,H5,I6,q4⟩
end
theorem Ov{P:Program}{w:World}{H:Hp}(h:Heap)(hb:sysModules<h.objs.size):cV P w H (h.push {cls:=.type "dict",data:=.dict #[]}) h.objs.size (.dK []):=
 ⟨bY _,dt.mpr (bu (gE hb)),[],.nil,Heap.DictOf.new h⟩
theorem Ow{P:Program}{w:World}{H:Hp}(h:Heap)(hb:sysModules<h.objs.size):cV P w H (h.push {cls:=.type "dict",data:=.dict #[]}) h.objs.size (.dT []):=
 ⟨bY _,dt.mpr (bu (gE hb)),[],.nil,_,#[],0,Heap.get?_push_size _ rfl,⟨rfl,rfl,rfl⟩,rfl,rfl,uK⟩
noncomputable def Ox:TE:=λ_ H Q=>∀p,H p=none->Q (.ref p) (upd H p (.dK []))
noncomputable def Oy:TE:=λ_ H Q=>∀p,H p=none->Q (.ref p) (upd H p (.dT []))
section
variable {X:Cx}{pos:Pos}
theorem Oz:PE X (.Dict [] [] pos) Ox:=λpins s σ H Q I h=>
 wpAny_Dict_empty ⟨.ref s.heap.objs.size,_,I.laid (a:=s.heap.objs.size) (o:=.dK []) (t':=s.toks) (λ_ _ q=>Heap.get?_push_of_some _ q) (bB _) (Ov s.heap I.big),rfl,h _ (I.ao.fresh (bB _))⟩
theorem vH:PE X (.Dict [] [] pos) Oy:=λpins s σ H Q I h=>
 wpAny_Dict_empty ⟨.ref s.heap.objs.size,_,I.laid (a:=s.heap.objs.size) (o:=.dT []) (t':=s.toks) (λ_ _ q=>Heap.get?_push_of_some _ q) (bB _) (Ow s.heap I.big),rfl,h _ (I.ao.fresh (bB _))⟩
end
structure M1(X:Cx)(o:Expr)(m:Str)(apos:Pos)(e:Expr)(bN:Pos):Prop where
 base:attributeBase o m X.env (eval o X.env)=eval o X.env
 rX:((backTo bN (starEach [e] X.env)).all (λx=>!x.1)&&(backToKw bN (keywordEach [] X.env)).all (λx=>x.1.isSome)
  && decide (([e]:List Expr).length+([]:List Keyword).length+(if ([]:List Keyword).isEmpty then 0 else 1)<30))=true
 line:(apos.endLine==bN.line)=true
 trees:backTo bN (starEach [e] X.env)=[(false,eval e X.env)]
structure M2(X:Cx)(o:Expr)(m:Str)(apos:Pos)(e f:Expr)(bN:Pos):Prop where
 base:attributeBase o m X.env (eval o X.env)=eval o X.env
 rX:((backTo bN (starEach [e,f] X.env)).all (λx=>!x.1)&&(backToKw bN (keywordEach [] X.env)).all (λx=>x.1.isSome)
  && decide (([e,f]:List Expr).length+([]:List Keyword).length+(if ([]:List Keyword).isEmpty then 0 else 1)<30))=true
 line:(apos.endLine==bN.line)=true
 trees:backTo bN (starEach [e,f] X.env)=[(false,eval e X.env),(false,eval f X.env)]
noncomputable def rY(H:Hp)(a:Addr):Prop:=(∃kvs,Rd H a (.dK kvs))\/∃kvs,Rd H a (.dT kvs)
theorem vI{X:Cx}{pins:List (Addr×Obj)}{σ:St}{H:Hp}{s:Shared}{a:Addr}(I:Inv X pins σ H s)(d:rY H a) :
 s.TypeIs (.ref a) "dict"/\(∀b,Value.ref a=.ref b->∃ob,s.heap.get? b=some ob/\ob.dict=none)/\(a==sysModules)=false:=by
 rcases d with ⟨kvs,e⟩ | ⟨kvs,e⟩
 ·obtain⟨_,hd,vs,_,dd⟩:=ml I.ao e;refine⟨dd.typeIs,λb q=>?_,hd⟩;cases q;obtain⟨ob,_,_,h1,h2,_⟩:=dd;exact⟨ob,h1,h2.2.1⟩
 ·obtain⟨_,hd,xs,_,dd⟩:=kP I.ao e;refine⟨dd.typeIs,λb q=>?_,hd⟩;cases q;obtain⟨ob,_,_,h1,h2,_⟩:=dd;exact⟨ob,h1,h2.2.1⟩
section
variable {X:Cx}{pins:List (Addr×Obj)}{σ:St}{H:Hp}{s:Shared}{a:Addr}{y d:V}{u r:Value}{o:Option V}{A:Around}{E:Value->Shared->Prop}
theorem OA{Q:Value->Shared->Prop}(hu:A.units+1<cLine)(I:Inv X pins σ H s)(g:b5 H a y o)(ry:RelV y u)(h:∀w' s',Inv X pins σ H s'->RelV (o.getD .ak) w'->Q w' s') :
 wpAny (model X.prog X.w) A (call (.builtin "dict.get") [.ref a,u]) Q E s:=by
 rcases g with ⟨kvs,k,e,ey,l⟩ | ⟨kvs,k,b,e,ey,eb,l⟩
 ·subst ey;obtain⟨z,hd,vs,rel,dd⟩:=ml I.ao e;refine call_meetsIn uC dd.typeIs CQ (Zo _ _) (meets_dict_get (eA X.prog X.w) a (nO ry) hd) ⟨_,dd.mapOf,h _ _ (I.tok _) ?_⟩;rw[l];exact(rel.val k).getD rfl
 ·subst ey;cases(show u=Value.ref b from ry);obtain⟨z,hd,xs,rel,dd⟩:=kP I.ao e;refine call_meetsIn uC dd.typeIs CQ (Zo _ _) (meetsH_dict_get (tupleKind (eA X.prog X.w)) a b hd) ⟨tupleKind_room_in1 hu,k,xs,kO I.ao eb,dd,h _ _ (I.tok _) ?_⟩;rw[l];exact(rel.val k).getD rfl
theorem OB{Q:Value->Shared->Prop}(hu:A.units+1<cLine)(I:Inv X pins σ H s)(g:b5 H a y o)(ry:RelV y u)(rd:RelV d r)(h:∀w' s',Inv X pins σ H s'->RelV (o.getD d) w'->Q w' s') :
 wpAny (model X.prog X.w) A (call (.builtin "dict.get") [.ref a,u,r]) Q E s:=by
 rcases g with ⟨kvs,k,e,ey,l⟩ | ⟨kvs,k,b,e,ey,eb,l⟩
 ·subst ey;obtain⟨z,hd,vs,rel,dd⟩:=ml I.ao e;refine call_meetsIn uC dd.typeIs CQ (Zn _ _ _) (meets_dict_get_default (eA X.prog X.w) a (nO ry) hd r) ⟨_,dd.mapOf,h _ _ (I.tok _) ?_⟩;rw[l];exact(rel.val k).getD rd
 ·subst ey;cases(show u=Value.ref b from ry);obtain⟨z,hd,xs,rel,dd⟩:=kP I.ao e;refine call_meetsIn uC dd.typeIs CQ (Zn _ _ _) (meetsH_dict_get_default (tupleKind (eA X.prog X.w)) a b hd r) ⟨tupleKind_room_in1 hu,k,xs,kO I.ao eb,dd,h _ _ (I.tok _) ?_⟩;rw[l];exact(rel.val k).getD rd
end
noncomputable def zB(td ty:TE):TE:=λσ H Q=>td σ H λx H1=>∃a,x=.ref a/\rY H1 a/\ty σ H1 λy H2=>∃o,b5 H2 a y o/\Q (o.getD .ak) H2
noncomputable def EM(td ty tx:TE):TE:=λσ H Q=>td σ H λx H1=>∃a,x=.ref a/\rY H1 a/\ty σ H1 λy H2=>tx σ H2 λz H3=>∃o,b5 H3 a y o/\Q (o.getD z) H3
section
variable {X:Cx}{o e f:Expr}{apos bN:Pos}{td ty tx:TE}
theorem OC(hu:X.A.units+1<cLine)(ho:PE X o td)(he:PE X e ty)(m:M1 X o "get" apos e bN):PE X (.Call (.Attribute o "get" apos) [e] [] bN) (zB td ty):=by intro pins s σ H Q I h;refine wpAny_Call_method m.base m.rX m.line CP uC PySem.F.type_dict_get (aI (ho pins s σ H _ I h) λu s1 zq=>?_);obtain⟨x,H1,I1,rx,a,ex,d,q1⟩:=zq;subst ex;obtain rfl:u=Value.ref a:=rx;obtain⟨t1,t2,_⟩:=vI I1 d;refine⟨t1,t2,?_⟩;rw[m.trees];refine Calls.callWith_builtin rfl (Calls.evalArgs_plain (Calls.spliced_cons (aI (he pins s1 σ H1 _ I1 q1) λiv s2 zq=>?_)));obtain⟨y,H2,I2,ry,ov,g,q2⟩:=zq;refine Calls.spliced_nil ?_;exact OA hu I2 g ry λw' s3 I3 d6=>⟨_,H2,I3,d6,q2⟩
theorem OD(hu:X.A.units+1<cLine)(ho:PE X o td)(he:PE X e ty)(hf:PE X f tx)(m:M2 X o "get" apos e f bN):PE X (.Call (.Attribute o "get" apos) [e,f] [] bN) (EM td ty tx):=by
 intro pins s σ H Q I h;refine wpAny_Call_method m.base m.rX m.line CP uC PySem.F.type_dict_get (aI (ho pins s σ H _ I h) λu s1 zq=>?_);obtain⟨x,H1,I1,rx,a,ex,d,q1⟩:=zq;subst ex;obtain rfl:u=Value.ref a:=rx;obtain⟨t1,t2,_⟩:=vI I1 d;refine⟨t1,t2,?_⟩;rw[m.trees];refine Calls.callWith_builtin rfl (Calls.evalArgs_plain (Calls.spliced_cons (aI (he pins s1 σ H1 _ I1 q1) λiv s2 ⟨y,H2,I2,ry,q2⟩=>
  Calls.spliced_cons (aI (hf pins s2 σ H2 _ I2 q2) λfv s3 ⟨z,H3,I3,rz,ov,g,q3⟩=>Calls.spliced_nil ?_))))
 exact OB hu I3 g ry rz λw' s4 I4 d6=>⟨_,H3,I4,d6,q3⟩
end
section
variable {X:Cx}{pins:List (Addr×Obj)}{σ:St}{H:Hp}{s:Shared}{a:Addr}{kvs:List (Key×V)}{A:Around}{E:Value->Shared->Prop}
end
section
variable {X:Cx}{pins:List (Addr×Obj)}{σ:St}{H:Hp}{s:Shared}{a:Addr}{y:V}{u:Value}{A:Around}{E:Value->Shared->Prop}
end
section
variable {prog:Program}{w:World}{A:Around}{E:Value->Shared->Prop}
end
section
variable {X:Cx}
end
theorem OE:bootBuiltins "reversed"=some (.type "reversed"):=by decide +kernel
section
variable {X:Cx}{pins:List (Addr×Obj)}{σ:St}{H:Hp}{s:Shared}{h':Heap}
theorem Inv.lock{d:Addr}{u:HO}(I:Inv X pins σ H s)(h:H d=some u)(mu:lS (some u)):∃od,Inv X pins σ (upd H d (.bz od u)) s:=by
 have x:=I.ao d u h;have ex:∃od,s.heap.get? d=some od:=by
  cases u with
  |lst xs=>obtain⟨_,_,_,_,e⟩:=x;exact⟨_,e⟩
  |dK kvs=>obtain⟨_,_,_,_,o,_,_,e,_⟩:=x;exact⟨o,e⟩
  |dT kvs=>obtain⟨_,_,_,_,o,_,_,e,_⟩:=x;exact⟨o,e⟩
  |set S n=>obtain⟨o,_,_,_,e,_⟩:=x;exact⟨o,e⟩
  |ins C dx fs=>obtain⟨_,_,_,e,_⟩:=x;exact⟨_,e⟩
  |ext φ=>obtain⟨_,⟨_,e⟩,_⟩:=x;exact⟨_,e⟩
  |_=>exact False.elim mu
 obtain⟨od,e⟩:=ex;have new:cV X.prog X.w (upd H d (.bz od u)) s.heap d (.bz od u):=by
  refine⟨e,x.jO (λb v _ q=>q) (λb q=>?_) λb xs q=>?_⟩
  ·rw[aw (λz=>by rw[z,h] at q;cases q;exact mu)];exact q
  ·rw[aw (λz=>by rw[z,h] at q;cases q;exact mu)];exact q
 exact⟨od,I.write (x:=d) (e:=d) (t':=s.toks) (h':=s.heap) (by rw[h];exact mu) (.inl rfl) (λb v _ q=>q) ⟨od,e⟩ new⟩
theorem Inv.vJ{d:Addr}{u:HO}(I:Inv X pins σ H s)(h:H d=some u)(mu:lS (some u)):∀o' u',X.jQ d≠some (.bz o' u'):=λo' u' e=>by have q:=I.base.eY d o' u' e;rw[h] at q;cases q;exact mu
theorem Inv.unlock{d:Addr}{od:Obj}{u:HO}(I:Inv X pins σ H s)(h:H d=some (.bz od u))(hn:∀o' u',X.jQ d≠some (.bz o' u')):Inv X pins σ (upd H d u) s:=by
 have pT:∀b o,H b=some o->(∀o' u',o≠.bz o' u')->b≠d:=λb o e bG z=>by rw[z,h] at e;cases e;exact bG _ _ rfl
 have neN:∀b,H b=none->b≠d:=λb e z=>by rw[z,h] at e;cases e
 refine⟨I.ok,I.os,I.bare,⟨I.base.keep,I.base.slot,λb o e n hx=>?_,I.base.there,λb xs e=>?_,λb o x e=>?_,λb ps e=>?_⟩,I.loc,I.cell,?_,λx c e=>?_,λp hp=>?_,λb o e=>?_,I.len⟩
 ·rw[aw (neN b (I.base.free b o e n hx))];exact I.base.free b o e n hx
 ·have q:=I.base.eO b xs e;rw[aw (pT b _ q (λ_ _ z=>nomatch z))];exact q
 ·have q:=I.base.eY b o x e;rw[aw (λz=>by rw[z] at e;exact hn _ _ e)];exact q
 ·obtain⟨m,q⟩:=I.base.fP b ps e;exact⟨m,by rw[aw (pT b _ q (λ_ _ z=>nomatch z))];exact q⟩
 ·rw[aw (neN _ I.free)];exact I.free
 ·rw[aw (neN c (I.eC x c e))];exact I.eC x c e
 ·obtain⟨e,n,r⟩:=I.pin p hp;exact⟨e,by rw[aw (neN _ n)];exact n,r⟩
 ·by_cases hb:b=d
  ·rw[hb,ag] at e;cases e;rw[hb];obtain⟨_,x⟩:=I.ao d _ h;exact x.jO (λc v _ q=>q) (λc q=>by rw[aw (pT c _ q (λ_ _ z=>nomatch z))];exact q) λc xs q=>by rw[aw (pT c _ q (λ_ _ z=>nomatch z))];exact q
  ·rw[aw hb] at e;exact(I.ao b o e).jO (λc v _ q=>q) (λc q=>by rw[aw (pT c _ q (λ_ _ z=>nomatch z))];exact q) λc xs q=>by rw[aw (pT c _ q (λ_ _ z=>nomatch z))];exact q
end
noncomputable def OF(t:TS):TS:=λD σ H=>∃d u,H d=some u/\lS (some u)/\∀od,t ⟨λσ' H'=>H' d=some (.bz od u)/\D.nx σ' (upd H' d u),λv H'=>H' d=some (.bz od u)/\D.rt v (upd H' d u),λσ' H'=>H' d=some (.bz od u)/\D.bk σ' (upd H' d u),λσ' H'=>H' d=some (.bz od u)/\D.ct σ' (upd H' d u)⟩ σ (upd H d (.bz od u))
section
variable {X:Cx}
theorem OG{st:Stmt}{t:TS}(h:PS X st t):PS X st (OF t):=by
 intro pins s σ H D I hw;obtain⟨d,u,hd,mu,hw⟩:=hw;obtain⟨od,I1⟩:=I.lock hd mu;refine aI (h pins s σ _ _ I1 (hw od)) λf s1 q=>?_;cases f with
 |next=>obtain⟨σ',H',I2,e,q⟩:=q;exact⟨σ',_,I2.unlock e (I.vJ hd mu),q⟩
 |brk=>obtain⟨σ',H',I2,e,q⟩:=q;exact⟨σ',_,I2.unlock e (I.vJ hd mu),q⟩
 |cont=>obtain⟨σ',H',I2,e,q⟩:=q;exact⟨σ',_,I2.unlock e (I.vJ hd mu),q⟩
 |ret v=>obtain⟨x,σ',H',I2,r,e,q⟩:=q;exact⟨x,σ',_,I2.unlock e (I.vJ hd mu),r,q⟩
theorem vK{tg:Expr}{pins:List (Addr×Obj)}{σ:St}{H:Hp}{s:Shared}{R:It->Hp->Prop}{J:It}{tn:Nat->Heap->Prop}{tk:Nat}(I:Inv X pins σ H s)(o:Obj)
 (T:Turn X.prog X.w X.K tg J [s.heap.objs.size] s.heap.objs.size tn) (st:tn 0 (s.heap.push o)) (q:R J H):yL X pins σ tg R (.ref s.heap.objs.size) {s with heap:=s.heap.push o,toks:=tk}:=by
 refine⟨s.heap.objs.size,[s.heap.objs.size],tn,J,H,rfl,I.kept λb ob e=>Heap.get?_push_of_some _ e,T,st,λb hb=>?_,q⟩;have e:b=s.heap.objs.size:=by simpa using hb
 subst e;exact I.nj (bB _) (I.ao.fresh (bB _))
end
section
variable {X:Cx}{tg:Expr}
end
section
variable {prog:Program}{w:World}{A:Around}{E:Value->Shared->Prop}{s:Shared}
theorem zC{d:Addr}{o:Obj}{es:Array DictEntry}{ep:Nat}{Q:Value->Shared->Prop}(hd:(d==sysModules)=false)(ho:s.heap.get? d=some o)(hc:o.ExactDict)(EN:o.data=.dict es ep)
 (hQ:Q (.ref s.heap.objs.size) {s with heap:=s.heap.push {cls:=.type "dict_keyiterator",data:=.fields #[.ref d,.int 0 0,.int es.size 0,.int ep 0]}}) :
 wpAny (model prog w) A (pyIter (.ref d)) Q E s:=by
 have hT:s.TypeIs (.ref d) "dict":=⟨o,ho,hc.1⟩;refine wpAny_pyIter_slot hT F.slot_dict_iter (wpAny_call_entry F.slot_dict_iter hT F.entry_dict_iter ?_ (F.args_dict_iter_1 _));unfold Builtin.«dict.__iter__»;refine wpAny_bind ?_;unfold Builtin.Dict.dictSlotNone;refine wpAny_bind (wpAny_notOrdered_dict hT ?_);show wpAny _ _ (pure (Value.ref d)) _ _ s;refine wpAny_pure ?_;show wpAny _ _ (Builtin.Dict.showsAll d >>= _) _ _ s;unfold Builtin.Dict.showsAll;rw[if_neg (by rw[hd];exact dj)];refine wpAny_bind (wpAny_pure ?_);refine wpAny_bind (wpAny_dictEntries ho EN ?_);refine wpAny_bind (wpAny_dictEpoch ho EN ?_);refine wpAny_bind (wpAny_newObj_type (wpAny_pure ⟨_,rfl,"dict_keyiterator",_,⟨_,Heap.get?_push_size _ rfl,rfl⟩,F.slot_dict_keyiterator_next.lookup,?_⟩));simpa [rawInt] using hQ
theorem OH{it d:Addr}{i n ep:Nat}{od:Obj}{es:Array DictEntry}{en:DictEntry}{Q:Option Value->Shared->Prop}(hit:s.heap.IsKeyIter it d i n ep)(jq:s.heap.get? d=some od)(kQ:od.data=.dict es ep)
 (hsz:es.size=n) (hx:es[i]?=some en) (hQ:∀h',h'.IsKeyIter it d (i+1) n ep->Heap.SameBut it s.heap h'->Q (some en.key) {s with heap:=h'}):wpAny (model prog w) A (pyNext (.ref it)) Q E s:=by
 obtain⟨o,ho,hc,hd⟩:=id hit;unfold pyNext;refine wpAny_bind (wpAny_attempt (wpAny_callSpecial?_slot (name:=Str.ofString "__next__") hit.typeIs F.slot_dict_keyiterator_next
  (wpAny_call_entry F.slot_dict_keyiterator_next hit.typeIs F.entry_dict_keyiterator_next ?_ (F.args_dict_keyiterator_next_1 _))))
 refine wpAny_bind (wpAny_pure ?_);refine wpAny_bind ?_;refine wpAny_bind ?_
 first|refine wpAny_bind (wpAny_typeNameOfWhole_keyiter hit.typeIs (wpAny_pure ?_)) | refine wpAny_bind (wpAny_typeNameOf_keyiter hit.typeIs (wpAny_pure ?_))
 refine wpAny_bind (wpAny_fieldsOf ho hd ?_);have zD:Builtin.Dict_items.ownsTuple "dict_keyiterator"=false:=by decide
 simp only[zD,gi,dS];show wpAny _ _ (if (Value.ref d==Value.none)=true then _ else _) _ _ s;rw[if_neg (show ¬((Value.ref d==Value.none)=true) from dj)];refine wpAny_bind (wpAny_pure ?_);refine wpAny_bind (wpAny_dictEntries jq kQ ?_);rw[if_neg (by rw[hsz];simp)];refine wpAny_bind (wpAny_pure ?_);refine wpAny_bind (wpAny_dictEpoch jq kQ ?_);rw[if_neg (by simp)];refine wpAny_pure ?_;obtain⟨pU,nP⟩:=qR.mp hx;simp only[show ¬((i:Int)<0) from by omega,dS,ja,Array.getElem?_eq_getElem pU];refine wpAny_bind ?_
 first|refine wpAny_bind (wpAny_typeNameOfWhole_keyiter hit.typeIs (wpAny_pure ?_)) | refine wpAny_bind (wpAny_typeNameOf_keyiter hit.typeIs (wpAny_pure ?_))
 refine wpAny_bind (wpAny_isOneOf_keyiter hit.typeIs ?_);show wpAny _ _ (setField (.ref it) 1 (rawInt ((i:Int)+1)) >>= _) _ _ s;refine wpAny_bind (wpAny_setField ho hd (by simp) ?_);have EO:(s.heap.update it (Obj.mapFields (·.setIfInBounds 1 (rawInt ((i:Int)+1))))).IsKeyIter it d (i+1) n ep:=
  ⟨_,Heap.get?_update_self _ ho (Obj.isFreed_of_fields (Obj.data_mapFields hd _)),(Obj.cls_mapFields ..).trans hc,by rw[Obj.data_mapFields hd];simp[rawInt]⟩
 refine wpAny_bind (wpAny_holding ?_);refine wpAny_bind (wpAny_isOneOf_keyiter (s:={s with heap:=s.heap.update it (Obj.mapFields (·.setIfInBounds 1 (rawInt ((i:Int)+1))))}) EO.typeIs ?_);show wpAny _ _ (pure es[i].key) _ _ _;rw[nP];exact wpAny_pure (wpAny_pure ⟨_,rfl,wpAny_pure (hQ _ EO (Heap.SameBut.update ..))⟩)
theorem ER{it d:Addr}{i n ep:Nat}{od:Obj}{es:Array DictEntry}{Q:Option Value->Shared->Prop}(hh:A.handled=none)(hit:s.heap.IsKeyIter it d i n ep)(jq:s.heap.get? d=some od)(kQ:od.data=.dict es ep)
 (hsz:es.size=n) (c6:n<=i) (hQ:∀h',Heap.ExtBut it s.heap h'->Q none {s with heap:=h'}):wpAny (model prog w) A (pyNext (.ref it)) Q E s:=by
 obtain⟨o,ho,hc,hd⟩:=id hit;unfold pyNext;refine wpAny_bind (wpAny_attempt (wpAny_callSpecial?_slot (name:=Str.ofString "__next__") hit.typeIs F.slot_dict_keyiterator_next
  (wpAny_call_entry F.slot_dict_keyiterator_next hit.typeIs F.entry_dict_keyiterator_next ?_ (F.args_dict_keyiterator_next_1 _))))
 refine wpAny_bind (wpAny_pure ?_);refine wpAny_bind ?_;refine wpAny_bind ?_
 first|refine wpAny_bind (wpAny_typeNameOfWhole_keyiter hit.typeIs (wpAny_pure ?_)) | refine wpAny_bind (wpAny_typeNameOf_keyiter hit.typeIs (wpAny_pure ?_))
 refine wpAny_bind (wpAny_fieldsOf ho hd ?_);have zD:Builtin.Dict_items.ownsTuple "dict_keyiterator"=false:=by decide
 simp only[zD,gi,dS];show wpAny _ _ (if (Value.ref d==Value.none)=true then _ else _) _ _ s;rw[if_neg (show ¬((Value.ref d==Value.none)=true) from dj)];refine wpAny_bind (wpAny_pure ?_);refine wpAny_bind (wpAny_dictEntries jq kQ ?_);rw[if_neg (by rw[hsz];simp)];refine wpAny_bind (wpAny_pure ?_);refine wpAny_bind (wpAny_dictEpoch jq kQ ?_);rw[if_neg (by simp)];refine wpAny_pure ?_;have OI:es.size<=i:=by rw[hsz];exact c6
 simp only[show ¬((i:Int)<0) from by omega,dS,ja,Array.getElem?_eq_none OI];refine wpAny_bind ?_
 first|refine wpAny_bind (wpAny_typeNameOfWhole_keyiter hit.typeIs (wpAny_pure ?_)) | refine wpAny_bind (wpAny_typeNameOf_keyiter hit.typeIs (wpAny_pure ?_))
 show wpAny _ _ (setField (.ref it) 0 .none >>= _) _ _ s;refine wpAny_bind (wpAny_setField ho hd (by simp) ?_);show wpAny _ _ (newExc (.type "StopIteration") [] >>= _) _ _ _;refine wpAny_bind ?_;simp only[newExc,newTuple];refine wpAny_bind (wpAny_newObj_type ?_ (by size_fits));refine wpAny_bind (m:=firstArgMember _ _) (wpAny_of_eq (a:=Value.none) (by first|rfl | (simp only[firstArgMember];rfl)) ?_);refine wpAny_newObj_type ?_ (by size_fits);simp only[raiseNew];refine wpAny_bind (wpAny_handled ?_);rw[show A.in1.handled=none from hh];refine wpAny_bind (wpAny_pure (wpAny_throw ?_));refine wpAny_bind (wpAny_isInstance (T:="StopIteration") (b:=true) ⟨_,Heap.get?_push_size _ rfl,rfl⟩ isSubtype_stop ?_);exact wpAny_pure (hQ _ (((Heap.SameBut.update ..).extBut.push _).push _))
end
theorem OJ{κ:Type}{kvs:List (κ×V)}{vs:List (κ×Value)}(h:KV kvs vs):∀{i:Nat} {k:κ} {v:V},kvs[i]?=some (k,v)->∃u,vs[i]?=some (k,u)/\RelV v u:=by
 unfold KV at h;induction h with
 |nil=>intro i k v e;simp at e
 | @cons a b l₁ l₂ r t ih=>
  intro i k v e;cases i with
  |zero=>simp only[Lz,Option.some.injEq] at e;subst e;refine⟨b.2,?_,r.2⟩;simp only[Lz];exact eW some (Prod.ext r.1.symm rfl)
  |succ j=>simp only[Zr] at e ⊢;exact ih e
theorem OK{α β:Type}{G:α->β->Prop}{l₁:List α}{l₂:List β}(h:Paired G l₁ l₂):∀{i:Nat} {a:α},l₁[i]?=some a->∃b,l₂[i]?=some b/\G a b:=by
 induction h with
 |nil=>intro i a e;simp at e
 | @cons a b l₁ l₂ r t ih=>
  intro i a' e;cases i with
  |zero=>simp only[Lz,Option.some.injEq] at e;subst e;exact⟨b,rfl,r⟩
  |succ j=>simp only[Zr] at e ⊢;exact ih e
theorem OL{k:Key}{u:Value}(h:lR k u=true):RelV (kV k) u:=by
 rcases jM h with ⟨i,t,rfl,rfl⟩ | ⟨x,t,rfl,rfl⟩
 ·exact⟨t,rfl⟩
 ·exact⟨t,rfl⟩
section
variable {X:Cx}{pins:List (Addr×Obj)}{σ:St}{H:Hp}{s:Shared}{d:Addr}{o:Obj}
theorem Inv.zE{kvs:List (Key×V)}(I:Inv X pins σ H s)(h:H d=some (.bz o (.dK kvs))) :
 (d==sysModules)=false/\s.heap.get? d=some o/\o.ExactDict/\∃(es:Array DictEntry) (ep:Nat) (vs:List (Key×Value)),o.data=.dict es ep/\es.size=kvs.length/\KV kvs vs/\s.heap.DictAt (eA X.prog X.w) d vs ep:=by
 obtain⟨hd,z,hs,vs,kv,o',es,ep,ho,hx,dm,r⟩:=I.ao d _ h;rw[hd] at ho;cases ho;refine⟨hs,hd,hx,es,ep,vs,dm,?_,kv,o,es,hd,hx,dm,r⟩;have l1:=r.2.1.length;have l2:kvs.length=vs.length:=Paired.length kv;rw[CV] at l1;omega
theorem Inv.vL{kvs:List (List Key×V)}(I:Inv X pins σ H s)(h:H d=some (.bz o (.dT kvs))) :
 (d==sysModules)=false/\s.heap.get? d=some o/\o.ExactDict/\∃(es:Array DictEntry) (ep:Nat),o.data=.dict es ep/\es.size=kvs.length/\
  ∀(i:Nat) (k:List Key) (v:V),kvs[i]?=some (k,v)->∃(en:DictEntry) (q:Addr),es[i]?=some en/\en.key=.ref q/\H q=some (.tup (k.map kV)):=by
 obtain⟨hd,z,hs,xs,pr,o',es,ep,ho,hx,dm,he,_⟩:=I.ao d _ h;rw[hd] at ho;cases ho;refine⟨hs,hd,hx,es,ep,dm,?_,λi k v e=>?_⟩
 ·have l1:es.size=xs.length:=size_of_entries he;have l2:kvs.length=xs.length:=Paired.length pr;omega
 ·obtain⟨b,hb,e1,e2,_⟩:=OK pr e;have q:=entry_at he i;rw[hb] at q;exact⟨_,b.2.1,q,rfl,e2⟩
end
noncomputable def ES(d:Addr)(o:Obj)(kvs:List (Key×V)):It:=
 ⟨λi H=>H d=some (.bz o (.dK kvs))/\i<kvs.length,λi H x H'=>H'=H/\∃k v,kvs[i]?=some (k,v)/\x=kV k,λi H=>H d=some (.bz o (.dK kvs))/\kvs.length<=i⟩
noncomputable def kR(d:Addr)(o:Obj)(kvs:List (List Key×V)):It:=
 ⟨λi H=>H d=some (.bz o (.dT kvs))/\i<kvs.length,λi H x H'=>H'=H/\∃(k:List Key) (v:V) (q:Addr),kvs[i]?=some (k,v)/\x=.ref q/\H q=some (.tup (k.map kV)),λi H=>H d=some (.bz o (.dT kvs))/\kvs.length<=i⟩
theorem vM{o:Obj}{es jS:Array DictEntry}{ep jT:Nat}(h:o.data=.dict es ep)(h':o.data=.dict jS jT):jS=es/\jT=ep:=by rw[h] at h';cases h';exact⟨rfl,rfl⟩
section
variable {P:Program}{w:World}{K:PySem.W.Frag}{tg:Expr}{d:Addr}{o:Obj}{es:Array DictEntry}{ep:Nat}
theorem OM{kvs:List (Key×V)}(it:Addr)(jq:o.data=.dict es ep):Turn P w K tg (ES d o kvs) [it] it (λi h=>h.IsKeyIter it d i kvs.length ep) where
 mem:=by simp
 obj:=λi h st b hb=>by
  have e:b=it:=by simpa using hb
  subst e;obtain⟨oi,e,c,dd⟩:=st;exact⟨oi,e,λv z=>by rw[dd] at z;cases z⟩
 keep:=λi h h' st k=>st.at λoi e=>k it (by simp) oi e
 item:=by intro X hP hw hK hc i pins s σ H E I hf st hg;subst hP hw hK;obtain⟨hd,hi⟩:=hg;obtain⟨f0,f1,f2,f3,f4,f5⟩:=hf it (by simp);obtain⟨hs,iI,hx,jS,jT,vs,dm,hsz,kv,hm⟩:=I.zE hd;obtain⟨rfl,rfl⟩:=vM jq dm;obtain⟨⟨k,v⟩,nQ⟩:∃p,kvs[i]?=some p:=⟨kvs[i],fm hi⟩;obtain⟨u,hu,ru⟩:=OJ kv nQ;have hl:kvs.length=vs.length:=Paired.length kv;rw[hl] at st;refine wpAny_pyNext_dict_item st hm hu λkey h' gH fe sb=>?_;have I1:Inv X pins σ H {s with heap:=h'}:=I.turned (t':=s.toks) (λb ob hb e=>(sb.2 b hb).trans e) f0 f1 f3 f4 f5;obtain⟨oi,e,c,dd⟩:=id fe;refine⟨key,rfl,pF (s:={s with heap:=h'}) e c dd (by decide) ⟨kV k,H,I1,OL (show lR k key=true from gH),⟨rfl,k,v,nQ,rfl⟩,?_,λb hb=>(hf b hb).1⟩⟩;show h'.IsKeyIter it d (i+1) kvs.length _;rw[hl];exact fe
 done:=by intro X hP hw hK hc i pins s σ H E I hf st hg;subst hP hw hK;obtain⟨hd,hi⟩:=hg;obtain⟨f0,f1,f2,f3,f4,f5⟩:=hf it (by simp);obtain⟨hs,iI,hx,jS,jT,vs,dm,hsz,kv,hm⟩:=I.zE hd;obtain⟨rfl,rfl⟩:=vM jq dm;exact ER (I.ok.hd hc) st iI dm hsz hi λh' eb=>⟨rfl,I.turned (t':=s.toks) (λb ob hb e=>eb b ob hb e) f0 f1 f3 f4 f5⟩
 self:=λA i s Q E st h=>wpAny_pyIter_keyiter st h
theorem ET{kvs:List (List Key×V)}(it:Addr)(jq:o.data=.dict es ep):Turn P w K tg (kR d o kvs) [it] it (λi h=>h.IsKeyIter it d i kvs.length ep) where
 mem:=by simp
 obj:=λi h st b hb=>by
  have e:b=it:=by simpa using hb
  subst e;obtain⟨oi,e,c,dd⟩:=st;exact⟨oi,e,λv z=>by rw[dd] at z;cases z⟩
 keep:=λi h h' st k=>st.at λoi e=>k it (by simp) oi e
 item:=by intro X hP hw hK hc i pins s σ H E I hf st hg;subst hP hw hK;obtain⟨hd,hi⟩:=hg;obtain⟨f0,f1,f2,f3,f4,f5⟩:=hf it (by simp);obtain⟨hs,iI,hx,jS,jT,dm,hsz,ent⟩:=I.vL hd;obtain⟨rfl,rfl⟩:=vM jq dm;obtain⟨⟨k,v⟩,nQ⟩:∃p,kvs[i]?=some p:=⟨kvs[i],fm hi⟩;obtain⟨en,q,nP,gH,hq⟩:=ent i k v nQ;refine OH st iI dm hsz nP λh' fe sb=>?_;have I1:Inv X pins σ H {s with heap:=h'}:=I.turned (t':=s.toks) (λb ob hb e=>(sb.2 b hb).trans e) f0 f1 f3 f4 f5;obtain⟨oi,e,c,dd⟩:=id fe;exact⟨en.key,rfl,pF (s:={s with heap:=h'}) e c dd (by decide) ⟨.ref q,H,I1,gH,⟨rfl,k,v,q,nQ,rfl,hq⟩,fe,λb hb=>(hf b hb).1⟩⟩
 done:=by intro X hP hw hK hc i pins s σ H E I hf st hg;subst hP hw hK;obtain⟨hd,hi⟩:=hg;obtain⟨f0,f1,f2,f3,f4,f5⟩:=hf it (by simp);obtain⟨hs,iI,hx,jS,jT,dm,hsz,ent⟩:=I.vL hd;obtain⟨rfl,rfl⟩:=vM jq dm;exact ER (I.ok.hd hc) st iI dm hsz hi λh' eb=>⟨rfl,I.turned (t':=s.toks) (λb ob hb e=>eb b ob hb e) f0 f1 f3 f4 f5⟩
 self:=λA i s Q E st h=>by refine wpAny_pyIter_slot st.typeIs F.slot_dict_keyiterator_iter (wpAny_call_entry F.slot_dict_keyiterator_iter st.typeIs F.entry_dict_keyiterator_iter ?_ (F.args_dict_keyiterator_iter_1 _));show wpAny _ _ (ret (.ref it)) _ _ s;exact wpAny_pure ⟨_,rfl,"dict_keyiterator",_,st.typeIs,F.slot_dict_keyiterator_next.lookup,h⟩
end
noncomputable def ON(td:TE):TI:=λσ H R=>td σ H λx H1=>∃d o,x=.ref d/\((∃kvs,H1 d=some (.bz o (.dK kvs))/\R (ES d o kvs) H1)\/∃kvs,H1 d=some (.bz o (.dT kvs))/\R (kR d o kvs) H1)
section
variable {X:Cx}{tg e:Expr}{td:TE}{apos bN:Pos}
theorem OO(he:PE X e td):PI X tg e (ON td):=by
 intro pins s σ H R I h;refine aI (he pins s σ H _ I h) λu s1 zq=>?_;obtain⟨x,H1,I1,rx,d,o,ex,q⟩:=zq;subst ex;obtain rfl:u=Value.ref d:=rx;rcases q with ⟨kvs,hd,q⟩ | ⟨kvs,hd,q⟩
 ·obtain⟨hs,iI,hx,es,ep,vs,dm,hsz,kv,hm⟩:=I1.zE hd;refine zC hs iI hx dm (vK (tk:=s1.toks) I1 _ (OM _ dm) ⟨_,Heap.get?_push_size _ rfl,rfl,?_⟩ q);rw[hsz]<;>rfl
 ·obtain⟨hs,iI,hx,es,ep,dm,hsz,ent⟩:=I1.vL hd;refine zC hs iI hx dm (vK (tk:=s1.toks) I1 _ (ET _ dm) ⟨_,Heap.get?_push_size _ rfl,rfl,?_⟩ q);rw[hsz]<;>rfl
end
end L2
section
namespace OP
open PySem PyProof.Rows
end OP
end
section
namespace TL
open PySem PySem.Builtin PySem.Builtin.Str PySem.StrLaws
noncomputable abbrev tl(x:Str):List Nat:=x.cps.toList
theorem OQ(x:Str):x.length=(tl x).length:=by simp[tl,Str.length]
noncomputable def pre(S l:List Nat):Bool:=l.take S.length==S
noncomputable def par(S:List Nat):List Nat->List Nat->Option (List Nat×List Nat)
 |_,[]=>none
 |acc,c::r=>if pre S (c::r)=true then some (acc,(c::r).drop S.length) else par S (acc++[c]) r
theorem zF{y:Str}(hy:tl y≠[]):1<=y.length:=by have e2:0<(tl y).length:=List.length_pos_iff.mpr hy;rw[OQ y];exact e2
end TL
end
namespace L2
open PySem PySem.Spec PyProof.Rows
section
variable {X:Cx}{pins:List (Addr×Obj)}{σ:St}{H:Hp}{s:Shared}{Q:VK}
end
section
variable {X:Cx}
end
section
variable {X:Cx}{o e:Expr}{to te:TE}
end
section
variable {X:Cx}
end
end L2
namespace OR
open PySem PySem.W PySem.Calls PyProof.Rows
section
variable {prog:Program}{w:World}{A:Around}{E:Value->Shared->Prop}{s:Shared}{K:Frag}
end
end OR
namespace L2
open PySem PySem.Spec PyProof.Rows
noncomputable def inClass(s:Stmt)(j:Nat):Stmt:=match s with
 |.ClassDef _ _ _ body _ _ _ _ _ _ _=>body.getD j (.Pass ⟨0,0,0,0⟩)
 |_=>.Pass ⟨0,0,0,0⟩
noncomputable def nR(s:Stmt):Arguments:=match s with
 |.FunctionDef _ a _ _ _ _ _ _ _ _=>a
 |_=>{posonlyargs:=[],args:=[],vararg:=none,kwonlyargs:=[],kw_defaults:=[],kwarg:=none,defaults:=[]}
noncomputable def jr(s:Stmt):List Stmt:=match s with
 |.FunctionDef _ _ b _ _ _ _ _ _ _=>b
 |_=>[]
noncomputable def dX(s:Stmt):Scope:=match s with
 |.FunctionDef _ _ _ _ _ _ sc _ _ _=>sc
 |_=>{kind:=.function,names:=[],isGenerator:=false,isCoroutine:=false}
noncomputable abbrev aq:eP:=λ_ _ _ _ _ _=>False
noncomputable abbrev E0:XK:=λ_ _ _=>False
theorem aE{X:Cx}:Passes aq X E0:=λ_ _ _ _ _ _ _ h=>h.elim
structure j5(K:PySem.W.Frag)(x qual:Str)(st:Stmt)(f:Addr)(fd:FuncData):Prop where
 ex:∃(oc:Value) (od:Option Addr) (kV doc pm:Value) (an:Option Addr) (aD ct:Value) (fA:Array (Option Value)),
  fd=PySem.W.fnOf x qual (nR st) (jr st) (dX st) .none kV doc pm an aD ct/\K.lookup f=some ⟨oc,od,.func fd,fA⟩/\PySem.W.codeIn K aD qual=true
 kp:PySem.W.keepIn K (.ref f)=true
section
variable {P:Program}{w:World}{K:PySem.W.Frag}{mg:Str->Option Value}{base:Heap}
theorem j5.ok{x qual:Str}{st:Stmt}{f:Addr}{fd:FuncData}{N ps:List Str}{k:Nat}{sp:Sp}(F:j5 K x qual st f fd)(S:md N ps (dX st))(len:∀vs H Q E,sp vs H Q E->vs.length=ps.length)
 (kL:∀(aD:Value) (A:Around) (outer:List Env) (s:Shared) (H:Hp) (vs:List V) (Q:VK) (E:XK),cp k (A.deeper (envOfC qual (dX st) s.heap.objs.size f aD))->sp vs H Q E->
  ∃t,eZ (j3 aq P w K mg base N qual (dX st) f aD A outer s H E).jX (jr st) t/\t {nx:=λ_ H'=>Q .ak H',rt:=Q} (start N vs) H):dZ P w K mg base aq (k+1) f fd ps sp:=by
 obtain⟨oc,od,kV,doc,pm,an,aD,ct,fA,rfl,lk,je⟩:=F.ex;refine DZ lk je S len λA outer s H vs Q E hr fS=>?_;obtain⟨t,h,q⟩:=kL aD A outer s H vs Q E hr fS;exact⟨t,h.jX,q⟩
theorem j5.binds{x qual:Str}{st:Stmt}{f:Addr}{fd:FuncData}{ps:List Str}(F:j5 K x qual st f fd)
 (h:∀(kV doc pm:Value) (an:Option Addr) (aD ct:Value) (us:List Value),us.length=ps.length->bindArgs (PySem.W.fnOf x qual (nR st) (jr st) (dX st) .none kV doc pm an aD ct) ⟨us,[]⟩=pure (ps.zip us)):Binds K fd ps []:=by
 obtain⟨oc,od,kV,doc,pm,an,aD,ct,fA,rfl,lk,je⟩:=F.ex;exact .all (h kV doc pm an aD ct)
theorem zG{x qual:Str}{st:Stmt}{f:Addr}{oc:Value}{od an:Option Addr}{fA:Array (Option Value)}{kV doc pm aD ct:Value}(l:K.lookup f=some ⟨oc,od,.func (PySem.W.fnOf x qual (nR st) (jr st) (dX st) .none kV doc pm an aD ct),fA⟩)
 (c:PySem.W.codeIn K aD qual=true) (k:PySem.W.keepIn K (.ref f)=true):j5 K x qual st f (PySem.W.fnOf x qual (nR st) (jr st) (dX st) .none kV doc pm an aD ct):=⟨⟨oc,od,kV,doc,pm,an,aD,ct,fA,rfl,l,c⟩,k⟩
end
theorem cS{A:Around}{k:Nat}(hr:cp k A):A.units+1<cLine:=dC (Nat.add_le_add_left (by decide:1<=64) _) hr.units
section
variable {X:Cx}
theorem pv(i:Nat){x:Str}{pos:Pos}(hN:X.N[i]?=some x:=by rfl)(hv:pB X.env.scope x:=by first|exact Or.inl rfl | exact Or.inr (Or.inl rfl) | exact Or.inr (Or.inr rfl))(hd:(x==("__debug__":Str))=false:=by decide)
 (je:(x==("__classdict__":Str))=false:=by decide):PE X (.Name x pos) (bU i):=Mj hN hv hd je
end
theorem bJ{A B:Prop}(h:B):if false=true then A else B:=by rw[if_neg dj];exact h
theorem bF{A B:Prop}(h:A):if true=true then A else B:=by rw[if_pos rfl];exact h
theorem aT{c A B:Prop}[Decidable c](h1:c->A)(h2:¬c->B):if c then A else B:=by
 by_cases h:c
 ·rw[if_pos h];exact h1 h
 ·rw[if_neg h];exact h2 h
noncomputable def ai(H H':Hp):Prop:=∀b o,H b=some o->H' b=some o
theorem ai.refl(H:Hp):ai H H:=λ_ _ h=>h
theorem ai.trans{H H1 H2:Hp}(a:ai H H1)(b:ai H1 H2):ai H H2:=λc o h=>b c o (a c o h)
theorem ai.free{H H':Hp}(e:ai H H'){l:Addr}(h:H' l=Option.none):H l=Option.none:=by
 cases q:H l with
 |none=>rfl
 |some o=>rw[e l o q] at h;cases h
theorem ai.seq{K:PySem.W.Frag}{H H':Hp}{a:Addr}{xs:List V}(e:ai H H')(h:ax K H a xs):ax K H' a xs:=by
 rcases h with (h | ⟨o,h⟩) | h
 ·exact .inl (.inl (e _ _ h))
 ·exact .inl (.inr ⟨o,e _ _ h⟩)
 ·exact .inr h
section
variable {κ:Type}[DecidableEq κ]
theorem EU{kvs:List (κ×V)}{k:κ}(h:aV kvs k=none):¬k∈kvs.map (·.1):=by intro m;obtain⟨p,hp,e⟩:=cU.mp m;have q:(kvs.any λkv=>decide (kv.1=k))=true:=iz.mpr ⟨p,hp,bp e⟩;rw[nN,h] at q;exact absurd q (by simp)
theorem EV:∀{l:List κ} {k:κ},l.Nodup->¬k∈l->(l++[k]).Nodup
 |[],k,_,_=>by simp
 |a::r,k,h,hk=>by
  obtain⟨h1,h2⟩:=eL.mp h;show(a::(r++[k])).Nodup;refine eL.mpr ⟨λm=>?_,EV h2 λm=>hk (bL.mpr (Or.inr m))⟩;rcases gm.mp m with q | q
  ·exact h1 q
  ·exact hk (bL.mpr (Or.inl (gh.mp q).symm))
theorem OS{kvs:List (κ×V)}{k:κ}(v:V)(hn:(kvs.map (·.1)).Nodup)(h:aV kvs k=none):((putK kvs k v).map (·.1)).Nodup:=by rw[vD v h,bW];exact EV hn (EU h)
theorem EW{p:κ×V}{r:List (κ×V)}{k:κ}(e:p.1=k):d7 (p::r) k=d7 r k:=by unfold d7;rw[eK,if_neg (by simp[e])]
theorem EX{p:κ×V}{r:List (κ×V)}{k:κ}(e:¬p.1=k):d7 (p::r) k=p::d7 r k:=by unfold d7;rw[eK,if_pos (by simp[e])]
theorem EY{kvs:List (κ×V)}{k:κ}{p:κ×V}(h:p∈d7 kvs k):p∈kvs:=(gj.mp h).1
theorem zH:∀{kvs:List (κ×V)} {k:κ},(kvs.map (·.1)).Nodup->((d7 kvs k).map (·.1)).Nodup
 |[],_,_=>uK
 |p::r,k,h=>by
  have h:(p.1::r.map (·.1)).Nodup:=h;obtain⟨h1,h2⟩:=eL.mp h;by_cases e:p.1=k
  ·rw[EW e];exact zH h2
  ·rw[EX e];show(p.1::(d7 r k).map (·.1)).Nodup;refine eL.mpr ⟨λm=>h1 ?_,zH h2⟩;obtain⟨q,hq,eq⟩:=cU.mp m;exact cU.mpr ⟨q,EY hq,eq⟩
end
theorem at_of{xs:List V}{z:Int}{j:Nat}{v:V}(e:z=(j:Int))(h:xs[j]?=some v):kN xs z=some v:=by rw[e];exact vm h
theorem ai.made{H H1:Hp}{x dx C:Addr}(nx:H x=Option.none)(nd:H dx=Option.none)(k:∀b o,(upd (upd H dx (.own x)) x (.ins C dx [])) b=some o->b≠x->H1 b=some o):ai H H1:=λb o e=>
 k b o (by rw[aw (bj e nx),aw (bj e nd)];exact e) (bj e nx)
open PySem.W (WData Codec OpenSpec Well WellAll ReadsW ReadsAllW)
mutual
inductive Dw(K:PySem.W.Frag)(H:Hp):V->WData->Prop
 |ak:Dw K H .ak .none
 |bl (b:Bool):Dw K H (.bl b) (.bool b)
 |int (i:Int):Dw K H (.int i) (.int i)
 |str (x:Str):Dw K H (.str x) (.str x)
 |fq (b:Array UInt8):Dw K H (.fq b) (.bytes b.toList)
 |lst {a:Addr} {xs:List V} {ds:List WData}:ax K H a xs->iJ K H xs ds->Dw K H (.ref a) (.list ds)
 |tup {a:Addr} {xs:List V} {ds:List WData}:aQ K H a xs->iJ K H xs ds->Dw K H (.ref a) (.tuple ds)
inductive iJ(K:PySem.W.Frag)(H:Hp):List V->List WData->Prop
 |nil:iJ K H [] []
 |cons {v:V} {vs:List V} {d:WData} {ds:List WData}:Dw K H v d->iJ K H vs ds->iJ K H (v::vs) (d::ds)
end
theorem OT{K:PySem.W.Frag}{H:Hp}:∀ns:List Int,iJ K H (ns.map V.int) (ns.map WData.int)
 |[]=>.nil
 |n::r=>.cons (.int n) (OT r)
theorem OU{K:PySem.W.Frag}{H:Hp}:∀(ns:List Int) (xs:List V),iJ K H xs (ns.map WData.int)->xs=ns.map V.int
 |[],xs,h=>by cases h;rfl
 |n::r,xs,h=>by
  cases h with
  |cons h1 h2=>cases h1;rw[OU r _ h2]<;>rfl
section
variable {P:Program}{w:World}{K:PySem.W.Frag}{H:Hp}{h:Heap}{R:PySem.W.WRecords}{cl:Str->Option Addr}
theorem OV{a:Addr}{xs:List V}(ao:bT P w H h)(KX:K.In h)(q:ax K H a xs):∃(au:List Value) (o:Obj) (n:Nat),Vals xs au/\h.get? a=some o/\o.cls=.type "list"/\o.data=.seq au.toArray n:=by
 rcases q with q | ⟨o,au,n,e,hc,_,hd,_,hv⟩
 ·obtain⟨_,au,n,hv,e⟩:=(show cV P w H h a (.lst xs) from q.ok ao);exact⟨au,_,n,hv,e,rfl,rfl⟩
 ·exact⟨au.toList,o,n,hv,KX _ _ e,hc,by simp[hd]⟩
theorem OW{a:Addr}{xs:List V}(ao:bT P w H h)(KX:K.In h)(q:aQ K H a xs):∃(au:List Value) (o:Obj) (n:Nat),Vals xs au/\h.get? a=some o/\o.cls=.type "tuple"/\o.data=.seq au.toArray n:=by
 rcases q with q | ⟨o,au,n,e,hc,hd,_,hv⟩
 ·obtain⟨_,au,hv,o,e,hc,n,hd⟩:=(show cV P w H h a (.tup xs) from q.ok ao);exact⟨au,o,n,hv,e,hc,hd⟩
 ·exact⟨au.toList,o,n,hv,KX _ _ e,hc,by simp[hd]⟩
mutual
theorem Dw.reads(ao:bT P w H h)(KX:K.In h):∀(d:WData) (v:V) (u:Value),Dw K H v d->RelV v u->∃as,ReadsW R cl h u d as
 |.none,_,_,x,r=>by cases x;cases r;exact⟨_,ReadsW.none⟩
 |.bool b,_,_,x,r=>by cases x;cases r;exact⟨_,ReadsW.bool b⟩
 |.int i,_,_,x,r=>by cases x;obtain⟨t,rfl⟩:=r;exact⟨_,ReadsW.int i t⟩
 |.str s,_,_,x,r=>by cases x;obtain⟨t,rfl⟩:=r;exact⟨_,ReadsW.str s t⟩
 |.bytes b,_,_,x,r=>by cases x;obtain⟨t,rfl⟩:=r;exact⟨_,ReadsW.bytes _ t⟩
 |.list ds,_,_,x,r=>by
  cases x with
  |lst hs ha=>cases r;obtain⟨au,o,n,rv,ho,hc,hd⟩:=OV ao KX hs;obtain⟨as,hr⟩:=Dw.readsAll ao KX ds _ au ha rv;exact⟨_,ReadsW.list ho hc hd hr⟩
 |.tuple ds,_,_,x,r=>by
  cases x with
  |tup hs ha=>cases r;obtain⟨au,o,n,rv,ho,hc,hd⟩:=OW ao KX hs;obtain⟨as,hr⟩:=Dw.readsAll ao KX ds _ au ha rv;exact⟨_,ReadsW.tuple ho hc hd hr⟩
 |.float _,_,_,x,_=>by cases x
 |.dict _,_,_,x,_=>by cases x
 |.bytearray _,_,_,x,_=>by cases x
 |.set _,_,_,x,_=>by cases x
 |.frozenset _,_,_,x,_=>by cases x
 |.obj _ _,_,_,x,_=>by cases x
theorem Dw.readsAll(ao:bT P w H h)(KX:K.In h):∀(ds:List WData) (vs:List V) (us:List Value),iJ K H vs ds->Vals vs us->∃as,ReadsAllW R cl h us ds as
 |[],_,_,x,r=>by cases x;cases r;exact⟨_,ReadsAllW.nil⟩
 |d::ds,_,_,x,r=>by
  cases x with
  |cons h1 h2=>
   cases r with
   |cons r1 r2=>obtain⟨as,q1⟩:=Dw.reads ao KX d _ _ h1 r1;obtain⟨bs,q2⟩:=Dw.readsAll ao KX ds _ _ h2 r2;exact⟨_,ReadsAllW.cons q1 q2⟩
end
end
mutual
noncomputable def gM:WData->Bool
 |.none=>true
 |.bool _=>true
 |.int _=>true
 |.str _=>true
 |.bytes _=>true
 |.list xs=>iK xs
 |.tuple xs=>iK xs
 |_=>false
noncomputable def iK:List WData->Bool
 |[]=>true
 |x::r=>gM x&&iK r
end
theorem EZ{α:Type}{f:α->WData}(h:∀a,gM (f a)=true):∀l:List α,iK (l.map f)=true
 |[]=>rfl
 |x::r=>by show(gM (f x)&&iK (r.map f))=true;rw[h x,EZ h r]<;>rfl
theorem mr:∀(c:Codec) (a:c.denote),gM (c.enc a)=true
 |.unit,_=>rfl
 |.bool,_=>rfl
 |.int _ _,_=>rfl
 |.nat _ _,_=>rfl
 |.u8,_=>rfl
 |.bytes _ _,_=>rfl
 |.text _ _ _ _,_=>rfl
 |.list _ _ c,a=>EZ (λx=>mr c x) a
 |.pair c d,a=>by show(gM (c.enc a.1)&&(gM (d.enc a.2)&&true))=true;rw[mr c a.1,mr d a.2]<;>rfl
 |.triple c d e,a=>by show(gM (c.enc a.1)&&(gM (d.enc a.2.1)&&(gM (e.enc a.2.2)&&true)))=true;rw[mr c a.1,mr d a.2.1,mr e a.2.2]<;>rfl
 |.option c,none=>rfl
 |.option c,some x=>mr c x
theorem E1:∀(cs:List Codec) (a:Codec.denoteAll cs),iK (Codec.encAll cs a)=true
 |[],_=>rfl
 |c::cs,a=>by show(gM (c.enc a.1)&&iK (Codec.encAll cs a.2))=true;rw[mr c a.1,E1 cs a.2]<;>rfl
theorem zI:∀{xs:List WData} {d:WData},d∈xs->d.weight<=WData.weightAll xs
 |[],d,h=>absurd h (by simp)
 |x::r,d,h=>by
  show d.weight<=x.weight+1+WData.weightAll r;rcases bL.mp h with e | m
  ·rw[e];omega
  ·have z:=zI m;omega
noncomputable def toV:Value->V
 |.none=>.ak
 |.bool b=>.bl b
 |.int i _=>.int i
 |.str x _=>.str x
 |.bytes b _=>.fq b
 |.ref a=>.ref a
 |_=>.ak
noncomputable def ib(A:List Addr):Value->Prop
 |.none=>True
 |.bool _=>True
 |.int _ _=>True
 |.str _ _=>True
 |.bytes _ _=>True
 |.ref a=>a∈A
 |_=>False
theorem ib.mono{A B:List Addr}(h:∀a∈A,a∈B):∀{u:Value},ib A u->ib B u:=λ{u} x=>by
 cases u with
 |ref a=>exact h a x
 |none=>trivial
 |bool b=>trivial
 |int i t=>trivial
 |str s t=>trivial
 |bytes b t=>trivial
 |_=>exact False.elim x
theorem OX{A:List Addr}{u:Value}(x:ib A u):RelV (toV u) u:=by
 cases u with
 |ref a=>rfl
 |none=>rfl
 |bool b=>rfl
 |int i t=>exact⟨t,rfl⟩
 |str s t=>exact⟨t,rfl⟩
 |bytes b t=>exact⟨t,rfl⟩
 |_=>exact False.elim x
theorem pV{A:List Addr}:∀{vs:List Value},(∀u∈vs,ib A u)->Vals (vs.map toV) vs
 |[],_=>.nil
 |u::r,h=>.cons (OX (h u (bP ..))) (pV λx hx=>h x (bO _ hx))
noncomputable def iL(h:Heap)(A:List Addr)(a:Addr):Prop:=∃vs:List Value,vs.length<=sizeLine/\(∀u∈vs,ib A u)/\
 (h.get? a=some {cls:=.type "list",data:=.seq vs.toArray}\/h.get? a=some {cls:=.type "tuple",data:=.seq vs.toArray})
theorem iL.mono{h:Heap}{A B:List Addr}{a:Addr}(k:∀a∈A,a∈B)(x:iL h A a):iL h B a:=by obtain⟨vs,h1,h2,h3⟩:=x;exact⟨vs,h1,λu hu=>(h2 u hu).mono k,h3⟩
theorem vN{P:Params}{h:Heap}:∀{vs:List Value} {ds:List WData},WellAll P h vs ds->vs.length=ds.length
 |_,_,.nil=>rfl
 |_,_,.cons _ b=>by show _+1=_+1;rw[vN b]
theorem E2{P:Params}{h:Heap}{v:Value}{ds:List WData}(x:Well P h v (.list ds)):∃(a:Addr) (vs:List Value),v=.ref a/\h.get? a=some {cls:=.type "list",data:=.seq vs.toArray}/\WellAll P h vs ds:=by
 cases x with
 |list ho bR=>exact⟨_,_,rfl,ho,bR⟩
theorem E3{P:Params}{h:Heap}{v:Value}{ds:List WData}(x:Well P h v (.tuple ds)):∃(a:Addr) (vs:List Value),v=.ref a/\h.get? a=some {cls:=.type "tuple",data:=.seq vs.toArray}/\WellAll P h vs ds:=by
 cases x with
 |tuple ho bR=>exact⟨_,_,rfl,ho,bR⟩
theorem E4{P:Params}{h:Heap}{us:List Value}{d:WData}{ds:List WData}(x:WellAll P h us (d::ds)):∃(v:Value) (vs:List Value),us=v::vs/\Well P h v d/\WellAll P h vs ds:=by
 cases x with
 |cons a b=>exact⟨_,_,rfl,a,b⟩
theorem E5{n:Nat}(h:n<=1048576):n<=sizeLine:=aS h (by decide)
section
variable {P:Params}{h:Heap}
mutual
theorem OY:∀(d:WData) (v:Value),Well P h v d->gM d=true->d.weight<=1048576->∃A:List Addr,ib A v/\∀a∈A,iL h A a
 |.none,_,x,_,_=>by cases x;exact⟨[],trivial,λa m=>absurd m (by simp)⟩
 |.bool b,_,x,_,_=>by cases x;exact⟨[],trivial,λa m=>absurd m (by simp)⟩
 |.int i,_,x,_,_=>by cases x;exact⟨[],trivial,λa m=>absurd m (by simp)⟩
 |.str s,_,x,_,_=>by cases x;exact⟨[],trivial,λa m=>absurd m (by simp)⟩
 |.bytes b,_,x,_,_=>by cases x;exact⟨[],trivial,λa m=>absurd m (by simp)⟩
 |.list ds,_,x,p,z=>by
  obtain⟨a,vs,rfl,ho,bR⟩:=E2 x;have z2:WData.weightAll ds<=1048576:=z;obtain⟨A,h1,h2⟩:=vO ds _ bR p λd hd=>aS (zI hd) z2;have k:∀b∈A,b∈a::A:=λb hb=>bO _ hb;refine⟨a::A,bP ..,λb hb=>?_⟩;rcases bL.mp hb with e | m
  ·rw[e];exact⟨vs,E5 (by rw[vN bR];exact aS (Zh ds) z2),λu hu=>(h1 u hu).mono k,.inl ho⟩
  ·exact(h2 b m).mono k
 |.tuple ds,_,x,p,z=>by
  obtain⟨a,vs,rfl,ho,bR⟩:=E3 x;have z2:WData.weightAll ds<=1048576:=z;obtain⟨A,h1,h2⟩:=vO ds _ bR p λd hd=>aS (zI hd) z2;have k:∀b∈A,b∈a::A:=λb hb=>bO _ hb;refine⟨a::A,bP ..,λb hb=>?_⟩;rcases bL.mp hb with e | m
  ·rw[e];exact⟨vs,E5 (by rw[vN bR];exact aS (Zh ds) z2),λu hu=>(h1 u hu).mono k,.inr ho⟩
  ·exact(h2 b m).mono k
 |.float _,_,_,p,_=>Bool.noConfusion (show false=true from p)
 |.dict _,_,_,p,_=>Bool.noConfusion (show false=true from p)
 |.bytearray _,_,_,p,_=>Bool.noConfusion (show false=true from p)
 |.set _,_,_,p,_=>Bool.noConfusion (show false=true from p)
 |.frozenset _,_,_,p,_=>Bool.noConfusion (show false=true from p)
 |.obj _ _,_,_,p,_=>Bool.noConfusion (show false=true from p)
theorem vO:∀(ds:List WData) (vs:List Value),WellAll P h vs ds->iK ds=true->(∀d∈ds,d.weight<=1048576)->∃A:List Addr,(∀u∈vs,ib A u)/\∀a∈A,iL h A a
 |[],_,x,_,_=>by cases x;exact⟨[],λu m=>absurd m (by simp),λa m=>absurd m (by simp)⟩
 |d::ds,_,x,p,z=>by
  obtain⟨v,vs,rfl,x1,x2⟩:=E4 x;have q:gM d=true/\iK ds=true:=Bool.and_eq_true_iff.mp p;obtain⟨A,a1,a2⟩:=OY d v x1 q.1 (z d (bP ..));obtain⟨B,b1,b2⟩:=vO ds vs x2 q.2 λe he=>z e (bO _ he);have kA:∀b∈A,b∈A++B:=λb hb=>gm.mpr (.inl hb);have kB:∀b∈B,b∈A++B:=λb hb=>gm.mpr (.inr hb);refine⟨A++B,λu hu=>?_,λb hb=>?_⟩
  ·rcases bL.mp hu with e | m
   ·rw[e];exact a1.mono kA
   ·exact(b1 u m).mono kB
  ·rcases gm.mp hb with m | m
   ·exact(a2 b m).mono kA
   ·exact(b2 b m).mono kB
end
end
noncomputable def vP(o:Obj):Option HO:=match o.data with
 |.seq vs _=>if (o.cls==Value.type "list")=true then some (.bz o (.lst (vs.toList.map toV))) else some (.bz o (.tup (vs.toList.map toV)))
 |_=>none
noncomputable def eR(K:PySem.W.Frag)(h:Heap)(A:List Addr):Hp:=λb=>if b∈A then (if (K.lookup b).isNone=true then (h.get? b).bind vP else none) else none
noncomputable def rZ(H:Hp):Prop:=∀b,H b=none\/∃o u,H b=some (.bz o u)
theorem E6(vs:List Value):vP {cls:=.type "list",data:=.seq vs.toArray}=some (.bz {cls:=.type "list",data:=.seq vs.toArray} (.lst (vs.map toV))):=by show(if (Value.type "list"==Value.type "list")=true then some (HO.bz {cls:=.type "list",data:=.seq vs.toArray} (.lst (vs.toArray.toList.map toV))) else some (HO.bz {cls:=.type "list",data:=.seq vs.toArray} (.tup (vs.toArray.toList.map toV))))=_;rw[if_pos (kC _)]
theorem E7(vs:List Value):vP {cls:=.type "tuple",data:=.seq vs.toArray}=some (.bz {cls:=.type "tuple",data:=.seq vs.toArray} (.tup (vs.map toV))):=by show(if (Value.type "tuple"==Value.type "list")=true then some (HO.bz {cls:=.type "tuple",data:=.seq vs.toArray} (.lst (vs.toArray.toList.map toV))) else some (HO.bz {cls:=.type "tuple",data:=.seq vs.toArray} (.tup (vs.toArray.toList.map toV))))=_;rw[if_neg (by decide)]
section
variable {P:Program}{w:World}{K:PySem.W.Frag}{h:Heap}{A:List Addr}
theorem vQ{b:Addr}{o:Obj}(hb:b∈A)(hk:K.lookup b=none)(e:h.get? b=some o):eR K h A b=vP o:=by unfold eR;rw[if_pos hb,hk,if_pos (show(none:Option Obj).isNone=true from rfl),e]<;>rfl
theorem OZ{b:Addr}{u:HO}(q:eR K h A b=some u):b∈A/\K.lookup b=none:=by
 unfold eR at q;by_cases hb:b∈A
 ·rw[if_pos hb] at q;cases hk:K.lookup b with
  |none=>exact⟨hb,rfl⟩
  |some o=>rw[hk,if_neg (by simp)] at q;cases q
 ·rw[if_neg hb] at q;cases q
theorem vR(ar:∀a∈A,iL h A a){b:Addr}{u:HO}(q:eR K h A b=some u):K.lookup b=none/\∃vs:List Value,vs.length<=sizeLine/\(∀u∈vs,ib A u)/\
 ((h.get? b=some {cls:=.type "list",data:=.seq vs.toArray}/\u=.bz {cls:=.type "list",data:=.seq vs.toArray} (.lst (vs.map toV)))\/
  (h.get? b=some {cls:=.type "tuple",data:=.seq vs.toArray}/\u=.bz {cls:=.type "tuple",data:=.seq vs.toArray} (.tup (vs.map toV)))):=by
 obtain⟨hb,hk⟩:=OZ q;obtain⟨vs,h1,h2,h3⟩:=ar b hb;refine⟨hk,vs,h1,h2,?_⟩;rcases h3 with e | e
 ·rw[vQ hb hk e,E6] at q;exact .inl ⟨e,(a4 q).symm⟩
 ·rw[vQ hb hk e,E7] at q;exact .inr ⟨e,(a4 q).symm⟩
theorem O0(ar:∀a∈A,iL h A a):rZ (eR K h A):=λb=>by
 cases q:eR K h A b with
 |none=>exact .inl rfl
 |some u=>
  obtain⟨_,vs,_,_,⟨_,e⟩ | ⟨_,e⟩⟩:=vR ar q
  ·exact .inr ⟨_,_,by rw[e]⟩
  ·exact .inr ⟨_,_,by rw[e]⟩
theorem O1(ar:∀a∈A,iL h A a):bT P w (eR K h A) h:=λb u q=>by
 obtain⟨_,vs,h1,h2,⟨e,rfl⟩ | ⟨e,rfl⟩⟩:=vR ar q
 ·exact⟨e,by rw[aF];exact h1,vs,_,pV h2,e⟩
 ·exact⟨e,by rw[aF];exact h1,vs,pV h2,_,e,rfl,_,rfl⟩
theorem vS{c c':Value}{vs us:List Value}(e:(some {cls:=c,data:=.seq vs.toArray}:Option Obj)=some {cls:=c',data:=.seq us.toArray}):c=c'/\vs=us:=by have e1:=a4 e;have e2:c=c':=eW Obj.cls e1;have e3:Data.seq vs.toArray=Data.seq us.toArray:=eW Obj.data e1;injection e3 with e4;refine⟨e2,?_⟩;have e5:=eW Array.toList e4;simpa using e5
theorem O2(KX:K.In h)(ar:∀a∈A,iL h A a){a:Addr}{vs:List Value}(ha:a∈A)(e:h.get? a=some {cls:=.type "list",data:=.seq vs.toArray}):(∀u∈vs,ib A u)/\ax K (eR K h A) a (vs.map toV):=by
 obtain⟨us,h1,h2,h3⟩:=ar a ha;have hu:us=vs:=by
  rcases h3 with q | q
  ·rw[e] at q;exact(vS q).2.symm
  ·rw[e] at q;exact absurd (Value.type.inj (vS q).1) (by decide)
 subst hu;refine⟨h2,?_⟩;cases hk:K.lookup a with
 |none=>exact .inl (.inr ⟨_,by rw[vQ ha hk e,E6]⟩)
 |some o=>have e2:=KX a o hk;rw[e] at e2;obtain rfl:=a4 e2;exact .inr ⟨_,us.toArray,_,hk,rfl,rfl,rfl,by rw[cI];exact h1,by simpa using pV h2⟩
theorem O3(KX:K.In h)(ar:∀a∈A,iL h A a){a:Addr}{vs:List Value}(ha:a∈A)(e:h.get? a=some {cls:=.type "tuple",data:=.seq vs.toArray}):(∀u∈vs,ib A u)/\aQ K (eR K h A) a (vs.map toV):=by
 obtain⟨us,h1,h2,h3⟩:=ar a ha;have hu:us=vs:=by
  rcases h3 with q | q
  ·rw[e] at q;exact absurd (Value.type.inj (vS q).1) (by decide)
  ·rw[e] at q;exact(vS q).2.symm
 subst hu;refine⟨h2,?_⟩;cases hk:K.lookup a with
 |none=>exact .inl (.inr ⟨_,by rw[vQ ha hk e,E7]⟩)
 |some o=>have e2:=KX a o hk;rw[e] at e2;obtain rfl:=a4 e2;exact .inr ⟨_,us.toArray,_,hk,rfl,rfl,by rw[cI];exact h1,by simpa using pV h2⟩
mutual
theorem O4{Pm:Params}(KX:K.In h)(ar:∀a∈A,iL h A a):∀(d:WData) (v:Value),Well Pm h v d->gM d=true->ib A v->Dw K (eR K h A) (toV v) d
 |.none,_,x,_,_=>by cases x;exact .ak
 |.bool b,_,x,_,_=>by cases x;exact .bl b
 |.int i,_,x,_,_=>by cases x;exact .int i
 |.str s,_,x,_,_=>by cases x;exact .str s
 |.bytes b,_,x,_,_=>by cases x;have z:=Dw.fq (K:=K) (H:=eR K h A) b.toArray;exact z
 |.list ds,_,x,p,hu=>by obtain⟨a,vs,rfl,ho,bR⟩:=E2 x;obtain⟨h2,hs⟩:=O2 KX ar hu ho;exact .lst hs (vT KX ar ds _ bR p h2)
 |.tuple ds,_,x,p,hu=>by obtain⟨a,vs,rfl,ho,bR⟩:=E3 x;obtain⟨h2,hs⟩:=O3 KX ar hu ho;exact .tup hs (vT KX ar ds _ bR p h2)
 |.float _,_,_,p,_=>Bool.noConfusion (show false=true from p)
 |.dict _,_,_,p,_=>Bool.noConfusion (show false=true from p)
 |.bytearray _,_,_,p,_=>Bool.noConfusion (show false=true from p)
 |.set _,_,_,p,_=>Bool.noConfusion (show false=true from p)
 |.frozenset _,_,_,p,_=>Bool.noConfusion (show false=true from p)
 |.obj _ _,_,_,p,_=>Bool.noConfusion (show false=true from p)
theorem vT{Pm:Params}(KX:K.In h)(ar:∀a∈A,iL h A a):∀(ds:List WData) (vs:List Value),WellAll Pm h vs ds->iK ds=true->(∀u∈vs,ib A u)->iJ K (eR K h A) (vs.map toV) ds
 |[],_,x,_,_=>by cases x;exact .nil
 |d::ds,_,x,p,hu=>by obtain⟨v,vs,rfl,x1,x2⟩:=E4 x;have q:gM d=true/\iK ds=true:=Bool.and_eq_true_iff.mp p;exact .cons (O4 KX ar d v x1 q.1 (hu _ (bP ..))) (vT KX ar ds vs x2 q.2 λu m=>hu u (bO _ m))
end
end
theorem O5{P:Program}{w:World}{K:PySem.W.Frag}{mg mb:Str->Option Value}{CX:eP}{k:Nat}{fa:Addr}{fd:FuncData}{ps:List Str}{sp:Sp}{s₁:Shared}{vals:List Value}{ds:List WData}{R:PySem.W.WRecords}{cl:Str->Option Addr}{d0:WData}
 (KX:K.In s₁.heap) (js:s₁.heap.Ns mainGlobals mg) (hb:s₁.heap.Ns builtinsNs mb) (O6:∀x:Str,x≠"__name__"->mb x=bootBuiltins x) (O7:s₁.heap.NoLimit) (hg:s₁.gens=#[])
 (r9:WellAll w.params s₁.heap vals ds) (eQ:iK ds=true) (O8:∀d∈ds,d.weight<=1048576) (hr:cp k callerA)
 (F:∀base:Heap,K.In base->base.Ns mainGlobals mg->dZ P w K mg base CX k fa fd ps sp) (O9:∀(s:Shared) (us:List Value),us.length=ps.length->BindsTo s fd ⟨us,[]⟩ (ps.zip us)) (hlen:ds.length=ps.length)
 (fS:∀(H:Hp) (xs:List V),rZ H->iJ K H xs ds->sp xs H (λv H'=>Dw K H' v d0) λ_ _ _=>False)
 (sg:∀H e s',CX [] H s₁ (λ_ _ _=>False) e s'->False) :
 codeAny (model P w) callerA (.call (.ref fa) ⟨vals,[]⟩) (λr s'=>∃u as,r=.ok (.ret u)/\ReadsW R cl s'.heap u d0 as/\OldK s₁.heap s'.heap/\s'.os=s₁.os/\AllBare s'.gens) s₁:=by
 obtain⟨A,ho,ar⟩:=vO ds vals r9 eQ O8;have hO:rZ (eR K s₁.heap A):=O0 ar;have ao:bT P w (eR K s₁.heap A) s₁.heap:=O1 ar;have hS:=vT KX ar ds vals r9 eQ ho;have hV:=pV ho;have hK:∀b u,eR K s₁.heap A b=some u->K.lookup b=none:=λb u q=>(vR ar q).1;have pM:∀{b:Addr} {o:Obj} {es:Array DictEntry} {ep:Nat},s₁.heap.get? b=some o->o.data=.dict es ep->eR K s₁.heap A b=none:=λ{b o es ep} e d=>by
  cases q:eR K s₁.heap A b with
  |none=>rfl
  |some u=>
   obtain⟨_,vs,_,_,⟨e2,_⟩ | ⟨e2,_⟩⟩:=vR ar q
   ·rw[e2] at e;cases e;have d':Data.seq vs.toArray _=Data.dict es ep:=d;cases d'
   ·rw[e2] at e;cases e;have d':Data.seq vs.toArray _=Data.dict es ep:=d;cases d'
 generalize eR K s₁.heap A=H at hO ao hS hK pM;have E8:∀{b:Addr} {o:Obj},s₁.heap.get? b=some o->H b=none->(kF s₁.heap H).get? b=some o:=λe n=>Mc e n;have vU:∀{b:Addr} {m:Str->Option Value},s₁.heap.Ns b m->(kF s₁.heap H).Ns b m:=λ{b m} ⟨o,es,ep,e,d,r⟩=>⟨o,es,ep,E8 e (pM e d),d,r⟩;have nK:∀b o,K.lookup b=some o->H b=none:=λb o e=>by
  cases q:H b with
  |none=>rfl
  |some u=>rw[hK b u q] at e;cases e
 have E9:K.In (kF s₁.heap H):=λb o e=>E8 (KX b o e) (nK b o e);have hM:Mod K mg (kF s₁.heap H):=⟨E9,vU js,⟨mb,vU hb,O6⟩,let ⟨mc,h1,h2⟩:=O7;⟨mc,vU h1,h2⟩⟩;have e0:j2 P w K mg (kF s₁.heap H) callerA [] s₁ H:=⟨rfl,hM,λb o e=>Md e,uP (Mb _ _),trivial,λb hb=>absurd (show b∈([]:List Addr) from hb) (by simp),ao,.of_eq hg⟩;have hl:vals.length=ps.length:=by rw[vN r9];exact hlen
 refine codeAny_mono ((F _ E9 (vU js)).run callerA [] s₁ H ⟨vals,[]⟩ vals (vals.map toV) _ _ hr e0 (O9 s₁ vals hl) hV (fS H _ hO hS)) λr s' x=>?_;cases r with
 |error e=>exact(sg H e s' x).elim
 |ok fl=>
  cases fl with
  |next=>exact False.elim x
  |brk=>exact False.elim x
  |cont=>exact False.elim x
  |ret u=>
   obtain⟨v,H',os,bare,un,vV,r',q⟩:=x;have kept:∀b o,s₁.heap.get? b=some o->s'.heap.get? b=some o:=λb o e=>by
    cases q2:H b with
    |none=>exact un.keep b o e q2 (by intro z;exact absurd (show b∈([]:List Addr) from z) (by simp)) (by simp)
    |some u2=>
     rcases hO b with z | ⟨ob,u3,z⟩
     ·rw[q2] at z;cases z
     ·have z2:=un.eY b ob _ z;obtain⟨e1,_⟩:=ao b _ z;obtain⟨e2,_⟩:=vV b _ z2;rw[e] at e1;cases e1;exact e2
   have Pa:K.In s'.heap:=λb o e=>kept b o (KX b o e);obtain⟨as,sh⟩:=Dw.reads (R:=R) (cl:=cl) vV Pa d0 v u q r';exact⟨u,as,rfl,sh,OldK.of_keep kept,os,bare⟩
theorem Pb{ds:List WData}(h:WData.layableAll ds=true):∀d∈ds,d.weight<=1048576:=λd hd=>
 (PySem.W.layableW_iff.mp (eV.mp h d hd)).2.2
theorem Fb:∀(cs:List Codec) (a:Codec.denoteAll cs),(Codec.encAll cs a).length=cs.length
 |[],_=>rfl
 |c::cs,a=>by show(Codec.encAll cs a.2).length+1=cs.length+1;rw[Fb cs a.2]
theorem Pc{r:OpenSpec}{k:Nat}{q:Program}{loose:List Str}{XP:(Str->Option Value)->Heap->Prop}{YP:World->Heap->Prop}{d:DefRec}{K:Params->PySem.W.Frag}{CX:World->eP}{ps:List Str}{sp:World->Sp}
 (zJ:r.wellSaid=true) (Fc:d.params.defaults=[]) (hlen:r.args.length=ps.length) (hr:cp k callerA)
 (hY:∀(w:World) (h:Heap),YP w h->(K w.params).In h)
 (F:∀(w:World) (mg:Str->Option Value) (fa:Addr) (h:Heap),YP w h->(K w.params).In h->h.Ns mainGlobals mg->mg d.name=some (.ref fa)->
  ∃fd:FuncData,(∀(s:Shared) (us:List Value),us.length=ps.length->BindsTo s fd ⟨us,[]⟩ (ps.zip us))/\
   ∀base:Heap,(K w.params).In base->base.Ns mainGlobals mg->dZ r.prog w (K w.params) mg base (CX w) k fa fd ps (sp w))
 (fS:∀(w:World) (H:Hp) (xs:List V) (a:Codec.denoteAll r.args),rZ H->Codec.withinAll r.args a=true->Codec.app r.args r.asked a=true->iJ (K w.params) H xs (Codec.encAll r.args a)->
  sp w xs H (λv H'=>Dw (K w.params) H' v (r.ret.enc (Codec.app r.args r.f a))) λ_ _ _=>False)
 (sg:∀(w:World) (H:Hp) (s:Shared) (e:Value) (s':Shared),CX w [] H s (λ_ _ _=>False) e s'->False) :
 PySem.W.WalkOS q loose XP YP r d [] (λf vs=>PySem.call f vs):=by
 intro w cQ s₁ mg mb G Y fa o pm cd doc dV kV ho hd je hD Pd hg args vals as Pe Pf sh r9 Fd;obtain⟨a,e1,e2⟩:=PySem.W.os_pre_some Pe;obtain⟨e3,Fe⟩:=Codec.encAll_of_decAll r.args args a e1;subst e3;have KX:=hY w _ Y;obtain⟨fd,hb,hF⟩:=F w mg fa _ Y KX G.T.g Pd;refine PySem.W.enter_call (codeAny_mono (O5 (R:=[]) (cl:=classAt cQ.heap) (d0:=r.ret.enc (Codec.app r.args r.f a)) KX G.T.g G.T.b G.T.builtins G.T.nolimit hg r9 (E1 _ _) (Pb Pf) hr hF hb (by rw[Fb];exact hlen)
  (λH xs hO hS=>fS w H xs a hO Fe e2 hS) λH e s'=>sg w H s₁ e s') λr' s' hq=>?_)
 obtain⟨u,fD,rfl,h1,h2,h3,h4⟩:=hq;exact⟨.inl ⟨u,_,fD,rfl,λ_=>rfl,h1,(OpenSpec.post_iff zJ Fe _ _).mpr rfl,λz=>Bool.noConfusion (show false=true from z)⟩,h2,h3,h4⟩
theorem ZA{r:OpenSpec}{k:Nat}{q:Program}{loose:List Str}{XP:(Str->Option Value)->Heap->Prop}{YP:World->Heap->Prop}{d:DefRec}{K:Params->PySem.W.Frag}{CX:eP}{ps:List Str}{sp:PySem.W.Frag->Sp}
 (zJ:r.wellSaid=true) (Fc:d.params.defaults=[]) (hlen:r.args.length=ps.length) (hr:cp k callerA)
 (hY:∀(w:World) (h:Heap),YP w h->(K w.params).In h)
 (F:∀(w:World) (mg:Str->Option Value) (fa:Addr) (h:Heap),YP w h->(K w.params).In h->h.Ns mainGlobals mg->mg d.name=some (.ref fa)->
  ∃fd:FuncData,(∀(s:Shared) (us:List Value),us.length=ps.length->BindsTo s fd ⟨us,[]⟩ (ps.zip us))/\
   ∀base:Heap,(K w.params).In base->base.Ns mainGlobals mg->dZ r.prog w (K w.params) mg base CX k fa fd ps (sp (K w.params)))
 (fS:∀(K:PySem.W.Frag) (H:Hp) (xs:List V) (a:Codec.denoteAll r.args),rZ H->Codec.withinAll r.args a=true->Codec.app r.args r.asked a=true->iJ K H xs (Codec.encAll r.args a)->
  sp K xs H (λv H'=>Dw K H' v (r.ret.enc (Codec.app r.args r.f a))) λ_ _ _=>False)
 (sg:∀(H:Hp) (s:Shared) (e:Value) (s':Shared),CX [] H s (λ_ _ _=>False) e s'->False) :
 PySem.W.WalkOS q loose XP YP r d [] (λf vs=>PySem.call f vs):=
 Pc (K:=K) (CX:=λ_=>CX) (sp:=λw=>sp (K w.params)) zJ Fc hlen hr hY F (λw H xs a h1 h2 h3 h4=>fS (K w.params) H xs a h1 h2 h3 h4) λ_ H s e s'=>sg H s e s'
end L2
namespace L2
open PySem PySem.Spec PyProof.Rows
theorem cV.there{P:Program}{w:World}{H:Hp}{h:Heap}{a:Addr}{o:HO}(x:cV P w H h a o):∃ob,h.get? a=some ob:=by
 cases o with
 |lst xs=>obtain⟨_,_,_,_,e⟩:=x;exact⟨_,e⟩
 |tup xs=>obtain⟨_,_,_,ob,e,_⟩:=x;exact⟨_,e⟩
 |dK kvs=>obtain⟨_,_,_,_,o,_,_,e,_⟩:=x;exact⟨_,e⟩
 |dT kvs=>obtain⟨_,_,_,_,o,_,_,e,_⟩:=x;exact⟨_,e⟩
 |set S n=>obtain⟨o,_,_,_,e,_⟩:=x;exact⟨_,e⟩
 |ins C dx fs=>obtain⟨_,_,_,e,_⟩:=x;exact⟨_,e⟩
 |own y=>obtain⟨_,e⟩:=x;exact⟨_,e⟩
 |xd fs=>obtain⟨_,⟨_,_,_,e,_⟩,_⟩:=x;exact⟨_,e⟩
 |uQ lo hi=>obtain⟨_,_,_,e⟩:=x;exact⟨_,e⟩
 |bz ob u=>obtain⟨e,_⟩:=x;exact⟨_,e⟩
 |jN ps=>exact⟨_,(show h.get? a=some _ from x)⟩
 |met f y=>exact⟨_,(show h.get? a=some _ from x)⟩
 |ext φ=>obtain⟨_,⟨_,e⟩,_⟩:=x;exact⟨_,e⟩
theorem bT.none_of{P:Program}{w:World}{H:Hp}{h:Heap}{a:Addr}(ok:bT P w H h)(e:h.get? a=none):H a=none:=by
 cases q:H a with
 |none=>rfl
 |some u=>obtain⟨ob,z⟩:=(ok a u q).there;rw[e] at z;cases z
section
variable {X:Cx}{pins:List (Addr×Obj)}{σ:St}{H H':Hp}{s:Shared}{h':Heap}
theorem Inv.Ff{g':Array GenState}{t':Nat}{d':Drawn}{ch:List Addr}(I:Inv X pins σ H s)
 (cg:∀b∈ch,(b∈X.ex\/X.cQ.heap.get? b=none)/\b≠X.env.locals/\(∀x c,X.env.cells.lookup x=some c->c≠b)/\∀p∈X.pn++pins,p.1≠b)
 (keep:∀b o,b≠X.env.locals->b∉X.fs->b∉ch->s.heap.get? b=some o->H b=none->h'.get? b=some o)
 (slot:∀b o,b≠X.env.locals->b∈X.fs->b∉ch->s.heap.get? b=some o->H b=none->∃sl,h'.get? b=some {o with slots:=sl}) (free:∀b o,b∉ch->s.heap.get? b=some o->H b=none->H' b=none)
 (there:∀b o,b∉ch->s.heap.get? b=some o->∃o',h'.get? b=some o')
 (eO:∀b xs,H b=some (.tup xs)->H' b=some (.tup xs)) (eY:∀b o u,H b=some (.bz o u)->H' b=some (.bz o u)) (fP:∀b ps,H b=some (.jN ps)->∃more,H' b=some (.jN (ps++more)))
 (ns:∀m,s.heap.Ns X.env.locals m->h'.Ns X.env.locals m) (ao:bT X.prog X.w H' h') (hg:AllBare g') :
 Inv X pins σ H' {s with heap:=h',gens:=g',drawn:=d',toks:=t'}:=by
 have rq:∀b o,X.cQ.heap.get? b=some o->b≠X.env.locals:=λb o e=>gE (eh (Heap.lt_size e) I.ok.above);have kH:∀b o,X.cQ.heap.get? b=some o->b∉X.ex->b∉ch:=λb o e hx hb=>by
  rcases(cg b hb).1 with z | z
  ·exact hx z
  ·rw[e] at z;cases z
 have cellK:∀x c,X.env.cells.lookup x=some c->∀v,s.heap.IsCell c v->h'.IsCell c v:=λx c e v ⟨o,ho,hd⟩=>by
  have jc:c∉ch:=λz=>(cg c z).2.2.1 x c e rfl;by_cases hc:c∈X.fs
  ·obtain⟨sl,q⟩:=slot c o (I.kG x c e) hc jc ho (I.eC x c e);exact⟨_,q,hd⟩
  ·exact⟨o,keep c o (I.kG x c e) hc jc ho (I.eC x c e),hd⟩
 refine⟨I.ok,I.os,hg,⟨λb o e n hb hx=>?_,λb o e n hb hx=>?_,λb o e n hx=>?_,λb o e hx=>?_,λb xs e=>eO b xs (I.base.eO b xs e),λb o xs e=>eY b o xs (I.base.eY b o xs e),λb ps e=>?_⟩,?_,λx c e=>?_,?_,λx c e=>?_,λp hp=>?_,ao,I.len⟩
 ·exact keep b o (rq b o e) hb (kH b o e hx) (I.base.keep b o e n hb hx) (I.base.free b o e n hx)
 ·obtain⟨sl,e1⟩:=I.base.slot b o e n hb hx;obtain⟨rm,e2⟩:=slot b _ (rq b o e) hb (kH b o e hx) e1 (I.base.free b o e n hx);exact⟨rm,e2⟩
 ·obtain⟨o',e1⟩:=I.base.there b o e hx;exact free b o' (kH b o e hx) e1 (I.base.free b o e n hx)
 ·obtain⟨o',e1⟩:=I.base.there b o e hx;exact there b o' (kH b o e hx) e1
 ·obtain⟨m1,e1⟩:=I.base.fP b ps e;obtain⟨m2,e2⟩:=fP b _ e1;exact⟨m1++m2,by rw[e2,LG]⟩
 ·obtain⟨m,hn,hl⟩:=I.loc;refine⟨m,ns m hn,λi x v e1 e2 e3=>?_⟩;obtain⟨u,r,l⟩:=hl i x v e1 e2 e3;refine⟨u,r,?_⟩;rcases l with l | ⟨k,c,e,z⟩
  ·exact .inl l
  ·exact .inr ⟨k,c,e,cellK x c e _ z⟩
 ·obtain⟨v,z⟩:=I.cell x c e;exact⟨v,cellK x c e v z⟩
 ·obtain⟨m,⟨o,_,_,ho,_⟩,_⟩:=I.loc;exact free _ o (λz=>(cg _ z).2.1 rfl) ho I.free
 ·obtain⟨v,o,ho,hd⟩:=I.cell x c e;exact free c o (λz=>(cg c z).2.2.1 x c e rfl) ho (I.eC x c e)
 ·obtain⟨e,n,ne,nf,d⟩:=I.pin p hp;have jc:p.1∉ch:=λz=>(cg p.1 z).2.2.2 p hp rfl;exact⟨keep p.1 p.2 ne nf jc e n,free p.1 p.2 jc e n,ne,nf,d⟩
end
noncomputable def iM(h:Heap)(C ea T:Addr):Prop:=∃oe vs oT ts a0 fl,h.get? ea=some oe/\(oe.cls=.ref C/\vs[0]?=some a0)/\oe.data=.fields vs/\vs[1]?=some (.ref T)/\T≠ea/\h.get? T=some oT/\oT.data=.fields ts/\ts[3]?=some fl
theorem iM.at{h B:Heap}{C ea T:Addr}(f:iM h C ea T)(hB:B.get? T=none):∃a0 fl,h.TracedAtW B ea (.ref C) a0 fl:=by obtain⟨oe,vs,oT,ts,a0,fl,h1,h2,h3,h4,h5,h6,h7,h8⟩:=f;exact⟨a0,fl,oe,vs,T,oT,ts,h1,h2,h3,h4,hB,h5,h6,h7,h8⟩
theorem iM.of{h B:Heap}{C ea:Addr}{a0 fl:Value}(t:h.TracedAtW B ea (.ref C) a0 fl):∃T,iM h C ea T/\B.get? T=none:=by obtain⟨oe,vs,T,oT,ts,h1,h2,h3,h4,hB,h5,h6,h7,h8⟩:=t;exact⟨T,⟨oe,vs,oT,ts,a0,fl,h1,h2,h3,h4,h5,h6,h7,h8⟩,hB⟩
theorem iM.rec{h:Heap}{C ea T:Addr}(f:iM h C ea T):(∃oe vs,h.get? ea=some oe/\oe.data=.fields vs)/\∃oT ts,h.get? T=some oT/\oT.data=.fields ts:=by obtain⟨oe,vs,oT,ts,a0,fl,h1,h2,h3,h4,h5,h6,h7,h8⟩:=f;exact⟨⟨oe,vs,h1,h3⟩,oT,ts,h6,h7⟩
section
variable {M:Model}{A:Around}{E:Value->Shared->Prop}{s:Shared}
theorem Pg{base:Heap}{env:Env}{outer:List Env}{L e:Addr}{cls a0 fl:Value}{Q:Unit->Shared->Prop}
 (gL:A.frames=some (env::outer)) (hl:s.heap.FunFrames base (env::outer)) (hf:env.frame=some L) (ht:s.heap.TracedAtW base e cls a0 fl) (nS:base.StaysIn s.heap) (nP:base.get? e=none)
 (h:∀h',Heap.LeftW base (env::outer) e cls a0 s.heap h'->Q () {s with heap:=h'}):wpAny M A (leaving env (.ref e)) Q E s:=by
 by_cases si:fl=rawInt L
 ·subst si;unfold leaving;refine wpAny_bind (wpAny_noteFrame_againW hf ht ?_);exact wpAny_setFlight_noneW nS hl ht λh' k1 k2 k3 k4=>h h' ⟨k1,k2,k3,λb o hb hn=>⟨o.slots,k4 b o hb hn⟩⟩
 ·obtain⟨oe,vs,T,oT,ts,he,⟨ni,h0⟩,hd,h1,pW,mv,hT,iN,h3⟩:=ht;subst ni;unfold leaving noteFrame;simp only[hf];refine wpAny_bind (wpAny_bind (wpAny_field he hd h1 ?_));rw[if_pos (show(Value.ref T != Value.none)=true from by simp)];refine wpAny_bind (wpAny_field hT iN h3 ?_);rw[if_neg (show ¬((fl==rawInt L)=true) from λz=>si (jb.mp z))];refine wpAny_bind (wpAny_setField hT iN (qR.mp h3).1 ?_);have other:∀b,b≠T->(s.heap.update T (Obj.mapFields (·.setIfInBounds 3 Value.none))).get? b=s.heap.get? b:=λb hb=>Heap.get?_update_other _ _ (bu hb);have mw:∀b o,s.heap.get? b=some o->(∀vs,o.data≠.fields vs)->b≠T:=λb o hb de q=>by rw[q,hT] at hb;injection hb with hb;subst hb;exact de ts iN
  refine wpAny_newEntryW gL (hl.of_keeps λb o hb de=>⟨o,(other b (mw b o hb de)).trans hb,rfl⟩) hf ((other e (bu mv)).trans he)
   (λb o jt=>(other b λq=>by rw[q,pW] at jt;cases jt).trans (nS b o jt)) nP hd (qR.mp h1).1 h0
   λh' ⟨x1,x2,x3,x4⟩=>h h' ⟨x1,x2,x3,λb o hb de=>x4 b o ((other b (mw b o hb de)).trans hb) de⟩
theorem Fg{base:Heap}{env:Env}{outer:List Env}{L e:Addr}{cls a0 fl:Value}{Q:Unit->Shared->Prop}
 (gL:A.frames=some (env::outer)) (hl:s.heap.FunFrames base (env::outer)) (hf:env.frame=some L) (ht:s.heap.TracedAtW base e cls a0 fl) (nS:base.StaysIn s.heap) (nP:base.get? e=none)
 (h:∀h',Heap.NotedW base (env::outer) e cls a0 (rawInt L) s.heap h'->Q () {s with heap:=h'}):wpAny M A (noteFrame (.ref e) env) Q E s:=by
 by_cases si:fl=rawInt L
 ·subst si;exact wpAny_noteFrame_againW hf ht (h s.heap ⟨nS,hl,ht,λb o hb hn=>⟨o.slots,hb⟩⟩)
 ·obtain⟨oe,vs,T,oT,ts,he,⟨ni,h0⟩,hd,h1,pW,mv,hT,iN,h3⟩:=ht;subst ni;unfold noteFrame;simp only[hf];refine wpAny_bind (wpAny_field he hd h1 ?_);rw[if_pos (show(Value.ref T != Value.none)=true from by simp)];refine wpAny_bind (wpAny_field hT iN h3 ?_);rw[if_neg (show ¬((fl==rawInt L)=true) from λz=>si (jb.mp z))];refine wpAny_bind (wpAny_setField hT iN (qR.mp h3).1 ?_);have other:∀b,b≠T->(s.heap.update T (Obj.mapFields (·.setIfInBounds 3 Value.none))).get? b=s.heap.get? b:=λb hb=>Heap.get?_update_other _ _ (bu hb);have mw:∀b o,s.heap.get? b=some o->(∀vs,o.data≠.fields vs)->b≠T:=λb o hb de q=>by rw[q,hT] at hb;injection hb with hb;subst hb;exact de ts iN
  refine wpAny_entryW gL (hl.of_keeps λb o hb de=>⟨o,(other b (mw b o hb de)).trans hb,rfl⟩) hf ((other e (bu mv)).trans he)
   (λb o jt=>(other b λq=>by rw[q,pW] at jt;cases jt).trans (nS b o jt)) nP hd (qR.mp h1).1 h0
   λh' ⟨x1,x2,x3,x4⟩=>h h' ⟨x1,x2,x3,λb o hb de=>x4 b o ((other b (mw b o hb de)).trans hb) de⟩
theorem zK{base:Heap}{l:List Env}{e:Addr}{cls a0 fl:Value}{fr:Option Addr}{Q:Unit->Shared->Prop}
 (nS:base.StaysIn s.heap) (hl:s.heap.FunFrames base l) (ht:s.heap.TracedAtW base e cls a0 fl)
 (h:∀h' Fh,base.StaysIn h'->h'.FunFrames base l->h'.TracedAtW base e cls a0 Fh->(∀b o,s.heap.get? b=some o->(∀vs,o.data≠.fields vs)->h'.get? b=some o)->Q () {s with heap:=h'}) :
 wpAny M A (setFlight (.ref e) fr) Q E s:=by
 obtain⟨oe,vs,T,oT,ts,he,ni,hd,h1,pW,mv,hT,iN,h3⟩:=ht;have Fi:3<ts.size:=(qR.mp h3).1;have other:∀b,b≠T->(s.heap.update T (Obj.mapFields (·.setIfInBounds 3 (fr.elim Value.none λf=>rawInt f)))).get? b=s.heap.get? b:=
  λb hb=>Heap.get?_update_other _ _ (bu hb)
 have mw:∀b o,s.heap.get? b=some o->(∀vs,o.data≠.fields vs)->b≠T:=λb o hb de q=>by rw[q,hT] at hb;injection hb with hb;subst hb;exact de ts iN
 unfold setFlight;refine wpAny_bind (wpAny_field he hd h1 ?_);rw[if_pos (show(Value.ref T != Value.none)=true from by simp)];refine wpAny_setField hT iN Fi (h _ (fr.elim Value.none λf=>rawInt f) (λb o jt=>(other b λq=>by rw[q,pW] at jt;cases jt).trans (nS b o jt))
  (hl.of_keeps λb o hb de=>⟨o,(other b (mw b o hb de)).trans hb,rfl⟩) ?_ λb o hb de=>(other b (mw b o hb de)).trans hb)
 exact⟨oe,vs,T,_,_,(other e (bu mv)).trans he,ni,hd,h1,pW,mv,Heap.get?_update_self _ hT (Obj.isFreed_of_fields (Obj.data_mapFields iN _)),Obj.data_mapFields iN _,by simp[Fi]⟩
end
structure vW(X:Cx)(pins:List (Addr×Obj))(H:Hp)(b:Addr):Prop where
 free:H b=none
 new:X.cQ.heap.get? b=none
 loc:b≠X.env.locals
 eB:b∉bZ X.stack
 j6:∀x c,X.env.cells.lookup x=some c->c≠b
 pin:∀p∈X.pn++pins,p.1≠b
 zL:b∉X.ex
structure Lies(X:Cx)(pins:List (Addr×Obj))(σ:St)(C:Addr)(H:Hp)(ea T:Addr)(s:Shared):Prop where
 inv:Inv X pins σ H s
 gu:iM s.heap C ea T
 ea:vW X pins H ea
 tb:vW X pins H T
section
variable {X:Cx}{pins:List (Addr×Obj)}{σ:St}{H:Hp}{s:Shared}{C ea T:Addr}
theorem Inv.kS(I:Inv X pins σ H s){b:Addr}(hb:s.heap.get? b=none)(hx:b∉X.ex):vW X pins H b:=by
 have hs:X.cQ.heap.get? b=none:=by
  cases q:X.cQ.heap.get? b with
  |none=>rfl
  |some o=>obtain⟨o',e⟩:=I.base.there b o q hx;rw[hb] at e;cases e
 refine⟨I.ao.none_of hb,hs,λz=>?_,λz=>?_,λx c e z=>?_,λp hp z=>?_,hx⟩
 ·obtain⟨m,⟨o,_,_,ho,_⟩,_⟩:=I.loc;rw[<-z,hb] at ho;cases ho
 ·obtain⟨_,o,ho,_⟩:=I.stack.mem z;rw[hb] at ho;cases ho
 ·obtain⟨v,o,ho,_⟩:=I.cell x c e;rw[z,hb] at ho;cases ho
 ·have:=(I.pin p hp).1;rw[z,hb] at this;cases this
noncomputable def pX(X:Cx)(ea T:Addr)(h:Heap):Heap:=PySem.W.hideAll h (ea::T::bZ X.stack)
theorem Lies.hide(L:Lies X pins σ C H ea T s):(pX X ea T s.heap).StaysIn s.heap/\(pX X ea T s.heap).get? ea=none/\(pX X ea T s.heap).get? T=none/\s.heap.FunFrames (pX X ea T s.heap) X.stack:=by refine⟨λb o e=>LF _ e,LB _ (by simp),LB _ (by simp),PySem.W.funFrames_hide L.inv.stack λenv he a hf=>?_⟩;exact bO _ (bO _ (pq.mpr ⟨env,he,hf⟩))
theorem Lies.step{h':Heap}{a0 fl:Value}(L:Lies X pins σ C H ea T s)(hx:X.ex=[])(st:(pX X ea T s.heap).StaysIn h')(up:∀b o,s.heap.get? b=some o->(∀vs,o.data≠.fields vs)->∃sl,h'.get? b=some {o with slots:=sl})
 (tr:h'.TracedAtW (pX X ea T s.heap) ea (.ref C) a0 fl):∃T',Lies X pins σ C H ea T' {s with heap:=h'}:=by
 have I:=L.inv;have kp:∀b o,s.heap.get? b=some o->b∉bZ X.stack->b≠ea->b≠T->h'.get? b=some o:=λb o e hb h1 h2=>st b o (uF _ e (by
  simp only[bL,not_or];exact⟨h1,h2,hb⟩))
 have sl:∀b o,s.heap.get? b=some o->b∈bZ X.stack->∃sl,h'.get? b=some {o with slots:=sl}:=λb o e hb=>by obtain⟨_,o',cX,hd⟩:=I.stack.mem hb;rw[e] at cX;cases cX;exact up b o e hd
 have zM:∀b,b∈X.fs->b∈bZ X.stack:=λb hb=>by
  rcases I.ok.eB with e | ⟨e,hf⟩
  ·rw[e];exact hb
  ·rw[e];unfold bZ;rw[ym,hf];exact bO _ hb
 have th:∀b o,b∉[ea,T]->s.heap.get? b=some o->∃o',h'.get? b=some o':=λb o hb e=>by
  have vX:b≠ea/\b≠T:=by simpa using hb
  by_cases hz:b∈bZ X.stack
  ·obtain⟨sl,q⟩:=sl b o e hz;exact⟨_,q⟩
  ·exact⟨_,kp b o e hz vX.1 vX.2⟩
 have ao:bT X.prog X.w H h':=λb u q=>(I.ao b u q).jO (λc v hc e=>by
  have hH:H c≠none:=by
   rcases hc with z | z
   ·rw[z,q];simp
   ·rw[z];simp
  refine kp c v e (λz=>hH (I.uS c z)) (λz=>hH (by rw[z];exact L.ea.free)) (λz=>hH (by rw[z];exact L.tb.free))) (λ_ q=>q) λ_ _ q=>q
 have I':Inv X pins σ H {s with heap:=h'}:=by
  refine I.Ff (g':=s.gens) (d':=s.drawn) (t':=s.toks) (ch:=[ea,T]) (λb hb=>?_) (λb o hL hb hc e n=>?_) (λb o hL hb hc e n=>?_) (λ_ _ _ _ n=>n) th (λ_ _ e=>e) (λ_ _ _ e=>e) (λb ps e=>⟨#[],by rw[e];simp⟩) (λm hm=>?_) ao I.bare
  ·have vX:b=ea\/b=T:=by simpa using hb
   rcases vX with rfl | rfl
   ·exact⟨.inr L.ea.new,L.ea.loc,L.ea.j6,L.ea.pin⟩
   ·exact⟨.inr L.tb.new,L.tb.loc,L.tb.j6,L.tb.pin⟩
  ·have eD:b≠ea/\b≠T:=by simpa using hc
   refine kp b o e (λz=>?_) eD.1 eD.2;rcases bL.mp (I.pC b z) with z | z
   ·exact hL z
   ·exact hb z
  ·exact sl b o e (zM b hb)
  ·obtain⟨o,es,ep,ho,hd,r⟩:=hm;by_cases hz:X.env.locals∈bZ X.stack
   ·obtain⟨sl,q⟩:=sl _ o ho hz;exact⟨_,es,ep,q,hd,r⟩
   ·exact⟨o,es,ep,kp _ o ho hz (bu L.ea.loc) (bu L.tb.loc),hd,r⟩
 obtain⟨T',f',zN⟩:=iM.of tr;refine⟨T',I',f',L.ea,?_⟩;by_cases hT:T'=T
 ·rw[hT];exact L.tb
 ·
  have mv:T'≠ea:=by obtain⟨_,_,_,_,_,_,_,_,_,_,z,_⟩:=f';exact z
  have gL:T'∉bZ X.stack:=λz=>by obtain⟨_,o,ho,hd⟩:=I.stack.mem z;obtain⟨sl,q⟩:=sl T' o ho z;obtain⟨_,oT,ts,h1,h2⟩:=f'.rec;rw[q] at h1;cases h1;exact hd ts h2
  have hs:s.heap.get? T'=none:=by
   cases q:s.heap.get? T' with
   |none=>rfl
   |some o=>
    have:=uF (ea::T::bZ X.stack) q (by
     simp only[bL,not_or];exact⟨mv,hT,gL⟩)
    rw[show(PySem.W.hideAll s.heap (ea::T::bZ X.stack)).get? T'=none from zN] at this;cases this
  exact I.kS hs (by rw[hx];simp)
end
noncomputable def bC(P:Program)(w:World)(C:Addr):eP:=λouter H s E e s'=>∃ea T H',e=.ref ea/\s'.os=s.os/\AllBare s'.gens/\Un (bZ outer) [] H H' s.heap s'.heap/\bT P w H' s'.heap/\iM s'.heap C ea T/\
 H' ea=none/\H' T=none/\s.heap.get? ea=none/\s.heap.get? T=none/\E (.ref C) none H'
structure ju(X:Cx)(C:Addr)(E:XK):Prop where
 ex:X.ex=[]
 eB:X.stack=X.env::X.outer
 fr:X.env.frame=some X.env.locals
 xe:X.xe=λe s'=>wpAny (model X.prog X.w) X.A (leaving X.env e) (λ_ nA=>bC X.prog X.w C X.outer X.jQ X.cQ E e nA) (λe' nA=>bC X.prog X.w C X.outer X.jQ X.cQ E e' nA) s'
section
variable {X:Cx}{pins:List (Addr×Obj)}{σ:St}{H:Hp}{s:Shared}{C ea T:Addr}{E:XK}
theorem Lies.leave(L:Lies X pins σ C H ea T s)(F:ju X C E)(hE:E (.ref C) none H):X.xe (.ref ea) s:=by
 rw[F.xe];obtain⟨st,h1,h2,fu⟩:=L.hide;obtain⟨a0,fl,tr⟩:=L.gu.at h2;have fr:X.A.frames=some (X.env::X.outer):=by rw[L.inv.ok.frames,F.eB]
 rw[F.eB] at fu;refine Pg fr fu F.fr tr st h1 λh' zq=>?_;obtain⟨k1,k2,k3,k4⟩:=zq;obtain⟨T',L'⟩:=L.step F.ex k1 k4 k3.at;have I:=L'.inv;have ub:=I.base;rw[F.ex] at ub;exact⟨ea,T',H,rfl,I.os,I.bare,ub,I.ao,L'.gu,L'.ea.free,L'.tb.free,L'.ea.new,L'.tb.new,hE⟩
theorem Inv.lies{e:Value}{s':Shared}(I:Inv X pins σ H s)(hx:X.ex=[])(c:bC X.prog X.w C X.stack H s E e s'):∃ea T H',e=.ref ea/\Lies X pins σ C H' ea T s'/\E (.ref C) none H':=by obtain⟨ea,T,H',rfl,os,ba,un,ao,gu,he,hT,ne,nT,hE⟩:=c;have I':Inv X pins σ H' s':=I.uT (ch:=[]) os un ao ba λ_ z=>nomatch z;have a1:=I.kS ne (by rw[hx];simp);have a2:=I.kS nT (by rw[hx];simp);exact⟨ea,T,H',rfl,⟨I',gu,⟨he,a1.new,a1.loc,a1.eB,a1.j6,a1.pin,a1.zL⟩,⟨hT,a2.new,a2.loc,a2.eB,a2.j6,a2.pin,a2.zL⟩⟩,hE⟩
theorem ju.passes(F:ju X C E):Passes (bC X.prog X.w C) X E:=λpins σ H s e s' I c=>by obtain⟨ea,T,H',rfl,L,hE⟩:=I.lies F.ex c;exact L.leave F hE
theorem ju.own(F:ju X C E):PassesOwn (model X.prog X.w) X.A X.env X.xe:=λe s' h=>by rw[F.xe] at h ⊢;exact wpAny_leaving_again (SameStack.refl _) h
theorem Inv.first{h1:Heap}{vs:List Value}(I:Inv X pins σ H s)(F:ju X C E)(hx:Heap.MadeExcOf s.heap h1 ea (.ref C) vs)(hE:E (.ref C) none H):X.xe (.ref ea) {s with heap:=h1}:=by
 rw[F.xe];have fr:X.A.frames=some (X.env::X.outer):=by rw[I.ok.frames,F.eB]
 have fu:s.heap.FunFrames (PySem.W.hideAll s.heap (bZ X.stack)) X.stack:=PySem.W.funFrames_hide I.stack λenv he a hf=>pq.mpr ⟨env,he,hf⟩;rw[F.eB] at fu;refine wpAny_leaves_madeW (h:=s.heap) (base:=PySem.W.hideAll s.heap (bZ (X.env::X.outer))) fr F.fr (λb o e=>LF _ e) fu hx λh' t zq _ _ up=>?_;obtain⟨k1,k2,k3,k4⟩:=zq;rw[<-F.eB] at k1 k2 k4;have kp:∀b o,s.heap.get? b=some o->b∉bZ X.stack->h'.get? b=some o:=λb o e hb=>k1 b o (uF _ e hb);have sl:∀b o,s.heap.get? b=some o->b∈bZ X.stack->∃sl,h'.get? b=some {o with slots:=sl}:=λb o e hb=>by obtain⟨_,o',cX,hd⟩:=I.stack.mem hb;rw[e] at cX;cases cX;exact up b o (hx.keeps b o e) hd
 have zM:∀b,b∈X.fs->b∈bZ X.stack:=λb hb=>by rw[F.eB];unfold bZ;rw[ym,F.fr];exact bO _ hb
 have ao:bT X.prog X.w H h':=λb u q=>(I.ao b u q).jO (λc v hc e=>by
  have hH:H c≠none:=by
   rcases hc with z | z
   ·rw[z,q];simp
   ·rw[z];simp
  exact kp c v e (λz=>hH (I.uS c z))) (λ_ q=>q) λ_ _ q=>q
 have I':Inv X pins σ H {s with heap:=h'}:=by
  refine I.Ff (g':=s.gens) (d':=s.drawn) (t':=s.toks) (ch:=[]) (λ_ z=>nomatch z) (λb o hL hb _ e n=>?_) (λb o hL hb _ e n=>sl b o e (zM b hb)) (λ_ _ _ _ n=>n) (λb o _ e=>?_) (λ_ _ e=>e) (λ_ _ _ e=>e) (λb ps e=>⟨#[],by rw[e];simp⟩) (λm hm=>?_) ao I.bare
  ·refine kp b o e (λz=>?_);rcases bL.mp (I.pC b z) with z | z
   ·exact hL z
   ·exact hb z
  ·by_cases hz:b∈bZ X.stack
   ·obtain⟨sl,q⟩:=sl b o e hz;exact⟨_,q⟩
   ·exact⟨_,kp b o e hz⟩
  ·obtain⟨o,es,ep,ho,hd,r⟩:=hm;by_cases hz:X.env.locals∈bZ X.stack
   ·obtain⟨sl,q⟩:=sl _ o ho hz;exact⟨_,es,ep,q,hd,r⟩
   ·exact⟨o,es,ep,kp _ o ho hz,hd,r⟩
 obtain⟨T',f',zN⟩:=iM.of k4.at;have hT:s.heap.get? T'=none:=by
  cases q:s.heap.get? T' with
  |none=>rfl
  |some o=>
   by_cases hz:T'∈bZ X.stack
   ·obtain⟨_,o',cX,hd⟩:=I.stack.mem hz;obtain⟨sl,q2⟩:=sl T' o' cX hz;obtain⟨_,oT,ts,h1,h2⟩:=f'.rec;have h1:h'.get? T'=some oT:=h1;rw[q2] at h1;cases h1;exact absurd h2 (hd ts)
   ·have:=uF (bZ X.stack) q hz;rw[zN] at this;cases this
 have ub:=I'.base;rw[F.ex] at ub;have a1:=I.kS hx.new (by rw[F.ex];simp);have a2:=I.kS hT (by rw[F.ex];simp);exact⟨ea,T',H,rfl,I'.os,I'.bare,ub,ao,f',a1.free,a2.free,a1.new,a2.new,hE⟩
end
structure zO(K:PySem.W.Frag)(C:Addr):Prop where
 ex:PySem.W.excIn K C [.type "ValueError",.type "Exception",.type "BaseException",.type "object"] "ValueError.__new__"=true
 kt:PySem.W.ktsIn K C "BaseException"=true
noncomputable def Ph(C:Addr)(E:XK)(t:TA):TS:=λ_ σ H=>t σ H λxs H1=>xs.length<=sizeLine/\E (.ref C) none H1
theorem Pj{K:PySem.W.Frag}{h:Heap}{mg:Str->Option Value}{x:Str}{C:Addr}{Fj:List Value}{newId:String}(X:K.In h)(hb:mg x=some (.ref C))(q:PySem.W.excIn K C Fj newId=true):OwnCls x C Fj newId mg h:=by
 refine⟨hb,?_⟩;unfold PySem.W.excIn at q;split at q
 ·rename_i dd cd sl ho;split at q
  ·rename_i C' bm k0 k1 k2 k3 n k5 hm hs;simp only[bq,jb,C3] at q;obtain⟨⟨⟨⟨⟨rfl,rfl⟩,Fl⟩,ht⟩,ao⟩,vY⟩:=q;obtain⟨nm,bs,mro,ns,qn,hd,sn,sub,ab,col,del⟩:=cd;dsimp only at hm Fl ao vY;subst hm Fl;have vq:sl=#[k0,k1,k2,k3,some (.builtin n),k5]:=by obtain⟨l⟩:=sl;simp only at hs;rw[hs]
   subst vq;exact⟨bm,ns,nm,qn,bs,hd,sn,sub,ab,col,dd,k0,k1,k2,k3,k5,_,X _ _ ho,.of_isNs (PySem.W.isNs_of_in X ao),PySem.W.nsMap_none_of_in X ao vY,PySem.W.tail_of_in X ht⟩
  ·cases q
 ·cases q
theorem mx{X:Cx}{C:Addr}{E:XK}{x:Str}{np bN pos:Pos}{e:Expr}{es:List Expr}{t:TA}(F:ju X C E)(hc:X.calm=true)(hC:zO X.K C)(hg:Gl X x)(hm:X.mg x=some (.ref C))(ha:PA X (e::es) t)
 (hd:(x==("__debug__":Str))=false:=by decide) (he:starEach (e::es) X.env=(false,eval e X.env)::starEach es X.env:=by rfl) (eQ:(backTo bN (starEach es X.env)).any (·.1)=false:=by rfl) :
 PS X (.Raise (some (.Call (.Name x np) (e::es) [] bN)) none pos) (Ph C E t):=by
 intro pins s σ H D I h;obtain⟨tl,N,nm,q,bs,hdct,sn,sub,ab,col,dd,k0,k1,k2,k3,k5,mN,zP,hN,vY,Tl⟩:=(Pj I.mod.rn hm hC.ex).obj;have hh:X.A.handled=none:=I.ok.hd hc;have h0:=ha bN pins s σ H _ I h;rw[he] at h0;refine wpAny_Raise_call_subT (C:=C) (nm:=nm) (q:=q) (N:=N) (bs:=bs) (bm:=tl) (hdct:=hdct) (sn:=sn) (sub:=sub) (ab:=ab) (col:=col) (dd:=dd) (k0:=k0) (k1:=k1) (k2:=k2) (k3:=k3) (k5:=k5) Zk (mN:=mN)
  (Tl.hasType Zk.hasBase) hh (by rw[he];show(false||(backTo bN (starEach es X.env)).any (·.1))=false;rw[eQ];rfl) vY (pD I hg hm ⟨rfl,?_⟩ hd)
 rw[he];refine Calls.evalArgs_plain (aI h0 λus s2 zq=>?_);obtain⟨vs,H2,I2,rv,hz,hE⟩:=zq;refine⟨rfl,?_,I2.bk _ _ zP,hN.keeps I2.bk,Tl.keeps I2.bk,λh' e hx=>I2.first F hx hE⟩;show us.length<=sizeLine;rw[<-rv.length];exact hz
noncomputable def Pk(C:Addr)(E:XK)(tb ts:TS):TS:=λD σ H=>tb D σ H/\∀(σ':St) (H':Hp),σ'.length=σ.length->E (.ref C) none H'->ts D σ' H'
noncomputable abbrev Cx.pend(X:Cx)(pn:List (Addr×Obj))(xe:Value->Shared->Prop):Cx:={X with pn:=pn,xe:=xe}
noncomputable abbrev Cx.nU(X:Cx)(pn:List (Addr×Obj))(ea:Addr):Cx:={X with pn:=pn,A:=X.A.mark (some (.ref ea)),calm:=false,xe:=λ_ _=>False}
theorem Inv.pend{X:Cx}{pins:List (Addr×Obj)}{σ:St}{H:Hp}{s:Shared}(I:Inv X pins σ H s)(xe:Value->Shared->Prop):Inv (X.pend (X.pn++pins) xe) [] σ H s:=
 ⟨⟨I.ok.mod,I.ok.kind,I.ok.glob,I.ok.blt,I.ok.above,I.ok.inj,I.ok.has,I.ok.nc,I.ok.hd,I.ok.frames,I.ok.eB,I.ok.lT,I.ok.bs,I.ok.g0,I.ok.ng,I.ok.lU,I.ok.gn,I.ok.jR⟩,I.os,I.bare,I.base,I.loc,I.cell,I.free,I.eC,
  λp hp=>I.pin p (by simpa using hp),I.ao,I.len⟩
theorem Inv.sj{X:Cx}{pins nh:List (Addr×Obj)}{σ:St}{H:Hp}{s:Shared}{xe:Value->Shared->Prop}(ok:X.Ok)(I:Inv (X.pend (X.pn++pins) xe) nh σ H s):Inv X pins σ H s:=
 ⟨ok,I.os,I.bare,I.base,I.loc,I.cell,I.free,I.eC,λp hp=>I.pin p (uD _ hp),I.ao,I.len⟩
theorem Inv.nU{X:Cx}{pins:List (Addr×Obj)}{σ:St}{H:Hp}{s:Shared}(I:Inv X pins σ H s)(ea:Addr):Inv (X.nU (X.pn++pins) ea) [] σ H s:=
 ⟨⟨I.ok.mod,I.ok.kind,I.ok.glob,I.ok.blt,I.ok.above,I.ok.inj,I.ok.has,I.ok.nc,λz=>Bool.noConfusion z,I.ok.frames,I.ok.eB,I.ok.lT,I.ok.bs,I.ok.g0,I.ok.ng,I.ok.lU,I.ok.gn,I.ok.jR⟩,I.os,I.bare,I.base,I.loc,I.cell,I.free,I.eC,
  λp hp=>I.pin p (by simpa using hp),I.ao,I.len⟩
theorem Inv.uncaught{X:Cx}{pins nh:List (Addr×Obj)}{σ:St}{H:Hp}{s:Shared}{ea:Addr}(ok:X.Ok)(I:Inv (X.nU (X.pn++pins) ea) nh σ H s):Inv X pins σ H s:=
 ⟨ok,I.os,I.bare,I.base,I.loc,I.cell,I.free,I.eC,λp hp=>I.pin p (uD _ hp),I.ao,I.len⟩
theorem Pl{X:Cx}{C:Addr}{E:XK}{x:Str}{np Pn pos:Pos}{body Fm:List Stmt}{b0:Stmt}{tb ts:TS}(hx:X.ex=[])(Fn:X.stack=X.env::X.outer)(hf:X.env.frame=some X.env.locals)(hC:zO X.K C)(hg:Gl X x)(hm:X.mg x=some (.ref C))
 (hb:∀pn xe,Passes (bC X.prog X.w C) (X.pend pn xe) E->eZ (X.pend pn xe) body tb) (hs:∀pn ea,eZ (X.nU pn ea) (b0::Fm) ts) (hd:(x==("__debug__":Str))=false:=by decide) :
 PS X (.Try body [.ExceptHandler (some (.Name x np)) none (b0::Fm) Pn] [] [] pos) (Pk C E tb ts):=by
 intro pins s σ H D I h;obtain⟨h1,h2⟩:=h;rw[arm_exec_Try];refine wpAny_bind (wpAny_standAt (wpAny_tryStmt_except ?_));have I0:=I.pend (λe s1=>∃ea T σ' H',e=.ref ea/\Lies X pins σ' C H' ea T s1/\E (.ref C) none H');have ps:Passes (bC X.prog X.w C) (X.pend (X.pn++pins) (λe s1=>∃ea T σ' H',e=.ref ea/\Lies X pins σ' C H' ea T s1/\E (.ref C) none H')) E:=λnh σ' H1 s1 e s2 I1 c=>by have J:Inv X pins σ' H1 s1:=I1.sj I.ok;obtain⟨ea,T,H',e',L,hE⟩:=J.lies hx c;exact⟨ea,T,σ',H',e',L,hE⟩
 refine wpAny_mono (hb _ _ ps [] s σ H D I0 h1) (λf s1 q=>?_) λe s1 q=>?_
 ·cases f with
  |next=>obtain⟨σ',H',I',q⟩:=q;exact wpAny_execs_nil ⟨σ',H',I'.sj I.ok,q⟩
  |brk=>obtain⟨σ',H',I',q⟩:=q;exact⟨σ',H',I'.sj I.ok,q⟩
  |cont=>obtain⟨σ',H',I',q⟩:=q;exact⟨σ',H',I'.sj I.ok,q⟩
  |ret u=>obtain⟨v,σ',H',I',r,q⟩:=q;exact⟨v,σ',H',I'.sj I.ok,r,q⟩
 ·obtain⟨ea,T,σ',H',rfl,L,hE⟩:=q;have fr:X.A.frames=some (X.env::X.outer):=by rw[I.ok.frames,Fn]
  obtain⟨st,n1,n2,fu⟩:=L.hide;obtain⟨a0,fl,tr⟩:=L.gu.at n2;rw[Fn] at fu;refine Fg fr fu hf tr st n1 λh3 zq=>?_;obtain⟨k1,k2,k3,k4⟩:=zq;obtain⟨T3,L3⟩:=L.step hx k1 k4 k3;obtain⟨st,n1,n2,fu⟩:=L3.hide;obtain⟨a0,fl,tr⟩:=L3.gu.at n2;refine zK st fu tr λh4 ZC k1 k2 k3 k4=>?_;obtain⟨T4,L4⟩:=L3.step hx k1 (λb o e hd=>⟨o.slots,k4 b o e hd⟩) k3;obtain⟨oe,vs,oT,ZD,a0,fl,ho,⟨dW,_⟩,_⟩:=id L4.gu;obtain⟨nm,qn,N,bs,bm,hdct,sn,sub,ab,col,dd,k0,k1,k2,k3,k5,newId,zP,y6,_⟩:=PySem.W.kts_cls L4.inv.g9 hC.kt;have I4:=L4.inv.nU ea;refine wpAny_handleBy_cons (codeAny_handlers_test (pD (X:=X.nU (X.pn++pins) ea) I4 hg hm ?_ hd)) (by intro q;cases q);refine wpAny_excMatches_sub_self zP ho dW y6 (codeAny_handlers_suite ?_);obtain⟨st,n1,n2,fu⟩:=L4.hide;obtain⟨a0,fl,tr⟩:=L4.gu.at n2;refine zK st fu tr λh5 ZE k1 k2 k3 k4=>?_;obtain⟨T5,L5⟩:=L4.step hx k1 (λb o e hd=>⟨o.slots,k4 b o e hd⟩) k3;have I5:=L5.inv.nU ea;have hl:σ'.length=σ.length:=by rw[L5.inv.len,I.len]
  refine wpAny_mono (hs (X.pn++pins) ea [] _ σ' H' D I5 (h2 σ' H' hl hE)) (λf s6 q=>?_) λ_ _ z=>False.elim z;cases f with
  |next=>obtain⟨σ6,H6,I6,q⟩:=q;exact⟨σ6,H6,I6.uncaught I.ok,q⟩
  |brk=>obtain⟨σ6,H6,I6,q⟩:=q;exact⟨σ6,H6,I6.uncaught I.ok,q⟩
  |cont=>obtain⟨σ6,H6,I6,q⟩:=q;exact⟨σ6,H6,I6.uncaught I.ok,q⟩
  |ret u=>obtain⟨v,σ6,H6,I6,r,q⟩:=q;exact⟨v,σ6,H6,I6.uncaught I.ok,r,q⟩
noncomputable abbrev Cx.so(X:Cx)(s:Shared)(H:Hp)(scope:Scope)(b4:Env)(fp:List Addr)(xe:Value->Shared->Prop):Cx:={X with cQ:=s,jQ:=H,env:=b4,outer:=X.stack,ex:=fp,fn:=λx=>scope.names.lookup x==some .cell,pn:=[],xe:=xe}
theorem Po{e:Value}{env Fo:Env}(h:env.frame=Fo.frame):noteFrame e env=noteFrame e Fo:=by unfold noteFrame PySem.frameOf;rw[h]
noncomputable def zQ(X:Cx)(s:Shared)(H:Hp)(fp:List Addr)(C0 C:Addr)(E:XK):Value->Shared->Prop:=λe s'=>∃ea T H',e=.ref ea/\s'.os=s.os/\AllBare s'.gens/\Un (bZ X.stack) fp H H' s.heap s'.heap/\bT X.prog X.w H' s'.heap/\iM s'.heap C ea T/\
 H' ea=none/\H' T=none/\(s.heap.get? ea=none\/ea∈fp)/\(s.heap.get? T=none\/T∈fp)/\ea≠C0/\T≠C0/\(∃m,s'.heap.Ns C0 m)/\H' C0=none/\E (.ref C) none H'
theorem Pp{X:Cx}{s:Shared}{H:Hp}{scope:Scope}{b4:Env}{fp:List Addr}{C0 C:Addr}{E:XK}(hL:b4.locals=C0)(pY:C0∉bZ X.stack) :
 Passes (bC X.prog X.w C) (X.so s H scope b4 fp (zQ X s H fp C0 C E)) E:=λpins σ H1 s1 e s' I c=>by
 obtain⟨ea,T,H',rfl,os,ba,un,ao,gu,he,hT,ne,nT,hE⟩:=c;have un:Un (bZ X.stack) [] H1 H' s1.heap s'.heap:=un;have ub:Un (bZ X.stack) fp H H1 s.heap s1.heap:=I.base;have Pq:Un (bZ X.stack) fp H1 H' s1.heap s'.heap:=un.mono (λ_ h=>h) λ_ h=>nomatch h;have hn:∀b,s1.heap.get? b=none->s.heap.get? b=none\/b∈fp:=λb hb=>by
  by_cases hf:b∈fp
  ·exact .inr hf
  ·left;cases q:s.heap.get? b with
   |none=>rfl
   |some o=>obtain⟨o',e⟩:=ub.there b o q hf;rw[hb] at e;cases e
 obtain⟨m,⟨oC,es,ep,kT,vZ,rC⟩,_⟩:=I.loc;have kT:s1.heap.get? b4.locals=some oC:=kT;rw[hL] at kT;have fC:H1 C0=none:=by have z:H1 b4.locals=none:=I.free;rw[hL] at z;exact z
 refine⟨ea,T,H',rfl,os.trans I.os,ba,ub.trans Pq,ao,gu,he,hT,hn ea ne,hn T nT,λz=>?_,λz=>?_,⟨m,oC,es,ep,un.keep _ _ kT fC pY (by simp),vZ,rC⟩,un.free _ _ kT fC (by simp),hE⟩
 ·rw[z,kT] at ne;cases ne
 ·rw[z,kT] at nT;cases nT
theorem Pr{X:Cx}{CE:Addr}{E:XK}{pins:List (Addr×Obj)}{s3:Shared}{σ:St}{H3:Hp}{fp:List Addr}{ce:Env}{use:Option (Value->Sem Unit)}{Qf:Value->Shared->Prop}{D:Addr}{e:Value}{hX:Shared}
 (F:ju X CE E) (I3:Inv X pins σ H3 s3) (f3:∀b∈fp,gF X pins H3 b) (gL:ce.frame=X.env.frame) (pY:s3.heap.objs.size∉bZ X.stack) (hx:zQ X s3 H3 fp s3.heap.objs.size CE E e hX) :
 notedBy (model X.prog X.w) X.A ce (λe s'=>compPost (model X.prog X.w) X.A X.xe use Qf (.ref D) s3.heap.objs.size (.error e) s') e hX:=by
 obtain⟨ea,Tb,H',rfl,os,ba,un,vV,gu,Pt,Pu,Pw,Px,ne1,ne2,⟨mC,Py⟩,fC,hE⟩:=hx;have I7:Inv X pins σ H' hX:=I3.uT (ch:=fp) os un vV ba λb hb=>⟨(f3 b hb).2.2.2.1,(f3 b hb).2.1,(f3 b hb).2.2.2.2.1,(f3 b hb).2.2.2.2.2⟩;have kS:∀b,(s3.heap.get? b=none\/b∈fp)->H' b=none->vW X pins H' b:=λb hb hf=>by
  rcases hb with hb | hb
  ·have a:=I3.kS hb (by rw[F.ex];simp);exact⟨hf,a.new,a.loc,a.eB,a.j6,a.pin,a.zL⟩
  ·obtain⟨_,q1,q2,q3,q4,q5⟩:=f3 b hb;refine⟨hf,?_,q1,λz=>?_,q4,q5,by rw[F.ex];simp⟩
   ·rcases q3 with z | z
    ·rw[F.ex] at z;cases z
    ·exact Heap.get?_none_of_le z
   ·rcases bL.mp (I3.pC b z) with z | z
    ·exact q1 z
    ·exact q2 z
 have L:Lies X pins σ CE H' ea Tb hX:=⟨I7,gu,kS ea Pw Pt,kS Tb Px Pu⟩;have fr:X.A.frames=some (X.env::X.outer):=by rw[I7.ok.frames,F.eB]
 obtain⟨st,n1,n2,fu⟩:=L.hide;obtain⟨a0,fl,tr⟩:=L.gu.at n2;rw[F.eB] at fu;show wpAny _ _ (noteFrame (.ref ea) ce) _ _ hX;rw[Po gL];refine Fg fr fu F.fr tr st n1 λh1 zq=>?_;obtain⟨k1,k2,k3,k4⟩:=zq;obtain⟨T1,L1⟩:=L.step F.ex k1 k4 k3;obtain⟨oC,es,ep,kT,vZ,rC⟩:=Py;have Fp:h1.get? s3.heap.objs.size=some oC:=k1 _ _ (uF _ kT (by
  simp only[bL,not_or];exact⟨bu ne1,bu ne2,pY⟩))
 refine⟨mC,⟨oC,es,ep,Fp,vZ,rC⟩,λh2 sb b4 dW=>?_⟩;have nr:∀b o vs,h1.get? b=some o->o.data=.fields vs->b≠s3.heap.objs.size:=λb o vs h d z=>by rw[z,Fp] at h;cases h;rw[vZ] at d;cases d
 obtain⟨f0,f1,f2,f4,f5,f6⟩:=I3.nj (H':=H') (bB _) fC;have I2:Inv X pins σ H' {hX with heap:=h2}:=L1.inv.turned (t':=hX.toks) (λb o hb e=>(sb.2 b hb).trans e) f0 f1 f4 f5 f6;have Fq:iM h2 CE ea T1:=by obtain⟨oe,vs,oT,ts,a0,fl,g1,g2,g3,g4,g5,g6,g7,g8⟩:=L1.gu;exact⟨oe,vs,oT,ts,a0,fl,(sb.2 ea (nr ea oe vs g1 g3)).trans g1,g2,g3,g4,g5,(sb.2 T1 (nr T1 oT ts g6 g7)).trans g6,g7,g8⟩
 have L2:Lies X pins σ CE H' ea T1 {hX with heap:=h2}:=⟨I2,Fq,L1.ea,L1.tb⟩;obtain⟨st,n1,n2,fu⟩:=L2.hide;obtain⟨a0,fl,tr⟩:=L2.gu.at n2;obtain⟨oe,vs,oT,ts,ZF,Fh,g1,g2,g3,g4,g5,g6,g7,g8⟩:=Fq;have fin:wpAny (model X.prog X.w) X.A (setFlight (.ref ea) b4.frame >>= λ_=>(throw (Value.ref ea):Sem Value)) (λ_ _=>False) X.xe {hX with heap:=h2}:=by refine wpAny_bind (zK st fu tr λh3 ZG k1 k2 k3 k4=>?_);obtain⟨T3,L3⟩:=L2.step F.ex k1 (λb o e hd=>⟨o.slots,k4 b o e hd⟩) k3;exact wpAny_throw (L3.leave F hE)
 unfold PySem.passOn;refine wpAny_bind (wpAny_field (s:={hX with heap:=h2}) g1 g3 g4 ?_);rw[if_neg (show ¬((Value.ref T1==Value.none)=true) from by simp)]
 first
  |exact fin
  |exact wpAny_bind (wpAny_pure fin)
section
variable {X:Cx}
theorem Pz{CE:Addr}{E:XK}{pins:List (Addr×Obj)}{s:Shared}{σ:St}{H:Hp}{Q:VK}{elt tg iter:Expr}{ifs:List Expr}{scope:Scope}{own:List (Str×Nat)}{pos pos':Pos}{wi:TI}{g:TG}{tt:TT}{te:TE}{use:Option (Value->Sem Unit)}{Qf:Value->Shared->Prop}
 (F:ju X CE E) (hc:X.calm=true) (hN:X.N.Nodup) (I:Inv X pins σ H s) (hi:PI X tg iter wi) (ok:nI X.N X.env.scope scope own)
 (hg:∀(s:Shared) (H:Hp) (C:Addr) (cl:List (Str×Addr)) (fp:List Addr),PG (X.cD s H scope (compEnvC scope cl C X.env) fp) tg g) (ht:∀(s:Shared) (H:Hp) (C:Addr) (cl:List (Str×Addr)) (fp:List Addr),nJ (X.cD s H scope (compEnvC scope cl C X.env) fp) ifs tt)
 (he:∀(s:Shared) (H:Hp) (C:Addr) (cl:List (Str×Addr)) (fp:List Addr) (xe:Value->Shared->Prop),Passes (bC X.prog X.w CE) (X.so s H scope (compEnvC scope cl C X.env) fp xe) E->PE (X.so s H scope (compEnvC scope cl C X.env) fp xe) elt te) (hs:∀x,foldedSetIterable iter X.env x=pure x)
 (h:pQ wi g tt te (own.map (·.2)) σ H Q)
 (zl:∀D C s' m H',Inv X pins σ H' s'->Q (.ref D) H'->s'.heap.Ns C m->gF X pins H' C->compPost (model X.prog X.w) X.A X.xe use Qf (.ref D) C (.ok .next) s') :
 wpAny (model X.prog X.w) X.A (comprehension (.ListComp elt [⟨tg,iter,ifs,0⟩] scope pos) scope X.env pos' (newList []) false (eval iter X.env) use) Qf X.xe s:=by
 have lV:∀y∈scope.names,y.2=.free->∃c,X.env.cells.lookup y.1=some c:=λy hy e=>by
  rcases ok.free y hy e with k | k
  ·exact I.ok.has _ (.inl k)
  ·exact I.ok.has _ (.inr k)
 refine wpAny_comprehension_free (use:=use) rfl hs (En lV) ok.kind (λy hy e=>by rw[ok.uniq y hy,e])
  (aI (hi pins s σ H _ I h) λxv s1 hx=>aI hx λu7 s2 h2=>?_)
 obtain⟨it,fp,tn,J,H2,e,I2,T,nq,f2,q⟩:=h2;subst e;refine wpAny_newObj_type (Eo ?_) (by show 0<=sizeLine;decide);generalize hD:s2.heap.objs.size=D;have zm:H2 D=none:=I2.ao.fresh (uP hD);obtain⟨W,⟨m0,w0⟩,turn⟩:=q D zm;generalize rQ:({s2 with heap:=s2.heap.push {cls:=.type "list",data:=.seq ([]:List Value).toArray}}:Shared)=s3;have I3:Inv X pins σ (upd H2 D (.lst [])) s3:=by rw[<-rQ];refine I2.laid (t':=s2.toks) (λb o e=>Heap.get?_push_of_some _ e) (uP hD) ⟨bY _,[],0,.nil,?_⟩;rw[<-hD];exact Heap.get?_push_size _ rfl
 have h3:s3.heap=s2.heap.push {cls:=.type "list",data:=.seq ([]:List Value).toArray}:=by rw[<-rQ]
 have sz:∀b∈fp,b<s2.heap.objs.size:=λb hb=>by obtain⟨o,e,_⟩:=T.obj _ _ nq b hb;exact Heap.lt_size e
 have f3:∀b∈fp,gF X pins (upd H2 D (.lst [])) b/\b<s3.heap.objs.size:=λb hb=>by have aL:=sz b hb;refine⟨⟨?_,(f2 b hb).2⟩,by rw[h3,Heap.size_push];exact yn aL⟩;rw[aw (by rw[<-hD];exact gE aL)];exact(f2 b hb).1
 have pI:tn 0 s3.heap:=T.keep _ _ _ nq λb _ o e=>by rw[h3];exact Heap.get?_push_of_some _ e
 have I4:=Ep I3 ok hN f3;have pg:=hg s3 (upd H2 D (.lst [])) s3.heap.objs.size (cellsFrom (s3.heap.objs.size+1) scope.names (dk X.env.cells scope.names [])) fp;have pt:=ht s3 (upd H2 D (.lst [])) s3.heap.objs.size (cellsFrom (s3.heap.objs.size+1) scope.names (dk X.env.cells scope.names [])) fp;have pY:s3.heap.objs.size∉bZ X.stack:=λz=>by obtain⟨_,o,ho,_⟩:=I3.stack.mem z;exact absurd (Heap.lt_size ho) (lQ _)
 have pe:=he s3 (upd H2 D (.lst [])) s3.heap.objs.size (cellsFrom (s3.heap.objs.size+1) scope.names (dk X.env.cells scope.names [])) fp (zQ X s3 (upd H2 D (.lst [])) fp s3.heap.objs.size CE E) (Pp rfl pY);show codeAny _ _ (.compStart (.ListComp elt [⟨tg,iter,ifs,0⟩] scope pos) 0 (.ref it) (.ref D) (compEnvC scope (cellsFrom (s3.heap.objs.size+1) scope.names (dk X.env.cells scope.names [])) s3.heap.objs.size X.env)) (compPost (model X.prog X.w) X.A X.xe use Qf (.ref D) s3.heap.objs.size) {s3 with heap:=pushCells (s3.heap.push {cls:=.type "dict",data:=.dict #[]}) scope.names};have rR:∀b∈fp,(upd H2 D (.lst [])) b=none:=λb hb=>(f3 b hb).1.1;generalize vz:compEnvC scope (cellsFrom (s3.heap.objs.size+1) scope.names (dk X.env.cells scope.names [])) s3.heap.objs.size X.env=ce at I4 pg pt pe ⊢;have cL:ce.locals=s3.heap.objs.size:=by subst vz;rfl
 generalize vA:upd H2 D (.lst [])=H3 at I3 I4 pg pt pe w0 rR f3;generalize zo:({s3 with heap:=pushCells (s3.heap.push {cls:=.type "dict",data:=.dict #[]}) scope.names}:Shared)=s4 at I4 ⊢;have mi:tn 0 s4.heap:=T.keep _ _ _ pI λb _ o e=>by rw[<-zo];exact pushCells_keeps _ _ _ _ (Heap.get?_push_of_some _ e)
 have jh:∀{σ':St} {H':Hp} {s':Shared},Inv (X.cD s3 H3 scope ce fp) [] σ' H' s'->(∀b∈fp,H' b=none)->∀b∈fp,gF (X.cD s3 H3 scope ce fp) [] H' b:=λ{σ' H' s'} I' hn b hb=>
  ⟨hn b hb,(I'.ok.lT b hb).1,I'.ok.lU b hb,.inl hb,λx c e=>(I'.ok.lT b hb).2 x c e,λp hp=>absurd (show p∈([]:List (Addr×Obj))++[] from hp) (by simp)⟩
 have loop:codeAny (model X.prog X.w) X.A (.compLoop (.ListComp elt [⟨tg,iter,ifs,0⟩] scope pos) 0 (.ref it) (.ref D) ce) (compPost (model X.prog X.w) X.A X.xe use Qf (.ref D) s3.heap.objs.size) s4:=by
  refine Ew (λn s'=>∃i H',Inv (X.cD s3 H3 scope ce fp) [] (wipe σ (own.map (·.2))) H' s'/\tn i s'.heap/\(∀b∈fp,H' b=none)/\W i n H') ?_ m0 ⟨0,H3,I4,mi,rR,w0⟩;rintro n s5 ⟨i,H5,I5,kK,n5,w5⟩;rcases turn i n H5 w5 with ⟨stop,qq⟩ | ⟨go,Nx,zp,step⟩
  ·have td:=T.done (X.cD s3 H3 scope ce fp) rfl rfl rfl hc i [] s5 _ H5 (λ_ _=>False) I5 (jh I5 n5) kK stop;refine jo td λr s6 zq=>?_;obtain⟨hr,I6⟩:=zq;subst hr;have I7:Inv X pins σ H5 s6:=I3.uT (ch:=fp) I6.os I6.base I6.ao I6.bare λb hb=>⟨(f3 b hb).1.2.2.2.1,(f3 b hb).1.2.1,(f3 b hb).1.2.2.2.2.1,(f3 b hb).1.2.2.2.2.2⟩;have nC:H5 s3.heap.objs.size=none:=by have z:H5 ce.locals=none:=I6.free;rw[cL] at z;exact z
   obtain⟨m,hn,_⟩:=I6.loc;have hn:s6.heap.Ns ce.locals m:=hn;rw[cL] at hn;exact zl D s3.heap.objs.size s6 m H5 I7 qq hn (I3.nj (bB _) nC)
  ·have ti:=T.item (X.cD s3 H3 scope ce fp) rfl rfl rfl hc i [] s5 _ H5 (λ_ _=>False) I5 (jh I5 n5) kK go;refine jo ti λr s6 zq=>?_;obtain⟨u,hr,h6⟩:=zq;subst hr;refine jo h6 λ_ s7 zq=>?_;obtain⟨x,H7,I7,r7,y7,nL,n7⟩:=zq;have zq:=I7.pinned (jh I7 n7) (T.obj _ _ nL);refine jo (pg _ s7 _ H7 x u _ zq r7 (step x H7 y7)) λ_ s8 zq=>?_;obtain⟨σ8,H8,I8,rS,q8⟩:=zq;refine jo (pt _ s8 σ8 H8 _ I8 q8) λb s9 zq=>?_;obtain⟨H9,I9,q9⟩:=zq;have fin:∀{s':Shared} {H':Hp},Inv (X.cD s3 H3 scope ce fp) ([]++pH fp s7.heap) σ8 H' s'->Nx H'->∃m,m<n/\∃i H',Inv (X.cD s3 H3 scope ce fp) [] (wipe σ (own.map (·.2))) H' s'/\tn i s'.heap/\(∀b∈fp,H' b=none)/\W i m H':=λ{s' H'} I' nx=>by
    obtain⟨m',hm,w'⟩:=zp H' nx;have rT:∀b∈fp,∀o,s7.heap.get? b=some o->s'.heap.get? b=some o/\H' b=none:=λb hb o e=>
     let z:=I'.pin (b,o) (i5 _ (i5 _ (u9 hb e)))
     ⟨z.1,z.2.1⟩
    have hl:(wipe σ (own.map (·.2))).length=σ8.length:=by rw[<-rS,vw]
    refine⟨m',hm,i+1,H',(I'.rF (pins:=[])).weak hl (λj v e=>?_),T.keep _ _ _ nL λb hb o e=>(rT b hb o e).1,λb hb=>?_,w'⟩
    ·rw[<-rS] at e;exact(vx e).1
    ·obtain⟨o,e,_⟩:=T.obj _ _ nL b hb;exact(rT b hb o e).2
   cases b with
   |false=>simp only[gi,dS] at q9 ⊢;exact fin I9 q9
   |true=>
    simp only[eM] at q9 ⊢;refine wpAny_mono (pe _ s9 σ8 H9 _ (I9.hG _) q9) (λz hX ⟨yv,N9,zr,vB,acc,zu,zw,nx⟩=>?_) λe hX hx=>?_
    ·exact Es (X:=X.cD s3 H3 scope ce fp) (zr.jf (X:=X.cD s3 H3 scope ce fp)) zu zw vB λOa zx=>fin zx nx
    ·exact Pr F I3 (λb hb=>(f3 b hb).1) (by rw[<-vz];rfl) pY hx
 exact codeAny_compStart_list loop (T.self X.A 0 _ _ _ mi loop)
theorem Fs{C:Addr}{E:XK}{elt tg iter:Expr}{ifs:List Expr}{scope:Scope}{own:List (Str×Nat)}{pos:Pos}{wi:TI}{g:TG}{tt:TT}{te:TE}(F:ju X C E)(hc:X.calm=true)(hN:X.N.Nodup)(hi:PI X tg iter wi)(ok:nI X.N X.env.scope scope own)
 (hg:∀(s:Shared) (H:Hp) (C:Addr) (cl:List (Str×Addr)) (fp:List Addr),PG (X.cD s H scope (compEnvC scope cl C X.env) fp) tg g) (ht:∀(s:Shared) (H:Hp) (C:Addr) (cl:List (Str×Addr)) (fp:List Addr),nJ (X.cD s H scope (compEnvC scope cl C X.env) fp) ifs tt)
 (he:∀(s:Shared) (H:Hp) (C':Addr) (cl:List (Str×Addr)) (fp:List Addr) (xe:Value->Shared->Prop),Passes (bC X.prog X.w C) (X.so s H scope (compEnvC scope cl C' X.env) fp xe) E->PE (X.so s H scope (compEnvC scope cl C' X.env) fp xe) elt te)
 (hs:∀x,foldedSetIterable iter X.env x=pure x:=by intro _;rfl) :
 PE X (.ListComp elt [⟨tg,iter,ifs,0⟩] scope pos) (pQ wi g tt te (own.map (·.2))):=by
 intro pins s σ H Q I h;rw[eval_ListComp];refine Pz F hc hN I hi ok hg ht he hs h λD C s' m H' I' q hn f=>⟨m,hn,λOb sb=>?_⟩;obtain⟨f0,f1,f2,f3,f4,f5⟩:=f;exact⟨.ref D,H',I'.turned (t':=s'.toks) (λb o hb e=>(sb.2 b hb).trans e) f0 f1 f3 f4 f5,rfl,q⟩
end
section
variable {prog:Program}{w:World}{K:Type}[DecidableEq K]{knd:HeapKind prog w K}{A:Around}{E:Value->Shared->Prop}{s:Shared}
theorem Ft:∀{xs:List (K×Addr×Value)} {j:Nat} {k:K} {p:Addr×Value},(xs.map (·.1)).Nodup->xs[j]?=some (k,p)->xs.eraseIdx j=xs.filter λx=>decide (x.1≠k)
 |[],j,k,p,_,h=>by simp at h
 |x::r,0,k,p,hn,h=>by
  have e:x=(k,p):=by simpa using h
  subst e;rw[bX,eL] at hn;rw[List.eraseIdx_zero,List.tail_cons,eK,if_neg (by simp)];refine(List.filter_eq_self.mpr λy hy=>?_).symm;simp only[ne_eq,decide_not,C3,decide_eq_false_iff_not];exact λe=>hn.1 (cU.mpr ⟨y,hy,e⟩)
 |x::r,j+1,k,p,hn,h=>by
  rw[bX,eL] at hn;have h':r[j]?=some (k,p):=by simpa using h
  have bG:x.1≠k:=λe=>hn.1 (cU.mpr ⟨(k,p),cE h',e.symm⟩);rw[List.eraseIdx_cons_succ,eK,if_pos (by simp[bG]),Ft hn.2 h']
theorem Fu{α β:Type}(f:α->β):∀(l:List α) (j:Nat),(l.map f).eraseIdx j=(l.eraseIdx j).map f
 |[],_=>rfl
 |_::_,0=>rfl
 |a::r,j+1=>by show f a::(r.map f).eraseIdx j=f a::(r.eraseIdx j).map f;rw[Fu f r j]
theorem PB{d a:Addr}{xs:List (K×Addr×Value)}{k:K}{p:Addr×Value}{Q:Option DictEntry->Shared->Prop}(hu:knd.room A)(gH:knd.is s.heap k a)(hm:s.heap.DictOfH knd d xs)(hp:atKey xs k=some p)(hsz:xs.length<=sizeLine)
 (hQ:∀h' e,e.val=p.2->h'.DictOfH knd d (xs.filter λx=>decide (x.1≠k))->Heap.SameBut d s.heap h'->Q (some e) {s with heap:=h',toks:=s.toks+knd.draws k}) :
 wpAny (model prog w) A (Builtin.Dict.takeOut d (.ref a)) Q E s:=by
 obtain⟨o,es,ep,ho,hc,hd,he,nV,hn⟩:=hm;unfold Builtin.Dict.takeOut
 try with_reducible refine wpAny_holding ?_
 refine wpAny_bind (knd.pyHash hu gH (wpAny_bind (wpAny_dictFind_heap (s:={s with toks:=s.toks+knd.draws k}) hu gH ho hd he nV hn ?_ ?_)))
 ·intro gI;rw[atKey_none_of_get gI] at hp;cases hp
 ·intro j q hj;have hq:q=p:=by have:=atKey_of_get hn hj;rw[hp] at this;exact(a4 this).symm
  subst hq;refine wpAny_bind (wpAny_dictEntries (s:={s with toks:=s.toks+knd.draws k}) ho hd ?_);rw[entry_at he j,hj];show wpAny _ _ (updateDictKeys d _ _ >>= _) _ _ _;refine wpAny_bind (wpAny_updateDictKeys (hz:=by have e:=size_of_entries he;omega) (s:={s with toks:=s.toks+knd.draws k}) ho hd (wpAny_pure (hQ _ _ rfl ⟨_,_,ep+1,Heap.get?_update_self _ ho (Obj.isFreed_of_dict (Obj.data_mapDictKeys hd _)),
   hc.mapDictKeys _,Obj.data_mapDictKeys hd _,?_,?_,?_⟩ (Heap.SameBut.update ..))))
  ·rw[Array.toList_eraseIdxIfInBounds,he,<-Ft hn hj];exact Fu _ _ _
  ·intro x hx;exact knd.keeps (nV x (gj.mp hx).1) ho hd (Heap.SameBut.update ..)
  ·exact hn.sublist (List.Sublist.map _ List.filter_sublist)
theorem PD(knd:HeapKind prog w K)(d a:Addr) :
 MeetsIn prog w (Builtin.«dict.pop» ⟨[.ref d,.ref a],[]⟩) (λA R s=>knd.room A.in1/\∃k xs p,knd.is s.heap k a/\s.heap.DictOfH knd d xs/\xs.length<=sizeLine/\atKey xs k=some p/\
  ∀h',h'.DictOfH knd d (xs.filter λx=>decide (x.1≠k))->Heap.SameBut d s.heap h'->R (.ok (.ret p.2)) {s with heap:=h',toks:=s.toks+knd.draws k}):=
 .of_wp λA R s ⟨hu,k,xs,p,gH,hm,hsz,hp,h⟩=>by
  unfold Builtin.«dict.pop»;refine wpAny_bind ?_;unfold Builtin.Dict.keyAndDefault;refine wpAny_bind (wpAny_notOrdered_dict hm.typeIs ?_);show wpAny _ _ (pure (d,Value.ref a,none)) _ _ s;refine wpAny_pure ?_;have bG:xs≠[]:=λz=>by rw[z] at hp;cases hp
  obtain⟨o,es,ep,ho,hc,hd,he,nV,hn⟩:=id hm;have PF:es.isEmpty=false:=by have e:=size_of_entries he;have e2:0<xs.length:=List.length_pos_iff.mpr bG;rw[Array.isEmpty_eq_false_iff];intro z;rw[z] at e;simp at e;omega
  have kp:(keyPart (Value.ref a)).isSome=false:=rfl;dsimp only;simp only[kp,gi,dS];refine wpAny_bind (wpAny_dictEntries ho hd (wpAny_bind (wpAny_pure ?_)));rw[PF];simp only[gi,dS];refine wpAny_bind (PB hu gH hm hp hsz λh' e PH PJ PK=>?_);simp only[Option.isNone_some,gi,dS];exact wpAny_bind (wpAny_letGo (wpAny_pure ⟨e.val,rfl,by rw[PH];exact h h' PJ PK⟩))
theorem PL(knd:HeapKind prog w K)(d a:Addr)(dflt:Value)(nW:(d==sysModules)=false) :
 MeetsIn prog w (Builtin.«dict.setdefault» ⟨[.ref d,.ref a,dflt],[]⟩) (λA R s=>knd.room A.in1/\∃k xs,knd.is s.heap k a/\s.heap.DictOfH knd d xs/\xs.length<=sizeLine/\
  (∀p,atKey xs k=some p->R (.ok (.ret p.2)) {s with toks:=s.toks+knd.draws k})/\
  (atKey xs k=none->∀h',h'.DictOfH knd d (xs++[(k,a,dflt)])->Heap.SameBut d s.heap h'->R (.ok (.ret dflt)) {s with heap:=h',toks:=s.toks+knd.draws k})):=
 .of_wp λA R s ⟨hu,k,xs,gH,hm,hsz,h1,h2⟩=>by
  unfold Builtin.«dict.setdefault»;refine wpAny_bind ?_;unfold Builtin.Dict.keyAndDefault;refine wpAny_bind (wpAny_notOrdered_dict hm.typeIs ?_);show wpAny _ _ (pure (d,Value.ref a,some dflt)) _ _ s;refine wpAny_pure ?_;dsimp only;rw[if_neg (by rw[nW];exact dj)];obtain⟨o,es,ep,ho,hc,hd,he,nV,hn⟩:=id hm;have fin:wpAny (model prog w) A.in1 (dictSetDefault d (.ref a) dflt) (λv s'=>R (.ok (.ret v)) s') (λe s'=>R (.error e) s') s:=by
   unfold dictSetDefault
   try with_reducible refine wpAny_holding ?_
   refine wpAny_bind (knd.pyHash hu gH (wpAny_bind (wpAny_dictFind_heap (s:={s with toks:=s.toks+knd.draws k}) hu gH ho hd he nV hn ?_ ?_)))
   ·intro gI;have PM:k∉xs.map (·.1):=not_mem_keys_of_get gI;refine wpAny_bind (wpAny_rule (wpAny_bind (wpAny_updateDictKeys (hz:=by have e:=size_of_entries he;omega) (s:={s with toks:=s.toks+knd.draws k}) ho hd (wpAny_pure (h2 (atKey_none_of_get gI) _ ⟨_,_,ep+1,Heap.get?_update_self _ ho (Obj.isFreed_of_dict (Obj.data_mapDictKeys hd _)),
     hc.mapDictKeys _,Obj.data_mapDictKeys hd _,?_,?_,?_⟩ (Heap.SameBut.update ..))))))
    ·simp[he,entryOfKey]
    ·intro x hx;rcases gm.mp hx with hx | hx
     ·exact knd.keeps (nV x hx) ho hd (Heap.SameBut.update ..)
     ·simp only[gh] at hx;subst hx;exact knd.keeps gH ho hd (Heap.SameBut.update ..)
    ·rw[bW,List.nodup_append];refine⟨hn,by simp,?_⟩;intro x hx y hy;simp only[bX,rk,gh] at hy;subst hy;exact λe=>PM (e▸hx)
   ·intro j p hj;refine wpAny_bind (wpAny_dictEntries (s:={s with toks:=s.toks+knd.draws k}) ho hd ?_);rw[entry_at he j,hj];exact wpAny_bind (wpAny_rule (wpAny_pure (h1 p (atKey_of_get hn hj))))
  show wpAny _ _ (dictSetDefault d (.ref a) dflt >>= λv=>ret v) _ _ s;exact wpAny_bind (wpAny_mono fin (λv s' q=>wpAny_pure ⟨v,rfl,q⟩) λ_ _ q=>q)
end
end L2
namespace HT
open PySem PyProof.Rows
section
open PySem.SeqAt
open PySem.AutoSeq1 (wpAny_loadPart')
open PySem.MeetsSeq PySem.MeetsSeq2 PySem.MeetsSeq3
variable {prog:Program}{w:World}{A:Around}{E:Value->Shared->Prop}{s:Shared}
theorem PN{t sl:Addr}{items:Array Value}{vl vu:Value}{lo hi:Option Int}{Q:Value->Shared->Prop}(ht:IsTup s.heap t items)(hs:s.heap.IsSliceOf sl vl vu .none)(pl:IsPart vl lo)(pu:IsPart vu hi)
 (hw:bb items.size 0 lo=0/\bb items.size items.size hi=items.size) (h:Q (.ref t) s):wpAny (model prog w) A (getItem (.ref t) (.ref sl)) Q E s:=by
 obtain⟨os,nB,aZ,rM⟩:=id hs;have yX:s.TypeIs (.ref sl) "slice":=⟨os,nB,aZ⟩;unfold getItem
 try with_reducible refine wpAny_holding ?_
 first|refine wpAny_bind (wpAny_pure ?_) | skip
 refine wpAny_bind (wpAny_sequenceKey ht.typeIs (by decide) ?_);refine wpAny_bind (wpAny_callSpecial?_slot (name:=Str.ofString "__getitem__") ht.typeIs pd
  (wpAny_call_entry pd ht.typeIs entry_tuple_getitem ?_ (args_tuple_getitem _ _)))
 show wpAny _ _ (Builtin.Tuple.tupleItemsOf (.ref t) >>= _) _ _ s;refine wpAny_bind (tupleItemsOf_ ht ?_);refine wpAny_bind (wpAny_typeOf yX ?_);rw[if_pos (by decide)];refine wpAny_bind (Eb hs pl pu ?_);show wpAny _ _ (if (((bb items.size 0 lo:Nat):Int)==0&&(1:Int)==1&&(bb items.size items.size hi-bb items.size 0 lo)==items.size)=true then _ else _) _ _ s;rw[if_pos (by rw[hw.1,hw.2];simp)];have fin:wpAny (model prog w) A.in1 (Builtin.Tuple.tupleIsExact (.ref t)) (λb s'=>b=true/\s'=s) (λe s'=>False) s:=by unfold Builtin.Tuple.tupleIsExact;exact wpAny_bind (wpAny_typeOf ht.typeIs (wpAny_pure ⟨by decide,rfl⟩))
 refine wpAny_bind (wpAny_mono fin (λb s' q=>?_) λ_ _ q=>q.elim);obtain⟨rfl,rfl⟩:=q;simp only[eM]
 first
  |exact wpAny_bind (wpAny_rule (wpAny_pure ⟨_,rfl,wpAny_pure h⟩))
  |exact wpAny_bind (wpAny_rule (wpAny_bind (wpAny_pure (wpAny_pure ⟨_,rfl,wpAny_pure h⟩))))
end
end HT
namespace L2
open PySem PySem.Spec PyProof.Rows
theorem KT.drop{H:Hp}{kvs:List (List Key×V)}{xs:List (List Key×Addr×Value)}(r:KT H kvs xs)(k:List Key):KT H (d7 kvs k) (xs.filter λx=>decide (x.1≠k)):=by
 induction r with
 |nil=>exact .nil
 | @cons p q ps qs h t ih=>
  unfold d7 at ih ⊢;rw[eK,eK,<-h.1];by_cases e:p.1=k
  ·rw[if_neg (by simp[e]),if_neg (by simp[e])];exact ih
  ·rw[if_pos (by simp[e]),if_pos (by simp[e])];exact .cons h ih
section
variable {X:Cx}{pins:List (Addr×Obj)}{σ:St}{H:Hp}{s:Shared}{a:Addr}{kvs:List (List Key×V)}{k:List Key}{u:Value}{A:Around}{E:Value->Shared->Prop}
theorem PQ{v:V}{b:Addr}{Q:Value->Shared->Prop}(hu:A.units+1<cLine)(I:Inv X pins σ H s)(e:H a=some (.dT kvs))(eb:H b=some (.tup (k.map kV)))(l:aV kvs k=some v)
 (h:∀w' s',Inv X pins σ (upd H a (.dT (d7 kvs k))) s'->RelV v w'->Q w' s'):wpAny (model X.prog X.w) A (call (.builtin "dict.pop") [.ref a,.ref b]) Q E s:=by
 obtain⟨z,hd,xs,rel,dd⟩:=zz I.ao e;obtain⟨w',hw,d6⟩:=eX.some_of (v:=v) (o:=(atKey xs k).map (·.2)) (by rw[<-l];exact rel.val k);obtain⟨p,hp,PR⟩:∃p,atKey xs k=some p/\p.2=w':=by
  cases q:atKey xs k with
  |none=>rw[q] at hw;cases hw
  |some p=>rw[q] at hw;exact⟨p,rfl,a4 hw⟩
 subst PR;refine call_meetsIn PySem.F.slot_dict_pop dd.typeIs PySem.F.entry_dict_pop (PySem.F.args_dict_pop_2 _ _) (PD (tupleKind (eA X.prog X.w)) a b)
  ⟨tupleKind_room_in1 hu,k,xs,p,kO I.ao eb,dd,by rw[<-Paired.length rel];exact z,hp,λh' mn hs=>h p.2 _ ?_ d6⟩
 obtain⟨q,es,ep,hq,h2,h3,h4,_,h5⟩:=mn;refine vE I (by rw[e];exact True.intro) hs ⟨q,hq⟩ ⟨aS (Of kvs k) z,hd,_,(rel.drop k).keeps λc ys ec=>?_,q,es,ep,hq,h2,h3,h4,h5⟩;rw[aw (b9 ec e (λz=>nomatch z))];exact ec
theorem PU{b:Addr}{z:V}{r:Value}{Q:Value->Shared->Prop}(hu:A.units+1<cLine)(I:Inv X pins σ H s)(e:H a=some (.dT kvs))(eb:H b=some (.tup (k.map kV)))(rz:RelV z r)(hl:kvs.length<sizeLine)
 (h1:∀v w' s',aV kvs k=some v->Inv X pins σ H s'->RelV v w'->Q w' s') (h2:∀s',aV kvs k=none->Inv X pins σ (upd H a (.dT (putK kvs k z))) s'->Q r s') :
 wpAny (model X.prog X.w) A (call (.builtin "dict.setdefault") [.ref a,.ref b,r]) Q E s:=by
 obtain⟨hz,hd,xs,rel,dd⟩:=zz I.ao e;refine call_meetsIn Zi dd.typeIs PySem.F.entry_dict_setdefault (PySem.F.args_dict_setdefault_3 _ _ _) (PL (tupleKind (eA X.prog X.w)) a b r hd)
  ⟨tupleKind_room_in1 hu,k,xs,kO I.ao eb,dd,by rw[<-Paired.length rel];exact hz,λp hp=>?_,λhn h' mn hs=>?_⟩
 ·have q:=rel.val k;rw[hp] at q;cases l:aV kvs k with
  |none=>rw[l] at q;exact False.elim q
  |some v=>rw[l] at q;exact h1 v p.2 _ l (I.tok _) q
 ·have q:=rel.val k;rw[hn] at q;have l:aV kvs k=none:=by
   cases l:aV kvs k with
   |none=>rfl
   |some v=>rw[l] at q;exact False.elim q
  refine h2 _ l ?_;obtain⟨q,es,ep,hq,g2,g3,g4,_,g5⟩:=mn;have du:(putK kvs k z).length<=sizeLine:=by have:=rU kvs k z;omega
  have rp:=rel.put k eb rz;rw[storedH_new hn] at rp;refine vE I (by rw[e];exact True.intro) hs ⟨q,hq⟩ ⟨du,hd,_,rp.keeps λc ys ec=>?_,q,es,ep,hq,g2,g3,g4,g5⟩;rw[aw (b9 ec e (λz=>nomatch z))];exact ec
theorem PV{Q:Value->Shared->Prop}(I:Inv X pins σ H s)(e:Rd H a (.dT kvs))(h:∀t s',Inv X pins σ H s'->Q (.int kvs.length t) s'):wpAny (model X.prog X.w) A (call (.builtin "len") [.ref a]) Q E s:=by
 obtain⟨z,hd,xs,rel,dd⟩:=kP I.ao e;obtain⟨o,es,ep,ho,hc,dm,he,nV,hn⟩:=id dd;have hsz:es.size=kvs.length:=by rw[size_of_entries he,<-Paired.length rel]
 refine Calls.call_function_entry kind_len plain_len entry_len (args_len1 _) ?_;unfold Builtin.«len»;refine wpAny_bind (m:=oneArg "len" _) (wpAny_pure ?_);refine wpAny_bind (m:=callSpecial? (.ref a) (Str.ofString "__len__")) (wpAny_callSpecial?_slot (name:=Str.ofString "__len__") dd.typeIs PySem.F.slot_dict_len
  (wpAny_call_entry PySem.F.slot_dict_len dd.typeIs PySem.F.entry_dict_len ?_ (PySem.F.args_dict_len_1 _)))
 show wpAny _ _ (dictSize a >>= _) _ _ s;unfold dictSize;refine wpAny_bind (wpAny_bind (wpAny_dictEntries ho dm (wpAny_pure ?_)));show wpAny _ _ (Builtin.Dict.pendingCount a >>= _) _ _ s;refine wpAny_bind (wpAny_pendingCount_other hd ?_);refine wpAny_bind (wpAny_mkInt (wpAny_pure ⟨_,rfl,?_⟩));rw[Nat.add_zero,hsz];have my:(kvs.length:Int)<2 ^ 63:=by rw[sizeLine_eq] at z;omega
 show wpAny _ _ _ _ _ {s with toks:=s.toks+1};refine wpAny_bind (wpAny_holding (wpAny_pure ?_));refine wpAny_bind (wpAny_letGo ?_);show wpAny _ _ (if ((kvs.length:Nat):Int)<0 then _ else _) _ _ _;rw[if_neg (by omega)];show wpAny _ _ (if ((kvs.length:Nat):Int)≥2 ^ 63 then _ else _) _ _ _;rw[if_neg (by omega)];exact wpAny_bind (wpAny_mkInt (wpAny_pure ⟨_,rfl,h _ _ (I.tok _)⟩))
end
noncomputable def Fv(td ty:TE):TE:=λσ H Q=>td σ H λx H1=>∃a,x=.ref a/\rY H1 a/\ty σ H1 λy H2=>∃kvs k b v,H2 a=some (.dT kvs)/\y=.ref b/\H2 b=some (.tup (k.map kV))/\aV kvs k=some v/\Q v (upd H2 a (.dT (d7 kvs k)))
noncomputable def Fw(td ty tx:TE):TE:=λσ H Q=>td σ H λx H1=>∃a,x=.ref a/\rY H1 a/\ty σ H1 λy H2=>tx σ H2 λz H3=>∃kvs k b,H3 a=some (.dT kvs)/\y=.ref b/\H3 b=some (.tup (k.map kV))/\kvs.length<sizeLine/\
 (∀v,aV kvs k=some v->Q v H3)/\(aV kvs k=none->Q z (upd H3 a (.dT (putK kvs k z))))
section
variable {X:Cx}{o e f:Expr}{apos bN:Pos}{td ty tx:TE}
theorem PX(hu:X.A.units+1<cLine)(ho:PE X o td)(he:PE X e ty)(m:M1 X o "pop" apos e bN):PE X (.Call (.Attribute o "pop" apos) [e] [] bN) (Fv td ty):=by intro pins s σ H Q I h;refine wpAny_Call_method m.base m.rX m.line CP PySem.F.slot_dict_pop PySem.F.type_dict_pop (aI (ho pins s σ H _ I h) λu s1 zq=>?_);obtain⟨x,H1,I1,rx,a,ex,d,q1⟩:=zq;subst ex;obtain rfl:u=Value.ref a:=rx;obtain⟨t1,t2,_⟩:=vI I1 d;refine⟨t1,t2,?_⟩;rw[m.trees];refine Calls.callWith_builtin rfl (Calls.evalArgs_plain (Calls.spliced_cons (aI (he pins s1 σ H1 _ I1 q1) λiv s2 zq=>?_)));obtain⟨y,H2,I2,ry,kvs,k,b,v,ea,ey,eb,l,q2⟩:=zq;refine Calls.spliced_nil ?_;subst ey;obtain rfl:iv=Value.ref b:=ry;exact PQ hu I2 ea eb l λw' s3 I3 d6=>⟨v,_,I3,d6,q2⟩
theorem PY(hu:X.A.units+1<cLine)(ho:PE X o td)(he:PE X e ty)(hf:PE X f tx)(m:M2 X o "setdefault" apos e f bN):PE X (.Call (.Attribute o "setdefault" apos) [e,f] [] bN) (Fw td ty tx):=by
 intro pins s σ H Q I h;refine wpAny_Call_method m.base m.rX m.line CP Zi PySem.F.type_dict_setdefault (aI (ho pins s σ H _ I h) λu s1 zq=>?_);obtain⟨x,H1,I1,rx,a,ex,d,q1⟩:=zq;subst ex;obtain rfl:u=Value.ref a:=rx;obtain⟨t1,t2,_⟩:=vI I1 d;refine⟨t1,t2,?_⟩;rw[m.trees];refine Calls.callWith_builtin rfl (Calls.evalArgs_plain (Calls.spliced_cons (aI (he pins s1 σ H1 _ I1 q1) λiv s2 ⟨y,H2,I2,ry,q2⟩=>
  Calls.spliced_cons (aI (hf pins s2 σ H2 _ I2 q2) λfv s3 ⟨z,H3,I3,rz,kvs,k,b,ea,ey,eb,hl,q3,q4⟩=>Calls.spliced_nil ?_))))
 subst ey;obtain rfl:iv=Value.ref b:=ry;exact PU hu I3 ea eb rz hl (λv w' s4 l I4 d6=>⟨v,H3,I4,d6,q3 v l⟩) λs4 l I4=>⟨z,_,I4,rz,q4 l⟩
end
section
variable {X:Cx}
theorem PZ:jY X (.builtin "len") (λxs H Q=>∃a kvs,xs=[V.ref a]/\Rd H a (.dT kvs)/\Q (.int kvs.length) H):=by intro pins s σ H xs us Q I r h;obtain⟨a,kvs,rfl,ha,q⟩:=h;obtain⟨u,rfl,ru⟩:=vals1 r;cases ru;exact PV I ha λt s' I'=>⟨.int kvs.length,H,I',⟨t,rfl⟩,q⟩
noncomputable def P0(td:TE):TI:=λσ H R=>td σ H λx H1=>∃d kvs,x=.ref d/\H1 d=some (.dT kvs)/\∀o,R (kR d o kvs) (upd H1 d (.bz o (.dT kvs)))
theorem P1{tg e:Expr}{td:TE}(he:PE X e td):PI X tg e (P0 td):=by intro pins s σ H R I h;refine aI (he pins s σ H _ I h) λu s1 zq=>?_;obtain⟨x,H1,I1,rx,d,kvs,ex,hd,q⟩:=zq;subst ex;obtain rfl:u=Value.ref d:=rx;obtain⟨o,I2⟩:=I1.lock hd True.intro;obtain⟨hs,iI,hx,es,ep,dm,hsz,ent⟩:=I2.vL ag;refine zC hs iI hx dm (vK (tk:=s1.toks) I2 _ (ET _ dm) ⟨_,Heap.get?_push_size _ rfl,rfl,?_⟩ (q o));rw[hsz]<;>rfl
noncomputable def P2(K:PySem.W.Frag):V->List V->Hp->VK->Prop:=λx vs H Q=>∃l b xs zs,x=.ref l/\vs=[.ref b]/\H l=some (.lst xs)/\aQ K H b zs/\xs.length+zs.length<=sizeLine/\Q .ak (upd H l (.lst (xs++zs)))
theorem Fx:y8 X "list.extend" (P2 X.K):=by
 intro pins s σ H x vs v us Q I rx rv h;obtain⟨l,b,xs,zs,rfl,rfl,hH,hB,hz,q⟩:=h;cases rx;obtain⟨u,rfl,ru⟩:=rv.one;cases ru;obtain⟨z,au,n,r,hl,e⟩:=I.pN hH;obtain⟨hU,r2,⟨o2,e2,c2,n2,d2⟩,z2⟩:=I.tuple hB;have fU:=r2.length;have hsz:au.toArray.size+hU.toArray.size<=sizeLine:=by rw[cI,cI];omega
 have zb:¬(!au.toArray.isEmpty&&Builtin.List.listTooLong (au.toArray.size+hU.toArray.size))=true:=by rw[Eg hsz,yq];exact dj
 have Et:(au.toArray++hU.toArray).size<=sizeLine+1:=by rw[Array.size_append];omega
 have zR:au.toArray.size<=sizeLine:=by omega
 refine wpAny_call_entry m4 ⟨_,e,rfl⟩ PySem.F.entry_list_extend ?_ (PySem.F.args_list_extend_2 _ _);show wpAny _ _ (Builtin.List.listExtendWith (.ref l) (.ref b) .none) _ _ s;unfold Builtin.List.listExtendWith;refine wpAny_bind (wpAny_typeOf ⟨o2,e2,c2⟩ ?_);have h1:(Builtin.List.listSameRef (.ref l) (.ref b)||Value.type "tuple"==Value.type "list"||Value.type "tuple"==Value.type "tuple")=true:=by simp
 simp only[h1,eM];refine wpAny_bind ?_;unfold Builtin.List.listItems;refine wpAny_bind (wpAny_seqItems e2 d2 (wpAny_pure ?_));refine wpAny_bind ?_;refine wpAny_bind (wpAny_seqItems e rfl (wpAny_pure ?_));rw[if_neg zb];show wpAny _ _ (updateSeq l (·++hU.toArray) >>= λ_=>ret .none) _ _ s;refine wpAny_bind (wpAny_updateSeq e rfl (hz:=zR) (_hz':=Et) ?_);refine wpAny_pure ⟨_,rfl,.ak,_,I.y9 (t':=s.toks) (its':=au++hU) hH e (by simp) (r.append r2) ?_,rfl,q⟩;rw[aX];omega
noncomputable def Fy(K:PySem.W.Frag):V->List V->Hp->VK->Prop:=λx xs H Q=>∃(a:Addr) (ns:List Int) (k:Int),x=V.ref a/\xs=[.int k]/\ax K H a (ns.map V.int)/\Q (.int (ns.count k:Nat)) H
theorem P4:nG X "list.count" (Fy X.K):=by intro pins s σ H x vs v us Q I rx rv h;obtain⟨a,ns,k,rfl,rfl,hl,q⟩:=h;cases rx;obtain⟨u,rfl,ru⟩:=Vals.one rv;obtain⟨t,rfl⟩:=ru;obtain⟨au,r,pl,hz⟩:=I.list hl;exact count_list_ints pl.isList (intsAre_of r) ⟨.int _,H,I.tok _,⟨_,rfl⟩,q⟩
noncomputable def P5(K:PySem.W.Frag):V->Option Int->Option Int->Hp->VK->Prop:=λx lo hi H Q=>∃a xs,x=.ref a/\H a=some (.tup xs)/\Q (.ref a) H/\HT.bb xs.length 0 lo=0/\HT.bb xs.length xs.length hi=xs.length
theorem P6:me X (P5 X.K):=by
 intro pins s σ H x v vl vu lo hi sl Q I rx hs pl pu h;obtain⟨a,xs,rfl,hx,q,h0,h1⟩:=h;cases rx;obtain⟨au,r,ht,hz⟩:=I.tuple (aQ.of (K:=X.K) hx);refine⟨"tuple",_,pd.lookup,ht.typeIs,?_⟩;have hlen:au.toArray.size=xs.length:=by rw[cI];exact r.length.symm
 exact HT.PN ht hs pl pu (by rw[hlen];exact⟨h0,h1⟩) ⟨.ref a,H,I,rfl,q⟩
end
end L2
namespace nX
open PySem PySem.Spec PyProof.Rows
theorem P7:typeLookup (.type "tuple") "__reversed__"=pure none:=am_miss_of_fast (by first|decide +kernel | rfl)
theorem P8:TypeCalled "reversed" "reversed.__new__" "object.__init__":=
 ⟨by decide +kernel,PySem.F.create_reversed,⟨_,_,PySem.F.mro_reversed⟩,PySem.F.made_reversed,PySem.F.plain_reversed_new,PySem.F.sub_reversed_self,
  .of (owner:="object") (n:="__init__") (by rw[typeLookup_type,builtinLookup_eq_fast];kernel_rfl) (by decide +kernel) (by decide +kernel) (by decide +kernel) (by first|exact .inl (by decide +kernel) | exact .inr (by decide +kernel)) (by rw[isSubtype_type];kernel_rfl)⟩
theorem Fz:Manifest.owners.lookup (String.ofList ['d','e','s','r','e','v','e','r'].reverse)=some Manifest.sig_reversed:=by kernel_rfl
theorem slot_next:Slot "reversed" "__next__" "reversed.__next__":=
 .of (owner:="reversed") (n:="__next__") (by rw[typeLookup_type,builtinLookup_eq_fast];kernel_rfl) (by decide +kernel) (by decide +kernel) (by decide +kernel)
  (by first|exact .inl (by decide +kernel) | exact .inr (by decide +kernel)) (by rw[isSubtype_type];kernel_rfl)
theorem entry_next:entryFor table "reversed.__next__"=some Builtin.«reversed.__next__»:=entryFor_of_tree (by kernel_rfl)
theorem args_next(a:Value):argsOk "reversed.__next__" ⟨[a],[]⟩:=by unfold argsOk;rw[signature?_of (id:="reversed.__next__") (n:=['_','_','t','x','e','n','_','_']) (o:=['d','e','s','r','e','v','e','r']) (by kernel_rfl) Fz];kernel_rfl
theorem FA:Slot "reversed" "__iter__" "reversed.__iter__":=
 .of (owner:="reversed") (n:="__iter__") (by rw[typeLookup_type,builtinLookup_eq_fast];kernel_rfl) (by decide +kernel) (by decide +kernel) (by decide +kernel)
  (by first|exact .inl (by decide +kernel) | exact .inr (by decide +kernel)) (by rw[isSubtype_type];kernel_rfl)
theorem P9(a:Value):argsOk "reversed.__iter__" ⟨[a],[]⟩:=by unfold argsOk;rw[signature?_of (id:="reversed.__iter__") (n:=['_','_','r','e','t','i','_','_']) (o:=['d','e','s','r','e','v','e','r']) (by kernel_rfl) Fz];kernel_rfl
theorem Qa:entryFor table "reversed.__iter__"=some Builtin.«dict_keyiterator.__iter__»:=
 entryFor_alias (id':="dict_keyiterator.__iter__") (by kernel_rfl) (by first|rfl | decide +kernel | (unfold String.splitOn;simp +decide [String.splitOnAux])) (by decide +kernel) (by kernel_rfl)
theorem sub_tuple_dict:isSubtype (.type "tuple") (.type "dict")=pure false:=by rw[isSubtype_type];kernel_rfl
noncomputable def nY(h:Heap)(a t:Addr)(i:Int):Prop:=∃o,h.get? a=some o/\o.cls=.type "reversed"/\o.data=.fields #[.ref t,rawInt i]
section
variable {prog:Program}{w:World}{A:Around}{E:Value->Shared->Prop}{s:Shared}
theorem nY.typeIs{a l:Addr}{i:Int}(x:nY s.heap a l i):s.TypeIs (.ref a) "reversed":=let ⟨o,ho,hc,_⟩:=x;⟨o,ho,hc⟩
theorem Qb{t:Addr}{items:Array Value}{Q:Value->Shared->Prop}(ht:IsTup s.heap t items)(my:(items.size:Int)<2 ^ 63)
 (h:∀tk,Q (.ref s.heap.objs.size) {s with heap:=s.heap.push {cls:=.type "reversed",data:=.fields #[.ref t,rawInt ((items.size:Int)-1)]},toks:=tk}):wpAny (model prog w) A (call (.type "reversed") [.ref t]) Q E s:=by
 refine callType_newIn (S:=λA R s'=>s'=s/\∀tk,R (.ok (.ret (.ref s.heap.objs.size))) {s with heap:=s.heap.push {cls:=.type "reversed",data:=.fields #[.ref t,rawInt ((items.size:Int)-1)]},toks:=tk}) P8 (by decide) (PySem.F.typeCall_reversed_1 _) (PySem.F.newCall_reversed_1 _) (λobj=>PySem.F.args_object_init_2 obj _) PySem.F.entry_reversed_new
  (.of_wp λA R s' ⟨e,hR⟩=>?_) ⟨rfl,λtk=>⟨⟨_,Heap.get?_push_size _ rfl,rfl⟩,h tk⟩⟩
 subst e;unfold Builtin.«reversed.__new__»;refine wpAny_bind (wpAny_of_eq (newClass_reversed _) ?_)
 try dsimp only
 refine wpAny_bind (wpAny_of_eq (a:=()) (by first|rfl | kernel_rfl) ?_);refine wpAny_bind (wpAny_of_eq (a:=()) (by first|rfl | kernel_rfl) ?_)
 try dsimp only
 refine wpAny_bind (wpAny_specialOf ht.typeIs P7 ?_)
 try dsimp only
 refine wpAny_bind ?_;show wpAny _ _ (isInstance (.ref t) (.type "dict") >>= _) _ _ _;refine wpAny_bind (wpAny_isInstance (b:=false) ht.typeIs sub_tuple_dict ?_);show wpAny _ _ (specialOf (.ref t) "__getitem__" >>= _) _ _ _;refine wpAny_bind (wpAny_specialOf ht.typeIs pd.lookup ?_);refine wpAny_pure ?_;show wpAny _ _ (call (.builtin "len") [.ref t] >>= _) _ _ _;refine wpAny_bind (PyProof.Rows.len_tuple ht my ?_);refine wpAny_bind (wpAny_of_eq (a:=some (items.size:Int)) (by first|rfl | kernel_rfl) ?_)
 try dsimp only
 refine wpAny_bind (m:=Builtin.SmallTypes.newRecord _ _) ?_;show wpAny _ _ (newObj (.type "reversed") (.fields #[.ref t,rawInt ((items.size:Int)-1)])) _ _ _;refine wpAny_newObj_type ?_ (by size_fits);exact wpAny_pure ⟨_,rfl,hR _⟩
theorem Qc{it t:Addr}{i:Nat}{items:Array Value}{x:Value}{Q:Option Value->Shared->Prop}(hit:nY s.heap it t (i:Int))(ht:IsTup s.heap t items)(hx:items[i]?=some x)(my:(items.size:Int)<2 ^ 63)
 (hQ:∀h' tk,nY h' it t ((i:Int)-1)->Heap.SameBut it s.heap h'->Q (some x) {s with heap:=h',toks:=tk}):wpAny (model prog w) A (pyNext (.ref it)) Q E s:=by
 obtain⟨o,ho,hc,hd⟩:=id hit;have aL:i<items.size:=(qR.mp hx).1;unfold pyNext;refine wpAny_bind (wpAny_attempt (wpAny_callSpecial?_slot (name:=Str.ofString "__next__") hit.typeIs slot_next
  (wpAny_call_entry slot_next hit.typeIs entry_next ?_ (args_next _))))
 unfold Builtin.«reversed.__next__»;refine wpAny_bind (wpAny_of_eq (a:=(Value.ref it,[])) rfl ?_)
 try dsimp only
 refine wpAny_bind (wpAny_field ho hd (x:=.ref t) rfl ?_);refine wpAny_bind (wpAny_field ho hd (x:=rawInt (i:Int)) rfl ?_);show wpAny _ _ (if (i:Int)<0 then _ else _) _ _ s;rw[if_neg (by omega)];refine wpAny_bind (wpAny_specialOf ht.typeIs pd.lookup ?_);simp only[Option.isNone_some,gi,dS];refine wpAny_bind (wpAny_mkInt ?_);have sx:seqIndex? (i:Int) items.size=some i:=by
  have e:L2.jk items.size (i:Int)=some i:=by unfold L2.jk;rw[if_pos (by omega),if_pos (by omega),ja]
  exact(L2.yY e).1
 refine wpAny_bind (wpAny_attempt (PyProof.Rows.getItem_tuple (s:={s with toks:=s.toks+1}) ht (by omega) (by omega) sx hx ?_))
 try dsimp only
 refine wpAny_bind (wpAny_field (s:={s with toks:=s.toks+1}) ho hd (x:=rawInt (i:Int)) rfl ?_);show wpAny _ _ (setField (.ref it) 1 (rawInt ((i:Int)-1)) >>= _) _ _ _;refine wpAny_bind (wpAny_setField (s:={s with toks:=s.toks+1}) ho hd (by simp) ?_);refine wpAny_pure ⟨x,rfl,wpAny_pure (hQ _ _ ?_ (Heap.SameBut.update ..))⟩;exact⟨_,Heap.get?_update_self _ ho (Obj.isFreed_of_fields (Obj.data_mapFields hd _)),(Obj.cls_mapFields ..).trans hc,by
  rw[Obj.data_mapFields hd];simp⟩
theorem Qe{it t:Addr}{Q:Option Value->Shared->Prop}(hh:A.handled=none)(hit:nY s.heap it t (-1))
 (hQ:∀h',(∀b o,b≠it->s.heap.get? b=some o->h'.get? b=some o)->Q none {s with heap:=h'}):wpAny (model prog w) A (pyNext (.ref it)) Q E s:=by
 obtain⟨o,ho,hc,hd⟩:=id hit;unfold pyNext;refine wpAny_bind (wpAny_attempt (wpAny_callSpecial?_slot (name:=Str.ofString "__next__") hit.typeIs slot_next
  (wpAny_call_entry slot_next hit.typeIs entry_next ?_ (args_next _))))
 unfold Builtin.«reversed.__next__»;refine wpAny_bind (wpAny_of_eq (a:=(Value.ref it,[])) rfl ?_)
 try dsimp only
 refine wpAny_bind (wpAny_field ho hd (x:=.ref t) rfl ?_);refine wpAny_bind (wpAny_field ho hd (x:=rawInt (-1)) rfl ?_);show wpAny _ _ (if (-1:Int)<0 then _ else _) _ _ s;rw[if_pos (by decide)];refine wpAny_bind (wpAny_rule ?_);refine wpAny_bind ?_;show wpAny _ _ (setField (.ref it) 1 (rawInt (-1)) >>= λ_=>setField (.ref it) 0 .none) _ _ _;refine wpAny_bind (wpAny_setField ho hd (by simp) ?_);have Qg:=Heap.get?_update_self (Obj.mapFields (·.setIfInBounds 1 (rawInt (-1)))) ho (Obj.isFreed_of_fields (Obj.data_mapFields hd _));have hd2:=Obj.data_mapFields hd (·.setIfInBounds 1 (rawInt (-1)));refine wpAny_setField Qg hd2 (by simp) ?_;generalize Qh:((s.heap.update it (Obj.mapFields (·.setIfInBounds 1 (rawInt (-1))))).update it (Obj.mapFields (·.setIfInBounds 0 Value.none)))=h2;have kp:∀b o,b≠it->s.heap.get? b=some o->h2.get? b=some o:=λb o hb e=>by rw[<-Qh,Heap.get?_update_other _ _ (bu hb),Heap.get?_update_other _ _ (bu hb)];exact e
 first
 |show wpAny _ _ (newExc (.type "StopIteration") [] >>= _) _ _ _
 |(refine wpAny_bind ?_;show wpAny _ _ (newExc (.type "StopIteration") [] >>= _) _ _ _)
 refine wpAny_bind ?_;simp only[newExc,newTuple];refine wpAny_bind (wpAny_newObj_type ?_ (by size_fits));refine wpAny_bind (m:=firstArgMember _ _) (wpAny_of_eq (a:=Value.none) (by first|rfl | (simp only[firstArgMember];rfl)) ?_);refine wpAny_newObj_type ?_ (by size_fits);simp only[raiseNew];refine wpAny_bind (wpAny_handled ?_)
 first|rw[show A.in1.handled=none from hh] | rw[hh]
 refine wpAny_bind (wpAny_pure (wpAny_throw ?_));refine wpAny_bind (wpAny_isInstance (T:="StopIteration") (b:=true) ⟨_,Heap.get?_push_size _ rfl,rfl⟩ isSubtype_stop ?_);exact wpAny_pure (hQ _ λb o hb e=>Heap.get?_push_of_some _ (Heap.get?_push_of_some _ (kp b o hb e)))
theorem FD{it t:Addr}{i:Int}{Q:Value->Shared->Prop}(hit:nY s.heap it t i)(h:Q (.ref it) s):wpAny (model prog w) A (pyIter (.ref it)) Q E s:=by refine wpAny_pyIter_slot hit.typeIs FA (wpAny_call_entry FA hit.typeIs Qa ?_ (P9 _));show wpAny _ _ (ret (.ref it)) _ _ s;exact wpAny_pure ⟨_,rfl,"reversed",_,hit.typeIs,slot_next.lookup,h⟩
end
end nX
namespace L2
open PySem PySem.Spec PyProof.Rows
noncomputable def sq(K:PySem.W.Frag)(a:Addr)(n:Nat):It:=
 ⟨λi H=>i<n/\∃(xs:List V) (x:V),aQ K H a xs/\xs[n-1-i]?=some x,λi H x H'=>H'=H/\∀xs,aQ K H a xs->xs[n-1-i]?=some x,λi _=>n<=i⟩
theorem Qi{P:Program}{w:World}{K:PySem.W.Frag}{tg:Expr}(a it:Addr)(n:Nat):Turn P w K tg (sq K a n) [it] it (λi h=>i<=n/\nX.nY h it a ((n:Int)-1-(i:Nat))) where
 mem:=by simp
 obj:=λi h st b hb=>by
  have e:b=it:=by simpa using hb
  subst e;obtain⟨_,o,e,c,d⟩:=st;exact⟨o,e,λv z=>by rw[d] at z;cases z⟩
 keep:=λi h h' st k=>⟨st.1,let ⟨o,ho,r⟩:=st.2;⟨o,k it (by simp) o ho,r⟩⟩
 item:=by
  intro X hP hw hK hc i pins s σ H E I hf st hg;subst hP hw hK;obtain⟨kU,xs,x,hq,hx⟩:=hg;obtain⟨au,rv,p,hz⟩:=I.tuple hq;obtain⟨u,hu,ru⟩:=rv.get hx;obtain⟨f0,f1,f2,f3,f4,f5⟩:=hf it (by simp);obtain⟨_,hit⟩:=st;have e1:(n:Int)-1-((i:Nat):Int)=((n-1-i:Nat):Int):=by omega
  rw[e1] at hit;have hl:=rv.length;refine nX.Qc hit p (x:=u) (by simpa using hu) (by rw[cI];rw[sizeLine_eq] at hz;omega) λh' tk fe sb=>?_;have e2:((n-1-i:Nat):Int)-1=(n:Int)-1-((i+1:Nat):Int):=by omega
  rw[e2] at fe;have I1:Inv X pins σ H {s with heap:=h',toks:=tk}:=I.turned (t':=tk) (λb o hb e=>(sb.2 b hb).trans e) f0 f1 f3 f4 f5;obtain⟨o,e,c,d⟩:=id fe;exact⟨u,rfl,pF (s:={s with heap:=h',toks:=tk}) e c d (by decide) ⟨x,H,I1,ru,⟨rfl,λys hy=>by rw[I.Dq hy hq];exact hx⟩,⟨kU,fe⟩,λb hb=>(hf b hb).1⟩⟩
 done:=by
  intro X hP hw hK hc i pins s σ H E I hf st hg;subst hP hw hK;obtain⟨f0,f1,f2,f3,f4,f5⟩:=hf it (by simp);obtain⟨kU,hit⟩:=st;have c6:n<=i:=hg;have e1:(n:Int)-1-((i:Nat):Int)=-1:=by omega
  rw[e1] at hit;exact nX.Qe (I.ok.hd hc) hit λh' eb=>⟨rfl,I.turned (t':=s.toks) (λb o hb e=>eb b o hb e) f0 f1 f3 f4 f5⟩
 self:=λA i s Q E st h=>nX.FD st.2 h
noncomputable def Qj(K:PySem.W.Frag)(ta:TA):TI:=λσ H R=>ta σ H λvs H1=>∃(a:Addr) (xs:List V),vs=[.ref a]/\aQ K H1 a xs/\R (sq K a xs.length) H1
theorem Qk{X:Cx}{tg:Expr}{e:Expr}{ta:TA}{p pos:Pos}(hg:Gl X "reversed")(hm:X.mg "reversed"=none)(ha:PA X [e] ta)(hs:starEach [e] X.env=[(false,eval e X.env)]:=by rfl):PI X tg (.Call (.Name "reversed" p) [e] [] pos) (Qj X.K ta):=by
 intro pins s σ H R I h;refine Call_ (uV I hg hm OE (Lu (aI (ha pos pins s σ H _ I h) λus s1 zq=>?_) hs rfl));obtain⟨vs,H1,I1,r1,q1⟩:=zq;obtain⟨a,xs,e,hq,q⟩:=q1;subst e;cases r1 with
 |cons r rr=>
  cases rr;cases r;obtain⟨au,rv,p',hz⟩:=I1.tuple hq;have hl:=rv.length;have e1:((au.toArray.size:Nat):Int)-1=(xs.length:Int)-1-((0:Nat):Int):=by simp only[cI];omega
  refine nX.Qb p' (by rw[cI];rw[sizeLine_eq] at hz;omega) λtk=>nX.FD (t:=a) (i:=((au.toArray.size:Nat):Int)-1) ⟨_,Heap.get?_push_size _ rfl,rfl,rfl⟩ ?_;refine vK (tk:=tk) I1 _ (Qi a _ xs.length) ⟨bY _,?_⟩ q;rw[<-e1];exact⟨_,Heap.get?_push_size _ rfl,rfl,rfl⟩
theorem Ql{K:PySem.W.Frag}{a:Addr}{xs:List V}{g:TG}{tb:TS}{D:Ends}{σ:St}{H:Hp}(Pv:Nat->St->Hp->Prop)(h0:Pv 0 σ H)(hl:∀i σ H,i<=xs.length->Pv i σ H->aQ K H a xs)
 (hs:∀i x σ H,xs[xs.length-1-i]?=some x->i<xs.length->Pv i σ H->g x σ H λσ2 H2=>tb {D with nx:=Pv (i+1),ct:=Pv (i+1),bk:=D.nx} σ2 H2) (hd:∀σ H,Pv xs.length σ H->D.nx σ H) :
 ∃W:Nat->Nat->St->Hp->Prop,(∃m,W 0 m σ H)/\∀i m σ H,W i m σ H->
  ((sq K a xs.length).stop i H/\D.nx σ H)\/((sq K a xs.length).go i H/\∃N:St->Hp->Prop,(∀σ' H',N σ' H'->∃m',m'<m/\W (i+1) m' σ' H')/\∀x H',(sq K a xs.length).iE i H x H'->g x σ H' λσ2 H2=>tb {D with nx:=N,ct:=N,bk:=D.nx} σ2 H2):=by
 refine⟨λi m σ H=>m=xs.length-i/\i<=xs.length/\Pv i σ H,⟨xs.length,by simp,bY _,h0⟩,?_⟩;rintro i m σ H ⟨rfl,hi,p⟩;have q:=hl i σ H hi p;by_cases aL:i<xs.length
 ·have hx:xs[xs.length-1-i]?=some (xs[xs.length-1-i]'(by omega)):=fm (by omega);refine .inr ⟨⟨aL,xs,_,q,hx⟩,Pv (i+1),λσ' H' p'=>⟨xs.length-(i+1),by omega,rfl,aL,p'⟩,λx H' y=>?_⟩;obtain⟨e,y⟩:=y;subst e;exact hs i x σ _ (y xs q) aL p
 ·have e:i=xs.length:=by omega
  subst e;exact .inl ⟨bB _,hd σ H p⟩
end L2
namespace NB
open Nb
theorem find_some{b:Book}{t:Text}{p:Nat}(h:b.find t=some p):∃i,b.items[p]?=some (some i)/\i.name=t:=by
 unfold Book.find at h;obtain⟨hp,h1,_⟩:=yi.mp h;have h1:((b.items[p]'hp).map λi=>i.name)=some t:=eq_of_beq h1;cases e:b.items[p]'hp with
 |none=>rw[e] at h1;cases h1
 |some i=>rw[e] at h1;exact⟨i,by rw[fm hp,e],a4 h1⟩
theorem find_none{b:Book}{t:Text}(h:b.find t=none){p:Nat}{i:Item}(hi:b.items[p]?=some (some i)):i.name≠t:=by unfold Book.find at h;have:=uA.mp h (some i) (cE hi);intro e;rw[show((some i:Option Item).map λi=>i.name)=some t by rw[<-e];rfl] at this;simp at this
noncomputable def ND(b:Book):Prop:=∀(p q:Nat) (i j:Item),b.items[p]?=some (some i)->b.items[q]?=some (some j)->i.name=j.name->p=q
theorem mz{b:Book}(nd:ND b){p:Nat}{i:Item}(h:b.items[p]?=some (some i)):b.find i.name=some p:=by
 cases e:b.find i.name with
 |none=>exact absurd rfl (find_none e h)
 |some q=>obtain⟨j,h1,h2⟩:=find_some e;rw[nd q p j i h1 h h2]
theorem bK{b:Book}{p:Nat}{o:Option Item}(h:b.items[p]?=some o):b.at_ p=o:=by unfold Book.at_;rw[CM,h];rfl
theorem nZ{b:Book}{p:Nat}{i:Item}(h:b.at_ p=some i):b.items[p]?=some (some i):=by
 unfold Book.at_ at h;rw[CM] at h;cases e:b.items[p]? with
 |none=>rw[e] at h;cases h
 |some o=>rw[e] at h;have h:o=some i:=h;rw[h]
theorem jv{b:Book}{t:Text}{i:Item}(h:b.item t=some i):∃p,b.find t=some p/\b.items[p]?=some (some i)/\i.name=t:=by
 unfold Book.item at h;cases e:b.find t with
 |none=>rw[e] at h;cases h
 |some p=>rw[e] at h;obtain⟨j,h1,h2⟩:=find_some e;have h:b.at_ p=some i:=h;have h3:=nZ h;rw[h1] at h3;cases h3;exact⟨p,rfl,h1,h2⟩
theorem pZ{b:Book}{t:Text}{p:Nat}{i:Item}(h:b.find t=some p)(hi:b.items[p]?=some (some i)):b.item t=some i:=by unfold Book.item;rw[h];exact bK hi
theorem FE{b:Book}{t:Text}:b.item t=none↔b.find t=none:=by
 constructor
 ·intro h;cases e:b.find t with
  |none=>rfl
  |some p=>obtain⟨j,h1,h2⟩:=find_some e;rw[pZ e h1] at h;cases h
 ·intro h;unfold Book.item;rw[h];rfl
noncomputable def dn(b:Book):List (Option Text):=b.items.map λx=>x.map λi=>i.name
theorem FF(b:Book)(t:Text):b.find t=(dn b).findIdx? λx=>x==some t:=by unfold Book.find dn;rw[List.findIdx?_map];rfl
theorem sr{b c:Book}(h:dn b=dn c)(t:Text):b.find t=c.find t:=by rw[FF,FF,h]
theorem p1{b:Book}{p:Nat}{i j:Item}(h:b.items[p]?=some (some i))(e:j.name=i.name):dn (b.set p (some j))=dn b:=by
 unfold dn Book.set;show(b.items.set p (some j)).map _=_;refine uH λq=>?_;rw[cJ,cJ,List.getElem?_set];by_cases hq:p=q
 ·subst hq;rw[if_pos rfl,h];have hp:p<b.items.length:=(bh.mp h).1;rw[if_pos hp];show some (some j.name)=some (some i.name);rw[e]
 ·rw[if_neg hq]
theorem dY{b:Book}{p:Nat}{o:Option Item}(hp:p<b.items.length):(b.set p o).items[p]?=some o:=by show(b.items.set p o)[p]?=some o;rw[m6 hp]
theorem dP{b:Book}{p q:Nat}{o:Option Item}(h:p≠q):(b.set p o).items[q]?=b.items[q]?:=by show(b.items.set p o)[q]?=b.items[q]?;rw[m7 h]
theorem fE{b:Book}{p:Nat}{o:Option Item}:(b.set p o).items.length=b.items.length:=rb ..
theorem n4{b c:Book}(h:dn b=dn c)(nd:ND b):ND c:=λp q i j h1 h2 e=>by
 have f:∀(r:Nat) (k:Item),c.items[r]?=some (some k)->∃k',b.items[r]?=some (some k')/\k'.name=k.name:=λr k hk=>by
  have e1:(dn c)[r]?=some (some k.name):=by unfold dn;rw[cJ,hk];rfl
  rw[<-h] at e1;unfold dn at e1;rw[cJ] at e1;cases e2:b.items[r]? with
  |none=>rw[e2] at e1;cases e1
  |some o=>
   rw[e2] at e1;cases o with
   |none=>cases e1
   |some k'=>exact⟨k',rfl,a4 (a4 e1)⟩
 obtain⟨i',h3,h4⟩:=f p i h1;obtain⟨j',h5,h6⟩:=f q j h2;exact nd p q i' j' h3 h5 (by rw[h4,h6,e])
theorem b7{b:Book}{x:Item×Nat}:x∈placed b↔b.items[x.2]?=some (some x.1):=by
 unfold placed;rw[pq];constructor
 ·rintro⟨⟨o,p⟩,h1,h2⟩;have h1:=Zj.mp h1;cases o with
  |none=>cases h2
  |some i=>have h2:some (i,p)=some x:=h2;cases h2;exact h1
 ·intro h;exact⟨(some x.1,x.2),Zj.mpr h,rfl⟩
theorem fV(b:Book):(placed b).length<=b.items.length:=by unfold placed;refine aS (Lx _ _) ?_;rw[CY];exact bB _
noncomputable def LO(b:Book)(y x:Text):Prop:=∃(p:Nat) (i:Item),b.items[p]?=some (some i)/\i.name=y/\x∈i.leans
noncomputable def v9(b:Book)(S:Text->Prop):Prop:=∀x y,S x->LO b y x->S y
structure Cl(b:Book)(ns R:List Text):Prop where
 sub:∀n∈ns,n∈R
 closed:v9 b (·∈R)
 least:∀S:Text->Prop,v9 b S->(∀n∈ns,S n)->∀x∈R,S x
theorem Cl.iff{b:Book}{ns R R':List Text}(h:Cl b ns R)(h':Cl b ns R')(x:Text):x∈R↔x∈R':=
 ⟨λm=>h.least _ h'.closed h'.sub x m,λm=>h'.least _ h.closed h.sub x m⟩
noncomputable def dQ(R us:List Text):List Text:=us.foldl (λR u=>if u∈R then R else R++[u]) R
theorem Qm(R us:List Text)(u:Text):dQ R (us++[u])=if u∈dQ R us then dQ R us else dQ R us++[u]:=by unfold dQ;rw[List.foldl_append];rfl
theorem j7:∀(us R:List Text) (x:Text),x∈dQ R us↔x∈R\/x∈us
 |[],R,x=>by simp[dQ]
 |u::us,R,x=>by
  show x∈dQ (if u∈R then R else R++[u]) us↔_;rw[j7 us];by_cases h:u∈R
  ·rw[if_pos h];constructor
   ·rintro(z | z)
    ·exact .inl z
    ·exact .inr (bO _ z)
   ·rintro(z | z)
    ·exact .inl z
    ·rcases bL.mp z with rfl | z
     ·exact .inl h
     ·exact .inr z
  ·rw[if_neg h];simp only[gm,bL,List.not_mem_nil,or_false];constructor
   ·rintro((z | z) | z)
    ·exact .inl z
    ·exact .inr (.inl z)
    ·exact .inr (.inr z)
   ·rintro(z | z | z)
    ·exact .inl (.inl z)
    ·exact .inl (.inr z)
    ·exact .inr z
theorem FG{α:Type}{l:List α}{x:α}(h:l.Nodup)(hx:x∉l):(l++[x]).Nodup:=by rw[List.nodup_append];refine⟨h,by simp,?_⟩;intro a ha b hb e;simp only[gh] at hb;subst hb;exact hx (e▸ha)
theorem FH:∀(us R:List Text),∃ex,dQ R us=R++ex
 |[],R=>⟨[],by simp[dQ]⟩
 |u::us,R=>by
  show ∃ex,dQ (if u∈R then R else R++[u]) us=R++ex;obtain⟨ex,e⟩:=FH us (if u∈R then R else R++[u]);by_cases hu:u∈R
  ·rw[if_pos hu] at e ⊢;exact⟨ex,e⟩
  ·rw[if_neg hu] at e ⊢;exact⟨[u]++ex,by rw[e,cK]⟩
theorem gv{α:Type}[DecidableEq α]:∀{l u:List α},l.Nodup->(∀x∈l,x∈u)->l.length<=u.length
 |[],_,_,_=>bY _
 |a::l,u,h,s=>by
  obtain⟨h1,h2⟩:=eL.mp h;have ha:=s a (bP ..);have:=gv (u:=u.erase a) h2 λx hx=>by have bG:x≠a:=λe=>h1 (e▸hx);exact(List.mem_erase_of_ne bG).mpr (s x (bO _ hx))
  rw[List.length_erase_of_mem ha] at this;have hp:0<u.length:=List.length_pos_of_mem ha;rw[cu];omega
noncomputable def pairs(b:Book):List (Text×Text):=(placed b).flatMap λx=>x.1.leans.map λn=>(n,x.1.name)
noncomputable def U(ps:List (Text×Text))(n:Text):List Text:=(ps.filter λq=>q.1==n).map (·.2)
theorem FI(ps:List (Text×Text))(n u m:Text):U (ps++[(n,u)]) m=U ps m++(if n=m then [u] else []):=by
 unfold U;rw[uG,bW];congr 1;rw[eK,C7];by_cases h:n=m
 ·subst h;simp
 ·rw[if_neg h];simp[h]
theorem Qn{b:Book}{n u:Text}:u∈U (pairs b) n↔LO b u n:=by
 unfold U pairs LO;rw[cU];constructor
 ·rintro⟨⟨a,c⟩,h1,h2⟩;obtain⟨h3,h4⟩:=gj.mp h1;obtain⟨x,h5,h6⟩:=C4.mp h3;obtain⟨m,h7,h8⟩:=cU.mp h6;have h9:a=n:=eq_of_beq h4;cases h8;rw[h9] at h7;have h2:x.1.name=u:=h2;exact⟨x.2,x.1,b7.mp h5,h2,h7⟩
 ·rintro⟨p,i,h1,h2,h3⟩;refine⟨(n,u),gj.mpr ⟨C4.mpr ⟨(i,p),b7.mpr h1,cU.mpr ⟨n,h3,?_⟩⟩,by simp⟩,rfl⟩;rw[<-h2]
theorem zS{b:Book}{y x:Text}(h:LO b y x):y∈(placed b).map λz=>z.1.name:=by obtain⟨p,i,h1,h2,_⟩:=h;exact cU.mpr ⟨(i,p),b7.mpr h1,h2⟩
theorem wc{b:Book}(h:∀(p:Nat) (i:Item),b.items[p]?=some (some i)->i.leans.length<=8):(pairs b).length<=8*(placed b).length:=by
 unfold pairs;have all:∀x∈placed b,x.1.leans.length<=8:=λx hx=>h x.2 x.1 (b7.mp hx);generalize placed b=l at all;induction l with
 |nil=>exact bY _
 |cons x r ih=>rw[kz,aX,aF,cu];have h1:=all x (bP ..);have h2:=ih λy hy=>all y (bO _ hy);omega
theorem FJ{α:Type}(f:α->Bool)(l:List α):l.findIdx? f=(l.map f).findIdx? id:=by rw[List.findIdx?_map];rfl
theorem set_same{α:Type}{l:List α}{p:Nat}{x:α}(h:l[p]?=some x):l.set p x=l:=by
 refine uH λq=>?_;rw[List.getElem?_set];by_cases hq:p=q
 ·subst hq;rw[if_pos rfl,if_pos (bh.mp h).1,h]
 ·rw[if_neg hq]
theorem FK{b:Book}{p:Nat}{o o':Option Item}{t:Text}(h:b.items[p]?=some o)(h1:(o.map λi=>i.name)≠some t)(h2:(o'.map λi=>i.name)≠some t):(b.set p o').find t=b.find t:=by unfold Book.find Book.set;rw[FJ _ b.items,FJ (λx:Option Item=>(x.map λi=>i.name)==some t) _];show((b.items.set p o').map _).findIdx? id=_;rw[List.map_set];congr 1;refine set_same ?_;rw[cJ,h];have e1:((o.map λi=>i.name)==some t)=false:=dt.mpr h1;have e2:((o'.map λi=>i.name)==some t)=false:=dt.mpr h2;show some ((o.map λi=>i.name)==some t)=some ((o'.map λi=>i.name)==some t);rw[e1,e2]
theorem we{b:Book}(nd:ND b){p:Nat}{i:Item}(hp:b.items[p]?=some none)(hf:b.find i.name=none):ND (b.set p (some i)):=λq r j k h1 h2 e=>by
 have aL:p<b.items.length:=(bh.mp hp).1;by_cases hq:p=q
 ·by_cases hr:p=r
  ·rw[<-hq,<-hr]
  ·rw[dP hr] at h2;subst hq;rw[dY aL] at h1;cases h1;exact absurd e.symm (find_none hf h2)
 ·rw[dP hq] at h1;by_cases hr:p=r
  ·subst hr;rw[dY aL] at h2;cases h2;exact absurd e (find_none hf h1)
  ·rw[dP hr] at h2;exact nd q r j k h1 h2 e
theorem su{b:Book}(nd:ND b){p:Nat}{i:Item}(hp:b.items[p]?=some none)(hf:b.find i.name=none)(t:Text):(b.set p (some i)).find t=if t=i.name then some p else b.find t:=by
 have aL:p<b.items.length:=(bh.mp hp).1;by_cases ht:t=i.name
 ·subst ht;rw[if_pos rfl];exact mz (we nd hp hf) (dY aL)
 ·rw[if_neg ht];exact FK hp (by simp) (λe=>ht (a4 e).symm)
theorem FL{b:Book}(nd:ND b){p:Nat}:ND (b.set p none):=λq r j k h1 h2 e=>by
 have f:∀{q:Nat} {j:Item},(b.set p none).items[q]?=some (some j)->b.items[q]?=some (some j):=λ{q j} h=>by
  by_cases hq:p=q
  ·subst hq;have aL:p<b.items.length:=by have:=(bh.mp h).1;rw[fE] at this;exact this
   rw[dY aL] at h;cases h
  ·rw[dP hq] at h;exact h
 exact nd q r j k (f h1) (f h2) e
theorem FN{b:Book}(nd:ND b){p:Nat}{i:Item}(hp:b.items[p]?=some (some i))(t:Text):(b.set p none).find t=if t=i.name then none else b.find t:=by
 by_cases ht:t=i.name
 ·subst ht;rw[if_pos rfl];cases e:(b.set p none).find i.name with
  |none=>rfl
  |some q=>
   obtain⟨j,h1,h2⟩:=find_some e;by_cases hq:p=q
   ·subst hq;have aL:p<b.items.length:=(bh.mp hp).1;rw[dY aL] at h1;cases h1
   ·rw[dP hq] at h1;exact absurd (nd q p j i h1 hp h2).symm hq
 ·rw[if_neg ht];exact FK hp (λe=>ht (a4 e).symm) (by simp)
theorem sv{b:Book}{p:Nat}{i j:Item}(h:b.items[p]?=some (some i))(e:j.name=i.name)(t:Text):(b.set p (some j)).find t=b.find t:=sr (p1 h e) t
noncomputable def cy(l:List Text)(i:Item):Item:=if l.contains i.name=true then {i with stands:=.open_} else i
noncomputable def c7(b:Book)(l:List Text):Book:={b with items:=b.items.map λx=>x.map (cy l)}
theorem FO(b:Book)(t:Text):b.opening t=c7 b (spreading b PLACES [t]):=rfl
theorem sy(l:List Text)(i:Item):(cy l i).name=i.name:=by unfold cy;split<;>rfl
theorem zT(b:Book)(l:List Text)(p:Nat):(c7 b l).items[p]?=(b.items[p]?).map λx=>x.map (cy l):=by unfold c7;rw[cJ]
theorem Qo(b:Book)(l:List Text):dn (c7 b l)=dn b:=by
 unfold dn c7;rw[pz];refine qT λx _=>?_;cases x with
 |none=>rfl
 |some i=>show some (cy l i).name=some i.name;rw[sy]
theorem Qp{b:Book}{l l':List Text}(h:∀x,x∈l↔x∈l'):c7 b l=c7 b l':=by
 have e:∀i,cy l i=cy l' i:=λi=>by
  unfold cy;have:l.contains i.name=l'.contains i.name:=by rw[kE,fO,fO];exact h _
  rw[this]
 unfold c7;congr 1;refine qT λx _=>?_;cases x with
 |none=>rfl
 |some i=>show some (cy l i)=some (cy l' i);rw[e]
theorem Qq(b:Book):c7 b []=b:=by
 unfold c7;have:(b.items.map λx=>x.map (cy []))=b.items:=by
  conv=>rhs;rw[<-List.map_id b.items]
  refine qT λx _=>?_;cases x with
  |none=>rfl
  |some i=>rfl
 rw[this]
theorem Qr{b:Book}{l:List Text}{x:Text}(h:b.find x=none):c7 b (l++[x])=c7 b l:=by
 have:∀o∈b.items,(o.map (cy (l++[x])))=o.map (cy l):=λo ho=>by
  cases o with
  |none=>rfl
  |some i=>
   obtain⟨p,hp⟩:=fN.mp ho;have bG:=find_none h hp;show some (cy (l++[x]) i)=some (cy l i);unfold cy;have:(l++[x]).contains i.name=l.contains i.name:=by rw[kE,fO,fO,gm,gh];exact⟨λz=>z.resolve_right bG,.inl⟩
   rw[this]
 unfold c7;congr 1;exact qT this
theorem Qs{b:Book}{l:List Text}{x:Text}{p:Nat}{i:Item}(nd:ND b)(h:b.items[p]?=some (some i))(hx:i.name=x):c7 b (l++[x])=(c7 b l).set p (some {i with stands:=.open_}):=by
 have e:(c7 b (l++[x])).items=((c7 b l).set p (some {i with stands:=.open_})).items:=by
  refine uH λq=>?_;rw[zT];by_cases hq:p=q
  ·subst hq;rw[dY (by unfold c7;rw[aF];exact(bh.mp h).1),h];show some (some (cy (l++[x]) i))=_;unfold cy;rw[if_pos (by rw[fO,hx];simp)]
  ·rw[dP hq,zT];cases e:b.items[q]? with
   |none=>rfl
   |some o=>
    cases o with
    |none=>rfl
    |some j=>
     have bG:j.name≠x:=λz=>hq (nd p q i j h e (by rw[hx,z]));show some (some (cy (l++[x]) j))=some (some (cy l j));unfold cy;have:(l++[x]).contains j.name=l.contains j.name:=by rw[kE,fO,fO,gm,gh];exact⟨λz=>z.resolve_right bG,.inl⟩
     rw[this]
 have e2:(c7 b (l++[x])).runs=((c7 b l).set p (some {i with stands:=.open_})).runs:=rfl;cases h1:c7 b (l++[x]) with
 |mk i1 r1=>
  cases h2:(c7 b l).set p (some {i with stands:=.open_}) with
  |mk i2 r2=>rw[h1,h2] at e e2;have e:i1=i2:=e;have e2:r1=r2:=e2;rw[e,e2]
theorem FP{b:Book}{n:Text}{p:Nat}:p∈b.users n↔p<PLACES/\∃i,b.items[p]?=some (some i)/\n∈i.leans:=by
 unfold Book.users;rw[gj,uL];refine pw λ_=>?_;constructor
 ·intro h;cases e:b.at_ p with
  |none=>rw[e] at h;cases h
  |some i=>rw[e] at h;have h:i.leans.contains n=true:=h;exact⟨i,nZ e,fO.mp h⟩
 ·rintro⟨i,h1,h2⟩;rw[bK h1];exact fO.mpr h2
theorem p4{b:Book}{p:Nat}{i:Item}(h:b.items[p]?=some (some i)):b.nameAt p=i.name:=by unfold Book.nameAt;rw[bK h];rfl
theorem Qt{b:Book}(hl:b.items.length=PLACES){l:List Text}{y:Text}:(y∈l.flatMap λx=>(b.users x).map b.nameAt)↔∃x∈l,LO b y x:=by
 rw[C4];constructor
 ·rintro⟨x,hx,hy⟩;obtain⟨p,hp,e⟩:=cU.mp hy;obtain⟨_,i,h1,h2⟩:=FP.mp hp;rw[p4 h1] at e;exact⟨x,hx,p,i,h1,e,h2⟩
 ·rintro⟨x,hx,p,i,h1,h2,h3⟩;refine⟨x,hx,cU.mpr ⟨p,FP.mpr ⟨?_,i,h1,h3⟩,?_⟩⟩
  ·rw[<-hl];exact(bh.mp h1).1
  ·rw[p4 h1,h2]
theorem Qu{α:Type}[BEq α][LawfulBEq α](l:List α):l.eraseDups.Nodup:=by
 have:∀n (l:List α),l.length<=n->l.eraseDups.Nodup:=λn=>by
  induction n with
  |zero=>intro l h;have:l=[]:=Zq.mp (by omega);subst this;simp
  |succ n ih=>
   intro l h;cases l with
   |nil=>simp
   |cons a r=>
    rw[List.eraseDups_cons];refine eL.mpr ⟨?_,ih _ ?_⟩
    ·rw[List.mem_eraseDups];intro hm;have:=(gj.mp hm).2;simp at this
    ·have:=pk (λb=>!b==a) r;rw[cu] at h;omega
 exact this _ l (bB _)
theorem zU{b:Book}(hl:b.items.length=PLACES){ns:List Text}{u:List Text}(hu:u.length<=256)(hn:∀n∈ns,n∈u)(kW:∀y x,LO b y x->y∈u) :
 ∀(f:Nat) (l:List Text),l.Nodup->(∀n∈ns,n∈l)->(∀x∈l,x∈u)->(∀S:Text->Prop,v9 b S->(∀n∈ns,S n)->∀x∈l,S x)->257<=l.length+f->Cl b ns (spreading b f l)
 |0,l,dq,_,hs,_,hf=>by have:=gv dq hs;omega
 |f+1,l,dq,kX,hs,hle,hf=>by
  show Cl b ns (let m:=(l++l.flatMap λx=>(b.users x).map b.nameAt).eraseDups;if m.length=l.length then l else spreading b f m);generalize hm:(l++l.flatMap λx=>(b.users x).map b.nameAt).eraseDups=m;have mm:∀y,y∈m↔y∈l\/∃x∈l,LO b y x:=λy=>by rw[<-hm,List.mem_eraseDups,gm,Qt hl]
  have p5:m.Nodup:=by rw[<-hm];exact Qu _
  dsimp only;by_cases he:m.length=l.length
  ·rw[if_pos he];refine⟨kX,λx y hx hy=>?_,hle⟩;cases yy (y∈l) with
   |inl h=>exact h
   |inr h=>
    have nH:y∈m:=(mm y).mpr (.inr ⟨x,hx,hy⟩);have:=gv (l:=y::l) (u:=m) (eL.mpr ⟨h,dq⟩) λz hz=>by
     rcases bL.mp hz with e | hz
     ·subst e;exact nH
     ·exact(mm z).mpr (.inl hz)
    rw[cu] at this;omega
  ·rw[if_neg he];have FQ:l.length<=m.length:=gv dq λz hz=>(mm z).mpr (.inl hz);refine zU hl hu hn kW f m p5 (λn h=>(mm n).mpr (.inl (kX n h))) (λz hz=>?_) (λS hS jU z hz=>?_) (by omega)
   ·rcases(mm z).mp hz with q | ⟨x,_,q⟩
    ·exact hs z q
    ·exact kW z x q
   ·rcases(mm z).mp hz with q | ⟨x,q1,q2⟩
    ·exact hle S hS jU z q
    ·exact hS x z (hle S hS jU x q1) q2
theorem FR{b:Book}(hl:b.items.length=PLACES){t:Text}(h:(b.find t).isSome=true\/(placed b).length<256):Cl b [t] (spreading b PLACES [t]):=by
 have pl:=fV b;rw[hl] at pl;rcases h with h | h
 ·refine zU (u:=(placed b).map λz=>z.1.name) hl (by rw[aF];exact pl) ?_ (λy x q=>zS q) PLACES [t] (by simp) (λn q=>q) ?_ (λS _ hn x hx=>hn x hx) (by show 257<=1+256;decide)
  all_goals
   intro n hn;rw[gh] at hn;subst hn;obtain⟨p,hp⟩:=uB.mp h;obtain⟨i,h1,h2⟩:=find_some hp;exact cU.mpr ⟨(i,p),b7.mpr h1,h2⟩
 ·refine zU (u:=t::(placed b).map λz=>z.1.name) hl (by rw[cu,aF];exact h) (λn q=>by rw[gh] at q;rw[q];exact bP ..) (λy x q=>bO _ (zS q)) PLACES [t] (by simp) (λn q=>q) (λn q=>by rw[gh] at q;rw[q];exact bP ..) (λS _ hn x hx=>hn x hx) (by show 257<=1+256;decide)
theorem Qv{b:Book}(hl:b.items.length=PLACES){t:Text}(h:(b.find t).isSome=true\/(placed b).length<256){R:List Text}(hR:Cl b [t] R):b.opening t=c7 b R:=by rw[FO];exact Qp λx=>(FR hl h).iff hR x
structure BI(b:Book):Prop where
 len:b.items.length=256
 nd:ND b
 ok:∀(p:Nat) (i:Item),b.items[p]?=some (some i)->i.ok=true/\b.fits i=true
structure SI(s:State):Prop where
 bi:BI s.book
 wt:∀w,s.wait=some w->∃i,s.book.items[w.place]?=some (some i)/\s.book.next=some w.place/\s.book.todo i=.run w.values
theorem d8{i:Item}(h:i.ok=true):nameOk i.name=true/\i.text.length<=65536/\leansOk i.leans=true/\(∀l,i.last=some l->lastOk l=true)/\(i.stands=.good->ownLast i .good=true)/\(i.stands=.bad->ownLast i .bad=true):=by
 unfold Item.ok at h;rw[bq,bq,bq,bq] at h;obtain⟨h1,h2,h3,h4,h5⟩:=h;refine⟨h1,bw h2,h3,λl e=>?_,λe=>?_,λe=>?_⟩
 ·rw[e] at h4;exact h4
 ·rw[e] at h5;exact h5
 ·rw[e] at h5;exact h5
theorem p6{i:Item}(h1:nameOk i.name=true)(h2:i.text.length<=65536)(h3:leansOk i.leans=true)(h4:∀l,i.last=some l->lastOk l=true)(h5:i.stands=.good->ownLast i .good=true)(h6:i.stands=.bad->ownLast i .bad=true):i.ok=true:=by
 unfold Item.ok;rw[bq,bq,bq,bq];refine⟨h1,bp h2,h3,?_,?_⟩
 ·cases e:i.last with
  |none=>rfl
  |some l=>exact h4 l e
 ·cases e:i.stands with
  |good=>exact h5 e
  |bad=>exact h6 e
  |open_=>rfl
  |stuck=>rfl
theorem kY{l:List Text}(h:leansOk l=true):l.length<=8/\∀t∈l,nameOk t=true:=by unfold leansOk at h;rw[bq] at h;exact⟨bw h.1,λt ht=>eV.mp h.2 t ht⟩
theorem n6{t:Text}(h:nameOk t=true):1<=t.length/\t.length<=32:=by unfold nameOk at h;rw[bq,bq] at h;exact⟨bw h.1,bw h.2.1⟩
theorem n9{i:Item}{s:Stands}(h:ownLast i s=true):∃l,i.last=some l/\l.text=i.text/\l.names=i.leans/\i.touched=false/\standsBy l.came=s:=by
 unfold ownLast at h;cases e:i.last with
 |none=>rw[e] at h;cases h
 |some l=>rw[e] at h;have h:(l.text==i.text&&(l.names==i.leans&&(!i.touched&&standsBy l.came==s)))=true:=h;rw[bq,bq,bq] at h;exact⟨l,rfl,eq_of_beq h.1,eq_of_beq h.2.1,by simpa using h.2.2.1,eq_of_beq h.2.2.2⟩
theorem p7{l:Last}(h:lastOk l=true):l.text.length<=65536/\leansOk l.names=true/\l.values.length=l.names.length/\(∀v∈l.values,v.length<=16384)/\cameOk l.came=true:=by unfold lastOk at h;rw[bq,bq,bq,bq] at h;exact⟨bw h.1,h.2.1,eq_of_beq h.2.2.1,λv hv=>bw (eV.mp h.2.2.2.1 v hv),h.2.2.2.2⟩
theorem BI.value{b:Book}(B:BI b){p:Nat}{i:Item}(h:b.items[p]?=some (some i))(hg:i.stands=.good):∃l v,i.last=some l/\l.came=.value v/\i.value=some v/\v.length<=16384:=by
 obtain⟨_,_,_,h4,h5,_⟩:=d8 (B.ok p i h).1;obtain⟨l,e1,_,_,_,e2⟩:=n9 (h5 hg);obtain⟨_,_,_,_,hc⟩:=p7 (h4 l e1);cases e3:l.came with
 |bad n=>rw[e3] at e2;cases e2
 |value v=>rw[e3] at hc;refine⟨l,v,e1,e3,?_,bw hc⟩;unfold Item.value;rw[if_pos hg,e1];show(match l.came with | .value b=>some b | .bad _=>none)=some v;rw[e3]
theorem BI.leans{b:Book}(B:BI b){p:Nat}{i:Item}(h:b.items[p]?=some (some i)):i.leans.length<=8:=(kY (d8 (B.ok p i h).1).2.2.1).1
theorem BI.pairs{b:Book}(B:BI b):(NB.pairs b).length<=1000000:=by have h1:=wc (b:=b) λp i h=>B.leans h;have h2:=fV b;rw[B.len] at h2;omega
theorem FT{b:Book}(B:BI b){p:Nat}{j:Item}(hj:j.leans.length<=8):(NB.pairs (b.set p (some j))).length<=1000000:=by
 have h1:=wc (b:=b.set p (some j)) λq i h=>by
  by_cases hq:p=q
  ·subst hq;by_cases hl:p<b.items.length
   ·rw[dY hl] at h;cases h;exact hj
   ·have:(b.set p (some j)).items[p]?=none:=lN (by rw[fE];omega);rw[this] at h;cases h
  ·rw[dP hq] at h;exact B.leans h
 have h2:=fV (b.set p (some j));rw[fE,B.len] at h2;omega
theorem Qw{b:Book}(B:BI b){p:Nat}:(NB.pairs (b.set p none)).length<=1000000:=by
 have h1:=wc (b:=b.set p none) λq i h=>by
  by_cases hq:p=q
  ·subst hq;by_cases hl:p<b.items.length
   ·rw[dY hl] at h;cases h
   ·have:(b.set p none).items[p]?=none:=lN (by rw[fE];omega);rw[this] at h;cases h
  ·rw[dP hq] at h;exact B.leans h
 have h2:=fV (b.set p none);rw[fE,B.len] at h2;omega
theorem FU{b:Book}{p:Nat}(h:b.items[p]?=some none):(placed b).length<b.items.length:=by
 have:∀(l:List (Option Item)) (k p:Nat),l[p]?=some none->((l.zipIdx k).filterMap λx=>x.1.map λi=>(i,x.2)).length<l.length:=by
  intro l;induction l with
  |nil=>intro k p h;simp at h
  |cons a r ih=>
   intro k p h;rw[qW];cases p with
   |zero=>
    have h:a=none:=by simpa using h
    subst h;rw[qS rfl];have:=Lx (λx:Option Item×Nat=>x.1.map λi=>(i,x.2)) (r.zipIdx (k+1));rw[CY] at this;exact Nat.lt_succ_of_le this
   |succ p=>
    have h':=ih (k+1) p (by simpa using h);cases a with
    |none=>rw[qS rfl];exact yn h'
    |some i=>exact Nat.succ_lt_succ h'
 exact this b.items 0 p h
theorem wg{b:Book}{i:Item}(h:i.stands=.open_):b.fits i=true:=by unfold Book.fits;rw[h];rfl
theorem iO{b:Book}{i:Item}(h:i.stands≠.open_):b.fits i=true↔(∀n∈i.leans,isOpen (b.item n)=false)/\(i.stands=.stuck->∃n∈i.leans,(match b.item n with | some j=>j.stands==.bad||j.stands==.stuck | none=>true)=true)/\(i.stands≠.stuck->b.values i=i.last.map λl=>l.values):=by
 unfold Book.fits;have e:(i.stands==Stands.open_)=false:=dt.mpr h;rw[e,uO,bq,eV];refine and_congr ⟨λz n hn=>by simpa using z n hn,λz n hn=>by simpa using z n hn⟩ ?_;by_cases hs:i.stands=.stuck
 ·rw[if_pos hs,iz];exact⟨λz=>⟨λ_=>z,λq=>absurd hs q⟩,λz=>z.1 hs⟩
 ·rw[if_neg hs];exact⟨λz=>⟨λq=>absurd q hs,λ_=>eq_of_beq z⟩,λz=>by rw[z.2 hs];exact kC _⟩
theorem Qx{b c:Book}{i:Item}(h:∀n∈i.leans,c.item n=b.item n):c.values i=b.values i:=by
 unfold Book.values;have:∀l:List Text,(∀n∈l,c.item n=b.item n)->(l.mapM λn=>(c.item n).bind Item.value)=l.mapM λn=>(b.item n).bind Item.value:=λl=>by
  induction l with
  |nil=>intro _;rfl
  |cons a r ih=>intro hl;rw[m8,m8,hl a (bP ..),ih λn hn=>hl n (bO _ hn)]
 exact this _ h
theorem wj{b c:Book}{i:Item}(h:∀n∈i.leans,c.item n=b.item n)(hf:b.fits i=true):c.fits i=true:=by
 by_cases ho:i.stands=.open_
 ·exact wg ho
 ·obtain⟨h1,h2,h3⟩:=(iO ho).mp hf;refine(iO ho).mpr ⟨λn hn=>by rw[h n hn];exact h1 n hn,λhs=>?_,λhs=>by rw[Qx h];exact h3 hs⟩;obtain⟨n,hn,q⟩:=h2 hs;exact⟨n,hn,by rw[h n hn];exact q⟩
noncomputable def iP(b:Book)(f:Item->Item):Book:={b with items:=b.items.map λx=>x.map f}
theorem sG(b:Book)(f:Item->Item)(p:Nat):(iP b f).items[p]?=(b.items[p]?).map λx=>x.map f:=by unfold iP;rw[cJ]
theorem zV{b:Book}{f:Item->Item}{p:Nat}{j:Item}(h:(iP b f).items[p]?=some (some j)):∃i,b.items[p]?=some (some i)/\j=f i:=by
 rw[sG] at h;cases e:b.items[p]? with
 |none=>rw[e] at h;cases h
 |some o=>
  rw[e] at h;cases o with
  |none=>cases h
  |some i=>exact⟨i,rfl,(a4 (a4 h)).symm⟩
theorem wk{b:Book}{f:Item->Item}(hf:∀i,(f i).name=i.name):dn (iP b f)=dn b:=by
 unfold dn iP;rw[pz];refine qT λx _=>?_;cases x with
 |none=>rfl
 |some i=>show some (f i).name=some i.name;rw[hf]
theorem wm{b:Book}{f:Item->Item}(hf:∀i,(f i).name=i.name)(n:Text):(iP b f).item n=(b.item n).map f:=by
 unfold Book.item;rw[sr (wk hf)];cases e:b.find n with
 |none=>rfl
 |some p=>obtain⟨i,h1,_⟩:=find_some e;show(iP b f).at_ p=(b.at_ p).map f;rw[bK h1,bK (o:=some (f i)) (by rw[sG,h1];rfl)];rfl
theorem FV(b:Book)(f:Item->Item):(iP b f).items.length=b.items.length:=aF ..
noncomputable def dw(i:Item):Item:=if i.stands=.open_ then {i with stands:=.stuck} else i
theorem sJ(i:Item):(dw i).name=i.name:=by unfold dw;split<;>rfl
theorem sL(b:Book):b.rings=iP b dw:=rfl
theorem Qy(b:Book)(l:List Text):c7 b l=iP b (cy l):=rfl
theorem zW{b:Book}{p:Nat}{i j:Item}(h:b.items[p]?=some (some i))(hn:j.name=i.name){n:Text}(hf:b.find n≠some p):(b.set p (some j)).item n=b.item n:=by
 unfold Book.item;rw[sv h hn];cases e:b.find n with
 |none=>rfl
 |some q=>have hq:p≠q:=λz=>hf (by rw[e,z]);obtain⟨k,h1,_⟩:=find_some e;show(b.set p (some j)).at_ q=b.at_ q;rw[bK h1,bK (by rw[dP hq];exact h1)]
theorem item_at{b:Book}{n:Text}{p:Nat}{i:Item}(h:b.items[p]?=some (some i))(hf:b.find n=some p):b.item n=some i:=pZ hf h
theorem BI.set{b:Book}(B:BI b){p:Nat}{i j:Item}(h:b.items[p]?=some (some i))(ho:i.stands=.open_)(hr:∀n∈i.leans,isOpen (b.item n)=false)(hn:j.name=i.name)(hl:j.leans=i.leans)(ao:j.ok=true)(my:b.fits j=true):BI (b.set p (some j)):=by
 have FW:∀n,b.find n=some p->isOpen (b.item n)=true:=λn hf=>by rw[item_at h hf];show(i.stands==.open_)=true;rw[ho];rfl
 refine⟨by rw[fE];exact B.len,n4 (p1 h hn).symm B.nd,λq k hk=>?_⟩;by_cases hq:p=q
 ·subst hq;rw[dY (bh.mp h).1] at hk;cases hk;refine⟨ao,wj (λn hm=>zW h hn λz=>?_) my⟩;rw[hl] at hm;have:=hr n hm;rw[FW n z] at this;cases this
 ·rw[dP hq] at hk;obtain⟨h1,h2⟩:=B.ok q k hk;refine⟨h1,?_⟩;by_cases hW:k.stands=.open_
  ·exact wg hW
  ·refine wj (λn hm=>zW h hn λz=>?_) h2;have:=((iO hW).mp h2).1 n hm;rw[FW n z] at this;cases this
theorem BI.runs{b:Book}(B:BI b){r:Nat}:BI {b with runs:=r}:=⟨B.len,B.nd,λp i h=>B.ok p i h⟩
theorem oa{b:Book}{p:Nat}(h:b.next=some p):∃i,b.items[p]?=some (some i)/\i.stands=.open_/\(∀n∈i.leans,isOpen (b.item n)=false):=by
 unfold Book.next at h;have h2:=List.find?_some h;cases e:b.at_ p with
 |none=>rw[e] at h2;cases h2
 |some i=>rw[e] at h2;have h2:(i.stands==.open_&&b.ready i)=true:=h2;rw[bq] at h2;refine⟨i,nZ e,eq_of_beq h2.1,λn hn=>?_⟩;have:=eV.mp h2.2 n hn;simpa using this
theorem Qz{b:Book}{i:Item}:b.ready i=true↔∀n∈i.leans,isOpen (b.item n)=false:=by unfold Book.ready;rw[eV];exact⟨λh n hn=>by simpa using h n hn,λh n hn=>by simpa using h n hn⟩
theorem QA{b:Book}{p:Nat}{i:Item}(hl:b.items.length=256)(h:b.items[p]?=some (some i))(ho:i.stands=.open_)(hr:b.ready i=true)(hm:∀q<p,∀j,b.items[q]?=some (some j)->¬(j.stands=.open_/\b.ready j=true)):b.next=some p:=by
 unfold Book.next;rw[List.find?_range_eq_some];refine⟨?_,?_,λq hq=>?_⟩
 ·rw[bK h];show(i.stands==.open_&&b.ready i)=true;rw[ho,hr];rfl
 ·rw[uL];show p<256;rw[<-hl];exact(bh.mp h).1
 ·cases e:b.at_ q with
  |none=>rfl
  |some j=>
   have:=hm q hq j (nZ e);show(!(j.stands==.open_&&b.ready j))=true;rw[C3,Bool.and_eq_false_iff];by_cases h1:j.stands=.open_
   ·right;cases e2:b.ready j with
    |false=>rfl
    |true=>exact absurd ⟨h1,e2⟩ this
   ·left;exact dt.mpr h1
theorem FX{b:Book}:b.next=none↔∀p<256,∀i,b.items[p]?=some (some i)->¬(i.stands=.open_/\b.ready i=true):=by
 unfold Book.next;rw[List.find?_eq_none];constructor
 ·rintro h p hp i hi ⟨h1,h2⟩;have:=h p (uL.mpr hp);rw[bK hi] at this;have this:¬(i.stands==.open_&&b.ready i)=true:=this;rw[h1,h2] at this;exact this rfl
 ·intro h p hp;cases e:b.at_ p with
  |none=>exact λz=>nomatch z
  |some i=>show ¬(i.stands==.open_&&b.ready i)=true;rw[bq];exact λz=>h p (uL.mp hp) i (nZ e) ⟨eq_of_beq z.1,z.2⟩
theorem QB{b:Book}{i:Item}(h:b.values i=none):∃n∈i.leans,(b.item n).bind Item.value=none:=by
 unfold Book.values at h;have:∀l:List Text,(l.mapM λn=>(b.item n).bind Item.value)=none->∃n∈l,(b.item n).bind Item.value=none:=λl=>by
  induction l with
  |nil=>intro h;cases h
  |cons a r ih=>
   intro h;rw[m8] at h;cases e:(b.item a).bind Item.value with
   |none=>exact⟨a,bP ..,e⟩
   |some v=>
    rw[e] at h;have h:((r.mapM λn=>(b.item n).bind Item.value).bind λvs=>some (v::vs))=none:=h;cases e2:r.mapM λn=>(b.item n).bind Item.value with
    |none=>obtain⟨n,h1,h2⟩:=ih e2;exact⟨n,bO _ h1,h2⟩
    |some vs=>rw[e2] at h;cases h
 exact this _ h
theorem zX{b:Book}{i:Item}{v:List Text}(h:b.values i=some v):v.length=i.leans.length/\∀x∈v,∃n∈i.leans,(b.item n).bind Item.value=some x:=by
 unfold Book.values at h;have:∀(l:List Text) (v:List Text),(l.mapM λn=>(b.item n).bind Item.value)=some v->v.length=l.length/\∀x∈v,∃n∈l,(b.item n).bind Item.value=some x:=λl=>by
  induction l with
  |nil=>intro v h;have h:[]=v:=a4 h;subst h;exact⟨rfl,λx hx=>nomatch hx⟩
  |cons a r ih=>
   intro v h;rw[m8] at h;cases e:(b.item a).bind Item.value with
   |none=>rw[e] at h;cases h
   |some y=>
    rw[e] at h;have h:((r.mapM λn=>(b.item n).bind Item.value).bind λvs=>some (y::vs))=some v:=h;cases e2:r.mapM λn=>(b.item n).bind Item.value with
    |none=>rw[e2] at h;cases h
    |some vs=>
     rw[e2] at h;have h:y::vs=v:=a4 h;subst h;obtain⟨h1,h2⟩:=ih vs e2;refine⟨by rw[cu,cu,h1],λx hx=>?_⟩;rcases bL.mp hx with z | z
     ·subst z;exact⟨a,bP ..,e⟩
     ·obtain⟨n,h3,h4⟩:=h2 x z;exact⟨n,bO _ h3,h4⟩
 exact this _ v h
theorem mD{b:Book}{p:Nat}{i:Item}{s:Stands}(h:b.items[p]?=some (some i)):b.stand p s=b.set p (some {i with stands:=s}):=by unfold Book.stand;rw[bK h];rfl
theorem BI.stuck{b:Book}(B:BI b){p:Nat}{i:Item}(h:b.items[p]?=some (some i))(ho:i.stands=.open_)(hr:∀n∈i.leans,isOpen (b.item n)=false)(ht:b.todo i=.stuck):BI (b.stand p .stuck):=by
 rw[mD h];have hv:b.values i=none:=by
  unfold Book.todo at ht;cases e:b.values i with
  |none=>rfl
  |some v=>
   rw[e] at ht;cases e2:i.last with
   |none=>rw[e2] at ht;cases ht
   |some l=>rw[e2] at ht;have ht:(if i.touched=false/\l.text=i.text/\l.names=i.leans/\l.values=v then Todo.kept l.came else .run v)=.stuck:=ht;split at ht<;>cases ht
 obtain⟨o1,o2,o3,o4,_,_⟩:=d8 (B.ok p i h).1;refine B.set h ho hr rfl rfl (p6 o1 o2 o3 o4 (λz=>nomatch z) λz=>nomatch z) ?_;have js:({i with stands:=.stuck}:Item).stands≠.open_:=λz=>nomatch z;refine(iO js).mpr ⟨hr,λ_=>?_,λz=>absurd rfl z⟩;obtain⟨n,hn,e⟩:=QB hv;refine⟨n,hn,?_⟩;cases e2:b.item n with
 |none=>rfl
 |some k=>
  obtain⟨q,_,hq,_⟩:=jv e2;have h1:=hr n hn;rw[e2] at h1 e;have h1:(k.stands==.open_)=false:=h1;have e:k.value=none:=e;show(k.stands==.bad||k.stands==.stuck)=true;cases e3:k.stands with
  |open_=>rw[e3] at h1;cases h1
  |good=>obtain⟨_,v,_,_,e4,_⟩:=B.value hq e3;rw[e4] at e;cases e
  |bad=>rfl
  |stuck=>rfl
theorem FY{b:Book}{i:Item}{c:Came}(ht:b.todo i=.kept c):∃v l,b.values i=some v/\i.last=some l/\i.touched=false/\l.text=i.text/\l.names=i.leans/\l.values=v/\l.came=c:=by
 unfold Book.todo at ht;cases e:b.values i with
 |none=>rw[e] at ht;cases ht
 |some v=>
  rw[e] at ht;cases e2:i.last with
  |none=>rw[e2] at ht;cases ht
  |some l=>
   rw[e2] at ht;have ht:(if i.touched=false/\l.text=i.text/\l.names=i.leans/\l.values=v then Todo.kept l.came else .run v)=.kept c:=ht;split at ht
   ·rename_i hc;cases ht;exact⟨v,l,rfl,rfl,hc.1,hc.2.1,hc.2.2.1,hc.2.2.2,rfl⟩
   ·cases ht
theorem zY{b:Book}{i:Item}{v:List Text}(ht:b.todo i=.run v):b.values i=some v:=by
 unfold Book.todo at ht;cases e:b.values i with
 |none=>rw[e] at ht;cases ht
 |some v'=>
  rw[e] at ht;cases e2:i.last with
  |none=>rw[e2] at ht;cases ht;rfl
  |some l=>
   rw[e2] at ht;have ht:(if i.touched=false/\l.text=i.text/\l.names=i.leans/\l.values=v' then Todo.kept l.came else .run v')=.run v:=ht;split at ht
   ·cases ht
   ·cases ht;rfl
theorem p8(c:Came):standsBy c≠.open_/\standsBy c≠.stuck:=by
 cases c
 ·exact⟨λz=>Stands.noConfusion z,λz=>Stands.noConfusion z⟩
 ·exact⟨λz=>Stands.noConfusion z,λz=>Stands.noConfusion z⟩
theorem FZ{i:Item}{l:Last}(h1:i.last=some l)(h2:l.text=i.text)(h3:l.names=i.leans)(h4:i.touched=false):ownLast i (standsBy l.came)=true:=by unfold ownLast;rw[h1];show(l.text==i.text&&(l.names==i.leans&&(!i.touched&&standsBy l.came==standsBy l.came)))=true;rw[h2,h3,h4,kC,kC,kC];rfl
theorem BI.kept{b:Book}(B:BI b){p:Nat}{i:Item}{c:Came}(h:b.items[p]?=some (some i))(ho:i.stands=.open_)(hr:∀n∈i.leans,isOpen (b.item n)=false)(ht:b.todo i=.kept c):BI (b.stand p (standsBy c)):=by
 rw[mD h];obtain⟨v,l,e1,e2,e3,e4,e5,e6,e7⟩:=FY ht;obtain⟨o1,o2,o3,o4,_,_⟩:=d8 (B.ok p i h).1;have own:=FZ (i:={i with stands:=standsBy c}) e2 e4 e5 e3;rw[e7] at own;refine B.set h ho hr rfl rfl (p6 o1 o2 o3 o4 (λz=>?_) λz=>?_) ?_
 ·have z:standsBy c=.good:=z;rw[z] at own ⊢;exact own
 ·have z:standsBy c=.bad:=z;rw[z] at own ⊢;exact own
 ·refine(iO (p8 c).1).mpr ⟨hr,λz=>absurd z (p8 c).2,λ_=>?_⟩;show b.values i=i.last.map λl=>l.values;rw[e1,e2,<-e6];rfl
theorem zZ{b:Book}{p:Nat}{i:Item}{v:List Text}{c:Came}(h:b.items[p]?=some (some i)):b.ran p v c={(b.set p (some {i with stands:=standsBy c,touched:=false,last:=some ⟨i.text,i.leans,v,c⟩})) with runs:=b.runs+1}:=by unfold Book.ran;rw[bK h];rfl
theorem BI.ran{b:Book}(B:BI b){p:Nat}{i:Item}{c:Came}{v:List Text}(h:b.items[p]?=some (some i))(ho:i.stands=.open_)(hr:∀n∈i.leans,isOpen (b.item n)=false)(hv:b.values i=some v)(hc:cameOk c=true):BI (b.ran p v c):=by
 rw[zZ h];obtain⟨o1,o2,o3,o4,_,_⟩:=d8 (B.ok p i h).1;obtain⟨v1,v2⟩:=zX hv;have own:=FZ (i:={i with stands:=standsBy c,touched:=false,last:=some ⟨i.text,i.leans,v,c⟩}) rfl rfl rfl rfl;refine(B.set (j:={i with stands:=standsBy c,touched:=false,last:=some ⟨i.text,i.leans,v,c⟩}) h ho hr rfl rfl (p6 o1 o2 o3 (λl e=>?_) (λz=>?_) λz=>?_) ?_).runs
 ·cases e;unfold lastOk;rw[bq,bq,bq,bq];refine⟨bp o2,o3,?_,eV.mpr λx hx=>?_,hc⟩
  ·show(v.length==i.leans.length)=true;rw[v1];exact kC _
  ·obtain⟨n,_,e⟩:=v2 x hx;cases e2:b.item n with
   |none=>rw[e2] at e;cases e
   |some k=>
    rw[e2] at e;have e:k.value=some x:=e;obtain⟨q,_,hq,_⟩:=jv e2;have hg:k.stands=.good:=by
     unfold Item.value at e;split at e
     ·assumption
     ·cases e
    obtain⟨_,y,_,_,e4,e5⟩:=B.value hq hg;rw[e4] at e;cases e;exact bp e5
 ·have z:standsBy c=.good:=z;have own:ownLast _ (standsBy c)=true:=own;rw[z] at own ⊢;exact own
 ·have z:standsBy c=.bad:=z;have own:ownLast _ (standsBy c)=true:=own;rw[z] at own ⊢;exact own
 ·refine(iO (p8 c).1).mpr ⟨hr,λz=>absurd z (p8 c).2,λ_=>?_⟩;show b.values i=some v;exact hv
theorem BI.rings{b:Book}(B:BI b)(hn:b.next=none):BI b.rings:=by
 rw[sL];refine⟨by rw[FV];exact B.len,n4 (wk sJ).symm B.nd,λp k hk=>?_⟩;obtain⟨i,hi,rfl⟩:=zV hk;have hp:p<256:=by rw[<-B.len];exact(bh.mp hi).1
 obtain⟨o1,o2,o3,o4,o5,o6⟩:=d8 (B.ok p i hi).1;have QC:∀n,isOpen ((iP b dw).item n)=false:=λn=>by
  rw[wm sJ];cases b.item n with
  |none=>rfl
  |some j=>
   show((dw j).stands==.open_)=false;unfold dw;split
   ·rfl
   ·rename_i hj;exact dt.mpr hj
 by_cases ho:i.stands=.open_
 ·have e:dw i={i with stands:=.stuck}:=by unfold dw;rw[if_pos ho]
  rw[e];refine⟨p6 o1 o2 o3 o4 (λz=>nomatch z) (λz=>nomatch z),?_⟩;have js:({i with stands:=.stuck}:Item).stands≠.open_:=λz=>nomatch z;refine(iO js).mpr ⟨λn _=>QC n,λ_=>?_,λz=>absurd rfl z⟩;have h1:=FX.mp hn p hp i hi;have h2:¬∀n∈i.leans,isOpen (b.item n)=false:=λz=>h1 ⟨ho,Qz.mpr z⟩;have h3:∃n∈i.leans,isOpen (b.item n)=true:=by
   refine Zm λz=>h2 λn hn=>?_;cases e:isOpen (b.item n) with
   |false=>rfl
   |true=>exact absurd ⟨n,hn,e⟩ z
  obtain⟨n,z5,ji⟩:=h3;refine⟨n,z5,?_⟩;rw[wm sJ];cases e:b.item n with
  |none=>rfl
  |some j=>rw[e] at ji;have ji:(j.stands==.open_)=true:=ji;show((dw j).stands==.bad||(dw j).stands==.stuck)=true;unfold dw;rw[if_pos (eq_of_beq ji)];rfl
 ·have e:dw i=i:=by unfold dw;rw[if_neg ho]
  rw[e];refine⟨(B.ok p i hi).1,wj (λn z5=>?_) (B.ok p i hi).2⟩;rw[wm sJ];have h1:=((iO ho).mp (B.ok p i hi).2).1 n z5;cases e:b.item n with
  |none=>rfl
  |some j=>rw[e] at h1;have h1:(j.stands==.open_)=false:=h1;show some (dw j)=some j;unfold dw;rw[if_neg (dt.mp h1)]
theorem BI.opening{b c:Book}(B:BI b)(hl:c.items.length=256)(nd:ND c){t:Text}(z6:(c.find t).isSome=true\/(placed c).length<256)
 (h1:∀(p:Nat) (k:Item),c.items[p]?=some (some k)->k.name≠t->b.items[p]?=some (some k)) (h2:∀(p:Nat) (k:Item),c.items[p]?=some (some k)->k.name=t->nameOk k.name=true/\k.text.length<=65536/\leansOk k.leans=true/\∀l,k.last=some l->lastOk l=true)
 (h3:∀n,n≠t->c.item n=b.item n):BI (c.opening t):=by
 have cl:=FR hl z6;rw[FO];generalize spreading c PLACES [t]=R at cl;rw[Qy];have tR:t∈R:=cl.sub t (gh.mpr rfl);refine⟨by rw[FV];exact hl,n4 (wk (sy R)).symm nd,λp k' hW=>?_⟩;obtain⟨k,hk,rfl⟩:=zV hW;have parts:nameOk k.name=true/\k.text.length<=65536/\leansOk k.leans=true/\∀l,k.last=some l->lastOk l=true:=by
  by_cases hn:k.name=t
  ·exact h2 p k hk hn
  ·obtain⟨o1,o2,o3,o4,_⟩:=d8 (B.ok p k (h1 p k hk hn)).1;exact⟨o1,o2,o3,o4⟩
 by_cases kU:k.name∈R
 ·have e:cy R k={k with stands:=.open_}:=by unfold cy;rw[if_pos (fO.mpr kU)]
  rw[e];exact⟨p6 parts.1 parts.2.1 parts.2.2.1 parts.2.2.2 (λz=>nomatch z) (λz=>nomatch z),wg rfl⟩
 ·have e:cy R k=k:=by unfold cy;rw[if_neg λz=>kU (fO.mp z)]
  have hb:=h1 p k hk λz=>kU (by rw[z];exact tR);rw[e];refine⟨(B.ok p k hb).1,wj (λn hn=>?_) (B.ok p k hb).2⟩;have wo:n∉R:=λz=>kU (cl.closed n k.name z ⟨p,k,hk,rfl,hn⟩);rw[wm (sy R),h3 n λz=>wo (by rw[z];exact tR)];cases e2:b.item n with
  |none=>rfl
  |some j=>obtain⟨_,_,_,hj⟩:=jv e2;show some (cy R j)=some j;unfold cy;rw[if_neg λz=>wo (by rw[<-hj];exact fO.mp z)]
noncomputable def eE(b:Book):Nat:=b.items.countP isOpen
theorem countP_set{α:Type}{f:α->Bool}:∀{l:List α} {p:Nat} {x y:α},l[p]?=some x->f x=true->f y=false->(l.set p y).countP f+1=l.countP f
 |[],p,x,y,h,_,_=>by simp at h
 |a::l,0,x,y,h,h1,h2=>by have h:a=x:=a4 h;subst h;rw[List.set_cons_zero,List.countP_cons_of_neg (by rw[h2];exact Bool.noConfusion),List.countP_cons_of_pos h1]
 |a::l,p+1,x,y,h,h1,h2=>by have ih:=countP_set (l:=l) (p:=p) (x:=x) (y:=y) h h1 h2;rw[List.set_cons_succ,C5,C5];omega
theorem QD{b:Book}{p:Nat}{i j:Item}(h:b.items[p]?=some (some i))(ho:i.stands=.open_)(hj:j.stands≠.open_):eE (b.set p (some j))+1=eE b:=
 countP_set (f:=isOpen) h (by show(i.stands==.open_)=true;rw[ho];rfl) (dt.mpr hj)
theorem F0{b:Book}(h:b.items.length=256):eE b<=256:=by rw[<-h];exact List.countP_le_length
theorem z7{b:Book}:b.anyOpen=true↔0<eE b:=by unfold Book.anyOpen eE;rw[iz,List.countP_pos_iff]
theorem any_false{b:Book}:b.anyOpen=false↔eE b=0:=by
 cases e:b.anyOpen with
 |false=>
  refine⟨λ_=>?_,λ_=>rfl⟩;have:¬0<eE b:=λz=>by rw[z7.mpr z] at e;cases e
  omega
 |true=>have:=z7.mp e;exact⟨λz=>Bool.noConfusion z,λz=>by omega⟩
theorem F1(b:Book):b.rings.anyOpen=false:=by
 rw[sL];unfold Book.anyOpen iP;rw[List.any_map,List.any_eq_false];intro x _;cases x with
 |none=>exact λz=>nomatch z
 |some i=>
  show ¬((dw i).stands==.open_)=true;unfold dw;split
  ·exact λz=>nomatch z
  ·rename_i h;rw[dt.mpr h];exact Bool.noConfusion
theorem F2{b:Book}(h:b.items.length=256):b.items.zipIdx=(List.range PLACES).map λp=>(b.at_ p,p):=by
 refine uH λp=>?_;rw[uE,cJ];by_cases hp:p<256
 ·rw[List.getElem?_range (show p<PLACES from hp)];obtain⟨o,ho⟩:∃o,b.items[p]?=some o:=⟨_,fm (by rw[h];exact hp)⟩;rw[ho];show some (o,0+p)=some (b.at_ p,p);rw[bK ho,yt]
 ·rw[lN (by rw[h];omega),lN (by rw[List.length_range];show 256<=p;omega)];rfl
theorem QE{b:Book}(h:b.items.length=256):openPlaces b=((placed b).filter λx=>x.1.stands==.open_).map (·.2):=by
 unfold openPlaces placed;rw[F2 h];generalize List.range PLACES=l;induction l with
 |nil=>rfl
 |cons p l ih=>
  rw[bX,eK];generalize b.at_ p=o;cases o with
  |none=>exact ih
  |some i=>
   show(if (i.stands==.open_)=true then p::l.filter (λp=>isOpen (b.at_ p)) else l.filter (λp=>isOpen (b.at_ p)))=List.map (·.2) (List.filter (λx=>x.1.stands==.open_) ((i,p)::(l.map λp=>(b.at_ p,p)).filterMap λx=>x.1.map λi=>(i,x.2)));rw[eK];by_cases ho:(i.stands==.open_)=true
   ·rw[if_pos ho,if_pos ho,bX,ih]
   ·rw[if_neg ho,if_neg ho];exact ih
theorem QF{b:Book}(h:b.items.length=256):b.items=(List.range PLACES).map b.at_:=by
 refine uH λp=>?_;rw[cJ];by_cases hp:p<256
 ·rw[List.getElem?_range (show p<PLACES from hp)];obtain⟨o,ho⟩:∃o,b.items[p]?=some o:=⟨_,fm (by rw[h];exact hp)⟩;rw[ho];show some o=some (b.at_ p);rw[bK ho]
 ·rw[lN (by rw[h];omega),lN (by rw[List.length_range];show 256<=p;omega)];rfl
theorem F3{b:Book}(h:b.items.length=256):(openPlaces b).length=eE b:=by unfold openPlaces eE;rw[QF h,List.countP_map,List.countP_eq_length_filter];rfl
theorem QG{b:Book}{p q:Nat}{s:Stands}:(b.stand p s).items[q]?=if p=q then (b.items[q]?).map λx=>x.map λi=>{i with stands:=s} else b.items[q]?:=by
 unfold Book.stand;by_cases h:p=q
 ·subst h;rw[if_pos rfl];cases e:b.items[p]? with
  |none=>rw[lN (by rw[fE];exact Lw.mp e)];rfl
  |some o=>rw[dY (bh.mp e).1,bK e];rfl
 ·rw[if_neg h,dP h]
theorem F4(s:Stands):∀(ps:List Nat) (b:Book) (q:Nat),(ps.foldl (λc p=>c.stand p s) b).items[q]?=if q∈ps then (b.items[q]?).map λx=>x.map λi=>{i with stands:=s} else b.items[q]?
 |[],b,q=>by simp
 |p::ps,b,q=>by
  rw[List.foldl_cons,F4 s ps,QG];by_cases h1:q∈ps
  ·rw[if_pos h1,if_pos (bO _ h1)];by_cases h2:p=q
   ·rw[if_pos h2];cases b.items[q]? with
    |none=>rfl
    |some o=>cases o<;>rfl
   ·rw[if_neg h2]
  ·rw[if_neg h1];by_cases h2:p=q
   ·rw[if_pos h2,if_pos (by rw[h2];exact bP ..)]
   ·rw[if_neg h2,if_neg λz=>by
     rcases bL.mp z with z | z
     ·exact h2 z.symm
     ·exact h1 z]
theorem F5(s:Stands):∀(ps:List Nat) (b:Book),(ps.foldl (λc p=>c.stand p s) b).runs=b.runs
 |[],b=>rfl
 |p::ps,b=>by rw[List.foldl_cons,F5 s ps];rfl
theorem z8{a b:Book}(h1:∀q:Nat,a.items[q]?=b.items[q]?)(h2:a.runs=b.runs):a=b:=by cases a;cases b;have h1:=uH h1;have h1:_=_:=h1;simp only at h1 h2;rw[h1,h2]
theorem z9{b:Book}{p:Nat}:p∈openPlaces b↔p<256/\∃i,b.items[p]?=some (some i)/\i.stands=.open_:=by
 unfold openPlaces;rw[gj,uL];refine pw λ_=>?_;constructor
 ·intro h;cases e:b.at_ p with
  |none=>rw[e] at h;cases h
  |some i=>rw[e] at h;exact⟨i,nZ e,eq_of_beq h⟩
 ·rintro⟨i,h1,h2⟩;rw[bK h1];show(i.stands==.open_)=true;rw[h2];rfl
theorem QH{b:Book}(hl:b.items.length=256):(openPlaces b).foldl (λc p=>c.stand p .stuck) b=b.rings:=by
 refine z8 (λq=>?_) (F5 _ _ _);rw[F4,sL,sG];cases e:b.items[q]? with
 |none=>split<;>rfl
 |some o=>
  have hq:q<256:=by rw[<-hl];exact(bh.mp e).1
  cases o with
  |none=>split<;>rfl
  |some i=>
   by_cases ho:i.stands=.open_
   ·rw[if_pos (z9.mpr ⟨hq,i,e,ho⟩)];show some (some {i with stands:=.stuck})=some (some (dw i));unfold dw;rw[if_pos ho]
   ·rw[if_neg λz=>by
     obtain⟨_,j,e1,e2⟩:=z9.mp z;rw[e] at e1;cases e1;exact ho e2]
    show some (some i)=some (some (dw i));unfold dw;rw[if_neg ho]
theorem Aa{most made f:Nat}{b:Book}{l:List (Nat×Nat)}(h:b.anyOpen=false):settling most made (f+1) b l=(l,b,.ended):=by unfold settling;rw[if_pos h]
theorem F6{most made f:Nat}{b:Book}{l:List (Nat×Nat)}(h:b.anyOpen=true)(hn:b.next=none):settling most made (f+1) b l=(l++(openPlaces b).map λp=>(p,3),b.rings,.ended):=by unfold settling;rw[if_neg (by rw[h];exact Bool.noConfusion),hn]
theorem Ab{most made f:Nat}{b:Book}{l:List (Nat×Nat)}{p:Nat}{i:Item}(h:b.anyOpen=true)(hn:b.next=some p)(hi:b.items[p]?=some (some i)):settling most made (f+1) b l=match b.todo i with
 |.stuck=>settling most made f (b.stand p .stuck) (l++[(p,3)])
 |.kept c=>settling most made f (b.stand p (standsBy c)) (l++[(p,(standsBy c).num)])
 |.run v=>if most<=made then (l,b,.stopped) else (l,b,.wants p i v):=by
 conv=>lhs;unfold settling
 rw[if_neg (by rw[h];exact Bool.noConfusion),hn];show(match b.at_ p with | none=>_ | some i=>_)=_;rw[bK hi];rfl
noncomputable def F7(r:List (Nat×Nat)×Book×Pause):Prop:=BI r.2.1/\∀p i v,r.2.2=.wants p i v->r.2.1.items[p]?=some (some i)/\r.2.1.next=some p/\r.2.1.todo i=.run v
theorem Ac{most made:Nat}:∀(f:Nat) (b:Book) (l:List (Nat×Nat)),BI b->F7 (settling most made f b l)
 |0,b,l,B=>⟨B,λp i v h=>nomatch h⟩
 |f+1,b,l,B=>by
  by_cases h:b.anyOpen=false
  ·rw[Aa h];exact⟨B,λp i v h=>nomatch h⟩
  ·have h:b.anyOpen=true:=by simpa using h
   cases hn:b.next with
   |none=>rw[F6 h hn];exact⟨B.rings hn,λp i v h=>nomatch h⟩
   |some p=>
    obtain⟨i,hi,ho,hr⟩:=oa hn;rw[Ab h hn hi];cases ht:b.todo i with
    |stuck=>exact Ac f _ _ (B.stuck hi ho hr ht)
    |kept c=>exact Ac f _ _ (B.kept hi ho hr ht)
    |run v=>
     show F7 (if most<=made then (l,b,.stopped) else (l,b,.wants p i v));split
     ·exact⟨B,λp i v h=>nomatch h⟩
     ·refine⟨B,λp' i' v' h'=>?_⟩;cases h';exact⟨hi,hn,ht⟩
theorem QI(b:Book)(most made:Nat)(l:List (Nat×Nat)):goOn b most made l=match (settling most made 257 b l).2.2 with
 |.ended=>(⟨(settling most made 257 b l).2.1,none⟩,.settled 0 made (settling most made 257 b l).1 none)
 |.stopped=>(⟨(settling most made 257 b l).2.1,none⟩,.settled 2 made (settling most made 257 b l).1 none)
 |.wants p i v=>(⟨(settling most made 257 b l).2.1,some ⟨p,v,most,made⟩⟩,.settled 1 made (settling most made 257 b l).1 (some (i.name,i.text,v))):=by
 unfold goOn;generalize settling most made 257 b l=r;obtain⟨l',c,q⟩:=r;cases q<;>rfl
theorem F8{b:Book}(B:BI b)(most made:Nat)(l:List (Nat×Nat)):SI (goOn b most made l).1:=by
 have h:=Ac (most:=most) (made:=made) 257 b l B;rw[QI];cases e:(settling most made 257 b l).2.2 with
 |ended=>exact⟨h.1,λw hw=>nomatch hw⟩
 |stopped=>exact⟨h.1,λw hw=>nomatch hw⟩
 |wants p i v=>obtain⟨h1,h2,h3⟩:=h.2 p i v e;refine⟨h.1,λw hw=>?_⟩;cases hw;exact⟨i,h1,h2,h3⟩
theorem QJ{b:Book}(nd:ND b){p:Nat}{i:Item}(hp:b.items[p]?=some none)(hf:b.find i.name=none){n:Text}(hn:n≠i.name):(b.set p (some i)).item n=b.item n:=by
 unfold Book.item;rw[su nd hp hf,if_neg hn];cases e:b.find n with
 |none=>rfl
 |some q=>
  obtain⟨k,h1,_⟩:=find_some e;have hq:p≠q:=λz=>by rw[z,h1] at hp;cases hp
  show(b.set p (some i)).at_ q=b.at_ q;rw[bK h1,bK (by rw[dP hq];exact h1)]
theorem QK{b:Book}(nd:ND b){p:Nat}{i:Item}(hp:b.items[p]?=some (some i)){n:Text}(hn:n≠i.name):(b.set p none).item n=b.item n:=by
 unfold Book.item;rw[FN nd hp,if_neg hn];cases e:b.find n with
 |none=>rfl
 |some q=>
  obtain⟨k,h1,h2⟩:=find_some e;have hq:p≠q:=λz=>by rw[z,h1] at hp;cases hp;exact hn h2.symm
  show(b.set p none).at_ q=b.at_ q;rw[bK h1,bK (by rw[dP hq];exact h1)]
theorem BI.change{b:Book}(B:BI b){p:Nat}{i j:Item}(h:b.items[p]?=some (some i))(hn:j.name=i.name)(hj:nameOk j.name=true/\j.text.length<=65536/\leansOk j.leans=true/\∀l,j.last=some l->lastOk l=true):BI ((b.set p (some j)).opening i.name):=by
 have aL:=(bh.mp h).1;have sM:ND (b.set p (some j)):=n4 (p1 h hn).symm B.nd;refine B.opening (by rw[fE];exact B.len) sM (.inl (by rw[sv h hn,mz B.nd h];rfl)) (λq k hk bG=>?_) (λq k hk he=>?_) λn bG=>?_
 ·by_cases hq:p=q
  ·subst hq;rw[dY aL] at hk;cases hk;exact absurd hn bG
  ·rw[dP hq] at hk;exact hk
 ·have p9:(b.set p (some j)).items[p]?=some (some j):=dY aL;have:q=p:=sM q p k j hk p9 (by rw[he,hn]);subst this;rw[p9] at hk;cases hk;exact hj
 ·exact zW h hn λz=>by obtain⟨k,h1,h2⟩:=find_some z;rw[h] at h1;cases h1;exact bG h2.symm
theorem BI.put{b c:Book}(B:BI b){n t:Text}{ls:List Text}{p:Nat}(ao:putOk n t ls=true)(h:b.put n t ls=some (p,c)):BI c:=by
 unfold putOk at ao;rw[bq,bq] at ao;obtain⟨o1,o2,o3⟩:=ao;have o2:t.length<=65536:=bw o2;unfold Book.put at h;cases hf:b.find n with
 |some q=>rw[hf] at h;obtain⟨i,h1,h2⟩:=find_some hf;have h:some (q,(b.set q ((b.at_ q).map λi=>{i with text:=t,leans:=ls})).opening n)=some (p,c):=h;rw[bK h1] at h;cases h;subst h2;exact B.change h1 rfl ⟨o1,o2,o3,λl e=>(d8 (B.ok _ _ h1).1).2.2.2.1 l e⟩
 |none=>
  rw[hf] at h;have h:((b.items.findIdx? λx=>x.isNone).map λq=>(q,(b.set q (some ⟨n,t,ls,.open_,false,none⟩)).opening n))=some (p,c):=h;cases e:b.items.findIdx? λx=>x.isNone with
  |none=>rw[e] at h;cases h
  |some q=>
   rw[e] at h;cases h;have jw:b.items[p]?=some none:=by
    obtain⟨aL,h6,_⟩:=yi.mp e;rw[fm aL];cases e3:b.items[p] with
    |none=>rfl
    |some i=>rw[e3] at h6;cases h6
   have aL:=(bh.mp jw).1;have sM:ND (b.set p (some ⟨n,t,ls,.open_,false,none⟩)):=we B.nd jw hf;have p9:(b.set p (some ⟨n,t,ls,.open_,false,none⟩)).items[p]?=some (some ⟨n,t,ls,.open_,false,none⟩):=dY aL;refine B.opening (by rw[fE];exact B.len) sM (.inl (by rw[su B.nd jw hf,if_pos rfl];rfl)) (λq k hk bG=>?_) (λq k hk he=>?_) λm bG=>QJ B.nd jw hf bG
   ·by_cases hq:p=q
    ·subst hq;rw[p9] at hk;cases hk;exact absurd rfl bG
    ·rw[dP hq] at hk;exact hk
   ·have:q=p:=sM q p k _ hk p9 he;subst this;rw[p9] at hk;cases hk;exact⟨o1,o2,o3,λl e=>nomatch e⟩
theorem BI.drop{b:Book}(B:BI b){n:Text}{p:Nat}(hf:b.find n=some p):BI (b.drop p):=by
 obtain⟨i,h1,h2⟩:=find_some hf;unfold Book.drop;rw[p4 h1,h2];have aL:=(bh.mp h1).1;have F9:(b.set p none).items[p]?=some none:=dY aL;have key:∀(q:Nat) (k:Item),(b.set p none).items[q]?=some (some k)->p≠q/\b.items[q]?=some (some k):=λq k hk=>by
  by_cases hq:p=q
  ·subst hq;rw[F9] at hk;cases hk
  ·rw[dP hq] at hk;exact⟨hq,hk⟩
 refine B.opening (by rw[fE];exact B.len) (FL B.nd) (.inr ?_) (λq k hk _=>(key q k hk).2) (λq k hk he=>?_) λm bG=>QK B.nd h1 (by rw[h2];exact bG)
 ·have:=FU F9;rw[fE,B.len] at this;exact this
 ·obtain⟨k1,k2⟩:=key q k hk;exact absurd (B.nd p q i k h1 k2 (by rw[h2,he])) k1
theorem BI.touch{b:Book}(B:BI b){n:Text}{p:Nat}(hf:b.find n=some p):BI (b.touch p):=by obtain⟨i,h1,h2⟩:=find_some hf;unfold Book.touch;rw[p4 h1,bK h1];obtain⟨o1,o2,o3,o4,_⟩:=d8 (B.ok _ _ h1).1;exact B.change (j:={i with touched:=true}) h1 rfl ⟨o1,o2,o3,o4⟩
theorem QL{b:Book}(h:((placed b).map λx=>x.1.name).Nodup):ND b:=by
 intro p q i j h1 h2 e;have m1:(i,p)∈placed b:=b7.mpr h1;have m2:(j,q)∈placed b:=b7.mpr h2;obtain⟨a,ha⟩:=fN.mp m1;obtain⟨c,hc⟩:=fN.mp m2;have ga:((placed b).map λx=>x.1.name)[a]?=some i.name:=by rw[cJ,ha];rfl
 have gc:((placed b).map λx=>x.1.name)[c]?=some i.name:=by rw[cJ,hc,e];rfl
 obtain⟨l1,e1⟩:=bh.mp ga;obtain⟨l2,e2⟩:=bh.mp gc;have:a=c:=(LK h).mp (e1.trans e2.symm);subst this;rw[ha] at hc;cases hc;rfl
theorem BI.of_ok{b:Book}(h:b.ok=true):BI b:=by unfold Book.ok at h;rw[bq,bq,bq] at h;obtain⟨_,h1,h2,h3⟩:=h;refine⟨eq_of_beq h1,QL (bw h3),λp i hi=>?_⟩;have:=eV.mp h2 (i,p) (b7.mpr hi);rw[bq] at this;exact this
theorem QM{s:Text}{b:Book}(h:readBook s=some b):b.ok=true:=by
 unfold readBook at h;cases e1:takeR 4 s with
 |none=>rw[e1] at h;cases h
 |some x=>
  obtain⟨m,r⟩:=x;rw[e1] at h;simp only at h;split at h
  ·cases h
  ·split at h
   ·cases h
   ·split at h
    ·cases h
    ·split at h
     ·cases h
     ·split at h
      ·rename_i hc;have hb:=a4 h;rw[<-hb];exact hc.2.1
      ·cases h
theorem QN:SI start:=by
 refine⟨⟨CT ..,λp q i j h=>?_,λp i h=>?_⟩,λw hw=>nomatch hw⟩
 all_goals
  have h:(List.replicate PLACES (none:Option Item))[p]?=some (some i):=h;rw[yl] at h;split at h
  ·cases h
  ·cases h
theorem QO{c:Came}(h:cameMay c=true):cameOk (taken c)=true:=by
 cases c with
 |value b=>
  show cameOk (if VALUE<b.length then .bad (W32-1) else .value b)=true;split
  ·decide
  ·rename_i h1;exact bp (by omega)
 |bad n=>exact h
theorem QP{b:Book}(B:BI b)(c:Call):BI (changed b c).1:=by
 cases c with
 |put n t l=>
  show BI (if putOk n t l=false then (b,BAD) else match b.put n t l with | none=>(b,.refused (-6)) | some (p,c)=>(c,.nums [p])).1;split
  ·exact B
  ·rename_i h;cases e:b.put n t l with
   |none=>exact B
   |some x=>exact B.put (by simpa using h) e
 |drop n=>
  show BI (if nameOk n=false then (b,BAD) else match b.find n with | none=>(b,.refused (-4)) | some p=>(b.drop p,.nums [p])).1;split
  ·exact B
  ·cases e:b.find n with
   |none=>exact B
   |some x=>exact B.drop e
 |touch n=>
  show BI (if nameOk n=false then (b,BAD) else match b.find n with | none=>(b,.refused (-4)) | some p=>(b.touch p,.nums [p])).1;split
  ·exact B
  ·cases e:b.find n with
   |none=>exact B
   |some x=>exact B.touch e
 |load s=>
  show BI (match readBook s with | some c=>(c,Answer.nums [0]) | none=>(b,.refused (-2))).1;cases e:readBook s with
  |none=>exact B
  |some x=>exact BI.of_ok (QM e)
 |_=>exact B
theorem QQ{s:State}(S:SI s)(c:Call):SI (step s c).1:=by
 unfold step;cases e:asked s c with
 |some a=>exact S
 |none=>
  have ch:∀d:Call,s.wait=none->SI (let r:=changed s.book d;((⟨r.1,none⟩:State),r.2)).1:=λd _=>⟨QP S.bi d,λw hw=>nomatch hw⟩;cases hw:s.wait with
  |none=>
   cases c with
   |came x=>exact S
   |settle m=>exact F8 S.bi _ _ _
   |put n t l=>exact ch _ hw
   |drop n=>exact ch _ hw
   |touch n=>exact ch _ hw
   |load n=>exact ch _ hw
   |_=>cases e
  |some w=>
   cases c with
   |came x=>
    show SI (if cameMay x=false then (s,BAD) else goOn (s.book.ran w.place w.values (taken x)) w.most (w.made+1) [(w.place,(standsBy (taken x)).num)]).1;split
    ·exact S
    ·rename_i h;obtain⟨i,h1,h2,h3⟩:=S.wt w hw;obtain⟨j,h4,h5,h6⟩:=oa h2;rw[h1] at h4;cases h4;exact F8 (S.bi.ran h1 h5 h6 (zY h3) (QO (by simpa using h))) _ _ _
   |_=>exact S
noncomputable def fW(c:Item->Bool)(l:List (Option Item)):List Text:=l.filterMap λx=>x.bind λi=>if c i=true then some i.name else none
theorem Ad{c:Item->Bool}{b:Book}{x:Text}:x∈fW c b.items↔∃(p:Nat) (i:Item),b.items[p]?=some (some i)/\c i=true/\i.name=x:=by
 unfold fW;rw[pq];constructor
 ·rintro⟨o,ho,e⟩;cases o with
  |none=>cases e
  |some i=>
   obtain⟨p,hp⟩:=fN.mp ho;have e:(if c i=true then some i.name else none)=some x:=e;split at e
   ·rename_i hc;exact⟨p,i,hp,hc,a4 e⟩
   ·cases e
 ·rintro⟨p,i,h1,h2,h3⟩;refine⟨some i,cE h1,?_⟩;show(if c i=true then some i.name else none)=some x;rw[if_pos h2,h3]
theorem qa{c:Item->Bool}:∀(l:List (Option Item)),(∀(p q:Nat) (i j:Item),l[p]?=some (some i)->l[q]?=some (some j)->i.name=j.name->p=q)->(fW c l).Nodup
 |[],_=>uK
 |o::l,h=>by
  have ih:=qa (c:=c) l λp q i j h1 h2 e=>by have:=h (p+1) (q+1) i j h1 h2 e;omega
  cases o with
  |none=>exact ih
  |some i=>
   by_cases hc:c i=true
   ·have e:fW c (some i::l)=i.name::fW c l:=by unfold fW;rw[yj (b:=i.name) (by show(if c i=true then some i.name else none)=_;rw[if_pos hc])]
    rw[e];refine eL.mpr ⟨λhm=>?_,ih⟩;obtain⟨o,ho,e⟩:=pq.mp hm;cases o with
    |none=>cases e
    |some j=>
     obtain⟨q,hq⟩:=fN.mp ho;have e:(if c j=true then some j.name else none)=some i.name:=e;split at e
     ·have:=h 0 (q+1) i j rfl hq (a4 e).symm;omega
     ·cases e
   ·have e:fW c (some i::l)=fW c l:=by unfold fW;rw[qS (by show(if c i=true then some i.name else none)=_;rw[if_neg hc])]
    rw[e];exact ih
theorem Ae(b:Book)(f:Item->Bool):stuckNames b f=fW (λi=>i.stands==.stuck&&f i) b.items:=by
 unfold stuckNames fW;congr 1;funext x;cases x with
 |none=>rfl
 |some i=>
  show(if i.stands=.stuck/\f i=true then some i.name else none)=if (i.stands==.stuck&&f i)=true then some i.name else none
  by_cases h:i.stands=.stuck/\f i=true
  ·rw[if_pos h,if_pos (by rw[h.1,h.2];rfl)]
  ·rw[if_neg h,if_neg λz=>h (by rw[bq] at z;exact⟨eq_of_beq z.1,z.2⟩)]
theorem sN{b:Book}{f:Item->Bool}{x:Text}:x∈stuckNames b f↔∃(p:Nat) (i:Item),b.items[p]?=some (some i)/\i.stands=.stuck/\f i=true/\i.name=x:=by
 rw[Ae,Ad];constructor
 ·rintro⟨p,i,h1,h2,h3⟩;rw[bq] at h2;exact⟨p,i,h1,eq_of_beq h2.1,h2.2,h3⟩
 ·rintro⟨p,i,h1,h2,h3,h4⟩;exact⟨p,i,h1,by rw[h2,h3];rfl,h4⟩
noncomputable def Af(b:Book)(l:List Text):Prop:=∀(p:Nat) (i:Item) (x:Text),b.items[p]?=some (some i)->i.stands=.stuck->x∈i.leans->x∈l->i.name∈l
theorem Ga{b:Book}(hl:b.items.length=256){l:List Text}(dq:l.Nodup)(hs:∀x∈l,x∈(placed b).map λz=>z.1.name)(hlen:256<=l.length){p:Nat}{i:Item}(h:b.items[p]?=some (some i)):i.name∈l:=by
 cases yy (i.name∈l) with
 |inl h=>exact h
 |inr hn=>
  have:=gv (l:=i.name::l) (u:=(placed b).map λz=>z.1.name) (eL.mpr ⟨hn,dq⟩) λx hx=>by
   rcases bL.mp hx with e | hx
   ·rw[e];exact cU.mpr ⟨(i,p),b7.mpr h,rfl⟩
   ·exact hs x hx
  rw[cu,aF] at this;have h2:=fV b;rw[hl] at h2;omega
theorem Gb{b:Book}(B:BI b){S:Text->Prop}(hS:∀(p:Nat) (i:Item) (x:Text),b.items[p]?=some (some i)->i.stands=.stuck->x∈i.leans->S x->S i.name) :
 ∀(n:Nat) (l:List Text),l.Nodup->(∀x∈l,∃(p:Nat) (i:Item),b.items[p]?=some (some i)/\i.stands=.stuck/\i.name=x)->(∀x∈l,S x)->256<=l.length+n->
  Af b (growing b n l)/\(∀x∈l,x∈growing b n l)/\(∀x∈growing b n l,S x/\∃(p:Nat) (i:Item),b.items[p]?=some (some i)/\i.stands=.stuck/\i.name=x)
 |0,l,dq,bS,hs,hf=>by
  have hp:∀x∈l,x∈(placed b).map λz=>z.1.name:=λx hx=>by obtain⟨p,i,h1,_,h2⟩:=bS x hx;exact cU.mpr ⟨(i,p),b7.mpr h1,h2⟩
  exact⟨λp i x h1 _ _ _=>Ga B.len dq hp (by omega) h1,λx hx=>hx,λx hx=>⟨hs x hx,bS x hx⟩⟩
 |n+1,l,dq,bS,hs,hf=>by
  show Af b (let m:=stuckNames b λi=>l.contains i.name||i.leans.any λy=>l.contains y;if m.length=l.length then l else growing b n m)/\(∀x∈l,x∈(let m:=stuckNames b λi=>l.contains i.name||i.leans.any λy=>l.contains y;if m.length=l.length then l else growing b n m))/\
   (∀x∈(let m:=stuckNames b λi=>l.contains i.name||i.leans.any λy=>l.contains y;if m.length=l.length then l else growing b n m),_)
  have mm:∀x,x∈(stuckNames b λi=>l.contains i.name||i.leans.any λy=>l.contains y)↔∃(p:Nat) (i:Item),b.items[p]?=some (some i)/\i.stands=.stuck/\(i.name∈l\/∃y∈i.leans,y∈l)/\i.name=x:=λx=>by rw[sN];refine rh λp=>rh λi=>pw λ_=>pw λ_=>LP λ_=>?_;rw[px,fO,iz];exact or_congr Iff.rfl (rh λy=>pw λ_=>fO)
  have p5:(stuckNames b λi=>l.contains i.name||i.leans.any λy=>l.contains y).Nodup:=by rw[Ae];exact qa b.items B.nd
  generalize (stuckNames b λi=>l.contains i.name||i.leans.any λy=>l.contains y)=m at mm p5;have lm:∀x∈l,x∈m:=λx hx=>by obtain⟨p,i,h1,h2,h3⟩:=bS x hx;exact(mm x).mpr ⟨p,i,h1,h2,.inl (by rw[h3];exact hx),h3⟩
  dsimp only;by_cases he:m.length=l.length
  ·rw[if_pos he];refine⟨λp i x h1 h2 h3 h4=>?_,λx hx=>hx,λx hx=>⟨hs x hx,bS x hx⟩⟩;have hm:i.name∈m:=(mm _).mpr ⟨p,i,h1,h2,.inr ⟨x,h3,h4⟩,rfl⟩;cases yy (i.name∈l) with
   |inl h=>exact h
   |inr h=>
    have:=gv (l:=i.name::l) (u:=m) (eL.mpr ⟨h,dq⟩) λz hz=>by
     rcases bL.mp hz with e | hz
     ·rw[e];exact hm
     ·exact lm z hz
    rw[cu] at this;omega
  ·rw[if_neg he];have FQ:l.length<=m.length:=gv dq lm;have ih:=Gb B hS n m p5 (λx hx=>?_) (λx hx=>?_) (by omega)
   ·exact⟨ih.1,λx hx=>ih.2.1 x (lm x hx),ih.2.2⟩
   ·obtain⟨p,i,h1,h2,_,h3⟩:=(mm x).mp hx;exact⟨p,i,h1,h2,h3⟩
   ·obtain⟨p,i,h1,h2,h3,h4⟩:=(mm x).mp hx;subst h4;rcases h3 with h3 | ⟨y,h3,h5⟩
    ·exact hs _ h3
    ·exact hS p i y h1 h2 h3 (hs y h5)
noncomputable def fX(b:Book)(i:Item):List Text:=(if i.stands=.bad then [i.name] else [])++i.leans.filter λn=>(b.find n).isNone
noncomputable def og(b:Book):List Text:=(placed b).flatMap λx=>fX b x.1
theorem wq{b:Book}{x:Text}:x∈og b↔∃(p:Nat) (i:Item),b.items[p]?=some (some i)/\((i.stands=.bad/\i.name=x)\/(x∈i.leans/\b.find x=none)):=by
 unfold og;rw[C4];constructor
 ·rintro⟨⟨i,p⟩,h1,h2⟩;refine⟨p,i,b7.mp h1,?_⟩;rcases gm.mp h2 with h | h
  ·left;have h:x∈(if i.stands=.bad then [i.name] else []):=h;split at h
   ·rename_i hb;exact⟨hb,(gh.mp h).symm⟩
   ·cases h
  ·right;obtain⟨g1,g2⟩:=gj.mp h;exact⟨g1,by simpa using g2⟩
 ·rintro⟨p,i,h1,h2⟩;refine⟨(i,p),b7.mpr h1,gm.mpr ?_⟩;rcases h2 with ⟨h2,h3⟩ | ⟨h2,h3⟩
  ·left;show x∈(if i.stands=.bad then [i.name] else []);rw[if_pos h2,h3];exact gh.mpr rfl
  ·right;exact gj.mpr ⟨h2,by rw[h3];rfl⟩
theorem Gd{b:Book}(B:BI b){p:Nat}{i:Item}(h:b.items[p]?=some (some i))(hs:i.stands=.good\/i.stands=.bad):∀n∈i.leans,∃q j,b.find n=some q/\b.items[q]?=some (some j)/\j.stands=.good:=λn hn=>by
 have gI:i.stands≠.open_:=by rcases hs with h | h<;>rw[h]<;>exact λz=>nomatch z
 have js:i.stands≠.stuck:=by rcases hs with h | h<;>rw[h]<;>exact λz=>nomatch z
 have hv:=((iO gI).mp (B.ok p i h).2).2.2 js;obtain⟨_,_,_,_,o5,o6⟩:=d8 (B.ok p i h).1;have:∃l,i.last=some l:=by
  rcases hs with h | h
  ·obtain⟨l,e,_⟩:=n9 (o5 h);exact⟨l,e⟩
  ·obtain⟨l,e,_⟩:=n9 (o6 h);exact⟨l,e⟩
 obtain⟨l,el⟩:=this;rw[el] at hv;have hv:b.values i=some l.values:=hv;unfold Book.values at hv;have:∀(ts:List Text) (v:List Text),(ts.mapM λn=>(b.item n).bind Item.value)=some v->∀n∈ts,((b.item n).bind Item.value).isSome=true:=λts=>by
  induction ts with
  |nil=>intro _ _ n hn;cases hn
  |cons a r ih=>
   intro v hv n hn;rw[m8] at hv;cases e:(b.item a).bind Item.value with
   |none=>rw[e] at hv;cases hv
   |some y=>
    rw[e] at hv;have hv:((r.mapM λn=>(b.item n).bind Item.value).bind λvs=>some (y::vs))=some v:=hv;cases e2:r.mapM λn=>(b.item n).bind Item.value with
    |none=>rw[e2] at hv;cases hv
    |some vs=>
     rcases bL.mp hn with z | z
     ·rw[z,e];rfl
     ·exact ih vs e2 n z
 have mE:=this _ _ hv n hn;cases e:b.item n with
 |none=>rw[e] at mE;cases mE
 |some j=>
  rw[e] at mE;obtain⟨q,h1,h2,_⟩:=jv e;refine⟨q,j,h1,h2,?_⟩;have mE:j.value.isSome=true:=mE;unfold Item.value at mE;split at mE
  ·assumption
  ·cases mE
theorem Ge{b:Book}(B:BI b){R:List Text}(hR:Cl b (og b) R){p:Nat}{i:Item}(h:b.items[p]?=some (some i))(bS:i.stands=.stuck){n:Text}(hn:n∈i.leans){j:Item}(hj:b.item n=some j):n∈R↔(j.stands=.bad\/n∈blamed b):=by
 have fit:∀(q:Nat) (k:Item),b.items[q]?=some (some k)->k.stands=.stuck->∀y∈k.leans,isOpen (b.item y)=false:=λq k hk hs y hy=>((iO (by rw[hs];exact λz=>nomatch z)).mp (B.ok q k hk).2).1 y hy;have g:=Gb B (S:=(·∈R)) (λq k x h1 _ h3 h4=>hR.closed x k.name h4 ⟨q,k,h1,rfl,h3⟩) PLACES (stuckNames b λi=>missing b i||leansBad b i) (by rw[Ae];exact qa b.items B.nd) (λx hx=>?_) (λx hx=>?_) (Nat.le_add_left _ _)
 ·have g:Af b (blamed b)/\(∀x∈stuckNames b λi=>missing b i||leansBad b i,x∈blamed b)/\(∀x∈blamed b,x∈R/\∃(p:Nat) (i:Item),b.items[p]?=some (some i)/\i.stands=.stuck/\i.name=x):=g;obtain⟨g1,g2,g3⟩:=g;constructor
  ·intro wo;have key:=hR.least (λx=>b.find x=none\/(∃(q:Nat) (k:Item),b.items[q]?=some (some k)/\k.name=x/\(k.stands=.open_\/k.stands=.bad))\/x∈blamed b) (λx y hx hy=>?_) (λx hx=>?_) n wo
   ·rcases key with z | ⟨q,k,z1,z2,z3⟩ | z
    ·rw[FE.mpr z] at hj;cases hj
    ·have e:b.item n=some k:=pZ (by rw[<-z2];exact mz B.nd z1) z1;rw[hj] at e;cases e;rcases z3 with z3 | z3
     ·have:=fit p i h bS n hn;rw[hj] at this;have this:(j.stands==.open_)=false:=this;rw[z3] at this;cases this
     ·exact .inl z3
    ·exact .inr z
   ·obtain⟨q,k,k1,k2,k3⟩:=hy;cases e:k.stands with
    |open_=>exact .inr (.inl ⟨q,k,k1,k2,.inl e⟩)
    |bad=>exact .inr (.inl ⟨q,k,k1,k2,.inr e⟩)
    |good=>
     exfalso;obtain⟨q2,k',f1,f2,f3⟩:=Gd B k1 (.inl e) x k3;rcases hx with z | ⟨q3,sO,z1,z2,z3⟩ | z
     ·rw[f1] at z;cases z
     ·have:q3=q2:=by have e1:=mz B.nd z1;rw[z2,f1] at e1;exact(a4 e1).symm
      subst this;rw[f2] at z1;cases z1;rw[f3] at z3;rcases z3 with z3 | z3<;>cases z3
     ·obtain⟨_,q3,sO,z1,z2,z3⟩:=g3 x z;have:q3=q2:=by have e1:=mz B.nd z1;rw[z3,f1] at e1;exact(a4 e1).symm
      subst this;rw[f2] at z1;cases z1;rw[f3] at z2;cases z2
    |stuck=>
     refine .inr (.inr ?_);rw[<-k2];rcases hx with z | ⟨q3,sO,z1,z2,z3⟩ | z
     ·refine g2 _ (sN.mpr ⟨q,k,k1,e,?_,rfl⟩);rw[px];left;unfold missing;rw[iz];exact⟨x,k3,by rw[z];rfl⟩
     ·have ei:b.item x=some sO:=pZ (by rw[<-z2];exact mz B.nd z1) z1;rcases z3 with z3 | z3
      ·have:=fit q k k1 e x k3;rw[ei] at this;have this:(sO.stands==.open_)=false:=this;rw[z3] at this;cases this
      ·refine g2 _ (sN.mpr ⟨q,k,k1,e,?_,rfl⟩);rw[px];right;unfold leansBad;rw[iz];refine⟨x,k3,?_⟩;rw[ei];show(sO.stands==.bad)=true;rw[z3];rfl
     ·exact g1 q k x k1 e k3 z
   ·obtain⟨q,k,k1,k2⟩:=wq.mp hx;rcases k2 with ⟨k2,k3⟩ | ⟨k2,k3⟩
    ·exact .inr (.inl ⟨q,k,k1,k3,.inr k2⟩)
    ·exact .inl k3
  ·rintro(hb | hb)
   ·obtain⟨q,_,h1,h2⟩:=jv hj;exact hR.sub n (wq.mpr ⟨q,j,h1,.inl ⟨hb,h2⟩⟩)
   ·exact(g3 n hb).1
 ·obtain⟨q,k,k1,k2,_,k3⟩:=sN.mp hx;exact⟨q,k,k1,k2,k3⟩
 ·obtain⟨q,k,k1,k2,k3,k4⟩:=sN.mp hx;subst k4;rw[px] at k3;rcases k3 with k3 | k3
  ·unfold missing at k3;obtain⟨y,y1,y2⟩:=iz.mp k3;exact hR.closed y k.name (hR.sub y (wq.mpr ⟨q,k,k1,.inr ⟨y1,by simpa using y2⟩⟩)) ⟨q,k,k1,rfl,y1⟩
  ·unfold leansBad at k3;obtain⟨y,y1,y2⟩:=iz.mp k3;cases e:b.item y with
   |none=>rw[e] at y2;cases y2
   |some k'=>rw[e] at y2;obtain⟨q2,_,h1,h2⟩:=jv e;exact hR.closed y k.name (hR.sub y (wq.mpr ⟨q2,k',h1,.inl ⟨eq_of_beq y2,h2⟩⟩)) ⟨q,k,k1,rfl,y1⟩
noncomputable def gw(i:Item):Bool:=i.stands==.good||i.stands==.bad
noncomputable def eF(b:Book):List Text:=fW (λi=>i.stands==.good) b.items
theorem sP{b:Book}{x:Text}:x∈eF b↔∃(p:Nat) (i:Item),b.items[p]?=some (some i)/\i.stands=.good/\i.name=x:=by unfold eF;rw[Ad];exact rh λp=>rh λi=>pw λ_=>and_congr ⟨λz=>eq_of_beq z,λz=>by rw[z];rfl⟩ Iff.rfl
theorem Gf{b:Book}(nd:ND b):(eF b).Nodup:=qa b.items nd
noncomputable def gN(b:Book)(l:List Text):List Text:=fW (λi=>gw i&&i.leans.all λy=>l.contains y) b.items
theorem sQ{b:Book}{l:List Text}{x:Text}:x∈gN b l↔∃(p:Nat) (i:Item),b.items[p]?=some (some i)/\gw i=true/\(∀y∈i.leans,y∈l)/\i.name=x:=by unfold gN;rw[Ad];refine rh λp=>rh λi=>pw λ_=>?_;rw[bq,eV,and_assoc];exact pw λ_=>LP λ_=>forall_congr' λy=>forall_congr' λ_=>fO
theorem QR(b:Book)(n:Nat)(l:List Text):founding b (n+1) l=if (gN b l).length=l.length then l else founding b n (gN b l):=by
 have e:(b.items.filterMap λx=>match x with
  |some i=>if (i.stands=.good\/i.stands=.bad)/\(i.leans.all λy=>l.contains y)=true then some i.name else none
  |none=>none)=gN b l:=by
  unfold gN fW;congr 1;funext x;cases x with
  |none=>rfl
  |some i=>
   show(if (i.stands=.good\/i.stands=.bad)/\(i.leans.all λy=>l.contains y)=true then some i.name else none)=if (gw i&&i.leans.all λy=>l.contains y)=true then some i.name else none
   have:((i.stands=.good\/i.stands=.bad)/\(i.leans.all λy=>l.contains y)=true)↔(gw i&&i.leans.all λy=>l.contains y)=true:=by rw[bq];refine LP λ_=>?_;unfold gw;rw[px];exact or_congr ⟨λz=>by rw[z];rfl,λz=>eq_of_beq z⟩ ⟨λz=>by rw[z];rfl,λz=>eq_of_beq z⟩
   by_cases h:(i.stands=.good\/i.stands=.bad)/\(i.leans.all λy=>l.contains y)=true
   ·rw[if_pos h,if_pos (this.mp h)]
   ·rw[if_neg h,if_neg λz=>h (this.mpr z)]
 have h0:founding b (n+1) l=(λm:List Text=>if m.length=l.length then l else founding b n m) (b.items.filterMap λx=>match x with
  |some i=>if (i.stands=.good\/i.stands=.bad)/\(i.leans.all λy=>l.contains y)=true then some i.name else none
  |none=>none):=rfl
 rw[h0];exact eW (λm:List Text=>if m.length=l.length then l else founding b n m) e
noncomputable def FC(b:Book)(l:List Text):Prop:=∀(p:Nat) (i:Item),b.items[p]?=some (some i)->gw i=true->(∀y∈i.leans,y∈l)->i.name∈l
theorem Gg{b:Book}(hl:b.items.length=256)(nd:ND b){S:Text->Prop}(hS:∀(p:Nat) (i:Item),b.items[p]?=some (some i)->gw i=true->(∀y∈i.leans,S y)->S i.name) :
 ∀(n:Nat) (l:List Text),l.Nodup->(∀x∈l,x∈gN b l)->(∀x∈l,x∈(placed b).map λz=>z.1.name)->(∀x∈l,S x)->256<=l.length+n->FC b (founding b n l)/\∀x∈founding b n l,S x
 |0,l,dq,_,hp,hs,hf=>⟨λp i h1 _ _=>Ga hl dq hp (by omega) h1,hs⟩
 |n+1,l,dq,kX,hp,hs,hf=>by
  rw[QR];have p5:(gN b l).Nodup:=qa b.items nd;have mp:∀x∈gN b l,x∈(placed b).map λz=>z.1.name:=λx hx=>by obtain⟨p,i,h1,_,_,h2⟩:=sQ.mp hx;exact cU.mpr ⟨(i,p),b7.mpr h1,h2⟩
  by_cases he:(gN b l).length=l.length
  ·rw[if_pos he];refine⟨λp i h1 h2 h3=>?_,hs⟩;have hm:i.name∈gN b l:=sQ.mpr ⟨p,i,h1,h2,h3,rfl⟩;cases yy (i.name∈l) with
   |inl h=>exact h
   |inr h=>
    have:=gv (l:=i.name::l) (u:=gN b l) (eL.mpr ⟨h,dq⟩) λz hz=>by
     rcases bL.mp hz with e | hz
     ·rw[e];exact hm
     ·exact kX z hz
    rw[cu] at this;omega
  ·rw[if_neg he];have FQ:l.length<=(gN b l).length:=gv dq kX;refine Gg hl nd hS n (gN b l) p5 (λx hx=>?_) mp (λx hx=>?_) (by omega)
   ·obtain⟨p,i,h1,h2,h3,h4⟩:=sQ.mp hx;exact sQ.mpr ⟨p,i,h1,h2,λy hy=>kX y (h3 y hy),h4⟩
   ·obtain⟨p,i,h1,h2,h3,h4⟩:=sQ.mp hx;rw[<-h4];exact hS p i h1 h2 λy hy=>hs y (h3 y hy)
theorem QS{b:Book}(hl:b.items.length=256)(nd:ND b)(hg:∀(p:Nat) (i:Item),b.items[p]?=some (some i)->gw i=true->∀n∈i.leans,n∈eF b){A:List Text}(dq:A.Nodup)(hA:∀x∈A,x∈eF b)
 (QT:∀(k:Nat) (x:Text),A[k]?=some x->∀(p:Nat) (i:Item),b.items[p]?=some (some i)->i.name=x->∀y∈i.leans,∃k',k'<k/\A[k']?=some y)
 (dW:∀(p:Nat) (i:Item),b.items[p]?=some (some i)->i.stands=.good->(∀y∈i.leans,y∈A)->i.name∈A):b.founded=!decide (A.length<(eF b).length):=by
 have key:=Gg hl nd (S:=λx=>x∈eF b->x∈A) (λp i h1 h2 h3 h4=>?_) (PLACES+1) [] uK (λx hx=>nomatch hx) (λx hx=>nomatch hx) (λx hx=>nomatch hx) (by show 256<=0+257;omega)
 ·obtain⟨fc,fs⟩:=key;have sub:∀(k:Nat) (x:Text),A[k]?=some x->x∈founding b (PLACES+1) []:=λk=>by
   induction k using Nat.strongRecOn with
   |_ k ih=>intro x hx;obtain⟨p,i,h1,h2,h3⟩:=sP.mp (hA x (cE hx));rw[<-h3];refine fc p i h1 (by unfold gw;rw[h2];rfl) λy hy=>?_;obtain⟨k',hk,nH⟩:=QT k x hx p i h1 h3 y hy;exact ih k' hk y nH
  have Gi:b.founded=true↔∀x∈eF b,x∈A:=by
   unfold Book.founded;show(List.all (placed b) λx=>x.1.stands==.open_||(x.1.stands==.stuck||(founding b (PLACES+1) []).contains x.1.name))=true↔_;rw[eV];constructor
   ·intro h x hx;obtain⟨p,i,h1,h2,h3⟩:=sP.mp hx;have h4:=h (i,p) (b7.mpr h1);have h4:(i.stands==.open_||(i.stands==.stuck||(founding b (PLACES+1) []).contains i.name))=true:=h4;rw[h2] at h4;have h4:(founding b (PLACES+1) []).contains i.name=true:=h4;rw[<-h3];exact fs i.name (fO.mp h4) (by rw[h3];exact hx)
   ·rintro h ⟨i,p⟩ hx;have h1:=b7.mp hx;show(i.stands==.open_||(i.stands==.stuck||(founding b (PLACES+1) []).contains i.name))=true;have QU:∀n∈eF b,n∈founding b (PLACES+1) []:=λn hn=>by obtain⟨k,hk⟩:=fN.mp (h n hn);exact sub k n hk
    have gb:gw i=true->(founding b (PLACES+1) []).contains i.name=true:=λfg=>fO.mpr (fc p i h1 fg λy hy=>QU y (hg p i h1 fg y hy));cases e:i.stands with
    |open_=>rfl
    |stuck=>rfl
    |good=>rw[gb (by unfold gw;rw[e];rfl)];rfl
    |bad=>rw[gb (by unfold gw;rw[e];rfl)];rfl
  have ZH:A.length<=(eF b).length:=gv dq hA;by_cases aL:A.length<(eF b).length
  ·rw[bp aL];cases e:b.founded with
   |false=>rfl
   |true=>have:=gv (Gf nd) (Gi.mp e);omega
  ·rw[eo aL];refine Gi.mpr λx hx=>?_;cases yy (x∈A) with
   |inl h=>exact h
   |inr h=>
    have:=gv (l:=x::A) (u:=eF b) (eL.mpr ⟨h,dq⟩) λz hz=>by
     rcases bL.mp hz with e | hz
     ·rw[e];exact hx
     ·exact hA z hz
    rw[cu] at this;omega
 ·obtain⟨q,j,g1,g2,g3⟩:=sP.mp h4;have:q=p:=nd q p j i g1 h1 g3;subst this;rw[h1] at g1;cases g1;exact dW q i h1 g2 λy hy=>h3 y hy (hg q i h1 h2 y hy)
theorem Gj(c:Item->Bool)(b:Book):fW c b.items=((placed b).filter λx=>c x.1).map λx=>x.1.name:=by
 unfold placed fW;have:∀(l:List (Option Item)) (k:Nat),(l.filterMap λx=>x.bind λi=>if c i=true then some i.name else none)=(((l.zipIdx k).filterMap λx=>x.1.map λi=>(i,x.2)).filter λx=>c x.1).map λx=>x.1.name:=λl=>by
  induction l with
  |nil=>intro k;rfl
  |cons o r ih=>
   intro k;rw[qW];cases o with
   |none=>exact ih (k+1)
   |some i=>
    show _=(((i,k)::(r.zipIdx (k+1)).filterMap λx=>x.1.map λi=>(i,x.2)).filter λx=>c x.1).map λx=>x.1.name;rw[eK];by_cases hc:c i=true
    ·rw[if_pos hc,bX,<-ih (k+1),yj (b:=i.name) (by show(if c i=true then some i.name else none)=_;rw[if_pos hc])]
    ·rw[if_neg hc,<-ih (k+1),qS (by show(if c i=true then some i.name else none)=_;rw[if_neg hc])]
 exact this b.items 0
theorem wu(b:Book)(nd:ND b):((placed b).map λx=>x.1.name).Nodup:=by have h:=qa (c:=λ_=>true) b.items nd;rw[Gj] at h;have e:((placed b).filter λ_=>true)=placed b:=List.filter_eq_self.mpr λ_ _=>rfl;rw[e] at h;exact h
theorem QV(b:Book):eF b=((placed b).filter λx=>x.1.stands==.good).map λx=>x.1.name:=Gj _ _
noncomputable def gl(b:Book)(t:Text):Option (List Text):=(b.item t).bind λi=>if i.stands=.good then some i.leans else none
theorem sS{b:Book}{t:Text}{ls:List Text}(h:gl b t=some ls):∃(p:Nat) (i:Item),b.items[p]?=some (some i)/\i.stands=.good/\i.name=t/\i.leans=ls:=by
 unfold gl at h;cases e:b.item t with
 |none=>rw[e] at h;cases h
 |some i=>
  rw[e] at h;have h:(if i.stands=.good then some i.leans else none)=some ls:=h;obtain⟨p,_,h1,h2⟩:=jv e;split at h
  ·rename_i hg;exact⟨p,i,h1,hg,h2,a4 h⟩
  ·cases h
theorem wx{b:Book}(nd:ND b){p:Nat}{i:Item}(h:b.items[p]?=some (some i))(hg:i.stands=.good):gl b i.name=some i.leans:=by unfold gl;rw[pZ (mz nd h) h];show(if i.stands=.good then some i.leans else none)=_;rw[if_pos hg]
theorem Ag{b:Book}(nd:ND b){t:Text}:t∈eF b↔(gl b t).isSome=true:=by
 rw[sP];constructor
 ·rintro⟨p,i,h1,h2,h3⟩;rw[<-h3,wx nd h1 h2];rfl
 ·intro h;obtain⟨ls,e⟩:=uB.mp h;obtain⟨p,i,h1,h2,h3,_⟩:=sS e;exact⟨p,i,h1,h2,h3⟩
theorem QW(x n:Text)(ls:List Text):U (ls.map λy=>(y,n)) x=List.replicate (ls.count x) n:=by
 unfold U;induction ls with
 |nil=>rfl
 |cons y r ih=>
  rw[bX,eK,rg];by_cases h:y=x
  ·rw[if_pos (by show(y==x)=true;rw[h];exact kC _),bX,ih,if_pos (by rw[h];exact kC _),List.replicate_succ]
  ·rw[if_neg (by show ¬(y==x)=true;rw[dt.mpr h];exact Bool.noConfusion),ih,if_neg (by rw[dt.mpr h];exact Bool.noConfusion)];rfl
theorem QX(p q:List (Text×Text))(x:Text):U (p++q) x=U p x++U q x:=by unfold U;rw[uG,bW]
theorem Gk{b:Book}(nd:ND b){p:Nat}{i:Item}(h:b.items[p]?=some (some i))(x:Text):(U (pairs b) x).count i.name=i.leans.count x:=by
 have key:∀L:List (Item×Nat),(L.map λz=>z.1.name).Nodup->((i,p)∈L->(U (L.flatMap λz=>z.1.leans.map λn=>(n,z.1.name)) x).count i.name=i.leans.count x)/\(i.name∉(L.map λz=>z.1.name)->(U (L.flatMap λz=>z.1.leans.map λn=>(n,z.1.name)) x).count i.name=0):=λL=>by
  induction L with
  |nil=>intro _;exact⟨(λz=>nomatch z),λ_=>rfl⟩
  |cons z L ih=>
   intro dq;rw[bX] at dq;obtain⟨h1,h2⟩:=eL.mp dq;obtain⟨i1,i2⟩:=ih h2;rw[kz,QX,yo,QW,List.count_replicate];constructor
   ·intro hm;rcases bL.mp hm with e | hm
    ·have e1:z.1=i:=by rw[<-e]
     rw[e1] at h1 ⊢;rw[if_pos (kC _),i2 h1];rfl
    ·have bG:¬z.1.name=i.name:=λe=>h1 (by rw[e];exact cU.mpr ⟨(i,p),hm,rfl⟩);rw[if_neg (by rw[dt.mpr bG];exact Bool.noConfusion),i1 hm,yt]
   ·intro hm;rw[bX,bL,not_or] at hm;rw[if_neg (by rw[dt.mpr (bu hm.1)];exact Bool.noConfusion),i2 hm.2]
 exact(key (placed b) (wu b nd)).1 (b7.mpr h)
noncomputable def cP(ls A:List Text):Nat:=ls.countP λy=>decide (y∈A)
theorem Gm(ls A:List Text):cP ls A<=ls.length:=List.countP_le_length
theorem Gn(ls:List Text):cP ls []=0:=by unfold cP;rw[List.countP_eq_zero];intro y _;simp
theorem Ah{A:List Text}{x:Text}(hx:x∉A):∀ls:List Text,cP ls (A++[x])=cP ls A+ls.count x
 |[]=>rfl
 |y::r=>by
  have ih:=Ah hx r;unfold cP at ih ⊢;rw[C5,C5,rg,ih];have c0:(y==x)=decide (y=x):=CU y x;rw[c0];by_cases h:y=x
  ·have a:decide (y∈A++[x])=true:=bp (i5 _ (gh.mpr h));have c:decide (y∈A)=false:=eo λz=>hx (by rw[<-h];exact z);have d:decide (y=x)=true:=bp h;rw[a,c,d];show _+1=_+0+(_+1);omega
  ·have d:decide (y=x)=false:=eo h;by_cases h2:y∈A
   ·have a:decide (y∈A++[x])=true:=bp (uD _ h2);have c:decide (y∈A)=true:=bp h2;rw[a,c,d];show _+1=_+1+(_+0);omega
   ·have a:decide (y∈A++[x])=false:=eo λz=>by
     rcases gm.mp z with z | z
     ·exact h2 z
     ·exact h (gh.mp z)
    have c:decide (y∈A)=false:=eo h2;rw[a,c,d];show _+0=_+0+(_+0);omega
theorem QY{ls A:List Text}(h:ls.length<=cP ls A):∀y∈ls,y∈A:=by have e:cP ls A=ls.length:=Nat.le_antisymm (Gm ls A) h;unfold cP at e;intro y hy;exact bw (List.countP_eq_length.mp e y hy)
theorem QZ{ls A:List Text}(h:∀y∈ls,y∈A):cP ls A=ls.length:=by unfold cP;rw[List.countP_eq_length];exact λy hy=>bp (h y hy)
theorem Ai{A:List Text}(nd:A.Nodup){j:Nat}{x:Text}(h:A[j]?=some x):x∉A.take j:=λhm=>by
 obtain⟨k,hk⟩:=fN.mp hm;rw[List.getElem?_take] at hk;split at hk
 ·rename_i aL;obtain⟨h1,e1⟩:=bh.mp h;obtain⟨h2,e2⟩:=bh.mp hk;have:=(LK nd).mp (e2.trans e1.symm);omega
 ·cases hk
theorem Aj{α:Type}{l:List α}{i:Nat}{x:α}(h:l[i]?=some x):l.take (i+1)=l.take i++[x]:=by obtain⟨h1,e⟩:=bh.mp h;rw[List.take_succ,h];rfl
structure KI(b:Book)(A:List Text)(j:Nat)(us:List Text):Prop where
 nd:A.Nodup
 sub:∀x∈A,(gl b x).isSome=true
 zero:∀t ls,gl b t=some ls->(t∈A↔ls.length-cP ls (A.take j)-us.count t=0)
 ord:∀(k:Nat) (x:Text),A[k]?=some x->∀ls,gl b x=some ls->∀y∈ls,y∈A.take k
noncomputable def d9(b:Book)(A:List Text)(j:Nat)(us:List Text)(t:Text):Option Nat:=(gl b t).map λls=>ls.length-cP ls (A.take j)-us.count t
section
variable {b:Book}{A:List Text}{j:Nat}{us:List Text}
theorem KI.skip(k:KI b A j us){u:Text}(hu:gl b u=none):KI b A j (us++[u])/\∀t,d9 b A j (us++[u]) t=d9 b A j us t:=by
 have cnt:∀t ls,gl b t=some ls->(us++[u]).count t=us.count t:=λt ls e=>by rw[yo,rg,if_neg (by rw[dt.mpr (λz=>by rw[z,e] at hu;cases hu)];exact Bool.noConfusion)];rfl
 refine⟨⟨k.nd,k.sub,λt ls e=>by rw[cnt t ls e];exact k.zero t ls e,k.ord⟩,λt=>?_⟩;unfold d9;cases e:gl b t with
 |none=>rfl
 |some ls=>show some _=some _;rw[cnt t ls e]
theorem KI.step(k:KI b A j us)(nd:ND b){x u:Text}{ls:List Text}(hx:A[j]?=some x)(hu:gl b u=some ls){q:Nat}(kZ:us=(U (pairs b) x).take q)(hq:(U (pairs b) x)[q]?=some u) :
 ∃v,d9 b A j us u=some (v+1)/\u∉A/\(∀t,d9 b A j (us++[u]) t=if t=u then some v else d9 b A j us t)/\(v=0->KI b (A++[u]) j (us++[u])/\∀t,d9 b (A++[u]) j (us++[u]) t=d9 b A j (us++[u]) t)/\(v≠0->KI b A j (us++[u])):=by
 obtain⟨p,i,h1,h2,h3,h4⟩:=sS hu;have ze:j<A.length:=(bh.mp hx).1;have cnt:(U (pairs b) x).count u=ls.count x:=by rw[<-h3,<-h4];exact Gk nd h1 x
 have c1:us.count u+1<=ls.count x:=by
  rw[<-cnt,kZ];have e:((U (pairs b) x).take (q+1)).count u=((U (pairs b) x).take q).count u+1:=by rw[Aj hq,yo,rg,if_pos (kC _)];rfl
  rw[<-e];exact List.Sublist.count_le _ (List.take_sublist _ _)
 have snoc:cP ls (A.take (j+1))=cP ls (A.take j)+ls.count x:=by rw[Aj hx];exact Ah (Ai k.nd hx) ls
 have wy:cP ls (A.take j)+ls.count x<=ls.length:=by rw[<-snoc];exact Gm _ _
 have Ak:(us++[u]).count u=us.count u+1:=by rw[yo,rg,if_pos (kC _)];rfl
 have Al:∀t,t≠u->(us++[u]).count t=us.count t:=λt ht=>by rw[yo,rg,if_neg (by rw[dt.mpr (bu ht)];exact Bool.noConfusion)];rfl
 have Am:u∉A:=λz=>by have:=(k.zero u ls hu).mp z;omega
 have Gp:(A++[u]).take j=A.take j:=Zg (yx ze);refine⟨ls.length-cP ls (A.take j)-us.count u-1,?_,Am,λt=>?_,λhv=>⟨⟨?_,λy hy=>?_,λt mF e=>?_,λkk y hy mF e z hz=>?_⟩,λt=>?_⟩,λhv=>⟨k.nd,k.sub,λt mF e=>?_,k.ord⟩⟩
 ·unfold d9;rw[hu];show some (ls.length-cP ls (A.take j)-us.count u)=some _;congr 1;omega
 ·unfold d9;by_cases ht:t=u
  ·subst ht;rw[if_pos rfl,hu];show some (ls.length-cP ls (A.take j)-(us++[t]).count t)=some _;congr 1;rw[Ak];omega
  ·rw[if_neg ht];cases e:gl b t with
   |none=>rfl
   |some mF=>show some _=some _;rw[Al t ht]
 ·exact FG k.nd Am
 ·rcases gm.mp hy with z | z
  ·exact k.sub y z
  ·rw[gh.mp z,hu];rfl
 ·rw[Gp];by_cases ht:t=u
  ·subst ht;rw[hu] at e;cases e;rw[Ak];exact⟨λ_=>by omega,λ_=>i5 _ (gh.mpr rfl)⟩
  ·rw[Al t ht,<-k.zero t mF e,gm];exact⟨λz=>z.resolve_right λq=>ht (gh.mp q),.inl⟩
 ·by_cases hk:kk<A.length
  ·rw[CN hk] at hy;rw[Zg (yx hk)];exact k.ord kk y hy mF e z hz
  ·rw[Zl (by omega)] at hy;have Q0:kk=A.length:=by have:=(bh.mp hy).1;simp at this;omega
   subst Q0;rw[yu] at hy;have hy:u=y:=a4 hy;subst hy;rw[hu] at e;cases e;rw[List.take_left' rfl];have:=QY (A:=A.take (j+1)) (ls:=ls) (by rw[snoc];omega) z hz;exact LD this
 ·unfold d9;rw[Gp]
 ·by_cases ht:t=u
  ·subst ht;rw[hu] at e;cases e;rw[Ak];exact⟨λz=>absurd z Am,λz=>absurd (by omega) hv⟩
  ·rw[Al t ht];exact k.zero t mF e
theorem KI.next(k:KI b A j us)(nd:ND b){x:Text}(hx:A[j]?=some x)(kZ:us=U (pairs b) x):KI b A (j+1) []/\∀t,d9 b A (j+1) [] t=d9 b A j us t:=by
 have key:∀t ls,gl b t=some ls->ls.length-cP ls (A.take (j+1))-([]:List Text).count t=ls.length-cP ls (A.take j)-us.count t:=λt ls e=>by
  obtain⟨p,i,h1,h2,h3,h4⟩:=sS e;have cnt:us.count t=ls.count x:=by rw[kZ,<-h3,<-h4];exact Gk nd h1 x
  rw[Aj hx,Ah (Ai k.nd hx),cnt];show _-0=_;omega
 refine⟨⟨k.nd,k.sub,λt ls e=>by rw[key t ls e];exact k.zero t ls e,k.ord⟩,λt=>?_⟩;unfold d9;cases e:gl b t with
 |none=>rfl
 |some ls=>exact eW some (key t ls e)
theorem KI.done(k:KI b A A.length [])(hl:b.items.length=256)(nd:ND b)(hg:∀(p:Nat) (i:Item),b.items[p]?=some (some i)->gw i=true->∀n∈i.leans,n∈eF b):b.founded=!decide (A.length<(eF b).length):=by
 refine QS hl nd hg k.nd (λx hx=>(Ag nd).mpr (k.sub x hx)) (λkk x hx p i h1 h2 y hy=>?_) λp i h1 h2 h3=>?_
 ·have hs:=k.sub x (cE hx);obtain⟨ls,e⟩:=uB.mp hs;obtain⟨p',i',g1,g2,g3,g4⟩:=sS e;have:p'=p:=nd p' p i' i g1 h1 (by rw[g3,h2]);subst this;rw[h1] at g1;cases g1;have hm:=k.ord kk x hx ls e y (by rw[<-g4];exact hy);obtain⟨q,hq⟩:=fN.mp hm;rw[List.getElem?_take] at hq;split at hq
  ·rename_i aL;exact⟨q,aL,hq⟩
  ·cases hq
 ·refine(k.zero i.name i.leans (wx nd h1 h2)).mpr ?_;rw[cA,QZ h3];show _ - _-0=0;omega
end
end NB
namespace Rr
open PySem PySem.Spec PyProof.Rows L2
noncomputable def top(i:Nat):Stmt:=PySem.Challenge.pw_rerun_s01_answers.main.body.getD i (.Pass ⟨0,0,0,0⟩)
structure aR(K:PySem.W.Frag)(mg:Str->Option Value)(x:Str)(st:Stmt)(ps:List Str):Prop where
 ex:∃f fd,mg x=some (.ref f)/\j5 K x x st f fd/\Binds K fd ps []
noncomputable def Ok(P:Program)(w:World)(K:PySem.W.Frag)(mg:Str->Option Value)(base:Heap)(CX:eP)(k:Nat)(x:Str)(ps:List Str)(sp:Sp):Prop:=
 ∃f fd,mg x=some (.ref f)/\PySem.W.keepIn K (.ref f)=true/\Binds K fd ps []/\dZ P w K mg base CX k f fd ps sp
section
variable {X:Cx}{CX:eP}{k:Nat}{x:Str}{ps:List Str}{sp:Sp}{E:XK}{e:Expr}{es:List Expr}{t:TA}{p pos:Pos}
theorem az(D:Ok X.prog X.w X.K X.mg X.base CX k x ps sp)(hr:cp k X.A)(hg:Gl X x)(hx:Passes CX X E)(ha:PA X (e::es) t)(fz:(x==("__debug__":Str))=false:=by decide)
 (he:starEach (e::es) X.env=(false,eval e X.env)::starEach es X.env:=by rfl) (eQ:(backTo pos (starEach es X.env)).any (·.1)=false:=by rfl) :
 PE X (.Call (.Name x p) (e::es) [] pos) (pL sp [] E t):=by
 obtain⟨f,fd,hm,hk,hb,F⟩:=D;exact Na F hr hg hm hk hb .nil hx ha fz he eQ
end
section
variable {P:Program}{w:World}{K:PySem.W.Frag}{mg:Str->Option Value}{base:Heap}
theorem Ok.mono{CX:eP}{k k':Nat}{x:Str}{ps:List Str}{sp:Sp}(D:Ok P w K mg base CX k x ps sp)(h:k<=k'):Ok P w K mg base CX k' x ps sp:=by obtain⟨f,fd,hm,hk,hb,F⟩:=D;exact⟨f,fd,hm,hk,hb,F.mono h⟩
theorem Ok.imp{CX:eP}{k:Nat}{x:Str}{ps:List Str}{sp rK:Sp}(D:Ok P w K mg base CX k x ps sp)(h:∀vs H Q E,rK vs H Q E->sp vs H Q E):Ok P w K mg base CX k x ps rK:=by obtain⟨f,fd,hm,hk,hb,F⟩:=D;exact⟨f,fd,hm,hk,hb,F.imp h⟩
theorem sk{P:List Str}{st:Stmt}(N:List Str)(h:md N P (dX st):=by exact⟨rfl,rfl,rfl,by decide +kernel,rfl,by decide +kernel,by decide +kernel⟩):md N P (dX st):=h
theorem aR.ok{x:Str}{st:Stmt}{N ps:List Str}{k:Nat}{sp:Sp}(F:aR K mg x st ps)(S:md N ps (dX st))(len:∀vs H Q E,sp vs H Q E->vs.length=ps.length)
 (kL:∀(f:Addr) (aD:Value) (A:Around) (outer:List Env) (s:Shared) (H:Hp) (vs:List V) (Q:VK) (E:XK),cp k (A.deeper (envOfC x (dX st) s.heap.objs.size f aD))->sp vs H Q E->
  ∃t,eZ (j3 aq P w K mg base N x (dX st) f aD A outer s H E).jX (jr st) t/\t {nx:=λ_ H'=>Q .ak H',rt:=Q} (start N vs) H):Ok P w K mg base aq (k+1) x ps sp:=by
 obtain⟨f,fd,hm,F,hb⟩:=F.ex;exact⟨f,fd,hm,F.kp,hb,F.ok S len λaD A outer s H vs Q E hr fS=>kL f aD A outer s H vs Q E hr fS⟩
theorem aR.iQ{x:Str}{st:Stmt}{N ps:List Str}{k:Nat}{sp:Sp}{C:Addr}(F:aR K mg x st ps)(S:md N ps (dX st))(len:∀vs H Q E,sp vs H Q E->vs.length=ps.length)
 (kL:∀(f:Addr) (aD:Value) (A:Around) (outer:List Env) (s:Shared) (H:Hp) (vs:List V) (Q:VK) (E:XK),cp k (A.deeper (envOfC x (dX st) s.heap.objs.size f aD))->sp vs H Q E->
  ju (j3 (bC P w C) P w K mg base N x (dX st) f aD A outer s H E) C E->
  ∃t,eZ (j3 (bC P w C) P w K mg base N x (dX st) f aD A outer s H E) (jr st) t/\t {nx:=λ_ H'=>Q .ak H',rt:=Q} (start N vs) H):Ok P w K mg base (bC P w C) (k+1) x ps sp:=by
 obtain⟨f,fd,hm,F,hb⟩:=F.ex;refine⟨f,fd,hm,F.kp,hb,?_⟩;obtain⟨oc,od,kV,doc,pm,an,aD,ct,fA,rfl,lk,je⟩:=F.ex;exact DZ lk je S len λA outer s H vs Q E hr fS=>kL f aD A outer s H vs Q E hr fS ⟨rfl,rfl,rfl,rfl⟩
end
noncomputable def GI(mg:Str->Option Value)(x:Str)(i:Int):Prop:=∃t,mg x=some (.int i t)
theorem aM{X:Cx}{x:Str}{i:Int}{pos:Pos}(h:GI X.mg x i)(hg:Gl X x:=by rfl)(hd:(x==("__debug__":Str))=false:=by decide):PE X (.Name x pos) (tC (.int i)):=by obtain⟨t,e⟩:=h;exact yD hg e ⟨t,rfl⟩ hd
open Nb (Text Item Last Came Stands)
noncomputable def bv(t:Text):List V:=t.map λc=>V.int (c.toNat:Int)
noncomputable def nk(t:Text):List Key:=t.map λc=>Sum.inl (c.toNat:Int)
theorem Gq(t:Text):(nk t).map kV=bv t:=by unfold nk bv;rw[pz];rfl
theorem An{a b:UInt8}(h:(a.toNat:Int)=(b.toNat:Int)):a=b:=LM.mp (by omega)
theorem k8{a b:Text}(h:nk a=nk b):a=b:=by
 unfold nk at h;refine List.map_inj_right (λx y e=>?_) |>.mp h
 exact An (Sum.inl.inj e)
theorem bH(t:Text):(bv t).length=t.length:=aF ..
noncomputable abbrev ay(H:Hp)(a:Addr)(t:Text):Prop:=H a=some (.tup (bv t))
noncomputable def cz(H:Hp)(a:Addr)(ts:List Text):Prop:=∃as:List Addr,H a=some (.tup (as.map V.ref))/\Paired (λb t=>ay H b t) as ts
theorem ay.key{H:Hp}{a:Addr}{t:Text}(h:ay H a t):H a=some (.tup ((nk t).map kV)):=by rw[Gq];exact h
theorem Paired.get{α β:Type}{R:α->β->Prop}:∀{xs:List α} {ys:List β} {i:Nat} {x:α},Paired R xs ys->xs[i]?=some x->∃y,ys[i]?=some y/\R x y
 |_,_,_,_,.nil,e=>by simp at e
 |_,_,0,_,.cons r _,e=>by simp at e;subst e;exact⟨_,rfl,r⟩
 |_,_,i+1,x,.cons _ t,e=>by obtain⟨y,h1,h2⟩:=Paired.get (i:=i) (x:=x) t (by simpa using e);exact⟨y,by simpa using h1,h2⟩
theorem Paired.get'{α β:Type}{R:α->β->Prop}:∀{xs:List α} {ys:List β} {i:Nat} {y:β},Paired R xs ys->ys[i]?=some y->∃x,xs[i]?=some x/\R x y
 |_,_,_,_,.nil,e=>by simp at e
 |_,_,0,_,.cons r _,e=>by simp at e;subst e;exact⟨_,rfl,r⟩
 |_,_,i+1,y,.cons _ t,e=>by obtain⟨x,h1,h2⟩:=Paired.get' (i:=i) (y:=y) t (by simpa using e);exact⟨x,by simpa using h1,h2⟩
theorem Paired.append{α β:Type}{R:α->β->Prop}:∀{xs ic:List α} {ys Gr:List β},Paired R xs ys->Paired R ic Gr->Paired R (xs++ic) (ys++Gr)
 |_,_,_,_,.nil,s=>s
 |_,_,_,_,.cons r t,s=>.cons r (Paired.append t s)
theorem Paired.len{α β:Type}{R:α->β->Prop}{xs:List α}{ys:List β}(h:Paired R xs ys):xs.length=ys.length:=Paired.length h
theorem Paired.drop{α β:Type}{R:α->β->Prop}:∀{xs:List α} {ys:List β} (n:Nat),Paired R xs ys->Paired R (xs.drop n) (ys.drop n)
 |_,_,0,r=>r
 |_,_,_+1,.nil=>.nil
 |_,_,n+1,.cons _ t=>Paired.drop n t
theorem take_snoc{α:Type}:∀{l:List α} {i:Nat} {x:α},l[i]?=some x->l.take (i+1)=l.take i++[x]
 |[],i,x,h=>by simp at h
 |a::l,0,x,h=>by have e:a=x:=a4 h;subst e;rfl
 |a::l,i+1,x,h=>by have ih:=take_snoc (l:=l) (i:=i) (x:=x) h;show a::l.take (i+1)=a::l.take i++[x];rw[ih];rfl
noncomputable def tD(t:Text):PyData:=.tuple (t.map λc=>PyData.int (c.toNat:Int))
theorem Ao{K:PySem.W.Frag}{H:Hp}:∀t:Text,mh K H (bv t) (t.map λc=>PyData.int (c.toNat:Int))
 |[]=>.nil
 |c::t=>.cons (.int _) (Ao t)
theorem ay.dp{K:PySem.W.Frag}{H:Hp}{a:Addr}{t:Text}(h:ay H a t):Dp K H (.ref a) (tD t):=.tup (aQ.of h) (Ao t)
theorem Q1{K:PySem.W.Frag}{H:Hp}{as:List Addr}{ts:List Text}(h:Paired (λb t=>ay H b t) as ts):mh K H (as.map V.ref) (ts.map tD):=by
 induction h with
 |nil=>exact .nil
 |cons r _ ih=>exact .cons r.dp ih
theorem cz.dp{K:PySem.W.Frag}{H:Hp}{a:Addr}{ts:List Text}(h:cz H a ts):Dp K H (.ref a) (.tuple (ts.map tD)):=by obtain⟨as,h1,h2⟩:=h;exact .tup (aQ.of h1) (Q1 h2)
theorem wz(a b:Text):PyData.eqv (tD a) (tD b)=decide (a=b):=by
 unfold tD;rw[PyData.eqv];have e:∀t:Text,(t.map λc=>PyData.int (c.toNat:Int))=(t.map λc=>(c.toNat:Int)).map PyData.int:=λt=>by rw[pz];rfl
 rw[e a,e b,PySem.W.ked_eqvAll];have:((a.map λc=>(c.toNat:Int))=b.map λc=>(c.toNat:Int))↔a=b:=⟨λh=>List.map_inj_right (λx y e=>An e) |>.mp h,λh=>by rw[h]⟩;exact qV.mpr this
theorem Ap:∀a b:List Text,PyData.eqvAll (a.map tD) (b.map tD)=decide (a=b)
 |[],[]=>by simp[PyData.eqvAll]
 |[],_::_=>by simp[PyData.eqvAll]
 |_::_,[]=>by simp[PyData.eqvAll]
 |a::r,b::t=>by simp only[bX,PyData.eqvAll,wz,Ap r t];by_cases h:a=b<;>by_cases h':r=t<;>simp[h,h']
theorem Aq(t:Text):(tD t).canLay0=true:=by
 unfold tD PyData.canLay0;induction t with
 |nil=>rfl
 |cons c t ih=>rw[bX,PyData.canLayAll0,ih,PyData.canLay0];rfl
theorem Gs(t:Text):(tD t).depth<=2:=by
 unfold tD PyData.depth;have:∀t:Text,PyData.depthAll (t.map λc=>PyData.int (c.toNat:Int))<=1:=λt=>by
  induction t with
  |nil=>exact bY _
  |cons c t ih=>
   rw[bX,PyData.depthAll];refine Nat.max_le.mpr ⟨?_,ih⟩;rw[PyData.depth]
   all_goals omega
 have h:=this t;omega
theorem Ar:∀ts:List Text,PyData.canLayAll0 (ts.map tD)=true
 |[]=>rfl
 |t::r=>by rw[bX,PyData.canLayAll0,Aq,Ar r];rfl
theorem As:∀ts:List Text,PyData.depthAll (ts.map tD)<=2
 |[]=>bY _
 |t::r=>by rw[bX,PyData.depthAll];exact Nat.max_le.mpr ⟨Gs t,As r⟩
theorem wA(t:Text):SeqAt.shaped (tD t)=true:=by unfold SeqAt.shaped;rw[Aq,gD];exact bp (aS (Gs t) (by decide))
theorem wB(ts:List Text):SeqAt.shaped (.tuple (ts.map tD))=true:=by unfold SeqAt.shaped;rw[show(PyData.tuple (ts.map tD)).canLay0=true from Ar ts,gD];refine bp ?_;rw[PyData.depth];have:=As ts;omega
section
variable {X:Cx}
theorem Q2(hu:X.A.units+64<cLine):cF X (compareOp .Eq) (λx y H Q=>∃a b t u,x=.ref a/\y=.ref b/\ay H a t/\ay H b u/\Q (.bl (decide (t=u))) H):=by intro pins s σ H x y v u Q I rx ry h;obtain⟨a,b,t,u',rfl,rfl,h1,h2,q⟩:=h;exact Ek hu pins s σ H _ _ v u Q I rx ry ⟨_,_,h1.dp,h2.dp,wA t,wA u',by rw[wz];exact q⟩
theorem Gu(hu:X.A.units+64<cLine):cF X (compareOp .Eq) (λx y H Q=>∃a b t u,x=.ref a/\y=.ref b/\cz H a t/\cz H b u/\Q (.bl (decide (t=u))) H):=by intro pins s σ H x y v u Q I rx ry h;obtain⟨a,b,t,u',rfl,rfl,h1,h2,q⟩:=h;refine Ek hu pins s σ H _ _ v u Q I rx ry ⟨_,_,h1.dp,h2.dp,wB t,wB u',?_⟩;rw[PyData.eqv,Ap];exact q
theorem Q3(hu:X.A.units+64<cLine):cF X (compareOp .NotEq) (λx y H Q=>∃a b t u,x=.ref a/\y=.ref b/\cz H a t/\cz H b u/\Q (.bl (!decide (t=u))) H):=by intro pins s σ H x y v u Q I rx ry h;obtain⟨a,b,t,u',rfl,rfl,h1,h2,q⟩:=h;refine El hu pins s σ H _ _ v u Q I rx ry ⟨_,_,h1.dp,h2.dp,wB t,wB u',?_⟩;rw[PyData.eqv,Ap];exact q
theorem Gv(t:Text):∀ts:List Text,((ts.map tD).any λy=>PyData.eqv y (tD t))=ts.contains t
 |[]=>rfl
 |u::r=>by
  rw[bX,uM,Gv t r,wz,List.contains_cons];congr 1;by_cases h:u=t
  ·subst h;simp
  ·have h':¬t=u:=λe=>h e.symm;simp[h,h']
theorem Q4(hu:X.A.units+64<cLine):cF X (compareOp .In) (λx y H Q=>∃a b t ts,x=.ref a/\y=.ref b/\ay H a t/\cz H b ts/\Q (.bl (ts.contains t)) H):=by
 intro pins s σ H x y v u Q I rx ry h;obtain⟨a,b,t,ts,rfl,rfl,h1,h2,q⟩:=h;obtain⟨as,r1⟩:=Dp.reads I _ _ v (h1.dp (K:=X.K)) rx;obtain⟨bs,r2⟩:=Dp.reads I _ _ u (h2.dp (K:=X.K)) ry;refine SeqAt.in_tuple_reads r2 r1 (Ar ts) (Aq t) ?_ ?_
 ·have:=As ts;have:=Nat.min_le_left (PyData.depthAll (ts.map tD)) (tD t).depth;omega
 ·rw[Gv];exact⟨.bl _,H,I,rfl,q⟩
end
structure Cs where
 call:Addr
 run:Addr
 cell:Addr
 book:Addr
 reader:Addr
 step:Addr
 bD:Addr
noncomputable def cn:Came->Nat
 |.value _=>0
 |.bad n=>n
noncomputable def cv:Came->Text
 |.value b=>b
 |.bad _=>[]
noncomputable def rf(t l g v:V)(n:Int):List (Str×V):=[("text",t),("leans",l),("given",g),("value",v),("number",.int n)]
noncomputable def cf(p:Nat)(n t l la:V)(to:Bool)(st:Nat):List (Str×V):=[("place",.int (p:Int)),("name",n),("text",t),("leans",l),("last",la),("touched",.bl to),("stands",.int (st:Int))]
noncomputable def bf(ca da:Addr)(runs:Nat)(wv:V)(made iR:Nat):List (Str×V):=[("cells",.ref ca),("named",.ref da),("runs",.int (runs:Int)),("waiting",wv),("made",.int (made:Int)),("allowed",.int (iR:Int))]
structure qb(C:Cs)(H:Hp)(a:Addr)(l:Last):Prop where
 ex:∃dx ta la ga va,H a=some (.ins C.run dx (rf (.ref ta) (.ref la) (.ref ga) (.ref va) (cn l.came)))/\ay H ta l.text/\cz H la l.names/\cz H ga l.values/\ay H va (cv l.came)
noncomputable def mG(C:Cs)(H:Hp)(v:V):Option Last->Prop
 |none=>v=.ak
 |some l=>∃a,v=.ref a/\qb C H a l
noncomputable def bt(C:Cs)(H:Hp)(a:Addr)(p:Nat)(i:Item):Prop:=
 ∃dx na ta la lv,H a=some (.ins C.cell dx (cf p (.ref na) (.ref ta) (.ref la) lv i.touched i.stands.num))/\ay H na i.name/\ay H ta i.text/\cz H la i.leans/\mG C H lv i.last
noncomputable def cq(C:Cs)(H H':Hp):Prop:=∀b o,H b=some o->((∃xs,o=.tup xs)\/∃dx fs,o=.ins C.run dx fs)->H' b=some o
theorem ai.aB{C:Cs}{H H':Hp}(s:ai H H'):cq C H H':=λb o h _=>s b o h
theorem cq.refl{C:Cs}{H:Hp}:cq C H H:=λ_ _ h _=>h
theorem cq.trans{C:Cs}{H H1 H2:Hp}(a:cq C H H1)(b:cq C H1 H2):cq C H H2:=λc o h z=>b c o (a c o h z) z
section
variable {C:Cs}{H H':Hp}
theorem ay.aB{a:Addr}{t:Text}(h:ay H a t)(m:cq C H H'):ay H' a t:=m _ _ h (.inl ⟨_,rfl⟩)
theorem Q5{as:List Addr}{ts:List Text}(h:Paired (λb t=>ay H b t) as ts)(m:cq C H H'):Paired (λb t=>ay H' b t) as ts:=Paired.cW h λ_ _ z=>ay.aB z m
theorem cz.aB{a:Addr}{ts:List Text}(h:cz H a ts)(m:cq C H H'):cz H' a ts:=by obtain⟨as,h1,h2⟩:=h;exact⟨as,m _ _ h1 (.inl ⟨_,rfl⟩),Q5 h2 m⟩
theorem qb.aB{a:Addr}{l:Last}(h:qb C H a l)(m:cq C H H'):qb C H' a l:=by obtain⟨dx,ta,la,ga,va,h1,h2,h3,h4,h5⟩:=h.ex;exact⟨dx,ta,la,ga,va,m _ _ h1 (.inr ⟨_,_,rfl⟩),ay.aB h2 m,h3.aB m,h4.aB m,ay.aB h5 m⟩
theorem mG.aB{v:V}{o:Option Last}(h:mG C H v o)(m:cq C H H'):mG C H' v o:=by
 cases o with
 |none=>exact h
 |some l=>obtain⟨a,e,r⟩:=h;exact⟨a,e,r.aB m⟩
theorem bt.aB{a:Addr}{p:Nat}{i:Item}(h:bt C H a p i)(m:cq C H H')(ha:∀o,H a=some o->H' a=some o):bt C H' a p i:=by obtain⟨dx,na,ta,la,lv,h1,h2,h3,h4,h5⟩:=h;exact⟨dx,na,ta,la,lv,ha _ h1,ay.aB h2 m,ay.aB h3 m,h4.aB m,h5.aB m⟩
theorem bt.same{a:Addr}{p:Nat}{i:Item}(h:bt C H a p i)(m:ai H H'):bt C H' a p i:=h.aB (ai.aB m) λo e=>m _ _ e
theorem Au{a:Addr}{o:HO}(hn:∀o',H a=some o'->¬((∃xs,o'=.tup xs)\/∃dx fs,o'=.ins C.run dx fs)):cq C H (upd H a o):=λb o' e z=>by
 by_cases h:b=a
 ·subst h;exact absurd z (hn o' e)
 ·rw[aw h];exact e
theorem aG{a:Addr}{o:HO}(h:H a=none):ai H (upd H a o):=λb o' e=>by rw[aw (bj e h)];exact e
end
structure Gh where
 ba:Addr
 bd:Addr
 ca:Addr
 da:Addr
 cs:List (Option Addr)
noncomputable def ov:Option Addr->V
 |none=>.ak
 |some a=>.ref a
noncomputable def src(g:Gh)(b:Nb.Book)(t:Text):Option Addr:=(b.find t).bind λp=>(g.cs[p]?).join
noncomputable def sT(C:Cs)(H:Hp):Option Addr->Option Item->Nat->Prop
 |some a,some i,p=>bt C H a p i
 |none,none,_=>True
 |_,_,_=>False
structure Rep(C:Cs)(H:Hp)(g:Gh)(b:Nb.Book)(wv:V)(made iR:Nat):Prop where
 book:H g.ba=some (.ins C.book g.bd (bf g.ca g.da b.runs wv made iR))
 cells:H g.ca=some (.lst (g.cs.map ov))
 len:g.cs.length=256
 pair:Paired (λ(c:Option Addr) (x:Option Item×Nat)=>sT C H c x.1 x.2) g.cs b.items.zipIdx
 named:∃kvs:List (List Key×V),H g.da=some (.dT kvs)/\(kvs.map (·.1)).Nodup/\(∀t:Text,aV kvs (nk t)=(src g b t).map V.ref)/\∀k∈kvs.map (·.1),∃t,k=nk t
noncomputable def Gh.foot(g:Gh)(b:Addr):Prop:=b=g.ba\/b=g.ca\/b=g.da\/some b∈g.cs
noncomputable def aW(W:Addr->Prop)(H H':Hp):Prop:=∀b o,H b=some o->¬W b->H' b=some o
theorem aW.refl{W:Addr->Prop}{H:Hp}:aW W H H:=λ_ _ h _=>h
theorem aW.trans{W:Addr->Prop}{H H1 H2:Hp}(a:aW W H H1)(b:aW W H1 H2):aW W H H2:=λc o h z=>b c o (a c o h z) z
theorem ai.keep{W:Addr->Prop}{H H':Hp}(s:ai H H'):aW W H H':=λb o h _=>s b o h
theorem aW.mono{W W':Addr->Prop}{H H':Hp}(a:aW W H H')(h:∀b,W b->W' b):aW W' H H':=λc o e z=>a c o e λq=>z (h c q)
theorem dF{W:Addr->Prop}{H:Hp}{a:Addr}{o:HO}(h:W a):aW W H (upd H a o):=λb o' e z=>by rw[aw λq=>z (by rw[q];exact h)];exact e
section
variable {C:Cs}{H H':Hp}{g:Gh}{b:Nb.Book}{wv:V}{made iR:Nat}
theorem Rep.same(R:Rep C H g b wv made iR)(s:ai H H'):Rep C H' g b wv made iR:=by
 obtain⟨kvs,h1,h2,h3,h4⟩:=R.named;refine⟨s _ _ R.book,s _ _ R.cells,R.len,Paired.cW R.pair λc x h=>?_,kvs,s _ _ h1,h2,h3,h4⟩;cases c with
 |none=>
  cases e:x.1 with
  |none=>exact True.intro
  |some i=>rw[e] at h;exact False.elim h
 |some a=>
  cases e:x.1 with
  |none=>rw[e] at h;exact False.elim h
  |some i=>rw[e] at h;exact bt.same h s
theorem Rep.dG(R:Rep C H g b wv made iR):b.items.length=256:=by have h:=Paired.len R.pair;rw[R.len,CY] at h;exact h.symm
theorem Rep.bK(R:Rep C H g b wv made iR){p:Nat}{i:Item}(h:b.items[p]?=some (some i)):∃a,g.cs[p]?=some (some a)/\bt C H a p i:=by
 have h':b.items.zipIdx[p]?=some (some i,p):=by rw[uE,h];simp
 obtain⟨c,h1,h2⟩:=Paired.get' R.pair h';cases c with
 |none=>exact False.elim h2
 |some a=>exact⟨a,h1,h2⟩
theorem Rep.Gw(R:Rep C H g b wv made iR){p:Nat}(h:b.items[p]?=some none):g.cs[p]?=some none:=by
 have h':b.items.zipIdx[p]?=some (none,p):=by rw[uE,h];simp
 obtain⟨c,h1,h2⟩:=Paired.get' R.pair h';cases c with
 |none=>exact h1
 |some a=>exact False.elim h2
theorem Rep.fF(R:Rep C H g b wv made iR){p:Nat}{a:Addr}(h:g.cs[p]?=some (some a)):∃i,b.items[p]?=some (some i)/\bt C H a p i:=by
 obtain⟨x,h1,h2⟩:=Paired.get R.pair h;rw[uE] at h1;cases e:b.items[p]? with
 |none=>rw[e] at h1;cases h1
 |some o=>
  rw[e] at h1;have h1:(o,0+p)=x:=a4 h1;subst h1;cases o with
  |none=>exact False.elim h2
  |some i=>have h2:sT C H (some a) (some i) (0+p):=h2;rw[yt] at h2;exact⟨i,rfl,h2⟩
theorem Rep.of_none(R:Rep C H g b wv made iR){p:Nat}(h:g.cs[p]?=some none):b.items[p]?=some none:=by
 obtain⟨x,h1,h2⟩:=Paired.get R.pair h;rw[uE] at h1;cases e:b.items[p]? with
 |none=>rw[e] at h1;cases h1
 |some o=>
  rw[e] at h1;have h1:(o,0+p)=x:=a4 h1;subst h1;cases o with
  |none=>rfl
  |some i=>exact False.elim h2
theorem Rep.placed(R:Rep C H g b wv made iR):Paired (λa (x:Item×Nat)=>bt C H a x.2 x.1) (g.cs.filterMap id) (Nb.placed b):=by
 unfold Nb.placed;have h:=R.pair;generalize b.items.zipIdx=ys at h;generalize g.cs=xs at h;induction h with
 |nil=>exact .nil
 | @cons c x cs xs h t ih=>
  cases c with
  |none=>
   cases e:x.1 with
   |none=>rw[qS rfl,qS (by rw[e];rfl)];exact ih
   |some i=>rw[e] at h;exact False.elim h
  |some a=>
   cases e:x.1 with
   |none=>rw[e] at h;exact False.elim h
   |some i=>rw[e] at h;rw[yj (show id (some a)=some a from rfl),yj (b:=(i,x.2)) (by rw[e];rfl)];exact .cons h ih
end
structure Gx(K:PySem.W.Frag)(mg:Str->Option Value)(call run cell book reader step bD:Addr):Prop where
 dz:hJ K call
 dR:hJ K run
 aH:hJ K cell
 bx:hJ K book
 mH:hJ K reader
 fG:hJ K step
 k9:zO K bD
 Av:ck K call "number"
 jx:ck K call "numbers"
 lg:ck K call "texts"
 Gy:ck K call "behind"
 Aw:ck K run "text"
 Ax:ck K run "leans"
 wC:ck K run "given"
 qc:ck K run "value"
 oh:ck K run "number"
 eG:ck K cell "place"
 jy:ck K cell "name"
 mI:ck K cell "text"
 ie:ck K cell "leans"
 fY:ck K cell "last"
 j8:ck K cell "touched"
 c8:ck K cell "stands"
 fZ:ck K book "cells"
 gO:ck K book "named"
 wD:ck K book "runs"
 j9:ck K book "waiting"
 sU:ck K book "made"
 Ay:ck K book "allowed"
 Az:ck K reader "written"
 sV:ck K reader "at"
 mJ:ck K step "choice"
 lh:ck K step "cell"
 AA:cell≠run
 Gz:book≠run
 GA:book≠cell
 Q6:reader≠run
 ZI:step≠run
 ZJ:call≠run
 Q7:reader≠cell
 Q8:reader≠book
 lj:mg "NoBook"=some (.ref bD)
 dA:mg "len"=none
 qd:mg "range"=none
 sW:mg "tuple"=none
 wF:mg "list"=none
 Q9:mg "reversed"=none
 AB:GI mg "MOST_CELLS" 256
 GB:GI mg "MOST_NAME" 32
 AD:GI mg "MOST_TEXT" 65536
 GC:GI mg "MOST_LEANS" 8
 GD:GI mg "MOST_VALUE" 16384
 GF:GI mg "MOST_NUMBER" 4294967295
 Ra:GI mg "RUNS_TURN_OVER" 18446744073709551616
 mK:GI mg "OPEN" 0
 oj:GI mg "GOOD" 1
 sX:GI mg "BAD" 2
 om:GI mg "STUCK" 3
 sY:GI mg "MALFORMED" (-1)
 Rb:GI mg "NO_BOOK" (-2)
 Rc:GI mg "NO_CELL_THERE" (-3)
 GG:GI mg "NO_SUCH_CELL" (-4)
 Rf:GI mg "NOT_GOOD" (-4)
 Rg:GI mg "ALL_TAKEN" (-6)
 qe:GI mg "WRONG_TIME" (-8)
 Rh:GI mg "UNDERSCORE" 95
 Ri:GI mg "MARK_BYTES" 4
 GH:GI mg "CELLS_BYTES" 2
 mL:GI mg "SHORT_BYTES" 1
 ll:GI mg "LONG_BYTES" 4
 Rj:GI mg "ENDED" 0
 Rk:GI mg "WAITS" 1
 Rl:GI mg "STOPPED" 2
 GJ:GI mg "NONE_OPEN" 0
 GK:GI mg "MUST_RUN" 1
 GL:GI mg "WITHOUT_RUN" 2
 Rm:GI mg "NONE_READY" 3
 Ro:GI mg "NOT_STUCK" 0
 Rp:GI mg "NAME_WITHOUT_CELL" 1
 Rq:GI mg "NOT_BY_RINGS_ALONE" 2
 Rt:GI mg "BY_RINGS_ALONE" 3
 Ru:GI mg "CAME_VALUE" 0
 mark:∃a,mg "BOOK_MARK"=some (.ref a)/\∀H:Hp,aQ K H a [.int 76,.int 87,.int 75,.int 49]
noncomputable abbrev Tx(K:PySem.W.Frag)(mg:Str->Option Value)(C:Cs):Prop:=Gx K mg C.call C.run C.cell C.book C.reader C.step C.bD
section
variable {P:Program}{w:World}{K:PySem.W.Frag}{mg:Str->Option Value}{base:Heap}{C:Cs}
theorem nt{b:Bool}(h:(!b)=true):b=false:=by cases b<;>simp_all
theorem nf{b:Bool}(h:¬(!b)=true):b=true:=by cases b<;>simp_all
noncomputable abbrev Rv:Stmt:=top 39
noncomputable abbrev Rw:Stmt:=top 40
noncomputable def wG(f:Int->Bool):Sp:=λvs H Q _=>∃i:Int,vs=[.int i]/\Q (.bl (f i)) H
noncomputable def jz(lo hi i:Int):Bool:=decide (lo<=i)&&decide (i<=hi)
theorem Rx(F:aR K mg "is_letter" Rv ["byte"]):Ok P w K mg base aq 1 "is_letter" ["byte"] (wG (jz 97 122)):=by
 refine F.ok (N:=["byte"]) ⟨rfl,rfl,rfl,by decide +kernel,rfl,by decide +kernel,by decide +kernel⟩ (λvs H Q E h=>?_) (λf aD A outer s H vs Q E hr h=>?_)
 ·obtain⟨i,rfl,_⟩:=h;rfl
 ·obtain⟨i,rfl,k⟩:=h;refine⟨_,ah (aC (DJ pJ pJ aK (pv 0) aK)),?_⟩;refine⟨_,rfl,_,_,rfl,rfl,_,rfl,?_⟩;unfold jz at k;refine aT (λh1=>⟨_,_,rfl,rfl,?_⟩) (λh1=>?_)
  ·rw[h1,gD] at k;exact k
  ·rw[jL] at h1;rw[h1,iC] at k;exact k
theorem Ry(F:aR K mg "is_digit" Rw ["byte"]):Ok P w K mg base aq 1 "is_digit" ["byte"] (wG (jz 48 57)):=by
 refine F.ok (N:=["byte"]) ⟨rfl,rfl,rfl,by decide +kernel,rfl,by decide +kernel,by decide +kernel⟩ (λvs H Q E h=>?_) (λf aD A outer s H vs Q E hr h=>?_)
 ·obtain⟨i,rfl,_⟩:=h;rfl
 ·obtain⟨i,rfl,k⟩:=h;refine⟨_,ah (aC (DJ pJ pJ aK (pv 0) aK)),?_⟩;refine⟨_,rfl,_,_,rfl,rfl,_,rfl,?_⟩;unfold jz at k;refine aT (λh1=>⟨_,_,rfl,rfl,?_⟩) (λh1=>?_)
  ·rw[h1,gD] at k;exact k
  ·rw[jL] at h1;rw[h1,iC] at k;exact k
noncomputable abbrev GN:Stmt:=top 41
noncomputable def qf:Sp:=λvs H Q _=>∃(a:Addr) (t:Text),vs=[.ref a]/\ay H a t/\t.length<=1000000/\Q (.bl (Nb.nameOk t)) H
theorem AE(lo hi:UInt8)(c:UInt8):jz (lo.toNat:Int) (hi.toNat:Int) (c.toNat:Int)=(decide (lo<=c)&&decide (c<=hi)):=by
 unfold jz;have h1:((lo.toNat:Int)<=(c.toNat:Int))↔lo<=c:=by rw[UInt8.le_iff_toNat_le];omega
 have h2:((c.toNat:Int)<=(hi.toNat:Int))↔c<=hi:=by rw[UInt8.le_iff_toNat_le];omega
 rw[qV.mpr h1,qV.mpr h2]
noncomputable def lp(c:UInt8):Bool:=Nb.isLetter c||((decide (48<=c)&&decide (c<=57))||c==95)
theorem GO{t:Text}{i:Nat}{x:V}(h:(bv t)[i]?=some x):∃c,t[i]?=some c/\x=.int (c.toNat:Int):=by
 unfold bv at h;rw[cJ] at h;cases e:t[i]? with
 |none=>rw[e] at h;cases h
 |some c=>rw[e] at h;exact⟨c,rfl,(a4 h).symm⟩
theorem AF{α:Type}{f:α->Bool}{l:List α}{i:Nat}{x:α}(h:l[i]?=some x):(l.take (i+1)).all f=((l.take i).all f&&f x):=by rw[take_snoc h,List.all_append];simp
theorem sZ{α:Type}{f:α->Bool}{l:List α}{i:Nat}{x:α}(h:l[i]?=some x)(hf:f x=false):l.all f=false:=by rw[List.all_eq_false];exact⟨x,cE h,by simp[hf]⟩
theorem Rz(T:Tx K mg C)(F:aR K mg "is_name" GN ["text"])(D1:Ok P w K mg base aq 1 "is_letter" ["byte"] (wG (jz 97 122)))(D2:Ok P w K mg base aq 1 "is_digit" ["byte"] (wG (jz 48 57))) :
 Ok P w K mg base aq 2 "is_name" ["text"] qf:=by
 have sc:=sk (P:=["text"]) (st:=GN) ["text","byte"];refine F.ok sc (λvs H Q E h=>?_) (λf aD A outer s H vs Q E hr h=>?_)
 ·obtain⟨a,t,rfl,_⟩:=h;rfl
 ·obtain⟨a,t,rfl,ht,hlen,k⟩:=h;refine⟨_,af (aO (PW.pt (uZ (bo lZ (dv dE rfl T.dA dN (aa (pv 0) ae)) aK (aY _)) (uX (bo rJ (dv dE rfl T.dA dN (aa (pv 0) ae)) (aM T.GB) (aY _)))))
   (ah (aC cY)) aP)
   (af (aO (gp (dU (az D1 hr rfl aE (aa (cx NA (pv 0) aK (λ_ _=>rfl)) ae)))) (ah (aC cY)) aP)
   (af (cR PassesOwn.never rfl (jg (pv 0)) (bQ (i:=1) sc.nd rfl (Or.inl rfl))
    (ah (aO (PW.pt (uY (gp (dU (az D1 hr rfl aE (aa (pv 1) ae)))) (uY (gp (dU (az D2 hr rfl aE (aa (pv 1) ae)))) (yF (bo rH (pv 1) (aM T.Rh) (aY _))))))
     (ah (aC cY)) aP)))
   (ah (aC cY)))),?_⟩
  refine⟨_,rfl,a,_,rfl,.inr (aQ.of ht),_,_,rfl,rfl,_,rfl,?_⟩;rw[bH];refine aT (λh1=>?_) (λh1=>?_)
  ·have h1:(t.length:Int)<1:=bw h1;have e:Nb.nameOk t=false:=by unfold Nb.nameOk;rw[eo (show ¬1<=t.length by omega),iC]
   rw[e] at k;exact bF k
  ·have h1:¬(t.length:Int)<1:=λz=>h1 (bp z);refine⟨_,rfl,a,_,rfl,.inr (aQ.of ht),_,_,rfl,rfl,_,rfl,?_⟩;rw[bH];refine aT (λh2=>?_) (λh2=>?_)
   ·have h2:(32:Int)<(t.length:Int):=bw h2;have e:Nb.nameOk t=false:=by unfold Nb.nameOk;rw[eo (show ¬t.length<=32 by omega),iC,yq]
    rw[e] at k;exact k
   ·have h2:¬(32:Int)<(t.length:Int):=λz=>h2 (bp z);have e:Nb.nameOk t=((t.head?.any Nb.isLetter)&&t.all lp):=by unfold Nb.nameOk;rw[bp (show 1<=t.length by omega),bp (show t.length<=32 by omega),gD,gD];rfl
    obtain⟨c0,h0⟩:∃c,t[0]?=some c:=⟨t[0]'(by omega),fm (by omega)⟩;have hh:t.head?=some c0:=by rw[List.head?_eq_getElem?];exact h0
    rw[e,hh] at k;have k:Q (V.bl (Nb.isLetter c0&&t.all lp)) H:=k;refine⟨_,rfl,a,_,0,.int (c0.toNat:Int),rfl,rfl,aQ.of ht,vm (j:=0) (by unfold bv;rw[cJ,h0];rfl),(c0.toNat:Int),rfl,_,rfl,?_⟩;rw[show jz 97 122 (c0.toNat:Int)=Nb.isLetter c0 from AE 97 122 c0];refine aT (λh3=>?_) (λh3=>?_)
    ·have h3:Nb.isLetter c0=false:=by simpa using h3
     rw[h3,iC] at k;exact k
    ·have h3:Nb.isLetter c0=true:=by simpa using h3
     rw[h3,gD] at k;refine⟨_,rfl,a,rfl,⟨_,aQ.of ht⟩,nu (K:=K) (a:=a) (xs:=bv t) (λi σ H'=>(∃v:Option V,σ=[some (.ref a),v])/\H'=H/\(t.take i).all lp=true) ⟨⟨none,rfl⟩,rfl,rfl⟩ (λi σ H' _ ⟨_,e,_⟩=>by rw[e];exact aQ.of ht) ?_ ?_⟩
     ·rintro i x σ H' hx ⟨⟨v,rfl⟩,rfl,bR⟩;obtain⟨c,hc,rfl⟩:=GO hx;have bad:lp c=false->Q (V.bl false) H':=λhf=>by have:=sZ hc hf;rw[this] at k;exact k
      have good:lp c=true->(∃v:Option V,([some (.ref a),some (V.int (c.toNat:Int))]:L2.St)=[some (.ref a),v])/\H'=H'/\(t.take (i+1)).all lp=true:=λhf=>⟨⟨_,rfl⟩,rfl,by rw[AF hc,bR,hf];rfl⟩;refine⟨_,rfl,(c.toNat:Int),rfl,_,rfl,?_⟩;rw[show jz 97 122 (c.toNat:Int)=Nb.isLetter c from AE 97 122 c];refine aT (λh4=>?_) (λh4=>?_)
      ·have h4:Nb.isLetter c=false:=by simpa using h4
       refine⟨_,rfl,(c.toNat:Int),rfl,_,rfl,?_⟩;rw[show jz 48 57 (c.toNat:Int)=(decide (48<=c)&&decide (c<=57)) from AE 48 57 c];refine aT (λh5=>?_) (λh5=>?_)
       ·have h5:=nt h5;refine⟨_,rfl,rfl,_,rfl,?_⟩;refine aT (λh6=>?_) (λh6=>?_)
        ·refine bad ?_;unfold lp;rw[h4,h5,uO,uO];have h6:¬(V.int (c.toNat:Int)=V.int 95):=by simpa using h6
         refine dt.mpr λz=>h6 ?_;rw[z];rfl
        ·refine good ?_;have h6:V.int (c.toNat:Int)=V.int 95:=by simpa using h6
         have h7:c=95:=An (V.int.inj h6);rw[h7];decide
       ·refine bJ (good ?_);have h5:=nf h5;unfold lp;rw[h5,yz,Bool.or_true]
      ·refine bJ (good ?_);have h4:Nb.isLetter c=true:=by simpa using h4
       unfold lp;rw[h4,yz]
     ·rintro σ H' ⟨⟨v,rfl⟩,rfl,bR⟩;rw[bH,cA] at bR;rw[bR] at k;exact k
noncomputable abbrev GP:Stmt:=top 42
noncomputable def GQ:Sp:=λvs H Q _=>∃(a:Addr) (ts:List Text),vs=[.ref a]/\cz H a ts/\(∀t∈ts,t.length<=1000000)/\Q (.bl (ts.all Nb.nameOk)) H
theorem dH{as:List Addr}{i:Nat}{x:V}(h:(as.map V.ref)[i]?=some x):∃a,as[i]?=some a/\x=.ref a:=by
 rw[cJ] at h;cases e:as[i]? with
 |none=>rw[e] at h;cases h
 |some c=>rw[e] at h;exact⟨c,rfl,(a4 h).symm⟩
theorem RB(T:Tx K mg C)(F:aR K mg "are_names" GP ["texts"])(D:Ok P w K mg base aq 2 "is_name" ["text"] qf):Ok P w K mg base aq 3 "are_names" ["texts"] GQ:=by
 have sc:=sk (P:=["texts"]) (st:=GP) ["texts","text"];refine F.ok sc (λvs H Q E h=>?_) (λf aD A outer s H vs Q E hr h=>?_)
 ·obtain⟨a,t,rfl,_⟩:=h;rfl
 ·obtain⟨a,ts,rfl,⟨as,ha,hp⟩,hlen,k⟩:=h;refine⟨_,af (cR PassesOwn.never rfl (jg (pv 0)) (bQ (i:=1) sc.nd rfl (Or.inl rfl)) (ah (aO (gp (dU (az D hr rfl aE (aa (pv 1) ae)))) (ah (aC cY)) aP))) (ah (aC cY)),?_⟩;refine⟨_,rfl,a,rfl,⟨_,aQ.of ha⟩,nu (K:=K) (a:=a) (xs:=as.map V.ref) (λi σ H'=>(∃v:Option V,σ=[some (.ref a),v])/\H'=H/\(ts.take i).all Nb.nameOk=true) ⟨⟨none,rfl⟩,rfl,rfl⟩ (λi σ H' _ ⟨_,e,_⟩=>by rw[e];exact aQ.of ha) ?_ ?_⟩
  ·rintro i x σ H' hx ⟨⟨v,rfl⟩,rfl,bR⟩;obtain⟨c,hc,rfl⟩:=dH hx;obtain⟨t,ht,b8⟩:=Paired.get hp hc;refine⟨_,rfl,c,t,rfl,b8,hlen t (cE ht),_,rfl,?_⟩;refine aT (λh4=>?_) (λh4=>?_)
   ·have h4:Nb.nameOk t=false:=by simpa using h4
    rw[sZ ht h4] at k;exact k
   ·have h4:Nb.nameOk t=true:=by simpa using h4
    exact⟨⟨_,rfl⟩,rfl,by rw[AF ht,bR,h4];rfl⟩
  ·rintro σ H' ⟨⟨v,rfl⟩,rfl,bR⟩;rw[aF,Paired.len hp,cA] at bR;rw[bR] at k;exact k
noncomputable abbrev GR:Stmt:=top 25
noncomputable def ka(C:Cs):Sp:=λvs H Q _=>∃(g:Gh) (bd:Addr) (b:Nb.Book) (wv:V) (m al:Nat),vs=[.ref g.ba]/\Rep C H g b wv m al/\∀l,H l=none->Q (.ref l) (upd H l (.lst ((g.cs.filterMap id).map V.ref)))
theorem gP(ca da:Addr)(runs:Nat)(wv:V)(m al:Nat):(bf ca da runs wv m al).lookup ("cells":Str)=some (.ref ca):=by kernel_rfl
theorem iS(ca da:Addr)(runs:Nat)(wv:V)(m al:Nat):(bf ca da runs wv m al).lookup ("named":Str)=some (.ref da):=by kernel_rfl
theorem GS(ca da:Addr)(runs:Nat)(wv:V)(m al:Nat):(bf ca da runs wv m al).lookup ("runs":Str)=some (.int (runs:Int)):=by kernel_rfl
theorem oo(ca da:Addr)(runs:Nat)(wv:V)(m al:Nat):(bf ca da runs wv m al).lookup ("waiting":Str)=some wv:=by kernel_rfl
theorem AG(ca da:Addr)(runs:Nat)(wv:V)(m al:Nat):(bf ca da runs wv m al).lookup ("made":Str)=some (.int (m:Int)):=by kernel_rfl
theorem RC(ca da:Addr)(runs:Nat)(wv:V)(m al:Nat):(bf ca da runs wv m al).lookup ("allowed":Str)=some (.int (al:Int)):=by kernel_rfl
theorem fh(p:Nat)(n t l la:V)(to:Bool)(st:Nat):(cf p n t l la to st).lookup ("place":Str)=some (.int (p:Int)):=by kernel_rfl
theorem ke(p:Nat)(n t l la:V)(to:Bool)(st:Nat):(cf p n t l la to st).lookup ("name":Str)=some n:=by kernel_rfl
theorem qg(p:Nat)(n t l la:V)(to:Bool)(st:Nat):(cf p n t l la to st).lookup ("text":Str)=some t:=by kernel_rfl
theorem jA(p:Nat)(n t l la:V)(to:Bool)(st:Nat):(cf p n t l la to st).lookup ("leans":Str)=some l:=by kernel_rfl
theorem ig(p:Nat)(n t l la:V)(to:Bool)(st:Nat):(cf p n t l la to st).lookup ("last":Str)=some la:=by kernel_rfl
theorem qh(p:Nat)(n t l la:V)(to:Bool)(st:Nat):(cf p n t l la to st).lookup ("touched":Str)=some (.bl to):=by kernel_rfl
theorem ed(p:Nat)(n t l la:V)(to:Bool)(st:Nat):(cf p n t l la to st).lookup ("stands":Str)=some (.int (st:Int)):=by kernel_rfl
theorem GU(t l g v:V)(n:Int):(rf t l g v n).lookup ("text":Str)=some t:=by kernel_rfl
theorem GV(t l g v:V)(n:Int):(rf t l g v n).lookup ("leans":Str)=some l:=by kernel_rfl
theorem AH(t l g v:V)(n:Int):(rf t l g v n).lookup ("given":Str)=some g:=by kernel_rfl
theorem tf(t l g v:V)(n:Int):(rf t l g v n).lookup ("value":Str)=some v:=by kernel_rfl
theorem qi(t l g v:V)(n:Int):(rf t l g v n).lookup ("number":Str)=some (.int n):=by kernel_rfl
theorem GW{cs:List (Option Addr)}{i:Nat}{x:V}(h:(cs.map ov)[i]?=some x):∃c,cs[i]?=some c/\x=ov c:=by
 rw[cJ] at h;cases e:cs[i]? with
 |none=>rw[e] at h;cases h
 |some c=>rw[e] at h;exact⟨c,rfl,(a4 h).symm⟩
theorem RD{α β:Type}{f:α->Option β}{l:List α}{i:Nat}{x:α}(h:l[i]?=some x):(l.take (i+1)).filterMap f=(l.take i).filterMap f++(f x).toList:=by
 rw[take_snoc h,List.filterMap_append];cases e:f x with
 |none=>rw[qS e];rfl
 |some y=>rw[yj e];rfl
theorem RE(T:Tx K mg C)(F:aR K mg "cells_of" GR ["book"]):Ok P w K mg base aq 1 "cells_of" ["book"] (ka C):=by
 have sc:=sk (P:=["book"]) (st:=GR) ["book","cell"];refine F.ok sc (λvs H Q E h=>?_) (λf aD A outer s H vs Q E hr h=>?_)
 ·obtain⟨g,bd,b,wv,m,al,rfl,_⟩:=h;rfl
 ·obtain⟨g,bd,b,wv,m,al,rfl,R,k⟩:=h;refine⟨_,ah (aC (nM (own:=[("cell",1)]) rfl sc.nd (dD (aj (pv 0) rfl)) (gq (by kernel_rfl)) (λs H C cl fp=>bQ (i:=1) sc.nd rfl (Or.inl rfl)) (λs H C cl fp=>vy (cw (ft (pv 1)))) (λs H C cl fp=>pv 1))),?_⟩;refine⟨_,rfl,g.ba,C.book,g.bd,_,_,rfl,R.book,T.bx,T.fZ,gP ..,g.ca,rfl,⟨_,ax.of R.cells⟩,λD hD=>?_⟩;have RF:g.ca≠D:=bj R.cells hD;refine mj (K:=K) (a:=g.ca) (xs:=g.cs.map ov) (λi H'=>H'=upd H D (.lst (((g.cs.take i).filterMap id).map V.ref))) rfl (λi H' _ e=>by rw[e];exact ax.of (by rw[aw RF];exact R.cells)) ?_ ?_
  ·rintro i x H' hx rfl;obtain⟨c,hc,rfl⟩:=GW hx;refine⟨rfl,_,rfl,_,rfl,?_⟩;rw[RD hc];cases c with
   |none=>refine bJ ?_;show upd H D (.lst (((g.cs.take i).filterMap id).map V.ref))=upd H D (.lst ((((g.cs.take i).filterMap id)++[]).map V.ref));rw[ez]
   |some a=>
    refine bF ⟨_,rfl,_,ag,?_,?_⟩
    ·rw[aF];have h1:=Lx id (g.cs.take i);have h2:(g.cs.take i).length<=256:=by rw[eU,R.len];exact jK _ _
     exact dC (aS h1 h2) (by decide)
    ·rw[bc,bW];rfl
  ·rintro H' rfl;rw[aF,cA];exact k D hD
end
section
variable {C:Cs}{H H':Hp}{g:Gh}{b:Nb.Book}{wv:V}{m al:Nat}
theorem Rep.gQ(R:Rep C H g b wv m al){t:Text}{a:Addr}(h:src g b t=some a):∃p i,b.find t=some p/\b.items[p]?=some (some i)/\b.item t=some i/\i.name=t/\bt C H a p i:=by
 unfold src at h;cases e:b.find t with
 |none=>rw[e] at h;cases h
 |some p=>rw[e] at h;obtain⟨i,h1,h2⟩:=NB.find_some e;obtain⟨a',h3,h4⟩:=R.bK h1;have h:(g.cs[p]?).join=some a:=h;rw[h3] at h;cases h;exact⟨p,i,rfl,h1,NB.pZ e h1,h2,h4⟩
theorem Rep.iT(R:Rep C H g b wv m al){t:Text}(h:src g b t=none):b.find t=none/\b.item t=none:=by
 unfold src at h;cases e:b.find t with
 |none=>exact⟨rfl,NB.FE.mpr e⟩
 |some p=>rw[e] at h;obtain⟨i,h1,h2⟩:=NB.find_some e;obtain⟨a',h3,h4⟩:=R.bK h1;have h:(g.cs[p]?).join=none:=h;rw[h3] at h;cases h
theorem Rep.GX(R:Rep C H g b wv m al){t:Text}{i:Item}(h:b.item t=some i):∃a p,src g b t=some a/\b.find t=some p/\b.items[p]?=some (some i)/\bt C H a p i:=by obtain⟨p,h1,h2,h3⟩:=NB.jv h;obtain⟨a,h4,h5⟩:=R.bK h2;refine⟨a,p,?_,h1,h2,h5⟩;unfold src;rw[h1];show(g.cs[p]?).join=some a;rw[h4];rfl
end
section
variable {P:Program}{w:World}{K:PySem.W.Frag}{mg:Str->Option Value}{base:Heap}{C:Cs}
theorem yes{σ:L2.St}{H:Hp}{A B:Hp->Prop}(h:A H):Eu σ H (λb H3=>if b=true then A H3 else B H3):=by
 show if true=true then A H else B H
 rw[if_pos rfl];exact h
theorem wH{X:Cx}{o e:Expr}{apos bN:Pos}{td ty:TE}(ho:PE X o td)(he:PE X e ty)(m:M1 X o "get" apos e bN)(hu:X.A.units+1<cLine):PE X (.Call (.Attribute o "get" apos) [e] [] bN) (zB td ty):=OC hu ho he m
theorem GY{X:Cx}{o e f:Expr}{apos bN:Pos}{td ty tx:TE}(ho:PE X o td)(he:PE X e ty)(hf:PE X f tx)(m:M2 X o "get" apos e f bN)(hu:X.A.units+1<cLine):PE X (.Call (.Attribute o "get" apos) [e,f] [] bN) (EM td ty tx):=OD hu ho he hf m
noncomputable abbrev GZ:Stmt:=top 26
noncomputable def G0(C:Cs):Sp:=λvs H Q _=>∃(g:Gh) (b:Nb.Book) (wv:V) (m al:Nat),vs=[.ref g.ba]/\Rep C H g b wv m al/\Q (match b.items.findIdx? λx=>x.isNone with | some p=>.int (p:Int) | none=>.ak) H
theorem G1{c:Option Addr}:(ov c=.ak)↔c=none:=by cases c<;>simp[ov]
theorem RG(T:Tx K mg C)(F:aR K mg "lowest_free_place" GZ ["book"]):Ok P w K mg base aq 1 "lowest_free_place" ["book"] (G0 C):=by
 have sc:=sk (P:=["book"]) (st:=GZ) ["book","place"];refine F.ok sc (λvs H Q E h=>?_) (λf aD A outer s H vs Q E hr h=>?_)
 ·obtain⟨g,b,wv,m,al,rfl,_⟩:=h;rfl
 ·obtain⟨g,b,wv,m,al,rfl,R,k⟩:=h;refine⟨_,af (cR PassesOwn.never rfl (pG rfl T.qd (aa (aM T.AB) ae)) (bQ (i:=1) sc.nd rfl (Or.inl rfl))
   (ah (aO (cw (iD (cx cC (aj (pv 0) rfl) (pv 1) (λ_ _=>rfl)))) (ah (aC (pv 1))) aP))) (ah (aC jV)),?_⟩
  refine⟨256,rfl,by decide,by decide,vb (n:=256) (λi σ H'=>(∃v:Option V,σ=[some (.ref g.ba),v])/\H'=H/\∀q<i,∀o,b.items[q]?=some o->o.isNone=false) ⟨⟨none,rfl⟩,rfl,λq hq=>absurd hq (qZ _)⟩ ?_ ?_⟩
  ·rintro i σ H' hi ⟨⟨v,rfl⟩,rfl,bR⟩;obtain⟨o,ho⟩:∃o,b.items[i]?=some o:=⟨_,fm (by rw[R.dG];exact hi)⟩;obtain⟨c,hc,G2⟩:∃c,g.cs[i]?=some c/\(c=none↔o=none):=by
    cases o with
    |none=>exact⟨none,R.Gw ho,by simp⟩
    |some it=>obtain⟨a,h1,_⟩:=R.bK ho;exact⟨some a,h1,by simp⟩
   refine⟨_,rfl,g.ba,C.book,g.bd,_,_,rfl,R.book,T.bx,T.fZ,gP ..,_,rfl,g.ca,_,_,ov c,rfl,rfl,ax.of R.cells,at_of (j:=i) (by omega) (by rw[cJ,hc];rfl),_,rfl,?_⟩;refine aT (λh1=>?_) (λh1=>?_)
   ·have h1:ov c=V.ak:=bw h1;have h2:o=none:=G2.mp (G1.mp h1);have e:(b.items.findIdx? λx=>x.isNone)=some i:=by
     refine yi.mpr ⟨(bh.mp ho).1,?_,λj hj=>?_⟩
     ·rw[(bh.mp ho).2,h2];rfl
     ·have:=bR j hj _ (fm (by have:=(bh.mp ho).1;omega));rw[this];exact dj
    rw[e] at k;refine⟨_,rfl,?_⟩;rw[Int.zero_add];exact k
   ·have h1:¬ov c=V.ak:=λz=>h1 (bp z);refine⟨⟨_,rfl⟩,rfl,λq hq o' cX=>?_⟩;by_cases RH:q=i
    ·subst RH;rw[ho] at cX;cases cX;cases e:o with
     |none=>exact absurd (G1.mpr (G2.mpr e)) h1
     |some _=>rfl
    ·exact bR q (by omega) o' cX
  ·rintro σ H' ⟨⟨v,rfl⟩,rfl,bR⟩;have e:(b.items.findIdx? λx=>x.isNone)=none:=by refine uA.mpr λo ho=>?_;obtain⟨q,hq⟩:=fN.mp ho;exact bR q (by have:=(bh.mp hq).1;rw[R.dG] at this;exact this) o hq
   rw[e] at k;exact k
noncomputable abbrev G3:Stmt:=top 30
noncomputable def bV(g:Gh)(b:Nb.Book)(ts:List Text):List V:=ts.map λt=>ov (src g b t)
noncomputable def tj(C:Cs):Sp:=λvs H Q _=>∃(g:Gh) (b:Nb.Book) (wv:V) (m al:Nat) (a:Addr) (p:Nat) (i:Item),vs=[.ref g.ba,.ref a]/\Rep C H g b wv m al/\bt C H a p i/\i.leans.length<=1000000/\
 ∀l,H l=none->Q (.ref l) (upd H l (.lst (bV g b i.leans)))
theorem RI(T:Tx K mg C)(F:aR K mg "sources_of" G3 ["book","cell"]):Ok P w K mg base aq 1 "sources_of" ["book","cell"] (tj C):=by
 have sc:=sk (P:=["book","cell"]) (st:=G3) ["book","cell","lean"];refine F.ok sc (λvs H Q E h=>?_) (λf aD A outer s H vs Q E hr h=>?_)
 ·obtain⟨g,b,wv,m,al,a,p,i,rfl,_⟩:=h;rfl
 ·obtain⟨g,b,wv,m,al,a,p,i,rfl,R,⟨dx,na,ta,la,lv,h1,h2,h3,⟨as,h4,h5⟩,h6⟩,hlen,k⟩:=h;refine⟨_,ah (aC (nM (te:=zB (dO K (bU 0) "named") (bU 2)) (own:=[("lean",2)]) rfl sc.nd (jg (aj (pv 1) rfl)) (gq (by kernel_rfl)) (λs H C cl fp=>bQ (i:=2) sc.nd rfl (Or.inl rfl)) (λs H C cl fp=>jm)
   (λs H C cl fp=>wH (aj (pv 0) rfl) (pv 2) ⟨rfl,rfl,rfl,rfl⟩ (cS hr)))),?_⟩
  refine⟨_,rfl,a,C.cell,dx,_,_,rfl,h1,T.aH,T.ie,jA ..,la,rfl,⟨_,aQ.of h4⟩,λD hD=>?_⟩;refine vC (K:=K) (a:=la) (xs:=as.map V.ref) (λn H'=>H'=upd H D (.lst (bV g b (i.leans.take n)))) rfl (λn H' _ e=>by rw[e];exact aQ.of (by rw[aw (bj h4 hD)];exact h4)) ?_ ?_
  ·rintro n x H' hx rfl;obtain⟨c,hc,rfl⟩:=dH hx;obtain⟨t,ht,b8⟩:=Paired.get h5 hc;obtain⟨kvs,q1,q2,q3,q4⟩:=R.named;have G4:(upd H D (.lst (bV g b (i.leans.take n)))) g.da=some (.dT kvs):=by rw[aw (bj q1 hD)];exact q1
   have lq:(upd H D (.lst (bV g b (i.leans.take n)))) c=some (.tup ((nk t).map kV)):=by rw[aw (bj b8 hD)];exact ay.key b8
   refine⟨rfl,yes ?_⟩;refine⟨_,rfl,g.ba,C.book,g.bd,_,_,rfl,by rw[aw (bj R.book hD)];exact R.book,T.bx,T.gO,iS ..,g.da,rfl,.inr ⟨kvs,.inl G4⟩,_,rfl,_,b5.t G4 lq,?_⟩;refine⟨_,ag,?_,?_⟩
   ·unfold bV;rw[aF];have:=List.length_take_le n i.leans;have h2:(i.leans.take n).length<=1000000:=aS (by rw[eU];exact jK _ _) hlen;exact dC h2 (by decide)
   ·have e1:(Option.map V.ref (src g b t)).getD V.ak=ov (src g b t):=by cases src g b t<;>rfl
    rw[bc,q3 t,e1];unfold bV;rw[take_snoc ht,bW];rfl
  ·rintro H' rfl;rw[aF,Paired.len h5,cA];exact k D hD
noncomputable abbrev G5:Stmt:=top 31
noncomputable abbrev G6:Stmt:=top 32
noncomputable def fH:Option Item->Bool
 |some i=>i.stands==.good
 |none=>false
noncomputable def oq(C:Cs)(f:Nb.Book->List Text->Bool):Sp:=λvs H Q _=>∃(g:Gh) (b:Nb.Book) (wv:V) (m al:Nat) (l:Addr) (ts:List Text),vs=[.ref l]/\Rep C H g b wv m al/\H l=some (.lst (bV g b ts))/\Q (.bl (f b ts)) H
theorem qj{g:Gh}{b:Nb.Book}{ts:List Text}{i:Nat}{x:V}(h:(bV g b ts)[i]?=some x):∃t,ts[i]?=some t/\x=ov (src g b t):=by
 unfold bV at h;rw[cJ] at h;cases e:ts[i]? with
 |none=>rw[e] at h;cases h
 |some c=>rw[e] at h;exact⟨c,rfl,(a4 h).symm⟩
theorem wI{α:Type}{f:α->Bool}{l:List α}{i:Nat}{x:α}(h:l[i]?=some x):(l.take (i+1)).any f=((l.take i).any f||f x):=by rw[take_snoc h,List.any_append];simp
theorem AI{α:Type}{f:α->Bool}{l:List α}{i:Nat}{x:α}(h:l[i]?=some x)(hf:f x=true):l.any f=true:=by rw[iz];exact⟨x,cE h,hf⟩
theorem cN{s t:Stands}:(V.int (s.num:Int)=V.int (t.num:Int))↔s=t:=by
 constructor
 ·intro h;have h:=V.int.inj h;cases s<;>cases t<;>first|rfl | (exfalso;revert h;decide)
 ·rintro rfl;rfl
theorem RJ(T:Tx K mg C)(F:aR K mg "is_any_open" G5 ["sources"]):Ok P w K mg base aq 1 "is_any_open" ["sources"] (oq C λb ts=>ts.any λn=>Nb.isOpen (b.item n)):=by
 have sc:=sk (P:=["sources"]) (st:=G5) ["sources","source"];refine F.ok sc (λvs H Q E h=>?_) (λf aD A outer s H vs Q E hr h=>?_)
 ·obtain⟨g,b,wv,m,al,l,ts,rfl,_⟩:=h;rfl
 ·obtain⟨g,b,wv,m,al,l,ts,rfl,R,hl,k⟩:=h;have k:Q (V.bl (ts.any λn=>Nb.isOpen (b.item n))) H:=k;refine⟨_,af (cR PassesOwn.never rfl (dD (pv 0)) (bQ (i:=1) sc.nd rfl (Or.inl rfl))
   (ah (aO (PW.pt (uY (cw (ft (pv 1))) (yF (bo b3 (aj (pv 1) rfl) (aM T.mK) (aY _))))) (ah (aC cY)) aP))) (ah (aC cY)),?_⟩
  refine⟨_,rfl,l,rfl,⟨_,ax.of hl⟩,fQ (K:=K) (a:=l) (xs:=bV g b ts) (λn σ H'=>(∃v:Option V,σ=[some (.ref l),v])/\H'=H/\((ts.take n).any λn=>Nb.isOpen (b.item n))=false) ⟨⟨none,rfl⟩,rfl,rfl⟩ (λn σ H' _ ⟨_,e,_⟩=>by rw[e];exact ax.of hl) ?_ ?_⟩
  ·rintro n x σ H' hx ⟨⟨v,rfl⟩,rfl,bR⟩;obtain⟨t,ht,rfl⟩:=qj hx;refine⟨_,rfl,_,rfl,?_⟩;have next:Nb.isOpen (b.item t)=false->((ts.take (n+1)).any λn=>Nb.isOpen (b.item n))=false:=λhf=>by rw[wI ht,bR,hf];rfl
   cases e:src g b t with
   |none=>refine bJ (bJ ?_);refine⟨⟨_,rfl⟩,rfl,next ?_⟩;rw[(R.iT e).2];rfl
   |some a=>
    obtain⟨p,i,f1,f2,f3,f4,dx,na,ta,la,lv,h1,_⟩:=R.gQ e;refine bF ⟨_,rfl,a,C.cell,dx,_,_,rfl,h1,T.aH,T.c8,ed ..,rfl,_,rfl,?_⟩;refine aT (λh=>?_) (λh=>?_)
    ·have h:i.stands=.open_:=cN.mp (bw h);rw[AI (f:=λn=>Nb.isOpen (b.item n)) ht (by rw[f3];show(i.stands==.open_)=true;rw[h];rfl)] at k;exact k
    ·have h:¬i.stands=.open_:=λz=>h (bp (cN.mpr z));refine⟨⟨_,rfl⟩,rfl,next ?_⟩;rw[f3];exact dt.mpr h
  ·rintro σ H' ⟨⟨v,rfl⟩,rfl,bR⟩;have e:(bV g b ts).length=ts.length:=aF ..;rw[e,cA] at bR;rw[bR] at k;exact k
theorem RK(T:Tx K mg C)(F:aR K mg "are_good" G6 ["sources"]):Ok P w K mg base aq 1 "are_good" ["sources"] (oq C λb ts=>ts.all λn=>fH (b.item n)):=by
 have sc:=sk (P:=["sources"]) (st:=G6) ["sources","source"];refine F.ok sc (λvs H Q E h=>?_) (λf aD A outer s H vs Q E hr h=>?_)
 ·obtain⟨g,b,wv,m,al,l,ts,rfl,_⟩:=h;rfl
 ·obtain⟨g,b,wv,m,al,l,ts,rfl,R,hl,k⟩:=h;have k:Q (V.bl (ts.all λn=>fH (b.item n))) H:=k;refine⟨_,af (cR PassesOwn.never rfl (dD (pv 0)) (bQ (i:=1) sc.nd rfl (Or.inl rfl))
   (ah (aO (PW.pt (uZ (cw (iD (pv 1))) (uX (bo rH (aj (pv 1) rfl) (aM T.oj) (aY _))))) (ah (aC cY)) aP))) (ah (aC cY)),?_⟩
  refine⟨_,rfl,l,rfl,⟨_,ax.of hl⟩,fQ (K:=K) (a:=l) (xs:=bV g b ts) (λn σ H'=>(∃v:Option V,σ=[some (.ref l),v])/\H'=H/\((ts.take n).all λn=>fH (b.item n))=true) ⟨⟨none,rfl⟩,rfl,rfl⟩ (λn σ H' _ ⟨_,e,_⟩=>by rw[e];exact ax.of hl) ?_ ?_⟩
  ·rintro n x σ H' hx ⟨⟨v,rfl⟩,rfl,bR⟩;obtain⟨t,ht,rfl⟩:=qj hx;refine⟨_,rfl,_,rfl,?_⟩;cases e:src g b t with
   |none=>refine bF (bF ?_);rw[sZ (f:=λn=>fH (b.item n)) ht (by rw[(R.iT e).2];rfl)] at k;exact k
   |some a=>
    obtain⟨p,i,f1,f2,f3,f4,dx,na,ta,la,lv,h1,_⟩:=R.gQ e;refine bJ ⟨_,rfl,a,C.cell,dx,_,_,rfl,h1,T.aH,T.c8,ed ..,rfl,_,rfl,?_⟩;refine aT (λh=>?_) (λh=>?_)
    ·have h:¬i.stands=.good:=λz=>CW (nt h) (cN.mpr z);rw[sZ (f:=λn=>fH (b.item n)) ht (by rw[f3];exact dt.mpr h)] at k;exact k
    ·have h:i.stands=.good:=cN.mp (bw (nf h));refine⟨⟨_,rfl⟩,rfl,?_⟩;rw[AF ht,bR,f3];show(true&&(i.stands==.good))=true;rw[h];rfl
  ·rintro σ H' ⟨⟨v,rfl⟩,rfl,bR⟩;have e:(bV g b ts).length=ts.length:=aF ..;rw[e,cA] at bR;rw[bR] at k;exact k
noncomputable abbrev G7:Stmt:=top 34
noncomputable def iU(i:Item):Bool:=match i.last with
 |some l=>decide (l.text=i.text)&&decide (l.names=i.leans)
 |none=>false
noncomputable def AJ(C:Cs):Sp:=λvs H Q _=>∃(a:Addr) (p:Nat) (i:Item),vs=[.ref a]/\bt C H a p i/\Q (.bl (iU i)) H
theorem RL(T:Tx K mg C)(F:aR K mg "was_run_as_it_is" G7 ["cell"]):Ok P w K mg base aq 1 "was_run_as_it_is" ["cell"] (AJ C):=by
 have sc:=sk (P:=["cell"]) (st:=G7) ["cell","last"];refine F.ok sc (λvs H Q E h=>?_) (λf aD A outer s H vs Q E hr h=>?_)
 ·obtain⟨a,p,i,rfl,_⟩:=h;rfl
 ·obtain⟨a,p,i,rfl,⟨dx,na,ta,la,lv,h1,h2,h3,h4,h5⟩,k⟩:=h;refine⟨_,af (aN (i:=1) sc.nd rfl (Or.inl rfl) (aj (pv 0) rfl)) (ah (aC (jW (yE (ft (pv 1))) (jW (j0 (Q2 hr.units) (aj (pv 1) rfl) (aj (pv 0) rfl) (aY _)) (pE (j0 (Gu hr.units) (aj (pv 1) rfl) (aj (pv 0) rfl) (aY _))))))),?_⟩;refine⟨_,rfl,a,C.cell,dx,_,_,rfl,h1,T.aH,T.fY,ig ..,_,rfl,_,rfl,?_⟩;unfold iU at k;cases e:i.last with
  |none=>rw[e] at h5 k;have h5:lv=.ak:=h5;subst h5;exact bJ k
  |some l=>
   rw[e] at h5 k;obtain⟨ra,rfl,dr,tr,lr,gr,vr,r1,r2,r3,r4,r5⟩:=h5;refine bF ⟨_,rfl,ra,C.run,dr,_,_,rfl,r1,T.dR,T.Aw,GU ..,_,rfl,a,C.cell,dx,_,_,rfl,h1,T.aH,T.mI,qg ..,tr,ta,_,_,rfl,rfl,r2,h3,_,rfl,?_⟩;refine aT (λh=>?_) (λh=>?_)
   ·refine⟨_,rfl,ra,C.run,dr,_,_,rfl,r1,T.dR,T.Ax,GV ..,_,rfl,a,C.cell,dx,_,_,rfl,h1,T.aH,T.ie,jA ..,lr,la,_,_,rfl,rfl,r3,h4,?_⟩;have k:Q (V.bl (decide (l.text=i.text)&&decide (l.names=i.leans))) H:=k;rw[h,gD] at k;exact k
   ·have k:Q (V.bl (decide (l.text=i.text)&&decide (l.names=i.leans))) H:=k;rw[jL] at h;rw[h,iC] at k;exact k
end
noncomputable def ot(b:Nb.Book)(ts:List Text):Option (List Text):=ts.mapM λn=>(b.item n).bind Item.value
theorem wJ{α β:Type}{f:α->Option β}:∀{l:List α} {r:List β},l.mapM f=some r->Paired (λa c=>f a=some c) l r
 |[],r,h=>by rw[List.mapM_nil] at h;cases h;exact .nil
 |a::l,r,h=>by
  rw[m8] at h;cases e:f a with
  |none=>rw[e] at h;cases h
  |some c=>
   rw[e] at h;cases e2:l.mapM f with
   |none=>rw[e2] at h;cases h
   |some r'=>rw[e2] at h;cases h;exact .cons e (wJ e2)
theorem RM{α β:Type}{f:α->Option β}{l:List α}{r:List β}(h:Paired (λa c=>f a=some c) l r):l.mapM f=some r:=by
 induction h with
 |nil=>rfl
 |cons e _ ih=>rw[m8,e,ih];rfl
theorem wK{i:Item}{v:Text}(h:i.value=some v):i.stands=.good/\∃l,i.last=some l/\l.came=.value v:=by
 unfold Item.value at h;split at h
 ·rename_i hg;refine⟨hg,?_⟩;split at h
  ·rename_i l hl;split at h
   ·rename_i b hb;exact⟨l,hl,by rw[hb,a4 h]⟩
   ·cases h
  ·cases h
 ·cases h
section
variable {P:Program}{w:World}{K:PySem.W.Frag}{mg:Str->Option Value}{base:Heap}{C:Cs}
noncomputable abbrev G8:Stmt:=top 33
noncomputable def wL(C:Cs):Sp:=λvs H Q _=>∃(g:Gh) (b:Nb.Book) (wv:V) (m al:Nat) (l:Addr) (ts us:List Text),vs=[.ref l]/\Rep C H g b wv m al/\H l=some (.lst (bV g b ts))/\ts.length<=1000000/\ot b ts=some us/\
 ∀H' a,ai H H'->cz H' a us->Q (.ref a) H'
theorem RN(T:Tx K mg C)(F:aR K mg "values_of" G8 ["sources"]):Ok P w K mg base aq 1 "values_of" ["sources"] (wL C):=by
 have sc:=sk (P:=["sources"]) (st:=G8) ["sources","source"];refine F.ok sc (λvs H Q E h=>?_) (λf aD A outer s H vs Q E hr h=>?_)
 ·obtain⟨g,b,wv,m,al,l,ts,us,rfl,_⟩:=h;rfl
 ·obtain⟨g,b,wv,m,al,l,ts,us,rfl,R,hl,hlen,hv,k⟩:=h;refine⟨_,ah (aC (kM rN rfl T.sW yk (aa (nM (te:=dO K (dO K (bU 1) "last") "value") (own:=[("source",1)]) rfl sc.nd (dD (pv 0)) (gq (by kernel_rfl)) (λs H C cl fp=>bQ (i:=1) sc.nd rfl (Or.inl rfl)) (λs H C cl fp=>jm)
   (λs H C cl fp=>aj (aj (pv 1) rfl) rfl)) ae))),?_⟩
  refine⟨_,rfl,l,rfl,⟨_,ax.of hl⟩,λD hD=>?_⟩;have pr:=wJ hv;refine mj (K:=K) (a:=l) (xs:=bV g b ts) (λn H'=>∃as:List Addr,H'=upd H D (.lst (as.map V.ref))/\Paired (λa t=>ay H a t) as (us.take n)) ⟨[],rfl,.nil⟩ (λn H' _ ⟨as,e,_⟩=>by rw[e];exact ax.of (by rw[aw (bj hl hD)];exact hl)) ?_ ?_
  ·rintro n x H' hx ⟨as,rfl,hp⟩;obtain⟨t,ht,rfl⟩:=qj hx;obtain⟨u,hu,ij⟩:=Paired.get pr ht;cases e:b.item t with
   |none=>rw[e] at ij;cases ij
   |some i=>
    rw[e] at ij;have ij:i.value=some u:=ij;obtain⟨hg,lr,kf,hc⟩:=wK ij;obtain⟨a,p,s1,s2,s3,dx,na,ta,la,lv,h1,h2,h3,h4,h5⟩:=R.GX e;rw[kf] at h5;obtain⟨ra,rfl,dr,tr,qk,gr,vr,r1,r2,r3,r4,r5⟩:=h5;have AK:ay H vr u:=by rw[hc] at r5;exact r5
    rw[s1];refine⟨rfl,yes ?_⟩;refine⟨_,rfl,a,C.cell,dx,_,_,rfl,by rw[aw (bj h1 hD)];exact h1,T.aH,T.fY,ig ..,ra,C.run,dr,_,_,rfl,by rw[aw (bj r1 hD)];exact r1,T.dR,T.qc,tf ..,_,ag,?_,as++[vr],?_,?_⟩
    ·rw[aF,Paired.len hp];have h2:(us.take n).length<=ts.length:=by rw[eU,Paired.len pr];exact jK _ _
     exact dC (aS h2 hlen) (by decide)
    ·rw[bc,bW];rfl
    ·rw[take_snoc hu];exact Paired.append hp (.cons AK .nil)
  ·rintro H' ⟨as,rfl,hp⟩;have e1:(bV g b ts).length=us.length:=by rw[<-Paired.len pr];exact aF ..
   rw[e1,cA] at hp;have s1:ai H (upd H D (.lst (as.map V.ref))):=aG hD;refine⟨D,_,rfl,.inl ⟨ax.of ag,λl' du=>?_⟩⟩;have s2:ai (upd H D (.lst (as.map V.ref))) (upd (upd H D (.lst (as.map V.ref))) l' (.tup (as.map V.ref))):=aG du;exact k _ l' (s1.trans s2) ⟨as,ag,Paired.cW hp λa t z=>s2 _ _ (s1 _ _ z)⟩
noncomputable abbrev G9:Stmt:=top 35
noncomputable def tm(H:Hp)(d:Addr)(f:Text->List Text):Prop:=∃kvs:List (List Key×V),H d=some (.dT kvs)/\∀n,match aV kvs (nk n) with
 |none=>f n=[]
 |some v=>∃l as,v=.ref l/\H l=some (.lst (as.map V.ref))/\Paired (λa t=>ay H a t) as (f n)
theorem tm.same{H H':Hp}{d:Addr}{f:Text->List Text}(h:tm H d f)(s:ai H H'):tm H' d f:=by
 obtain⟨kvs,h1,h2⟩:=h;refine⟨kvs,s _ _ h1,λn=>?_⟩;have q:=h2 n;cases e:aV kvs (nk n) with
 |none=>rw[e] at q;exact q
 |some v=>rw[e] at q;obtain⟨l,as,q1,q2,q3⟩:=q;exact⟨l,as,q1,s _ _ q2,Paired.cW q3 λa t z=>s _ _ z⟩
structure jB(H0 H:Hp)(d:Addr)(ps:List (Text×Text)):Prop where
 same:ai H0 H
 new:H0 d=none
 ex:∃kvs:List (List Key×V),H d=some (.dT kvs)/\kvs.length<=ps.length/\(∀n,match aV kvs (nk n) with
  |none=>NB.U ps n=[]
  |some v=>∃l as,v=.ref l/\H0 l=none/\l≠d/\H l=some (.lst (as.map V.ref))/\Paired (λa t=>ay H a t) as (NB.U ps n))/\
  ∀n n' l,aV kvs (nk n)=some (.ref l)->aV kvs (nk n')=some (.ref l)->n=n'
theorem jB.us{H0 H:Hp}{d:Addr}{ps:List (Text×Text)}(h:jB H0 H d ps):tm H d (NB.U ps):=by
 obtain⟨kvs,h1,_,h2,_⟩:=h.ex;refine⟨kvs,h1,λn=>?_⟩;have q:=h2 n;cases e:aV kvs (nk n) with
 |none=>rw[e] at q;exact q
 |some v=>rw[e] at q;obtain⟨l,as,q1,_,_,q2,q3⟩:=q;exact⟨l,as,q1,q2,q3⟩
noncomputable def jC(H H':Hp):Prop:=∀b xs,H b=some (.tup xs)->H' b=some (.tup xs)
theorem jC.trans{H H1 H2:Hp}(a:jC H H1)(b:jC H1 H2):jC H H2:=λc xs h=>b c xs (a c xs h)
theorem ai.eO{H H':Hp}(s:ai H H'):jC H H':=λb xs h=>s b _ h
theorem tp{H:Hp}{a:Addr}{o o':HO}(h:H a=some o)(hn:∀xs,o≠.tup xs):jC H (upd H a o'):=λb xs e=>by rw[aw (b9 e h (λz=>hn xs z.symm))];exact e
theorem wM{H H':Hp}{as:List Addr}{ts:List Text}(h:Paired (λa t=>ay H a t) as ts)(m:jC H H'):Paired (λa t=>ay H' a t) as ts:=Paired.cW h λ_ _ z=>m _ _ z
theorem jB.old{H0 H:Hp}{d z l na:Addr}{ps:List (Text×Text)}{n u:Text}{kvs:List (List Key×V)}{as:List Addr}(B:jB H0 H d ps)(hz:H z=none)(hd:H d=some (.dT kvs))(hv:aV kvs (nk n)=some (.ref l))(hl:H l=some (.lst (as.map V.ref)))
 (hu:ay H na u):jB H0 (upd (upd H z (.lst [])) l (.lst (as.map V.ref++[.ref na]))) d (ps++[(n,u)]):=by
 obtain⟨tq,h1,h2,h3,h4⟩:=B.ex;rw[hd] at h1;cases h1;have s1:ai H (upd H z (.lst [])):=aG hz;have cO:=s1 _ _ hl;have t2:jC (upd H z (.lst [])) (upd (upd H z (.lst [])) l (.lst (as.map V.ref++[.ref na]))):=tp cO λxs e=>nomatch e;have tt:=(ai.eO s1).trans t2;have q0:=h3 n;rw[hv] at q0;obtain⟨l0,RO,e0,n0,d0,q1,q2⟩:=q0;cases e0;rw[hl] at q1;have q1:=a4 q1;have q1:as.map V.ref=RO.map V.ref:=by injection q1
 have RQ:d≠l:=bu d0;refine⟨λb o e=>?_,B.new,kvs,?_,by rw[aX];simp;omega,λm=>?_,h4⟩
 ·rw[aw (bj e n0)];exact s1 _ _ (B.same _ _ e)
 ·rw[aw RQ];exact s1 _ _ hd
 ·rw[NB.FI];have q:=h3 m;cases e:aV kvs (nk m) with
  |none=>
   rw[e] at q;have bG:¬n=m:=λz=>by rw[z,e] at hv;cases hv
   rw[if_neg bG,ez];exact q
  |some v=>
   rw[e] at q;obtain⟨l',fD,f1,f2,f3,f4,f5⟩:=q;by_cases ou:n=m
   ·subst ou;rw[if_pos rfl];rw[e] at hv;cases hv;cases f1;rw[hl] at f4;have f4:as.map V.ref=fD.map V.ref:=by injection (a4 f4)
    refine⟨l,fD++[na],rfl,n0,d0,?_,Paired.append (wM f5 tt) (.cons (tt _ _ hu) .nil)⟩;rw[ag,f4,bW];rfl
   ·rw[if_neg ou,ez];have RR:l'≠l:=λz=>by subst z;rw[f1] at e;exact ou (h4 _ _ _ hv e)
    refine⟨l',fD,f1,f2,f3,?_,wM f5 tt⟩;rw[aw RR];exact s1 _ _ f4
theorem jB.fresh{H0 H:Hp}{d z na:Addr}{ps:List (Text×Text)}{n u:Text}{kvs:List (List Key×V)}(B:jB H0 H d ps)(hz:H z=none)(hd:H d=some (.dT kvs))(hv:aV kvs (nk n)=none)
 (hu:ay H na u):jB H0 (upd (upd (upd H z (.lst [])) d (.dT (putK kvs (nk n) (.ref z)))) z (.lst ([]++[.ref na]))) d (ps++[(n,u)]):=by
 obtain⟨tq,h1,h2,h3,h4⟩:=B.ex;rw[hd] at h1;cases h1;have s1:ai H (upd H z (.lst [])):=aG hz;have tu:d≠z:=bj hd hz;have wN:=s1 _ _ hd;have t2:jC (upd H z (.lst [])) (upd (upd H z (.lst [])) d (.dT (putK kvs (nk n) (.ref z)))):=tp wN λxs e=>nomatch e;have RS:(upd (upd H z (.lst [])) d (.dT (putK kvs (nk n) (.ref z)))) z=some (.lst []):=by rw[aw (bu tu)];exact ag
 have t3:jC (upd (upd H z (.lst [])) d (.dT (putK kvs (nk n) (.ref z)))) (upd (upd (upd H z (.lst [])) d (.dT (putK kvs (nk n) (.ref z)))) z (.lst ([]++[.ref na]))):=tp RS λxs e=>nomatch e;have tt:=((ai.eO s1).trans t2).trans t3;have z0:H0 z=none:=B.same.free hz;have Ha:∀m,aV kvs (nk m)≠some (.ref z):=λm e=>by have q:=h3 m;rw[e] at q;obtain⟨l,as,e1,_,_,q1,_⟩:=q;cases e1;rw[hz] at q1;cases q1
 refine⟨λb o e=>?_,B.new,putK kvs (nk n) (.ref z),?_,?_,λm=>?_,λm m' l e1 e2=>?_⟩
 ·rw[aw (bj e z0),aw (bj e B.new)];exact s1 _ _ (B.same _ _ e)
 ·rw[aw tu];exact ag
 ·have:=rU kvs (nk n) (.ref z);rw[aX];simp;omega
 ·rw[NB.FI,pS];by_cases ou:n=m
  ·subst ou;rw[if_pos rfl,if_pos rfl];have q:=h3 n;rw[hv] at q;have q:NB.U ps n=[]:=q;rw[q];exact⟨z,[na],rfl,z0,bu tu,ag,.cons (tt _ _ hu) .nil⟩
  ·rw[if_neg ou,ez,if_neg (λe=>ou (k8 e).symm)];have q:=h3 m;cases e:aV kvs (nk m) with
   |none=>rw[e] at q;exact q
   |some v=>rw[e] at q;obtain⟨l',fD,f1,f2,f3,f4,f5⟩:=q;refine⟨l',fD,f1,f2,f3,?_,wM f5 tt⟩;rw[aw (bj f4 hz),aw f3];exact s1 _ _ f4
 ·rw[pS] at e1 e2;by_cases g1:nk m=nk n
  ·by_cases g2:nk m'=nk n
   ·exact(k8 g1).trans (k8 g2).symm
   ·rw[if_pos g1] at e1;rw[if_neg g2] at e2;cases e1;exact absurd e2 (Ha m')
  ·rw[if_neg g1] at e1;by_cases g2:nk m'=nk n
   ·rw[if_pos g2] at e2;cases e2;exact absurd e1 (Ha m)
   ·rw[if_neg g2] at e2;exact h4 m m' l e1 e2
noncomputable def AL(C:Cs):Sp:=λvs H Q _=>∃(g:Gh) (b:Nb.Book) (wv:V) (m al:Nat),vs=[.ref g.ba]/\Rep C H g b wv m al/\(NB.pairs b).length<=1000000/\∀H' d,ai H H'->H d=none->tm H' d (NB.U (NB.pairs b))->(∀kvs n l,H' d=some (.dT kvs)->aV kvs (nk n)=some (.ref l)->H l=none)->Q (.ref d) H'
theorem RT{X:Cx}{o e f:Expr}{apos bN:Pos}{td ty tx:TE}(ho:PE X o td)(he:PE X e ty)(hf:PE X f tx)(m:M2 X o "setdefault" apos e f bN)(hu:X.A.units+1<cLine):PE X (.Call (.Attribute o "setdefault" apos) [e,f] [] bN) (Fw td ty tx):=PY hu ho he hf m
theorem lu{α β:Type}{f:α->List β}{l:List α}{i:Nat}{x:α}(h:l[i]?=some x):(l.take (i+1)).flatMap f=(l.take i).flatMap f++f x:=by rw[take_snoc h,List.flatMap_append];simp
theorem ow{α β:Type}{f:α->List β}{l:List α}(i:Nat):((l.take i).flatMap f).length<=(l.flatMap f).length:=by
 have e:l.flatMap f=(l.take i).flatMap f++(l.drop i).flatMap f:=by rw[<-List.flatMap_append,List.take_append_drop]
 rw[e,aX];omega
theorem RV(T:Tx K mg C)(F:aR K mg "users_by_name" G9 ["book"])(D1:Ok P w K mg base aq 1 "cells_of" ["book"] (ka C)):Ok P w K mg base aq 2 "users_by_name" ["book"] (AL C):=by
 have sc:=sk (P:=["book"]) (st:=G9) ["book","users","cell","lean"];refine F.ok sc (λvs H Q E h=>?_) (λf aD A outer s H vs Q E hr h=>?_)
 ·obtain⟨g,b,wv,m,al,rfl,_⟩:=h;rfl
 ·obtain⟨g,b,wv,m,al,rfl,R,hlen,k⟩:=h;refine⟨_,af (aN (i:=1) sc.nd rfl (Or.inl rfl) vH) (af (cR PassesOwn.never rfl (dD (az D1 hr rfl aE (aa (pv 0) ae))) (bQ (i:=2) sc.nd rfl (Or.inl rfl))
   (ah (cR PassesOwn.never rfl (jg (aj (pv 2) rfl)) (bQ (i:=3) sc.nd rfl (Or.inl rfl))
    (ah (cb (cZ di gC gB fT (RT (pv 1) (pv 3) (br ae) ⟨rfl,rfl,rfl,rfl⟩ (cS hr)) (aa (aj (pv 2) rfl) ae)))))))
   (ah (aC (pv 1)))),?_⟩
  intro d hd;have s0:ai H (upd H d (.dT [])):=aG hd;have R0:=R.same s0;refine⟨_,rfl,g,g.bd,b,wv,m,al,rfl,R0,λl hl=>?_⟩;have s1:ai (upd H d (.dT [])) (upd (upd H d (.dT [])) l (.lst ((g.cs.filterMap id).map V.ref))):=aG hl;have wO:l≠d:=λz=>by rw[z,ag] at hl;cases hl
  have ox:H l=none:=by rw[<-hl,aw wO]
  have sH:ai H (upd H l (.lst ((g.cs.filterMap id).map V.ref))):=aG ox;generalize AM:upd H l (.lst ((g.cs.filterMap id).map V.ref))=H0 at sH;have RX:H0 l=some (.lst ((g.cs.filterMap id).map V.ref)):=by rw[<-AM];exact ag
  have B0:jB H0 (upd (upd H d (.dT [])) l (.lst ((g.cs.filterMap id).map V.ref))) d []:=by
   refine⟨λb o e=>?_,by rw[<-AM,aw (bu wO)];exact hd,[],s1 _ _ ag,bB _,λn=>rfl,λn n' l e=>by cases e⟩;rw[<-AM] at e;by_cases hb:b=l
   ·subst hb;rw[ag] at e ⊢;exact e
   ·rw[aw hb] at e ⊢;exact s0 _ _ e
  have pl:=R.placed;refine⟨l,rfl,⟨_,ax.of ag⟩,fQ (K:=K) (a:=l) (xs:=(g.cs.filterMap id).map V.ref) (λn σ H'=>(∃v2 v3:Option V,σ=[some (.ref g.ba),some (.ref d),v2,v3])/\jB H0 H' d (((Nb.placed b).take n).flatMap λx=>x.1.leans.map λt=>(t,x.1.name)))
   ⟨⟨none,none,rfl⟩,B0⟩ (λn σ H' _ ⟨_,e⟩=>ax.of (e.same _ _ RX)) ?_ ?_⟩
  ·rintro n x σ H' hx ⟨⟨v2,v3,rfl⟩,B⟩;obtain⟨a,ha,rfl⟩:=dH hx;obtain⟨⟨i,p⟩,hi,hc⟩:=Paired.get pl ha;obtain⟨dx,na,ta,la,lv,h1,h2,h3,⟨as,h4,h5⟩,h6⟩:=hc;have h1:=sH _ _ h1;have h2:ay H0 na i.name:=sH _ _ h2;have h4:=sH _ _ h4;have h5:=Paired.cW h5 (G:=λb t=>ay H0 b t) λ_ _ z=>sH _ _ z;have wQ:=B.same _ _ h1;have RY:=B.same _ _ h4;refine⟨_,rfl,a,C.cell,dx,_,_,rfl,wQ,T.aH,T.ie,jA ..,la,rfl,⟨_,aQ.of RY⟩,?_⟩;refine nu (K:=K) (a:=la) (xs:=as.map V.ref) (λq σ H2=>(∃v3:Option V,σ=[some (.ref g.ba),some (.ref d),some (.ref a),v3])/\
    jB H0 H2 d ((((Nb.placed b).take n).flatMap λx=>x.1.leans.map λt=>(t,x.1.name))++((i.leans.take q).map λt=>(t,i.name)))) ⟨⟨v3,rfl⟩,by simpa using B⟩ (λq σ H2 _ ⟨_,e⟩=>aQ.of (e.same _ _ h4)) ?_ ?_
   ·rintro q x σ H2 hx ⟨⟨v3,rfl⟩,B2⟩;obtain⟨c,hc,rfl⟩:=dH hx;obtain⟨t,ht,b8⟩:=Paired.get h5 hc;obtain⟨kvs,k1,k2,k3,k4⟩:=id B2.ex;have RZ:ay H2 c t:=B2.same _ _ b8;have Hc:ay H2 na i.name:=B2.same _ _ h2;have AN:=B2.same _ _ h1;have Hd:((((Nb.placed b).take n).flatMap λx=>x.1.leans.map λt=>(t,x.1.name))++((i.leans.take (q+1)).map λt=>(t,i.name)))=((((Nb.placed b).take n).flatMap λx=>x.1.leans.map λt=>(t,x.1.name))++((i.leans.take q).map λt=>(t,i.name)))++[(t,i.name)]:=by rw[take_snoc ht,bW,cK];rfl
    have He:((((Nb.placed b).take n).flatMap λx=>x.1.leans.map λt=>(t,x.1.name))++((i.leans.take q).map λt=>(t,i.name))).length<=1000000:=by have e1:((Nb.placed b).take (n+1)).flatMap (λx=>x.1.leans.map λt=>(t,x.1.name))=(((Nb.placed b).take n).flatMap λx=>x.1.leans.map λt=>(t,x.1.name))++(i.leans.map λt=>(t,i.name)):=lu hi;have e2:=ow (f:=λx:Item×Nat=>x.1.leans.map λt=>(t,x.1.name)) (l:=Nb.placed b) (n+1);rw[e1,aX,aF] at e2;rw[aX,aF,eU];have e3:((Nb.placed b).flatMap λx=>x.1.leans.map λt=>(t,x.1.name)).length<=1000000:=hlen;omega
    refine⟨_,rfl,d,rfl,.inr ⟨kvs,.inl k1⟩,_,rfl,bY _,λz hz=>?_⟩;have sz:ai H2 (upd H2 z (.lst [])):=aG hz;refine⟨kvs,nk t,c,sz _ _ k1,rfl,sz _ _ (ay.key RZ),dC (aS k2 He) (by decide),λv hv=>?_,λhv=>?_⟩
    ·have q3:=k3 t;rw[hv] at q3;obtain⟨l3,ql,rfl,g1,g2,g3,g4⟩:=q3;have lb:ql.length<=1000000:=by rw[Paired.len g4];unfold NB.U;rw[aF];exact aS (pk _ _) He
     have Hf:=sz _ _ g3;refine⟨.inl ⟨rfl,_,ax.of Hf⟩,_,rfl,a,C.cell,dx,_,_,rfl,sz _ _ AN,T.aH,T.jy,ke ..,l3,_,_,rfl,rfl,Hf,by rw[aF];exact dC lb (by decide),?_⟩;refine⟨⟨_,rfl⟩,?_⟩;rw[Hd];exact B2.old hz k1 hv g3 Hc
    ·have ZK:=sz _ _ k1;have tu:z≠d:=bu (bj k1 hz);have Hg:(upd (upd H2 z (.lst [])) d (.dT (putK kvs (nk t) (.ref z)))) z=some (.lst []):=by rw[aw tu];exact ag
     have Sa:a≠d:=b9 AN k1 (λz=>nomatch z);refine⟨.inl ⟨rfl,_,ax.of Hg⟩,_,rfl,a,C.cell,dx,_,_,rfl,by rw[aw Sa];exact sz _ _ AN,T.aH,T.jy,ke ..,z,_,_,rfl,rfl,Hg,by decide,?_⟩;refine⟨⟨_,rfl⟩,?_⟩;rw[Hd];exact B2.fresh hz k1 hv Hc
   ·rintro σ H2 ⟨⟨v3,rfl⟩,B2⟩;refine⟨⟨_,_,rfl⟩,?_⟩;rw[lu hi];rw[aF,Paired.len h5,cA] at B2;exact B2
  ·rintro σ H' ⟨⟨v2,v3,rfl⟩,B⟩;refine⟨_,rfl,?_⟩;rw[aF,Paired.len pl,cA] at B;refine k H' d (sH.trans B.same) hd B.us λkvs n l e1 e2=>?_;obtain⟨tq,g1,_,g2,_⟩:=B.ex;rw[e1] at g1;cases g1;have q:=g2 n;rw[e2] at q;obtain⟨l',fD,q1,q2,_⟩:=q;cases q1;exact sH.free q2
end
noncomputable def eI(R:List Text):List (List Key×V):=R.map λt=>(nk t,V.bl true)
theorem tw(t:Text):∀R:List Text,aV (eI R) (nk t)=if t∈R then some (.bl true) else none
 |[]=>rfl
 |u::R=>by
  show aV ((nk u,V.bl true)::eI R) (nk t)=_;by_cases h:u=t
  ·subst h;rw[gs rfl,if_pos (bP ..)]
  ·rw[fB (λe=>h (k8 e)),tw t R];have:t∈u::R↔t∈R:=by rw[bL];exact⟨λz=>z.resolve_left λe=>h e.symm,.inr⟩
   by_cases hm:t∈R
   ·rw[if_pos hm,if_pos (this.mpr hm)]
   ·rw[if_neg hm,if_neg (λz=>hm (this.mp z))]
theorem Sb{t:Text}{R:List Text}(h:t∉R):putK (eI R) (nk t) (.bl true)=eI (R++[t]):=by rw[vD _ (by rw[tw,if_neg h])];unfold eI;rw[bW];rfl
structure ik(H0 H:Hp)(sd rd:Addr)(R:List Text):Prop where
 same:ai H0 H
 ns:H0 sd=none
 nr:H0 rd=none
 seen:H sd=some (.dT (eI R))
 nd:R.Nodup
 ex:∃as:List Addr,H rd=some (.lst (as.map V.ref))/\Paired (λa t=>ay H a t) as R
theorem ik.add{H0 H:Hp}{sd rd c:Addr}{R:List Text}{t:Text}{as:List Addr}(S:ik H0 H sd rd R)(ht:t∉R)(hc:ay H c t)(hr:H rd=some (.lst (as.map V.ref))) :
 ik H0 (upd (upd H sd (.dT (putK (eI R) (nk t) (.bl true)))) rd (.lst (as.map V.ref++[.ref c]))) sd rd (R++[t]):=by
 obtain⟨fD,h1,h2⟩:=S.ex;rw[hr] at h1;have e:as.map V.ref=fD.map V.ref:=by injection (a4 h1)
 have ne:sd≠rd:=b9 S.seen hr (λz=>nomatch z);have t1:jC H (upd H sd (.dT (putK (eI R) (nk t) (.bl true)))):=tp S.seen λxs e=>nomatch e;have iV:(upd H sd (.dT (putK (eI R) (nk t) (.bl true)))) rd=some (.lst (as.map V.ref)):=by rw[aw (bu ne)];exact hr
 have t2:=t1.trans (tp (o':=.lst (as.map V.ref++[.ref c])) iV λxs e=>nomatch e);refine⟨λb o h=>?_,S.ns,S.nr,?_,NB.FG S.nd ht,fD++[c],?_,Paired.append (wM h2 t2) (.cons (t2 _ _ hc) .nil)⟩
 ·rw[aw (bj h S.nr),aw (bj h S.ns)];exact S.same _ _ h
 ·rw[aw ne,ag,Sb ht]
 ·rw[ag,e,bW];rfl
theorem ik.rebase{H0 H:Hp}{sd rd z:Addr}{o:HO}{R:List Text}(S:ik H0 H sd rd R)(hz:H z=none):ik (upd H0 z o) (upd H z o) sd rd R:=by
 obtain⟨as,h1,h2⟩:=S.ex;have s1:ai H (upd H z o):=aG hz;refine⟨λb u e=>?_,by rw[aw (bj S.seen hz)];exact S.ns,by rw[aw (bj h1 hz)];exact S.nr,s1 _ _ S.seen,S.nd,as,s1 _ _ h1,Paired.cW h2 λ_ _ q=>s1 _ _ q⟩;by_cases hb:b=z
 ·subst hb;rw[ag] at e ⊢;exact e
 ·rw[aw hb] at e ⊢;exact S.same _ _ e
theorem ik.weak{H0 H1 H:Hp}{sd rd:Addr}{R:List Text}(S:ik H1 H sd rd R)(sm:ai H0 H1):ik H0 H sd rd R:=⟨sm.trans S.same,sm.free S.ns,sm.free S.nr,S.seen,S.nd,S.ex⟩
section
variable {P:Program}{w:World}{K:PySem.W.Frag}{mg:Str->Option Value}{base:Heap}{C:Cs}
noncomputable abbrev Hh:Stmt:=top 36
noncomputable def AO(C:Cs):Sp:=λvs H Q _=>∃(g:Gh) (b:Nb.Book) (wv:V) (m al:Nat) (nl:Addr) (as:List Addr) (ns:List Text),vs=[.ref g.ba,.ref nl]/\Rep C H g b wv m al/\H nl=some (.lst (as.map V.ref))/\Paired (λa t=>ay H a t) as ns/\
 (NB.pairs b).length<=1000000/\ns.length<=1000000/\∀H' d R,ai H H'->H d=none->R.Nodup->H' d=some (.dT (eI R))->NB.Cl b ns R->Q (.ref d) H'
theorem wR{R us:List Text}{i:Nat}{u:Text}(h:us[i]?=some u):NB.dQ R (us.take (i+1))=if u∈NB.dQ R (us.take i) then NB.dQ R (us.take i) else NB.dQ R (us.take i)++[u]:=by rw[take_snoc h,NB.Qm]
theorem Sd(T:Tx K mg C)(F:aR K mg "names_above" Hh ["book","names"])(D1:Ok P w K mg base aq 2 "users_by_name" ["book"] (AL C)):Ok P w K mg base aq 3 "names_above" ["book","names"] (AO C):=by
 have sc:=sk (P:=["book","names"]) (st:=Hh) ["book","names","users","reached","seen","name","at","user"];refine F.ok sc (λvs H Q E h=>?_) (λf aD A outer s H vs Q E hr h=>?_)
 ·obtain⟨g,b,wv,m,al,nl,as,ns,rfl,_⟩:=h;rfl
 ·obtain⟨g,b,wv,m,al,nl,as,ns,rfl,R,wU,js,wV,Se,k⟩:=h;refine⟨_,af (aN (i:=2) sc.nd rfl (Or.inl rfl) (az D1 hr rfl aE (aa (pv 0) ae)))
   (af (aN (i:=3) sc.nd rfl (Or.inl rfl) (br ae))
   (af (aN (i:=4) sc.nd rfl (Or.inl rfl) vH)
   (af (cR PassesOwn.never rfl (dD (pv 1)) (bQ (i:=5) sc.nd rfl (Or.inl rfl))
    (ah (aO (cw (vF (cS hr) (pv 5) (pv 4))) (af (rW (cS hr) (pv 4) (pv 5) cY rfl) (ah (cb (cZ di gC gB fT (pv 3) (aa (pv 5) ae))))) aP)))
   (af (aN (i:=6) sc.nd rfl (Or.inl rfl) aK)
   (af (u6 PassesOwn.never (bo lZ (pv 6) (dv dE rfl T.dA dN (aa (pv 3) ae)) (aY _))
    (af (cR PassesOwn.never rfl (dD (GY (pv 2) (cx cC (pv 3) (pv 6) (λ_ _=>rfl)) (br ae) ⟨rfl,rfl,rfl,rfl⟩ (cS hr))) (bQ (i:=7) sc.nd rfl (Or.inl rfl))
     (ah (aO (cw (vF (cS hr) (pv 7) (pv 4))) (af (rW (cS hr) (pv 4) (pv 7) cY rfl) (ah (cb (cZ di gC gB fT (pv 3) (aa (pv 7) ae))))) aP)))
    (ah (Dx (i:=6) sc.nd rfl (Or.inl rfl) aK Dy))))
   (ah (aC (pv 4)))))))),?_⟩
  refine⟨_,rfl,g,b,wv,m,al,rfl,R,wV,λH1 ud iW ZL kZ _=>?_⟩;refine⟨bY _,λrd sh=>?_⟩;intro sd Hi;have qm:ai H1 (upd H1 rd (.lst [])):=aG sh;have f7:ai (upd H1 rd (.lst [])) (upd (upd H1 rd (.lst [])) sd (.dT [])):=aG Hi;have S0:ik H1 (upd (upd H1 rd (.lst [])) sd (.dT [])) sd rd []:=⟨qm.trans f7,qm.free Hi,sh,ag,uK,[],f7 _ _ ag,.nil⟩;have Hj:H1 nl=some (.lst (as.map V.ref)):=iW _ _ wU;have Sf:=Paired.cW js (G:=λa t=>ay H1 a t) λ_ _ z=>iW _ _ z;have bound:∀{R':List Text},R'.Nodup->(∀x∈R',x∈ns\/∃y,NB.LO b x y)->R'.length<=ns.length+256:=λ{R'} nd hs=>by
   have h:=NB.gv (u:=ns++(Nb.placed b).map λz=>z.1.name) nd λx hx=>by
    rcases hs x hx with z | ⟨y,z⟩
    ·exact uD _ z
    ·exact i5 _ (NB.zS z)
   rw[aX,aF] at h;have h2:=NB.fV b;rw[R.dG] at h2;omega
  have wW:∀n,n<=ns.length+256->n<sizeLine:=λn h=>dC (aS h (Nat.add_le_add_right Se 256)) (by decide);refine⟨_,rfl,nl,rfl,⟨_,ax.of (S0.same _ _ Hj)⟩,fQ (K:=K) (a:=nl) (xs:=as.map V.ref) (λn σ H'=>(∃v5 v6 v7:Option V,σ=[some (.ref g.ba),some (.ref nl),some (.ref ud),some (.ref rd),some (.ref sd),v5,v6,v7])/\ik H1 H' sd rd (NB.dQ [] (ns.take n)))
   ⟨⟨none,none,none,rfl⟩,S0⟩ (λn σ H' _ ⟨_,e⟩=>ax.of (e.same _ _ Hj)) ?_ ?_⟩
  ·rintro n x σ H' hx ⟨⟨v5,v6,v7,rfl⟩,S⟩;obtain⟨c,hc,rfl⟩:=dH hx;obtain⟨t,ht,b8⟩:=Paired.get Sf hc;have lq:ay H' c t:=S.same _ _ b8;refine⟨_,rfl,_,rfl,sd,_,rfl,b5.t S.seen (ay.key lq),_,rfl,?_⟩;rw[tw];have sub:∀x∈NB.dQ [] (ns.take n),x∈ns\/∃y,NB.LO b x y:=λx hx=>by
    rcases(NB.j7 _ _ _).mp hx with z | z
    ·cases z
    ·exact .inl (LD z)
   have bl:=bound S.nd sub;by_cases hm:t∈NB.dQ [] (ns.take n)
   ·rw[if_pos hm];refine bJ ?_;refine⟨⟨_,_,_,rfl⟩,?_⟩;rw[wR ht,if_pos hm];exact S
   ·rw[if_neg hm];obtain⟨fD,h1,h2⟩:=id S.ex;refine bF ⟨_,rfl,_,rfl,sd,_,rfl,ia.t S.seen (ay.key lq) (by unfold eI;rw[aF];exact wW _ bl),?_⟩;have ne:rd≠sd:=bu (b9 S.seen h1 (λz=>nomatch z));refine⟨_,rfl,.inl ⟨rfl,_,ax.of (by rw[aw ne];exact h1)⟩,_,rfl,rd,_,_,rfl,rfl,by rw[aw ne];exact h1,by rw[aF,Paired.len h2];exact wW _ bl,?_⟩;refine⟨⟨_,_,_,rfl⟩,?_⟩;rw[wR ht,if_neg hm];exact S.add hm lq h1
  ·rintro σ H2 ⟨⟨v5,v6,v7,rfl⟩,S2⟩;rw[aF,Paired.len js,cA] at S2;refine yM (λσ H'=>∃(R':List Text) (j:Nat) (v5 v7:Option V),σ=[some (.ref g.ba),some (.ref nl),some (.ref ud),some (.ref rd),some (.ref sd),v5,some (.int (j:Int)),v7]/\ik H1 H' sd rd R'/\j<=R'.length/\(∀x∈ns,x∈R')/\
    (∀(q:Nat) (x:Text),q<j->R'[q]?=some x->∀y,NB.LO b y x->y∈R')/\(∀x∈R',x∈ns\/∃y,NB.LO b x y)/\∀Z:Text->Prop,NB.v9 b Z->(∀n∈ns,Z n)->∀x∈R',Z x)
    (λ(σ:L2.St) (_:Hp)=>match σ[6]? with | some (some (V.int j))=>ns.length+256-j.toNat | _=>0) ?_ ?_ ?_
   ·refine⟨_,0,v5,v7,rfl,S2,bY _,λx hx=>(NB.j7 _ _ _).mpr (.inr hx),λq x hq=>absurd hq (qZ _),λx hx=>?_,λZ hZ hn x hx=>?_⟩
    ·rcases(NB.j7 _ _ _).mp hx with z | z
     ·cases z
     ·exact .inl z
    ·rcases(NB.j7 _ _ _).mp hx with z | z
     ·cases z
     ·exact hn x z
   ·rintro σ H3 ⟨R',j,v5,v7,rfl,S,hj,kX,dW,AQ,AR⟩;obtain⟨fD,h1,h2⟩:=id S.ex;have bl:=bound S.nd AQ;refine⟨_,rfl,_,rfl,rd,_,rfl,.inl (ax.of h1),_,_,rfl,rfl,_,rfl,?_⟩;rw[aF,Paired.len h2];refine aT (λaL=>?_) (λc6=>?_)
    ·have aL:j<R'.length:=by have:=bw aL;omega
     obtain⟨c,hc⟩:∃c,fD[j]?=some c:=⟨_,fm (by rw[Paired.len h2];exact aL)⟩;obtain⟨x,hx,oy⟩:=Paired.get h2 hc;have oy:ay H3 c x:=oy;obtain⟨kvs,u1,u2⟩:=id kZ;have Hk:=S.same _ _ u1;refine⟨_,rfl,ud,rfl,.inr ⟨kvs,.inl Hk⟩,_,rfl,_,rfl,rd,_,_,_,rfl,rfl,ax.of h1,vm (j:=j) (v:=.ref c) (by rw[cJ,hc];rfl),bY _,λz hz=>?_⟩;have sz:ai H3 (upd H3 z (.lst [])):=aG hz;have zR:H1 z=none:=S.same.free hz;have wX:ai H1 (upd H1 z (.lst [])):=aG zR;refine⟨_,b5.t (sz _ _ Hk) (sz _ _ (ay.key oy)),?_⟩;obtain⟨l,ls,el,hl,hp⟩:∃(l:Addr) (ls:List Addr),(aV kvs (nk x)).getD (.ref z)=.ref l/\(upd H1 z (.lst [])) l=some (.lst (ls.map V.ref))/\Paired (λa t=>ay (upd H1 z (.lst [])) a t) ls (NB.U (NB.pairs b) x):=by
      have q:=u2 x;cases e:aV kvs (nk x) with
      |none=>rw[e] at q;have q:NB.U (NB.pairs b) x=[]:=q;exact⟨z,[],rfl,ag,by rw[q];exact .nil⟩
      |some v=>rw[e] at q;obtain⟨l,ls,rfl,q1,q2⟩:=q;exact⟨l,ls,rfl,wX _ _ q1,Paired.cW q2 λ_ _ z=>wX _ _ z⟩
     have Sz:=S.rebase (o:=.lst []) hz;rw[el];have lo:∀y,y∈NB.U (NB.pairs b) x↔NB.LO b y x:=λy=>NB.Qn;generalize ZM:NB.U (NB.pairs b) x=us at hp lo;generalize hB:upd H1 z (.lst [])=Hb at hl hp Sz wX;refine⟨l,rfl,⟨_,ax.of (Sz.same _ _ hl)⟩,fQ (K:=K) (a:=l) (xs:=ls.map V.ref) (λn σ H'=>(∃v7:Option V,σ=[some (.ref g.ba),some (.ref nl),some (.ref ud),some (.ref rd),some (.ref sd),v5,some (.int (j:Int)),v7])/\ik Hb H' sd rd (NB.dQ R' (us.take n)))
      ⟨⟨v7,rfl⟩,Sz⟩ (λn σ H' _ ⟨_,e⟩=>ax.of (e.same _ _ hl)) ?_ ?_⟩
     ·rintro n x1 σ H' AS ⟨⟨v7,rfl⟩,S4⟩;obtain⟨c1,qo,rfl⟩:=dH AS;obtain⟨t,ht,b8⟩:=Paired.get hp qo;have lq:ay H' c1 t:=S4.same _ _ b8;refine⟨_,rfl,_,rfl,sd,_,rfl,b5.t S4.seen (ay.key lq),_,rfl,?_⟩;rw[tw];have sub:∀y∈NB.dQ R' (us.take n),y∈ns\/∃w,NB.LO b y w:=λy hy=>by
       rcases(NB.j7 _ _ _).mp hy with q | q
       ·exact AQ y q
       ·exact .inr ⟨x,(lo y).mp (LD q)⟩
      have bl:=bound S4.nd sub;by_cases hm:t∈NB.dQ R' (us.take n)
      ·rw[if_pos hm];refine bJ ?_;refine⟨⟨_,rfl⟩,?_⟩;rw[wR ht,if_pos hm];exact S4
      ·rw[if_neg hm];obtain⟨tE,g1,g2⟩:=id S4.ex;refine bF ⟨_,rfl,_,rfl,sd,_,rfl,ia.t S4.seen (ay.key lq) (by unfold eI;rw[aF];exact wW _ bl),?_⟩;have ne:rd≠sd:=bu (b9 S4.seen g1 (λz=>nomatch z));refine⟨_,rfl,.inl ⟨rfl,_,ax.of (by rw[aw ne];exact g1)⟩,_,rfl,rd,_,_,rfl,rfl,by rw[aw ne];exact g1,by rw[aF,Paired.len g2];exact wW _ bl,?_⟩;refine⟨⟨_,rfl⟩,?_⟩;rw[wR ht,if_neg hm];exact S4.add hm lq g1
     ·rintro σ H' ⟨⟨v7,rfl⟩,S4⟩;rw[aF,Paired.len hp,cA] at S4;refine⟨_,rfl,_,_,rfl,rfl,?_⟩;obtain⟨ex,hex⟩:=NB.FH us R';have mono:∀y,y∈R'->y∈NB.dQ R' us:=λy hy=>(NB.j7 _ _ _).mpr (.inl hy);have jn:(j:Int)+1=((j+1:Nat):Int):=by omega
      refine⟨⟨NB.dQ R' us,j+1,v5,v7,?_,S4.weak wX,?_,λy hy=>mono y (kX y hy),λq y hq hy w hw=>?_,λy hy=>?_,λZ hZ hn y hy=>?_⟩,?_⟩
      ·rw[<-jn];rfl
      ·rw[hex,aX];omega
      ·have il:q<R'.length:=by omega
       rw[hex,CN il] at hy;by_cases Sg:q=j
       ·subst Sg;rw[hx] at hy;cases hy;exact(NB.j7 _ _ _).mpr (.inr ((lo w).mpr hw))
       ·exact mono w (dW q y (by omega) hy w hw)
      ·rcases(NB.j7 _ _ _).mp hy with q | q
       ·exact AQ y q
       ·exact .inr ⟨x,(lo y).mp q⟩
      ·rcases(NB.j7 _ _ _).mp hy with q | q
       ·exact AR Z hZ hn y q
       ·exact hZ x y (AR Z hZ hn x (cE hx)) ((lo y).mp q)
      ·show ns.length+256-((j:Int)+1).toNat<ns.length+256-((j:Int)).toNat;omega
    ·refine⟨_,rfl,?_⟩;have c6:¬j<R'.length:=λz=>c6 (bp (by omega));refine k H3 sd R' (iW.trans S.same) (iW.free S.ns) S.nd S.seen ⟨kX,λx y hx hy=>?_,AR⟩;obtain⟨q,hq⟩:=fN.mp hx;exact dW q x (by have:=(bh.mp hq).1;omega) hq y hy
   ·intro σ H Q Q' hq h;obtain⟨v,h1,v2,h2,p,ys,e,hs,i,j,e1,e2,c,e3,h3⟩:=h;exact⟨v,h1,v2,h2,p,ys,e,hs,i,j,e1,e2,c,e3,hq _ _ h3⟩
end
theorem AU{α β:Type}{R:α->β->Prop}:∀{xs:List α} {ys:List β},xs.length=ys.length->(∀(i:Nat) (x:α) (y:β),xs[i]?=some x->ys[i]?=some y->R x y)->Paired R xs ys
 |[],[],_,_=>.nil
 |x::xs,y::ys,hl,h=>.cons (h 0 x y rfl rfl) (AU (by simpa using hl) λi a c h1 h2=>h (i+1) a c (by simpa using h1) (by simpa using h2))
 |[],_::_,hl,_=>by simp at hl
 |_::_,[],hl,_=>by simp at hl
theorem mM{C:Cs}{H:Hp}{cs:List (Option Addr)}{items:List (Option Item)}(hl:cs.length=items.length)(h:∀(p:Nat) (c:Option Addr) (o:Option Item),cs[p]?=some c->items[p]?=some o->sT C H c o p) :
 Paired (λ(c:Option Addr) (x:Option Item×Nat)=>sT C H c x.1 x.2) cs items.zipIdx:=by
 refine AU (by rw[CY];exact hl) λp c x h1 h2=>?_;rw[uE] at h2;cases e:items[p]? with
 |none=>rw[e] at h2;cases h2
 |some o=>rw[e] at h2;have h2:(o,0+p)=x:=a4 h2;subst h2;rw[yt];exact h p c o h1 e
section
variable {C:Cs}{H H':Hp}{g:Gh}{b:Nb.Book}{wv:V}{m al:Nat}
theorem Rep.oz(R:Rep C H g b wv m al){p:Nat}{c:Option Addr}{o:Option Item}(h1:g.cs[p]?=some c)(h2:b.items[p]?=some o):sT C H c o p:=by
 cases c with
 |none=>rw[R.of_none h1] at h2;cases h2;exact True.intro
 |some a=>obtain⟨i,h3,h4⟩:=R.fF h1;rw[h3] at h2;cases h2;exact h4
theorem bt.place{a:Addr}{p q:Nat}{i j:Item}(h:bt C H a p i)(h':bt C H a q j):p=q:=by obtain⟨dx,na,ta,la,lv,h1,_⟩:=h;obtain⟨cG,fI,ip,iq,fJ,wQ,_⟩:=h';rw[h1] at wQ;have e:=a4 wQ;injection e with _ _ e;unfold cf at e;injection e with e _;injection e with _ e;injection e with e;omega
theorem Rep.Hl(R:Rep C H g b wv m al){p q:Nat}{a a':Addr}(h:g.cs[p]?=some (some a))(h':g.cs[q]?=some (some a'))(kg:p≠q):a≠a':=λe=>by subst e;obtain⟨i,_,h1⟩:=R.fF h;obtain⟨j,_,h2⟩:=R.fF h';exact kg (h1.place h2)
theorem kh{C1 C2 d1 d2:Addr}{f1 f2:List (Str×V)}(h:C1≠C2):HO.ins C1 d1 f1≠HO.ins C2 d2 f2:=λe=>by injection e with e;exact h e
theorem Rep.change{K:PySem.W.Frag}{mg:Str->Option Value}(T:Tx K mg C)(R:Rep C H g b wv m al){p:Nat}{a:Addr}{i j:Item}(hp:b.items[p]?=some (some i))(hc:g.cs[p]?=some (some a))(hk:aW (·=a) H H')(hj:bt C H' a p j)(hn:j.name=i.name) :
 Rep C H' g (b.set p (some j)) wv m al:=by
 obtain⟨i0,e0,aU⟩:=R.fF hc;obtain⟨dx,na,ta,la,lv,ha,_⟩:=aU;have aB:cq C H H':=λc o e z=>hk c o e λq=>by
  subst q;rw[ha] at e;cases e;rcases z with ⟨xs,z⟩ | ⟨cG,fs,z⟩
  ·cases z
  ·exact kh T.AA z
 obtain⟨kvs,k1,k2,k3,k4⟩:=R.named;refine⟨hk _ _ R.book (λq=>?_),hk _ _ R.cells (λq=>?_),R.len,mM (by rw[R.len,NB.fE,R.dG]) λq c o h1 h2=>?_,kvs,hk _ _ k1 (λq=>?_),k2,λt=>?_,k4⟩
 ·have:=R.book;rw[q,ha] at this;exact kh (bu T.GA) (a4 this)
 ·have:=R.cells;rw[q,ha] at this;cases this
 ·by_cases hq:p=q
  ·subst hq;rw[NB.dY (bh.mp hp).1] at h2;rw[hc] at h1;cases h1;cases h2;exact hj
  ·rw[NB.dP hq] at h2;have h3:=R.oz h1 h2;cases c with
   |none=>cases o<;>exact h3
   |some a'=>
    cases o with
    |none=>exact h3
    |some k=>exact bt.aB h3 aB λu e=>hk _ _ e λz=>R.Hl hc h1 hq z.symm
 ·rw[q,ha] at k1;cases k1
 ·rw[k3 t];unfold src;rw[NB.sv hp hn]
theorem Rep.add{K:PySem.W.Frag}{mg:Str->Option Value}(T:Tx K mg C)(R:Rep C H g b wv m al)(nd:NB.ND b){p:Nat}{a:Addr}{i:Item}{kvs:List (List Key×V)}(hp:b.items[p]?=some none)(hf:b.find i.name=none)(hk:aW (λx=>x=g.ca\/x=g.da) H H')(hj:bt C H a p i)
 (hd:H g.da=some (.dT kvs)) (h1:H' g.ca=some (.lst ((g.cs.set p (some a)).map ov))) (h2:H' g.da=some (.dT (putK kvs (nk i.name) (.ref a)))):Rep C H' {g with cs:=g.cs.set p (some a)} (b.set p (some i)) wv m al:=by
 obtain⟨tq,k1,k2,k3,k4⟩:=R.named;rw[hd] at k1;cases k1;have aL:p<b.items.length:=(bh.mp hp).1;have pU:p<g.cs.length:=by rw[R.len];rw[R.dG] at aL;exact aL
 have aB:cq C H H':=λc o e z=>hk c o e λq=>by
  rcases q with q | q
  ·subst q;rw[R.cells] at e;cases e;rcases z with ⟨xs,z⟩ | ⟨cG,fs,z⟩<;>cases z
  ·subst q;rw[hd] at e;cases e;rcases z with ⟨xs,z⟩ | ⟨cG,fs,z⟩<;>cases z
 have j6:∀{a':Addr} {q:Nat} {k:Item},bt C H a' q k->bt C H' a' q k:=λ{a' q k} h=>h.aB aB λo e=>hk _ _ e λz=>by
  obtain⟨dx,na,ta,la,lv,h0,_⟩:=h;rcases z with z | z
  ·rw[z,R.cells] at h0;cases h0
  ·rw[z,hd] at h0;cases h0
 have hv:aV kvs (nk i.name)=none:=by rw[k3];unfold src;rw[hf];rfl
 refine⟨hk _ _ R.book (λq=>?_),h1,by rw[rb];exact R.len,mM (by rw[rb,R.len,NB.fE,R.dG]) λq c o g1 g2=>?_,putK kvs (nk i.name) (.ref a),h2,OS _ k2 hv,λt=>?_,λk hW=>?_⟩
 ·rcases q with q | q
  ·have:=R.book;rw[q,R.cells] at this;cases this
  ·have:=R.book;rw[q,hd] at this;cases this
 ·have g1:(g.cs.set p (some a))[q]?=some c:=g1;by_cases hq:p=q
  ·subst hq;rw[NB.dY aL] at g2;rw[m6 pU] at g1;cases g1;cases g2;exact j6 hj
  ·rw[NB.dP hq] at g2;rw[m7 hq] at g1;have h3:=R.oz g1 g2;cases c with
   |none=>cases o<;>exact h3
   |some a'=>
    cases o with
    |none=>exact h3
    |some k=>exact j6 h3
 ·rw[pS];unfold src;rw[NB.su nd hp hf];by_cases ht:t=i.name
  ·subst ht;rw[if_pos rfl,if_pos rfl];show _=Option.map V.ref ((g.cs.set p (some a))[p]?).join;rw[m6 pU];rfl
  ·rw[if_neg (λe=>ht (k8 e)),if_neg ht,k3];unfold src;cases e:b.find t with
   |none=>rfl
   |some q=>
    obtain⟨k,e1,_⟩:=NB.find_some e;have hq:p≠q:=λz=>by rw[z,e1] at hp;cases hp
    show _=Option.map V.ref ((g.cs.set p (some a))[q]?).join;rw[m7 hq];rfl
 ·rw[vD _ hv,bW] at hW;rcases gm.mp hW with z | z
  ·exact k4 k z
  ·exact⟨i.name,by simpa using z⟩
theorem Rep.remove{K:PySem.W.Frag}{mg:Str->Option Value}(T:Tx K mg C)(R:Rep C H g b wv m al)(nd:NB.ND b){p:Nat}{a:Addr}{i:Item}{kvs:List (List Key×V)}(hp:b.items[p]?=some (some i))(hc:g.cs[p]?=some (some a))(hk:aW (λx=>x=g.ca\/x=g.da) H H')
 (hd:H g.da=some (.dT kvs)) (h1:H' g.ca=some (.lst ((g.cs.set p none).map ov))) (h2:H' g.da=some (.dT (d7 kvs (nk i.name)))):Rep C H' {g with cs:=g.cs.set p none} (b.set p none) wv m al:=by
 obtain⟨tq,k1,k2,k3,k4⟩:=R.named;rw[hd] at k1;cases k1;have aL:p<b.items.length:=(bh.mp hp).1;have pU:p<g.cs.length:=by rw[R.len];rw[R.dG] at aL;exact aL
 have aB:cq C H H':=λc o e z=>hk c o e λq=>by
  rcases q with q | q
  ·subst q;rw[R.cells] at e;cases e;rcases z with ⟨xs,z⟩ | ⟨cG,fs,z⟩<;>cases z
  ·subst q;rw[hd] at e;cases e;rcases z with ⟨xs,z⟩ | ⟨cG,fs,z⟩<;>cases z
 have j6:∀{a':Addr} {q:Nat} {k:Item},bt C H a' q k->bt C H' a' q k:=λ{a' q k} h=>h.aB aB λo e=>hk _ _ e λz=>by
  obtain⟨dx,na,ta,la,lv,h0,_⟩:=h;rcases z with z | z
  ·rw[z,R.cells] at h0;cases h0
  ·rw[z,hd] at h0;cases h0
 refine⟨hk _ _ R.book (λq=>?_),h1,by rw[rb];exact R.len,mM (by rw[rb,R.len,NB.fE,R.dG]) λq c o g1 g2=>?_,d7 kvs (nk i.name),h2,zH k2,λt=>?_,λk hW=>?_⟩
 ·rcases q with q | q
  ·have:=R.book;rw[q,R.cells] at this;cases this
  ·have:=R.book;rw[q,hd] at this;cases this
 ·have g1:(g.cs.set p none)[q]?=some c:=g1;by_cases hq:p=q
  ·subst hq;rw[NB.dY aL] at g2;rw[m6 pU] at g1;cases g1;cases g2;exact True.intro
  ·rw[NB.dP hq] at g2;rw[m7 hq] at g1;have h3:=R.oz g1 g2;cases c with
   |none=>cases o<;>exact h3
   |some a'=>
    cases o with
    |none=>exact h3
    |some k=>exact j6 h3
 ·have vd:∀(l:List (List Key×V)) (x y:List Key),aV (d7 l x) y=if y=x then none else aV l y:=λl x y=>by
   induction l with
   |nil=>by_cases h:y=x<;>simp[d7,aV,h]
   |cons q r ih=>
    by_cases e1:q.1=x
    ·rw[EW e1,ih];by_cases h:y=x
     ·rw[if_pos h,if_pos h]
     ·rw[if_neg h,if_neg h,fB (λz=>h (z.symm.trans e1))]
    ·rw[EX e1];by_cases e2:q.1=y
     ·rw[gs e2,if_neg (λz=>e1 (e2.trans z)),gs e2]
     ·rw[fB e2,fB e2,ih]
  rw[vd];unfold src;rw[NB.FN nd hp];by_cases ht:t=i.name
  ·subst ht;rw[if_pos rfl,if_pos rfl];rfl
  ·rw[if_neg (λe=>ht (k8 e)),if_neg ht,k3];unfold src;cases e:b.find t with
   |none=>rfl
   |some q=>
    obtain⟨k,e1,e2⟩:=NB.find_some e;have hq:p≠q:=λz=>by rw[z,e1] at hp;cases hp;exact ht e2.symm
    show _=Option.map V.ref ((g.cs.set p none)[q]?).join;rw[m7 hq];rfl
 ·obtain⟨q,hq,e⟩:=cU.mp hW;exact k4 k (cU.mpr ⟨q,EY hq,e⟩)
theorem Rep.fields{K:PySem.W.Frag}{mg:Str->Option Value}(T:Tx K mg C)(R:Rep C H g b wv m al){runs:Nat}{Hm:V}{m' Hn:Nat}(hk:aW (·=g.ba) H H')(h:H' g.ba=some (.ins C.book g.bd (bf g.ca g.da runs Hm m' Hn))):Rep C H' g {b with runs:=runs} Hm m' Hn:=by
 have aB:cq C H H':=λc o e z=>hk c o e λq=>by
  subst q;rw[R.book] at e;cases e;rcases z with ⟨xs,z⟩ | ⟨cG,fs,z⟩
  ·cases z
  ·exact kh T.Gz z
 obtain⟨kvs,k1,k2,k3,k4⟩:=R.named;refine⟨h,hk _ _ R.cells (λq=>by have:=R.cells;rw[q,R.book] at this;cases this),R.len,mM (by rw[R.len];exact R.dG.symm) λq c o g1 g2=>?_,kvs,hk _ _ k1 (λq=>by rw[q,R.book] at k1;cases k1),k2,k3,k4⟩;have h3:=R.oz g1 g2;cases c with
 |none=>cases o<;>exact h3
 |some a'=>
  cases o with
  |none=>exact h3
  |some k=>refine bt.aB h3 aB λu e=>hk _ _ e λz=>?_;obtain⟨dx,na,ta,la,lv,h0,_⟩:=(show bt C H a' q k from h3);have hb:=R.book;rw[<-z,h0] at hb;exact kh (bu T.GA) (a4 hb)
theorem Rep.Sh(R:Rep C H g b wv m al)(nd:NB.ND b){kvs:List (List Key×V)}(h:H g.da=some (.dT kvs)):kvs.length<=256:=by
 obtain⟨tq,k1,k2,k3,k4⟩:=R.named;rw[h] at k1;cases k1;have:=NB.gv (u:=(Nb.placed b).map λz=>nk z.1.name) k2 λk hk=>by
  obtain⟨t,e⟩:=k4 k hk;subst e;obtain⟨q,hq,e⟩:=cU.mp hk;have hv:aV kvs (nk t)≠none:=λz=>EU z hk;rw[k3] at hv;cases e1:src g b t with
  |none=>rw[e1] at hv;exact absurd rfl hv
  |some a=>obtain⟨p,i,f1,f2,f3,f4,_⟩:=R.gQ e1;exact cU.mpr ⟨(i,p),NB.b7.mpr f2,by rw[f4]⟩
 rw[aF,aF] at this;have h2:=NB.fV b;rw[R.dG] at h2;omega
end
structure lx(K:PySem.W.Frag)(mg:Str->Option Value)(x qual:Str)(C:Addr)(st:Stmt)(ps:List Str):Prop where
 ex:∃f fd,mg x=some (.ref C)/\Mk K C f/\j5 K "__init__" qual st f fd/\Binds K fd ps []
noncomputable def fj(P:Program)(w:World)(K:PySem.W.Frag)(mg:Str->Option Value)(base:Heap)(k:Nat)(x:Str)(C:Addr)(ps:List Str)(sp:Sp):Prop:=
 ∃f fd,mg x=some (.ref C)/\Mk K C f/\Binds K fd ps []/\dZ P w K mg base aq k f fd ps sp
section
variable {X:Cx}{k:Nat}{x:Str}{ps:List Str}{sp:Sp}{C:Addr}{e:Expr}{es:List Expr}{t:TA}{p pos:Pos}
theorem ly(D:fj X.prog X.w X.K X.mg X.base k x C ps sp)(hr:cp (k+1) X.A)(hg:Gl X x)(ha:PA X (e::es) t)(fz:(x==("__debug__":Str))=false:=by decide)
 (he:starEach (e::es) X.env=(false,eval e X.env)::starEach es X.env:=by rfl) (eQ:(backTo pos (starEach es X.env)).any (·.1)=false:=by rfl):PE X (.Call (.Name x p) (e::es) [] pos) (vi C sp [] E0 t):=by
 obtain⟨f,fd,hm,M,hb,F⟩:=D;exact Nc M F hr hg hm hb .nil aE ha fz he eQ
theorem Ho(D:fj X.prog X.w X.K X.mg X.base k x C ps sp)(hr:cp (k+1) X.A)(hg:Gl X x)(fz:(x==("__debug__":Str))=false:=by decide):PE X (.Call (.Name x p) [] [] pos) (vi C sp [] E0 iG):=by obtain⟨f,fd,hm,M,hb,F⟩:=D;exact Nd M F hr hg hm hb .nil aE fz
end
section
variable {P:Program}{w:World}{K:PySem.W.Frag}{mg:Str->Option Value}{base:Heap}{C:Cs}
theorem lx.ok{x qual:Str}{Ca:Addr}{st:Stmt}{N ps:List Str}{k:Nat}{sp:Sp}(F:lx K mg x qual Ca st ps)(S:md N ps (dX st))(len:∀vs H Q E,sp vs H Q E->vs.length=ps.length)
 (kL:∀(f:Addr) (aD:Value) (A:Around) (outer:List Env) (s:Shared) (H:Hp) (vs:List V) (Q:VK) (E:XK),cp k (A.deeper (envOfC qual (dX st) s.heap.objs.size f aD))->sp vs H Q E->
  ∃t,eZ (j3 aq P w K mg base N qual (dX st) f aD A outer s H E).jX (jr st) t/\t {nx:=λ_ H'=>Q .ak H',rt:=Q} (start N vs) H):fj P w K mg base (k+1) x Ca ps sp:=by
 obtain⟨f,fd,hm,M,F,hb⟩:=F.ex;exact⟨f,fd,hm,M,hb,F.ok S len λaD A outer s H vs Q E hr fS=>kL f aD A outer s H vs Q E hr fS⟩
theorem cT{n:Nat}:([]:List (Str×V)).length<=n:=bY _
theorem bg{f:Str}{v:V}{fs:List (Str×V)}{n:Nat}(h:fs.length<=n):(bM f v fs).length<=n+1:=aS (yS ..) (Nat.succ_le_succ h)
theorem cH{n:Nat}(h:n<=20):n<1000:=dC h (by decide)
noncomputable def gR(Ca:Addr)(n:Nat)(mk:List V->List (Str×V)):Sp:=λvs H Q _=>∃(p dx:Addr) (as:List V),vs=.ref p::as/\as.length=n/\H p=some (.ins Ca dx [])/\Q .ak (upd H p (.ins Ca dx (mk as)))
theorem lc_{n:Nat}{as:List V}(h:as.length=n+1):∃(a:V) (l:List V),as=a::l/\l.length=n:=by
 cases as with
 |nil=>cases h
 |cons a l=>exact⟨a,l,rfl,Nat.succ.inj h⟩
noncomputable abbrev Hq:Stmt:=inClass (top 23) 0
noncomputable def mO:List V->List (Str×V)
 |[a,b,c,d]=>[("place",a),("name",b),("text",c),("leans",d),("last",.ak),("touched",.bl false),("stands",.int 0)]
 |_=>[]
theorem Si(T:Tx K mg C)(F:lx K mg "Cell" "Cell.__init__" C.cell Hq ["self","place","name","text","leans"]):fj P w K mg base 1 "Cell" C.cell ["self","place","name","text","leans"] (gR C.cell 4 mO):=by
 refine F.ok (sk ["self","place","name","text","leans"]) (λvs H Q E h=>?_) (λf aD A outer s H vs Q E hr h=>?_)
 ·obtain⟨p,dx,as,rfl,hl,_⟩:=h;simp[hl]
 ·obtain⟨p,dx,as,rfl,hl,hp,k⟩:=h;obtain⟨a,as1,rfl,cO⟩:=lc_ hl;obtain⟨b,xt,rfl,fU⟩:=lc_ cO;obtain⟨c,ql,rfl,tZ⟩:=lc_ fU;obtain⟨d,tE,rfl,ZS⟩:=lc_ tZ;cases List.eq_nil_of_length_eq_zero ZS;refine⟨_,af (bI (pv 0) (pv 1) rfl) (af (bI (pv 0) (pv 2) rfl) (af (bI (pv 0) (pv 3) rfl) (af (bI (pv 0) (pv 4) rfl) (af (bI (pv 0) jV rfl) (af (bI (pv 0) cY rfl) (ah (bI (pv 0) (aM T.mK) rfl))))))),?_⟩;refine⟨_,rfl,_,rfl,p,C.cell,dx,_,rfl,hp,T.aH,T.eG,(cH (cT)),?_⟩;refine⟨_,rfl,_,rfl,p,C.cell,dx,_,rfl,ag,T.aH,T.jy,(cH (bg cT)),?_⟩;refine⟨_,rfl,_,rfl,p,C.cell,dx,_,rfl,ag,T.aH,T.mI,(cH (bg (bg cT))),?_⟩;refine⟨_,rfl,_,rfl,p,C.cell,dx,_,rfl,ag,T.aH,T.ie,(cH (bg (bg (bg cT)))),?_⟩;refine⟨_,rfl,p,C.cell,dx,_,rfl,ag,T.aH,T.fY,(cH (bg (bg (bg (bg cT))))),?_⟩;refine⟨_,rfl,p,C.cell,dx,_,rfl,ag,T.aH,T.j8,(cH (bg (bg (bg (bg (bg cT)))))),?_⟩;refine⟨_,rfl,p,C.cell,dx,_,rfl,ag,T.aH,T.c8,(cH (bg (bg (bg (bg (bg (bg cT))))))),?_⟩;rw[bc,bc,bc,bc,bc,bc];exact k
noncomputable abbrev Hr:Stmt:=inClass (top 22) 0
noncomputable def oA:List V->List (Str×V)
 |[a,b,c,d,e]=>[("text",a),("leans",b),("given",c),("value",d),("number",e)]
 |_=>[]
theorem Sj(T:Tx K mg C)(F:lx K mg "Run" "Run.__init__" C.run Hr ["self","text","leans","given","value","number"]):fj P w K mg base 1 "Run" C.run ["self","text","leans","given","value","number"] (gR C.run 5 oA):=by
 refine F.ok (sk ["self","text","leans","given","value","number"]) (λvs H Q E h=>?_) (λf aD A outer s H vs Q E hr h=>?_)
 ·obtain⟨p,dx,as,rfl,hl,_⟩:=h;simp[hl]
 ·obtain⟨p,dx,as,rfl,hl,hp,k⟩:=h;obtain⟨a,as1,rfl,cO⟩:=lc_ hl;obtain⟨b,xt,rfl,fU⟩:=lc_ cO;obtain⟨c,ql,rfl,tZ⟩:=lc_ fU;obtain⟨d,tE,rfl,ZS⟩:=lc_ tZ;obtain⟨e,xD,rfl,yb⟩:=lc_ ZS;cases List.eq_nil_of_length_eq_zero yb;refine⟨_,(af (bI (pv 0) (pv 1) rfl) (af (bI (pv 0) (pv 2) rfl) (af (bI (pv 0) (pv 3) rfl) (af (bI (pv 0) (pv 4) rfl) (ah (bI (pv 0) (pv 5) rfl)))))),?_⟩;refine⟨_,rfl,_,rfl,p,C.run,dx,_,rfl,hp,T.dR,T.Aw,(cH (cT)),?_⟩;refine⟨_,rfl,_,rfl,p,C.run,dx,_,rfl,ag,T.dR,T.Ax,(cH (bg cT)),?_⟩;refine⟨_,rfl,_,rfl,p,C.run,dx,_,rfl,ag,T.dR,T.wC,(cH (bg (bg cT))),?_⟩;refine⟨_,rfl,_,rfl,p,C.run,dx,_,rfl,ag,T.dR,T.qc,(cH (bg (bg (bg cT)))),?_⟩;refine⟨_,rfl,_,rfl,p,C.run,dx,_,rfl,ag,T.dR,T.oh,(cH (bg (bg (bg (bg cT))))),?_⟩;rw[bc,bc,bc,bc];exact k
noncomputable abbrev Hs:Stmt:=inClass (top 1) 0
noncomputable def AV:List V->List (Str×V)
 |[a,b,c,d]=>[("number",a),("numbers",b),("texts",c),("behind",d)]
 |_=>[]
theorem Sk(T:Tx K mg C)(F:lx K mg "Call" "Call.__init__" C.call Hs ["self","number","numbers","texts","behind"]):fj P w K mg base 1 "Call" C.call ["self","number","numbers","texts","behind"] (gR C.call 4 AV):=by
 refine F.ok (sk ["self","number","numbers","texts","behind"]) (λvs H Q E h=>?_) (λf aD A outer s H vs Q E hr h=>?_)
 ·obtain⟨p,dx,as,rfl,hl,_⟩:=h;simp[hl]
 ·obtain⟨p,dx,as,rfl,hl,hp,k⟩:=h;obtain⟨a,as1,rfl,cO⟩:=lc_ hl;obtain⟨b,xt,rfl,fU⟩:=lc_ cO;obtain⟨c,ql,rfl,tZ⟩:=lc_ fU;obtain⟨d,tE,rfl,ZS⟩:=lc_ tZ;cases List.eq_nil_of_length_eq_zero ZS;refine⟨_,(af (bI (pv 0) (pv 1) rfl) (af (bI (pv 0) (pv 2) rfl) (af (bI (pv 0) (pv 3) rfl) (ah (bI (pv 0) (pv 4) rfl))))),?_⟩;refine⟨_,rfl,_,rfl,p,C.call,dx,_,rfl,hp,T.dz,T.Av,(cH (cT)),?_⟩;refine⟨_,rfl,_,rfl,p,C.call,dx,_,rfl,ag,T.dz,T.jx,(cH (bg cT)),?_⟩;refine⟨_,rfl,_,rfl,p,C.call,dx,_,rfl,ag,T.dz,T.lg,(cH (bg (bg cT))),?_⟩;refine⟨_,rfl,_,rfl,p,C.call,dx,_,rfl,ag,T.dz,T.Gy,(cH (bg (bg (bg cT)))),?_⟩;rw[bc,bc,bc];exact k
noncomputable abbrev Ht:Stmt:=inClass (top 62) 0
noncomputable def tF:List V->List (Str×V)
 |[a]=>[("written",a),("at",.int 0)]
 |_=>[]
theorem Sl(T:Tx K mg C)(F:lx K mg "Reader" "Reader.__init__" C.reader Ht ["self","written"]):fj P w K mg base 1 "Reader" C.reader ["self","written"] (gR C.reader 1 tF):=by
 refine F.ok (sk ["self","written"]) (λvs H Q E h=>?_) (λf aD A outer s H vs Q E hr h=>?_)
 ·obtain⟨p,dx,as,rfl,hl,_⟩:=h;simp[hl]
 ·obtain⟨p,dx,as,rfl,hl,hp,k⟩:=h;obtain⟨a,as1,rfl,cO⟩:=lc_ hl;cases List.eq_nil_of_length_eq_zero cO;refine⟨_,(af (bI (pv 0) (pv 1) rfl) (ah (bI (pv 0) aK rfl))),?_⟩;refine⟨_,rfl,_,rfl,p,C.reader,dx,_,rfl,hp,T.mH,T.Az,(cH (cT)),?_⟩;refine⟨_,rfl,p,C.reader,dx,_,rfl,ag,T.mH,T.sV,(cH (bg cT)),?_⟩;rw[bc];exact k
noncomputable abbrev Hu:Stmt:=inClass (top 108) 0
noncomputable def wY:List V->List (Str×V)
 |[a,b]=>[("choice",a),("cell",b)]
 |_=>[]
theorem Sm(T:Tx K mg C)(F:lx K mg "Step" "Step.__init__" C.step Hu ["self","choice","cell"]):fj P w K mg base 1 "Step" C.step ["self","choice","cell"] (gR C.step 2 wY):=by
 refine F.ok (sk ["self","choice","cell"]) (λvs H Q E h=>?_) (λf aD A outer s H vs Q E hr h=>?_)
 ·obtain⟨p,dx,as,rfl,hl,_⟩:=h;simp[hl]
 ·obtain⟨p,dx,as,rfl,hl,hp,k⟩:=h;obtain⟨a,as1,rfl,cO⟩:=lc_ hl;obtain⟨b,xt,rfl,fU⟩:=lc_ cO;cases List.eq_nil_of_length_eq_zero fU;refine⟨_,(af (bI (pv 0) (pv 1) rfl) (ah (bI (pv 0) (pv 2) rfl))),?_⟩;refine⟨_,rfl,_,rfl,p,C.step,dx,_,rfl,hp,T.fG,T.mJ,(cH (cT)),?_⟩;refine⟨_,rfl,_,rfl,p,C.step,dx,_,rfl,ag,T.fG,T.lh,(cH (bg cT)),?_⟩;rw[bc];exact k
noncomputable abbrev AW:Stmt:=inClass (top 24) 0
noncomputable def AX(C:Cs):Sp:=λvs H Q _=>∃(p dx:Addr),vs=[.ref p]/\H p=some (.ins C.book dx [])/\∀(H':Hp) (g:Gh),g.ba=p->g.cs=List.replicate 256 none->Rep C H' g Nb.empty .ak 0 0->aW (·=p) H H'->H g.ca=none->H g.da=none->Q .ak H'
theorem Sn(K:PySem.W.Frag){H:Hp}{g:Gh}(aZ:g.cs=List.replicate 256 none)(h1:H g.ba=some (.ins C.book g.bd (bf g.ca g.da 0 .ak 0 0)))(h2:H g.ca=some (.lst (List.replicate 256 .ak)))(h3:H g.da=some (.dT [])):Rep C H g Nb.empty .ak 0 0:=by
 have hi:∀(p:Nat) (o:Option Item),Nb.empty.items[p]?=some o->o=none:=λp o h=>by
  have h:(List.replicate Nb.PLACES (none:Option Item))[p]?=some o:=h;rw[yl] at h;split at h
  ·exact(a4 h).symm
  ·cases h
 refine⟨h1,?_,by rw[aZ];rfl,mM (by rw[aZ];rfl) λp c o g1 g2=>?_,[],h3,uK,λt=>?_,λk hk=>by cases hk⟩
 ·rw[h2,aZ,List.map_replicate];rfl
 ·rw[hi p o g2];rw[aZ,yl] at g1;split at g1
  ·cases g1;exact True.intro
  ·cases g1
 ·have:Nb.empty.find t=none:=by
   cases e:Nb.empty.find t with
   |none=>rfl
   |some q=>obtain⟨i,e1,_⟩:=NB.find_some e;cases hi q _ e1
  unfold src;rw[this];rfl
theorem So(T:Tx K mg C)(F:lx K mg "Book" "Book.__init__" C.book AW ["self"]):fj P w K mg base 1 "Book" C.book ["self"] (AX C):=by
 have sc:=sk (P:=["self"]) (st:=AW) ["self","place"];refine F.ok sc (λvs H Q E h=>?_) (λf aD A outer s H vs Q E hr h=>?_)
 ·obtain⟨p,dx,rfl,_⟩:=h;rfl
 ·obtain⟨p,dx,rfl,hp,k⟩:=h;refine⟨_,af (bI (pv 0) (nM (own:=[("place",1)]) rfl sc.nd (pG rfl T.qd (aa (aM T.AB) ae)) (gq (by kernel_rfl)) (λs H C cl fp=>bQ (i:=1) sc.nd rfl (Or.inl rfl)) (λs H C cl fp=>jm) (λs H C cl fp=>jV)) rfl)
   (af (bI (pv 0) vH rfl) (af (bI (pv 0) aK rfl) (af (bI (pv 0) jV rfl) (af (bI (pv 0) aK rfl) (ah (bI (pv 0) aK rfl)))))),?_⟩
  refine⟨256,rfl,by decide,by decide,λD hD=>?_⟩;refine EA (n:=256) (λn H'=>H'=upd H D (.lst (List.replicate n .ak))) rfl ?_ ?_
  ·rintro n H' hn rfl;refine⟨rfl,yes ⟨_,ag,?_,?_⟩⟩
   ·rw[CT];exact eh hn (by decide)
   ·rw[bc,List.replicate_succ']
  ·rintro H' rfl;have wZ:p≠D:=bj hp hD;refine⟨_,rfl,p,C.book,dx,_,rfl,by rw[aw wZ];exact hp,T.bx,T.fZ,(cH cT),?_⟩;intro d hd;have AY:p≠d:=λz=>by rw[<-z,ag] at hd;cases hd
   have tG:D≠d:=λz=>by rw[<-z,aw (bu wZ),ag] at hd;cases hd
   have nW:H d=none:=by rw[aw (bu AY),aw (bu tG)] at hd;exact hd
   refine⟨_,rfl,p,C.book,dx,_,rfl,by rw[aw AY];exact ag,T.bx,T.gO,(cH (bg cT)),?_⟩;refine⟨_,rfl,p,C.book,dx,_,rfl,ag,T.bx,T.wD,(cH (bg (bg cT))),?_⟩;refine⟨_,rfl,p,C.book,dx,_,rfl,ag,T.bx,T.j9,(cH (bg (bg (bg cT)))),?_⟩;refine⟨_,rfl,p,C.book,dx,_,rfl,ag,T.bx,T.sU,(cH (bg (bg (bg (bg cT))))),?_⟩;refine⟨_,rfl,p,C.book,dx,_,rfl,ag,T.bx,T.Ay,(cH (bg (bg (bg (bg (bg cT)))))),?_⟩;rw[bc,bc,bc,bc];refine k _ ⟨p,dx,D,d,List.replicate 256 none⟩ rfl rfl (Sn K rfl ?_ ?_ ?_) (λb o e hb=>?_) hD nW
   ·show(upd _ p _) p=_;rw[ag];rfl
   ·show(upd _ p _) D=_;rw[aw (bu wZ),aw tG,aw (bu wZ),ag]
   ·show(upd _ p _) d=_;rw[aw (bu AY),ag]
   ·rw[aw hb,aw (bj e nW),aw hb,aw (bj e hD)];exact e
end
theorem Sq{d:Addr}{o:Obj}{kvs:List (List Key×V)}{g:TG}{tb:TS}{D:Ends}{σ:L2.St}{H:Hp}(Pv:Nat->L2.St->Hp->Prop)(h0:Pv 0 σ H)(hl:∀i σ H,i<=kvs.length->Pv i σ H->H d=some (.bz o (.dT kvs)))
 (hs:∀i k v q σ H,kvs[i]?=some (k,v)->H q=some (.tup (k.map kV))->Pv i σ H->g (.ref q) σ H λσ2 H2=>tb {D with nx:=Pv (i+1),ct:=Pv (i+1),bk:=D.nx} σ2 H2) (hd:∀σ H,Pv kvs.length σ H->D.nx σ H) :
 ∃W:Nat->Nat->L2.St->Hp->Prop,(∃m,W 0 m σ H)/\∀i m σ H,W i m σ H->
  ((kR d o kvs).stop i H/\D.nx σ H)\/((kR d o kvs).go i H/\∃N:L2.St->Hp->Prop,(∀σ' H',N σ' H'->∃m',m'<m/\W (i+1) m' σ' H')/\∀x H',(kR d o kvs).iE i H x H'->g x σ H' λσ2 H2=>tb {D with nx:=N,ct:=N,bk:=D.nx} σ2 H2):=by
 refine⟨λi m σ H=>m=kvs.length-i/\i<=kvs.length/\Pv i σ H,⟨kvs.length,by simp,bY _,h0⟩,?_⟩;rintro i m σ H ⟨rfl,hi,p⟩;have q:=hl i σ H hi p;by_cases aL:i<kvs.length
 ·refine .inr ⟨⟨q,aL⟩,Pv (i+1),λσ' H' p'=>⟨kvs.length-(i+1),by omega,rfl,aL,p'⟩,λx H' y=>?_⟩;obtain⟨e,k,v,r,h1,h2,h3⟩:=y;subst e h2;exact hs i k v r σ _ h1 h3 p
 ·have e:i=kvs.length:=by omega
  subst e;exact .inl ⟨⟨q,bB _⟩,hd σ H p⟩
theorem Sr{d:Addr}{o:Obj}{kvs:List (List Key×V)}{g:TG}{tt:TT}{te:TE}{vs:List Nat}{σ:L2.St}{H1:Hp}{D:Addr}{Qd:Hp->Prop}(Pv:Nat->Hp->Prop)(h0:Pv 0 (upd H1 D (.lst [])))(hl:∀i H,i<=kvs.length->Pv i H->H d=some (.bz o (.dT kvs)))
 (hs:∀i k v q H,kvs[i]?=some (k,v)->H q=some (.tup (k.map kV))->Pv i H->g (.ref q) (wipe σ vs) H λσ2 H2=>wipe σ2 vs=wipe σ vs/\tt σ2 H2 λb H3=>
  if b=true then te σ2 H3 λy H4=>∃acc,H4 D=some (.lst acc)/\acc.length<sizeLine/\Pv (i+1) (upd H4 D (.lst (acc++[y]))) else Pv (i+1) H3) (hd:∀H,Pv kvs.length H->Qd H) :
 ∃W:Nat->Nat->Hp->Prop,(∃m,W 0 m (upd H1 D (.lst [])))/\∀i m H,W i m H->
  ((kR d o kvs).stop i H/\Qd H)\/((kR d o kvs).go i H/\∃Nx:Hp->Prop,(∀H',Nx H'->∃m',m'<m/\W (i+1) m' H')/\∀x H',(kR d o kvs).iE i H x H'->g x (wipe σ vs) H' λσ2 H2=>wipe σ2 vs=wipe σ vs/\tt σ2 H2 λb H3=>
   if b=true then te σ2 H3 λy H4=>∃acc,H4 D=some (.lst acc)/\acc.length<sizeLine/\Nx (upd H4 D (.lst (acc++[y]))) else Nx H3):=by
 refine⟨λi m H=>m=kvs.length-i/\i<=kvs.length/\Pv i H,⟨kvs.length,by simp,bY _,h0⟩,?_⟩;rintro i m H ⟨rfl,hi,p⟩;have q:=hl i H hi p;by_cases aL:i<kvs.length
 ·refine .inr ⟨⟨q,aL⟩,Pv (i+1),λH' p'=>⟨kvs.length-(i+1),by omega,rfl,aL,p'⟩,λx H' y=>?_⟩;obtain⟨e,k,v,r,h1,h2,h3⟩:=y;subst e h2;exact hs i k v r _ h1 h3 p
 ·have e:i=kvs.length:=by omega
  subst e;exact .inl ⟨⟨q,bB _⟩,hd H p⟩
section
variable {P:Program}{w:World}{K:PySem.W.Frag}{mg:Str->Option Value}{base:Heap}{C:Cs}
noncomputable abbrev Ss:Stmt:=top 27
noncomputable def AZ(C:Cs):Sp:=λvs H Q _=>∃(g:Gh) (b:Nb.Book) (wv:V) (m al:Nat) (a:Addr) (p:Nat) (i:Item),vs=[.ref g.ba,.ref a]/\Rep C H g b wv m al/\NB.ND b/\bt C H a p i/\b.items[p]?=some none/\b.find i.name=none/\
 ∀H',aW (λx=>x=g.ca\/x=g.da) H H'->Rep C H' {g with cs:=g.cs.set p (some a)} (b.set p (some i)) wv m al->Q .ak H'
theorem Su(T:Tx K mg C)(F:aR K mg "add_cell" Ss ["book","cell"]):Ok P w K mg base aq 1 "add_cell" ["book","cell"] (AZ C):=by
 refine F.ok (sk ["book","cell"]) (λvs H Q E h=>?_) (λf aD A outer s H vs Q E hr h=>?_)
 ·obtain⟨g,b,wv,m,al,a,p,i,rfl,_⟩:=h;rfl
 ·obtain⟨g,b,wv,m,al,a,p,i,rfl,R,nd,hc,hp,hf,k⟩:=h;refine⟨_,af (Dv (pv 1) (Du (aj (pv 0) rfl) (aj (pv 1) rfl) set_list (λ_=>rfl))) (ah (rW (cS hr) (aj (pv 0) rfl) (aj (pv 1) rfl) (pv 1) rfl)),?_⟩;obtain⟨dx,na,ta,la,lv,h1,h2,h3,h4,h5⟩:=id hc;obtain⟨kvs,k1,k2,k3,k4⟩:=id R.named;have aL:p<g.cs.length:=by rw[R.len,<-R.dG];exact(bh.mp hp).1
  refine⟨_,rfl,_,rfl,g.ba,C.book,g.bd,_,_,rfl,R.book,T.bx,T.fZ,gP ..,_,rfl,a,C.cell,dx,_,_,rfl,h1,T.aH,T.eG,fh ..,g.ca,_,_,p,rfl,rfl,R.cells,?_,?_⟩
  ·rw[aF];unfold jk;rw[if_pos (by omega),if_pos (by omega),ja]
  ·have A1:g.ba≠g.ca:=b9 R.book R.cells (λz=>nomatch z);have A2:a≠g.ca:=b9 h1 R.cells (λz=>nomatch z);have A3:na≠g.ca:=b9 h2 R.cells (λz=>nomatch z);have tH:g.da≠g.ca:=b9 k1 R.cells (λz=>nomatch z);refine⟨_,rfl,_,rfl,g.ba,C.book,g.bd,_,_,rfl,by rw[aw A1];exact R.book,T.bx,T.gO,iS ..,_,rfl,a,C.cell,dx,_,_,rfl,by rw[aw A2];exact h1,T.aH,T.jy,ke ..,g.da,_,rfl,
    ia.t (k:=nk i.name) (by rw[aw tH];exact k1) (by rw[aw A3];exact ay.key h2) (dC (R.Sh nd k1) (by decide)),?_⟩
   have kp:aW (λx=>x=g.ca\/x=g.da) H (upd (upd H g.ca (.lst ((g.cs.map ov).set p (.ref a)))) g.da (.dT (putK kvs (nk i.name) (.ref a)))):=(dF (.inl rfl)).trans (dF (.inr rfl));refine k _ kp (R.add T nd hp hf kp hc k1 ?_ ag);rw[aw (bu tH),ag,List.map_set];rfl
noncomputable abbrev Sv:Stmt:=top 28
noncomputable def Hv(C:Cs):Sp:=λvs H Q _=>∃(g:Gh) (b:Nb.Book) (wv:V) (m al:Nat) (a:Addr) (p:Nat) (i:Item),vs=[.ref g.ba,.ref a]/\Rep C H g b wv m al/\NB.ND b/\b.items[p]?=some (some i)/\g.cs[p]?=some (some a)/\
 ∀H',aW (λx=>x=g.ca\/x=g.da) H H'->Rep C H' {g with cs:=g.cs.set p none} (b.set p none) wv m al->Q .ak H'
theorem Sw{X:Cx}{o e:Expr}{apos bN:Pos}{td ty:TE}(ho:PE X o td)(he:PE X e ty)(m:M1 X o "pop" apos e bN)(hu:X.A.units+1<cLine):PE X (.Call (.Attribute o "pop" apos) [e] [] bN) (Fv td ty):=PX hu ho he m
theorem Sx(T:Tx K mg C)(F:aR K mg "remove_cell" Sv ["book","cell"]):Ok P w K mg base aq 1 "remove_cell" ["book","cell"] (Hv C):=by
 refine F.ok (sk ["book","cell"]) (λvs H Q E h=>?_) (λf aD A outer s H vs Q E hr h=>?_)
 ·obtain⟨g,b,wv,m,al,a,p,i,rfl,_⟩:=h;rfl
 ·obtain⟨g,b,wv,m,al,a,p,i,rfl,R,nd,hp,hc,k⟩:=h;refine⟨_,af (Dv jV (Du (aj (pv 0) rfl) (aj (pv 1) rfl) set_list (λ_=>rfl))) (ah (cb (Sw (aj (pv 0) rfl) (aj (pv 1) rfl) ⟨rfl,rfl,rfl,rfl⟩ (cS hr)))),?_⟩;obtain⟨i',e',aU⟩:=R.fF hc;rw[hp] at e';cases e';obtain⟨dx,na,ta,la,lv,h1,h2,h3,h4,h5⟩:=id aU;obtain⟨kvs,k1,k2,k3,k4⟩:=id R.named;have aL:p<g.cs.length:=(bh.mp hc).1;refine⟨_,rfl,g.ba,C.book,g.bd,_,_,rfl,R.book,T.bx,T.fZ,gP ..,_,rfl,a,C.cell,dx,_,_,rfl,h1,T.aH,T.eG,fh ..,g.ca,_,_,p,rfl,rfl,R.cells,?_,?_⟩
  ·rw[aF];unfold jk;rw[if_pos (by omega),if_pos (by omega),ja]
  ·have A1:g.ba≠g.ca:=b9 R.book R.cells (λz=>nomatch z);have A2:a≠g.ca:=b9 h1 R.cells (λz=>nomatch z);have A3:na≠g.ca:=b9 h2 R.cells (λz=>nomatch z);have tH:g.da≠g.ca:=b9 k1 R.cells (λz=>nomatch z);have hv:aV kvs (nk i.name)=some (.ref a):=by rw[k3];unfold src;rw[NB.mz nd hp];show Option.map V.ref (g.cs[p]?).join=_;rw[hc];rfl
   have Hw:(upd H g.ca (.lst ((g.cs.map ov).set p .ak))) g.da=some (.dT kvs):=by rw[aw tH];exact k1
   refine⟨_,rfl,g.ba,C.book,g.bd,_,_,rfl,by rw[aw A1];exact R.book,T.bx,T.gO,iS ..,g.da,rfl,.inr ⟨kvs,.inl Hw⟩,_,rfl,a,C.cell,dx,_,_,rfl,by rw[aw A2];exact h1,T.aH,T.jy,ke ..,kvs,nk i.name,na,_,Hw,rfl,by rw[aw A3];exact ay.key h2,hv,?_⟩;have kp:aW (λx=>x=g.ca\/x=g.da) H (upd (upd H g.ca (.lst ((g.cs.map ov).set p .ak))) g.da (.dT (d7 kvs (nk i.name)))):=(dF (.inl rfl)).trans (dF (.inr rfl));refine k _ kp (R.remove T nd hp hc kp k1 ?_ ag);rw[aw (bu tH),ag,List.map_set];rfl
noncomputable abbrev Hx:Stmt:=top 44
noncomputable def tI(C:Cs):Sp:=λvs H Q _=>∃(g:Gh) (b:Nb.Book) (wv:V) (m al:Nat) (na:Addr) (t:Text),vs=[.ref g.ba,.ref na]/\Rep C H g b wv m al/\NB.ND b/\ay H na t/\(NB.pairs b).length<=1000000/\((b.find t).isSome=true\/(Nb.placed b).length<256)/\
 ∀H',aW (λx=>some x∈g.cs) H H'->Rep C H' g (b.opening t) wv m al->Q .ak H'
theorem Sy(T:Tx K mg C)(F:aR K mg "reopen" Hx ["book","name"])(D1:Ok P w K mg base aq 3 "names_above" ["book","names"] (AO C)):Ok P w K mg base aq 4 "reopen" ["book","name"] (tI C):=by
 have sc:=sk (P:=["book","name"]) (st:=Hx) ["book","name","reached","cell"];refine F.ok sc (λvs H Q E h=>?_) (λf aD A outer s H vs Q E hr h=>?_)
 ·obtain⟨g,b,wv,m,al,na,t,rfl,_⟩:=h;rfl
 ·obtain⟨g,b,wv,m,al,na,t,rfl,R,nd,tJ,hlen,z6,k⟩:=h;refine⟨_,ah (cR PassesOwn.never rfl (P1 (az D1 hr rfl aE (aa (pv 0) (aa (br (aa (pv 1) ae)) ae)))) (bQ (i:=2) sc.nd rfl (Or.inl rfl))
   (af (aN (i:=3) sc.nd rfl (Or.inl rfl) (wH (aj (pv 0) rfl) (pv 2) ⟨rfl,rfl,rfl,rfl⟩ (cS hr)))
    (ah (aO (cw (ft (pv 3))) (ah (bI (pv 3) (aM T.mK) rfl)) aP)))),?_⟩
  refine⟨_,rfl,_,rfl,(by show 1<=sizeLine;decide),λnl wU=>?_⟩;have s1:ai H (upd H nl (.lst [.ref na])):=aG wU;refine⟨g,b,wv,m,al,nl,[na],[t],rfl,R.same s1,ag,.cons (s1 _ _ tJ) .nil,hlen,(by show 1<=1000000;decide),λH1 d L sm hd dq kQ dW=>?_⟩;refine⟨d,_,rfl,kQ,λo=>?_⟩;have sH:ai H H1:=s1.trans sm;have nW:H d=none:=s1.free hd;have R1:=R.same sH;have R2:Rep C (upd H1 d (.bz o (.dT (eI L)))) g b wv m al:=by
   have kp:∀c u,H c=some u->(upd H1 d (.bz o (.dT (eI L)))) c=some u:=λc u e=>by rw[aw (bj e nW)];exact sH _ _ e
   exact R.same kp
  have kd:aW (λx=>some x∈g.cs) H (upd H1 d (.bz o (.dT (eI L)))):=λc u e _=>by rw[aw (bj e nW)];exact sH _ _ e
  refine Sq (d:=d) (o:=o) (kvs:=eI L) (λn σ H'=>(∃v2 v3:Option V,σ=[some (.ref g.ba),some (.ref na),v2,v3])/\H' d=some (.bz o (.dT (eI L)))/\aW (λx=>some x∈g.cs) H H'/\Rep C H' g (NB.c7 b (L.take n)) wv m al)
   ⟨⟨none,none,rfl⟩,ag,kd,by rw[uJ,NB.Qq];exact R2⟩ (λn σ H' _ ⟨_,e,_⟩=>e) ?_ ?_
  ·rintro n kk v q σ H' hk hq ⟨⟨v2,v3,rfl⟩,w6,w8,Rn⟩;obtain⟨x,hx,e⟩:∃x,L[n]?=some x/\kk=nk x:=by
    unfold eI at hk;rw[cJ] at hk;cases e:L[n]? with
    |none=>rw[e] at hk;cases hk
    |some x=>rw[e] at hk;have hk:(nk x,V.bl true)=(kk,v):=a4 hk;exact⟨x,rfl,(eW Prod.fst hk).symm⟩
   subst e;obtain⟨kvs,k1,k2,k3,k4⟩:=id Rn.named;refine⟨_,rfl,g.ba,C.book,g.bd,_,_,rfl,Rn.book,T.bx,T.gO,iS ..,g.da,rfl,.inr ⟨kvs,.inl k1⟩,_,rfl,_,b5.t k1 hq,?_⟩;rw[k3];have A4:NB.dn (NB.c7 b (L.take n))=NB.dn b:=NB.Qo b _;have ZN:NB.ND (NB.c7 b (L.take n)):=NB.n4 A4.symm nd;cases e:src g (NB.c7 b (L.take n)) x with
   |none=>
    refine⟨_,rfl,_,rfl,bJ ?_⟩;refine⟨⟨_,_,rfl⟩,w6,w8,?_⟩;have hf:b.find x=none:=by rw[<-NB.sr A4];exact(Rn.iT e).1
    rw[take_snoc hx,NB.Qr hf];exact Rn
   |some a=>
    obtain⟨p,j,f1,f2,f3,f4,aU⟩:=Rn.gQ e;have SA:b.find x=some p:=by rw[<-NB.sr A4];exact f1
    obtain⟨i,hi,kU⟩:=NB.find_some SA;have qp:j=NB.cy (L.take n) i:=by rw[NB.zT,hi] at f2;exact(a4 (a4 f2)).symm
    obtain⟨a',eD,ZO⟩:=Rn.bK f2;have SD:a'=a:=by unfold src at e;rw[f1] at e;have e:(g.cs[p]?).join=some a:=e;rw[eD] at e;cases e;rfl
    subst SD;obtain⟨dx,lz,ta,la,lv,h1,h2,h3,h4,h5⟩:=id aU;refine⟨_,rfl,_,rfl,bF ⟨_,rfl,a',C.cell,dx,_,rfl,h1,T.aH,T.c8,(by show 7<1000;decide),?_⟩⟩;have tK:aW (·=a') H' (upd H' a' (.ins C.cell dx (bM "stands" (.int 0) (cf p (.ref lz) (.ref ta) (.ref la) lv j.touched j.stands.num)))):=dF rfl;have mem:some a'∈g.cs:=cE eD;have ep:bM "stands" (.int 0) (cf p (.ref lz) (.ref ta) (.ref la) lv j.touched j.stands.num)=cf p (.ref lz) (.ref ta) (.ref la) lv j.touched 0:=by kernel_rfl
    have aB:cq C H' (upd H' a' (.ins C.cell dx (bM "stands" (.int 0) (cf p (.ref lz) (.ref ta) (.ref la) lv j.touched j.stands.num)))):=Au λo' e'=>by
     rw[h1] at e';cases e';rintro(⟨xs,z⟩ | ⟨cG,fs,z⟩)
     ·cases z
     ·exact kh T.AA z
    refine⟨⟨_,_,rfl⟩,?_,w8.trans (tK.mono λz hz=>by rw[hz];exact mem),?_⟩
    ·rw[aw (bu (b9 h1 w6 (λz=>nomatch z)))];exact w6
    ·rw[take_snoc hx,NB.Qs nd hi kU];have cj:bt C (upd H' a' (.ins C.cell dx (bM "stands" (.int 0) (cf p (.ref lz) (.ref ta) (.ref la) lv j.touched j.stands.num)))) a' p {i with stands:=.open_}:=by
      have t1:j.touched=i.touched:=by rw[qp];unfold NB.cy;split<;>rfl
      have t2:j.name=i.name:=by rw[qp];exact NB.sy _ _
      have t3:j.text=i.text:=by rw[qp];unfold NB.cy;split<;>rfl
      have t4:j.leans=i.leans:=by rw[qp];unfold NB.cy;split<;>rfl
      have t5:j.last=i.last:=by rw[qp];unfold NB.cy;split<;>rfl
      refine⟨dx,lz,ta,la,lv,?_,?_,?_,?_,?_⟩
      ·rw[ag,ep,t1];rfl
      ·have:=ay.aB h2 aB;rw[t2] at this;exact this
      ·have:=ay.aB h3 aB;rw[t3] at this;exact this
      ·have:=h4.aB aB;rw[t4] at this;exact this
      ·have:=h5.aB aB;rw[t5] at this;exact this
     exact Rn.change T f2 eD tK cj (by show i.name=j.name;rw[qp,NB.sy])
  ·rintro σ H' ⟨⟨v2,v3,rfl⟩,w6,w8,Rn⟩;have e:(eI L).length=L.length:=aF ..;rw[e,cA,<-NB.Qv R.dG z6 dW] at Rn;exact k H' w8 Rn
end
structure bA(g:Gh)(H H':Hp)(g':Gh):Prop where
 ba:g'.ba=g.ba
 keep:aW g.foot H H'
 foot:∀x,g'.foot x->g.foot x\/H x=none
 live:∀x,H' x=none->H x=none
noncomputable def LstAt(H:Hp)(l:Addr)(zs:List Int):Prop:=H l=some (.lst (zs.map V.int))
noncomputable def WV(g:Gh)(wv:V)(m al:Nat):Option Nb.Wait->Prop
 |none=>wv=.ak
 |some w=>∃a,g.cs[w.place]?=some (some a)/\wv=.ref a/\m=w.made/\al=w.most
noncomputable def dg(C:Cs)(H:Hp)(g:Gh)(s:Nb.State):Prop:=∃wv m al,Rep C H g s.book wv m al/\WV g wv m al s.wait
noncomputable def dI(C:Cs)(H:Hp)(g:Gh)(r:Nb.State×Nb.Answer)(Q:VK):Prop:=∀H' g' l,bA g H H' g'->dg C H' g' r.1->LstAt H' l (NbNeutral.told r.2)->H l=none->Q (.ref l) H'
theorem bA.refl{g:Gh}{H:Hp}:bA g H H g:=⟨rfl,aW.refl,λx h=>.inl h,λ_ h=>h⟩
theorem bA.same{g:Gh}{H H':Hp}(s:ai H H'):bA g H H' g:=⟨rfl,ai.keep s,λx h=>.inl h,λx h=>s.free h⟩
theorem aW.free{W:Addr->Prop}{H H':Hp}(k:aW W H H'){x:Addr}(h:H' x=none)(hw:¬W x):H x=none:=by
 cases e:H x with
 |none=>rfl
 |some o=>rw[k x o e hw] at h;cases h
theorem Rep.jD{C:Cs}{H:Hp}{g:Gh}{b:Nb.Book}{wv:V}{m al:Nat}(R:Rep C H g b wv m al){x:Addr}(h:g.foot x):H x≠none:=by
 rcases h with h | h | h | h
 ·rw[h,R.book];exact λz=>nomatch z
 ·rw[h,R.cells];exact λz=>nomatch z
 ·obtain⟨kvs,k1,_⟩:=R.named;rw[h,k1];exact λz=>nomatch z
 ·obtain⟨p,hp⟩:=fN.mp h;obtain⟨i,_,dx,na,ta,la,lv,h1,_⟩:=R.fF hp;rw[h1];exact λz=>nomatch z
theorem bA.trans{g g1 g2:Gh}{H H1 H2:Hp}(a:bA g H H1 g1)(c:bA g1 H1 H2 g2):bA g H H2 g2:=by
 refine⟨c.ba.trans a.ba,λx o e z=>c.keep x o (a.keep x o e z) λq=>?_,λx q=>?_,λx h=>a.live x (c.live x h)⟩
 ·rcases a.foot x q with r | r
  ·exact z r
  ·rw[r] at e;cases e
 ·rcases c.foot x q with r | r
  ·exact a.foot x r
  ·exact .inr (a.live x r)
theorem bA.of{C:Cs}{g g':Gh}{H H':Hp}{b:Nb.Book}{wv:V}{m al:Nat}{W:Addr->Prop}(R:Rep C H' g' b wv m al)(hb:g'.ba=g.ba)(k:aW W H H')(h1:∀x,W x->g.foot x)(h2:∀x,W x->g'.foot x)(h3:∀x,g'.foot x->g.foot x\/H x=none):bA g H H' g':=
 ⟨hb,k.mono h1,h3,λx h=>k.free h λz=>R.jD (h2 x z) h⟩
theorem dg.same{C:Cs}{H H':Hp}{g:Gh}{s:Nb.State}(R:dg C H g s)(h:ai H H'):dg C H' g s:=by obtain⟨wv,m,al,R,W⟩:=R;exact⟨wv,m,al,R.same h,W⟩
theorem dI.tell{C:Cs}{H H1:Hp}{g g1:Gh}{r:Nb.State×Nb.Answer}{Q:VK}{l:Addr}{zs:List Int}(k:dI C H g r Q)(p:bA g H H1 g1)(R:dg C H1 g1 r.1)(hl:H1 l=none)(e:NbNeutral.told r.2=zs):Q (.ref l) (upd H1 l (.lst (zs.map V.int))):=by have s1:ai H1 (upd H1 l (.lst (zs.map V.int))):=aG hl;refine k _ g1 l (p.trans (bA.same s1)) (R.same s1) (by rw[e];exact ag) (p.live l hl)
theorem dI.dh{C:Cs}{H:Hp}{g:Gh}{r:Nb.State×Nb.Answer}{Q:VK}{l:Addr}{zs:List Int}(k:dI C H g r Q)(R:dg C H g r.1)(hl:H l=none)(e:NbNeutral.told r.2=zs):Q (.ref l) (upd H l (.lst (zs.map V.int))):=k.tell bA.refl R hl e
theorem oB{K:PySem.W.Frag}{mg:Str->Option Value}{C:Cs}(T:Tx K mg C){H:Hp}{a dx:Addr}{fs:List (Str×V)}{o:HO}(h:H a=some (.ins C.cell dx fs)):cq C H (upd H a o):=Au λo' e'=>by
 rw[h] at e';cases e';rintro(⟨xs,z⟩ | ⟨cG,fs,z⟩)
 ·cases z
 ·exact kh T.AA z
theorem Hy{b:Bool}{A B:Prop}(h:b=true)(a:A):if b=true then A else B:=by rw[if_pos h];exact a
theorem bE{v:V}:([v]:List V).length<=sizeLine:=by show 1<=sizeLine;decide
section
variable {P:Program}{w:World}{K:PySem.W.Frag}{mg:Str->Option Value}{base:Heap}{C:Cs}
noncomputable abbrev SE:Stmt:=top 45
noncomputable def Hz:Sp:=λvs H Q _=>∃(na ta la:Addr) (n t:Text) (ls:List Text),vs=[.ref na,.ref ta,.ref la]/\ay H na n/\ay H ta t/\cz H la ls/\n.length<=1000000/\(∀t∈ls,t.length<=1000000)/\Q (.bl (Nb.putOk n t ls)) H
theorem SF(T:Tx K mg C)(F:aR K mg "can_be_put" SE ["name","text","leans"])(D1:Ok P w K mg base aq 2 "is_name" ["text"] qf)(D2:Ok P w K mg base aq 3 "are_names" ["texts"] GQ):Ok P w K mg base aq 4 "can_be_put" ["name","text","leans"] Hz:=by
 refine F.ok (sk ["name","text","leans"]) (λvs H Q E h=>?_) (λf aD A outer s H vs Q E hr h=>?_)
 ·obtain⟨na,ta,la,n,t,ls,rfl,_⟩:=h;rfl
 ·obtain⟨na,ta,la,n,t,ls,rfl,h1,h2,h3,h4,h5,k⟩:=h;refine⟨_,ah (aC (jW (az D1 (hr.mono (by decide)) rfl aE (aa (pv 0) ae)) (jW (j0 pJ (dv dE rfl T.dA dN (aa (pv 1) ae)) (aM T.AD) (aY _))
   (jW (j0 pJ (dv dE rfl T.dA dN (aa (pv 2) ae)) (aM T.GC) (aY _)) (pE (az D2 hr rfl aE (aa (pv 2) ae))))))),?_⟩
  have e:Nb.putOk n t ls=(Nb.nameOk n&&(decide (t.length<=65536)&&(decide (ls.length<=8)&&ls.all Nb.nameOk))):=rfl;rw[e] at k;obtain⟨as,q1,q2⟩:=id h3;refine⟨_,rfl,na,n,rfl,h1,h4,_,rfl,?_⟩;refine aT (λc1=>?_) (λc1=>?_)
  ·rw[c1,gD] at k;refine⟨_,rfl,ta,_,rfl,.inr (aQ.of h2),_,_,rfl,rfl,_,rfl,?_⟩;have e2:decide (((bv t).length:Int)<=65536)=decide (t.length<=65536):=qV.mpr (by rw[bH];omega);rw[e2];refine aT (λc2=>?_) (λc2=>?_)
   ·rw[c2,gD] at k;refine⟨_,rfl,la,_,rfl,.inr (aQ.of q1),_,_,rfl,rfl,_,rfl,?_⟩;have e3:decide (((as.map V.ref).length:Int)<=8)=decide (ls.length<=8):=qV.mpr (by rw[aF,Paired.len q2];omega);rw[e3];refine aT (λc3=>?_) (λc3=>?_)
    ·rw[c3,gD] at k;exact⟨_,rfl,la,ls,rfl,h3,h5,k⟩
    ·rw[jL] at c3;rw[c3,iC] at k;exact k
   ·rw[jL] at c2;rw[c2,iC] at k;exact k
  ·rw[jL] at c1;rw[c1,iC] at k;exact k
noncomputable abbrev HB:Stmt:=top 46
noncomputable def HC(C:Cs):Sp:=λvs H Q _=>∃(g:Gh) (s:Nb.State) (na ta la:Addr) (n t:Text) (ls:List Text),vs=[.ref g.ba,.ref na,.ref ta,.ref la]/\dg C H g s/\NB.BI s.book/\ay H na n/\ay H ta t/\cz H la ls/\n.length<=1000000/\(∀t∈ls,t.length<=1000000)/\
 dI C H g (Nb.step s (.put n t ls)) Q
theorem oE{g:Gh}{wv:V}{m al:Nat}{o:Option Nb.Wait}(h:WV g wv m al o):(wv=.ak/\o=none)\/(∃a w,wv=.ref a/\o=some w/\g.cs[w.place]?=some (some a)/\m=w.made/\al=w.most):=by
 cases o with
 |none=>exact .inl ⟨h,rfl⟩
 |some w=>obtain⟨a,h1,h2,h3,h4⟩:=h;exact .inr ⟨a,w,h2,rfl,h1,h3,h4⟩
theorem SG(T:Tx K mg C)(F:aR K mg "put" HB ["book","name","text","leans"])(D1:Ok P w K mg base aq 4 "can_be_put" ["name","text","leans"] Hz)(D2:Ok P w K mg base aq 1 "lowest_free_place" ["book"] (G0 C))(D3:fj P w K mg base 1 "Cell" C.cell ["self","place","name","text","leans"] (gR C.cell 4 mO))
 (D4:Ok P w K mg base aq 1 "add_cell" ["book","cell"] (AZ C)) (D5:Ok P w K mg base aq 4 "reopen" ["book","name"] (tI C)):Ok P w K mg base aq 5 "put" ["book","name","text","leans"] (HC C):=by
 have sc:=sk (P:=["book","name","text","leans"]) (st:=HB) ["book","name","text","leans","cell","place"];refine F.ok sc (λvs H Q E h=>?_) (λf aD A outer s H vs Q E hr h=>?_)
 ·obtain⟨g,st,na,ta,la,n,t,ls,rfl,_⟩:=h;rfl
 ·obtain⟨g,st,na,ta,la,n,t,ls,rfl,⟨wv,m,al,R,W⟩,B,h1,h2,h3,h4,h5,k⟩:=h;refine⟨_,af (aO (cw (ft (aj (pv 0) rfl))) (ah (aC (br (aa (aM T.qe) ae)))) aP)
   (af (aO (gp (dU (az D1 hr rfl aE (aa (pv 1) (aa (pv 2) (aa (pv 3) ae)))))) (ah (aC (br (aa (aM T.sY) ae)))) aP)
   (af (aN (i:=4) sc.nd rfl (Or.inl rfl) (wH (aj (pv 0) rfl) (pv 1) ⟨rfl,rfl,rfl,rfl⟩ (cS hr)))
   (af (aO (cw (iD (pv 4)))
    (af (aN (i:=5) sc.nd rfl (Or.inl rfl) (az D2 (hr.mono (by decide)) rfl aE (aa (pv 0) ae)))
    (af (aO (cw (iD (pv 5))) (ah (aC (br (aa (aM T.Rg) ae)))) aP)
    (af (aN (i:=4) sc.nd rfl (Or.inl rfl) (ly D3 (hr.mono (by decide)) rfl (aa (pv 5) (aa (pv 1) (aa (pv 2) (aa (pv 3) ae))))))
    (ah (cb (az D4 (hr.mono (by decide)) rfl aE (aa (pv 0) (aa (pv 4) ae))))))))
    (af (bI (pv 4) (pv 2) rfl) (ah (bI (pv 4) (pv 3) rfl))))
   (af (cb (az D5 hr rfl aE (aa (pv 0) (aa (pv 1) ae))))
   (ah (aC (br (aa (aj (pv 4) rfl) ae)))))))),?_⟩
  refine⟨_,rfl,g.ba,C.book,g.bd,_,_,rfl,R.book,T.bx,T.j9,oo ..,_,rfl,?_⟩;have aJ:Nb.step st (.put n t ls)=match st.wait with
   |some _=>(st,.refused (-8))
   |none=>(⟨(Nb.changed st.book (.put n t ls)).1,none⟩,(Nb.changed st.book (.put n t ls)).2):=by
   unfold Nb.step;cases st.wait<;>rfl
  have fin:∀(H2:Hp) (g2:Gh) (b2:Nb.Book) (a:Addr) (p:Nat) (v5:Option V),bA g H H2 g2->Rep C H2 g2 b2 .ak m al->NB.ND b2->(NB.pairs b2).length<=1000000->b2.find n=some p->g2.cs[p]?=some (some a)->ay H2 na n->Nb.step st (.put n t ls)=(⟨b2.opening n,none⟩,.nums [p])->
   yH (yI (pL (tI C) [] E0 (jj (bU 0) (jj (bU 1) iG)))) (rD (yV (jj (dO K (bU 4) "place") iG))) {nx:=λ_ H'=>Q .ak H',rt:=Q} [some (.ref g.ba),some (.ref na),some (.ref ta),some (.ref la),some (.ref a),v5] H2:=by
   intro H2 g2 b2 a p v5 po R2 oF w9 SH qr ji nz;refine⟨_,rfl,_,rfl,g2,b2,.ak,m,al,na,n,by rw[po.ba];rfl,R2,oF,ji,w9,.inl (by rw[SH];rfl),λH3 kp R3=>?_⟩;obtain⟨i,hi,dx,fI,ip,iq,fJ,c1,_⟩:=R3.fF qr;refine⟨_,rfl,a,C.cell,dx,_,_,rfl,c1,T.aH,T.eG,fh ..,bE,λl hl=>?_⟩;have tL:bA g H H3 g2:=po.trans (bA.of R3 rfl kp (λx hx=>.inr (.inr (.inr hx))) (λx hx=>.inr (.inr (.inr hx))) λx hx=>.inl hx);exact k.tell tL (by rw[nz];exact⟨_,m,al,R3,rfl⟩) hl (by rw[nz])
  rcases oE W with ⟨rfl,ew⟩ | ⟨a,w',rfl,ew,aZ,iX⟩
  ·rw[ew] at aJ;refine bJ ?_;refine⟨_,rfl,_,rfl,_,rfl,na,ta,la,n,t,ls,rfl,h1,h2,h3,h4,h5,_,rfl,?_⟩;refine aT (λc=>?_) (λc=>?_)
   ·have c:=nt c;refine⟨bE,λl hl=>?_⟩;have cg:Nb.changed st.book (.put n t ls)=(st.book,Nb.BAD):=by show(if Nb.putOk n t ls=false then _ else _)=_;rw[if_pos c]
    rw[cg] at aJ;exact k.dh (by rw[aJ];exact⟨_,m,al,R,rfl⟩) hl (by rw[aJ])
   ·have c:=nf c;have cg:Nb.changed st.book (.put n t ls)=match st.book.put n t ls with | none=>(st.book,.refused (-6)) | some (p,c)=>(c,.nums [p]):=by show(if Nb.putOk n t ls=false then _ else _)=_;rw[if_neg (by rw[c];exact Bool.noConfusion)];rfl
    rw[cg] at aJ;obtain⟨kvs,q1,q2,q3,q4⟩:=id R.named;have xa:ls.length<=8:=by unfold Nb.putOk at c;rw[bq,bq] at c;exact(NB.kY c.2.2).1
    have w9:∀(p:Nat) (j:Item),j.leans.length<=8->(NB.pairs (st.book.set p (some j))).length<=1000000:=λp j hj=>NB.FT B hj;refine⟨_,rfl,g.ba,C.book,g.bd,_,_,rfl,R.book,T.bx,T.gO,iS ..,g.da,rfl,.inr ⟨kvs,.inl q1⟩,_,rfl,_,b5.t q1 h1.key,?_⟩;rw[q3];cases e:src g st.book n with
    |none=>
     obtain⟨hf,_⟩:=R.iT e;refine⟨_,rfl,_,rfl,bF ?_⟩;refine⟨_,rfl,g,st.book,.ak,m,al,rfl,R,?_⟩;cases e2:st.book.items.findIdx? λx=>x.isNone with
     |none=>
      have hp:st.book.put n t ls=none:=by unfold Nb.Book.put;rw[hf];show Option.map _ (st.book.items.findIdx? λx=>x.isNone)=none;rw[e2];rfl
      rw[hp] at aJ;refine⟨_,rfl,_,rfl,bF ⟨bE,λl hl=>?_⟩⟩;exact k.dh (by rw[aJ];exact⟨_,m,al,R,rfl⟩) hl (by rw[aJ])
     |some p=>
      have hp:st.book.put n t ls=some (p,(st.book.set p (some ⟨n,t,ls,.open_,false,none⟩)).opening n):=by unfold Nb.Book.put;rw[hf];show Option.map _ (st.book.items.findIdx? λx=>x.isNone)=_;rw[e2];rfl
      rw[hp] at aJ;have jw:st.book.items[p]?=some none:=by
       obtain⟨aL,h6,_⟩:=yi.mp e2;rw[fm aL];cases e3:st.book.items[p] with
       |none=>rfl
       |some i=>rw[e3] at h6;cases h6
      refine⟨_,rfl,_,rfl,bJ ?_⟩;refine⟨_,rfl,_,rfl,_,rfl,_,rfl,λx dx hx ir bG=>?_⟩;refine⟨x,dx,[.int (p:Int),.ref na,.ref ta,.ref la],rfl,rfl,ag,rfl,?_⟩;rw[bc];have s1:ai H (upd (upd H dx (.own x)) x (.ins C.cell dx (mO [.int (p:Int),.ref na,.ref ta,.ref la]))):=(aG ir).trans (aG (by rw[aw bG.symm];exact hx));have aU:bt C (upd (upd H dx (.own x)) x (.ins C.cell dx (mO [.int (p:Int),.ref na,.ref ta,.ref la]))) x p ⟨n,t,ls,.open_,false,none⟩:=⟨dx,na,ta,la,.ak,ag,s1 _ _ h1,s1 _ _ h2,cz.aB (C:=C) h3 (ai.aB s1),rfl⟩;refine⟨_,rfl,_,rfl,g,st.book,.ak,m,al,x,p,_,rfl,R.same s1,B.nd,aU,jw,hf,λH2 kp R2=>?_⟩;have aL:p<g.cs.length:=by rw[R.len,<-R.dG];exact(bh.mp jw).1
      have xb:bA g H H2 {g with cs:=g.cs.set p (some x)}:=by
       refine bA.of R2 rfl ((ai.keep s1).trans kp) (λy hy=>?_) (λy hy=>?_) λy hy=>?_
       ·exact hy.elim (λz=>.inr (.inl z)) λz=>.inr (.inr (.inl z))
       ·exact hy.elim (λz=>.inr (.inl z)) λz=>.inr (.inr (.inl z))
       ·rcases hy with hy | hy | hy | hy
        ·exact .inl (.inl hy)
        ·exact .inl (.inr (.inl hy))
        ·exact .inl (.inr (.inr (.inl hy)))
        ·rcases Lv hy with z | z
         ·exact .inl (.inr (.inr (.inr z)))
         ·cases z;exact .inr hx
      have oF:NB.ND (st.book.set p (some ⟨n,t,ls,.open_,false,none⟩)):=NB.we B.nd jw hf;refine fin H2 _ _ x p _ xb R2 oF (w9 _ _ xa) ?_ (m6 aL) ?_ aJ
      ·rw[NB.su B.nd jw hf,if_pos rfl]
      ·exact kp _ _ (s1 _ _ h1) λz=>by
        rcases z with z | z
        ·exact absurd z (b9 h1 R.cells (λz=>nomatch z))
        ·exact absurd z (b9 h1 q1 (λz=>nomatch z))
    |some a=>
     obtain⟨p,i,f1,f2,f3,f4,aU⟩:=R.gQ e;obtain⟨dx,fI,ip,iq,fJ,c1,c2,c3,c4,c5⟩:=id aU;have hp:st.book.put n t ls=some (p,(st.book.set p (some {i with text:=t,leans:=ls})).opening n):=by unfold Nb.Book.put;rw[f1];show some (p,(st.book.set p ((st.book.at_ p).map λi=>{i with text:=t,leans:=ls})).opening n)=_;rw[NB.bK f2];rfl
     rw[hp] at aJ;have ki:g.cs[p]?=some (some a):=by obtain⟨a',h6,_⟩:=R.bK f2;unfold src at e;rw[f1] at e;have e:(g.cs[p]?).join=some a:=e;rw[h6] at e ⊢;cases e;rfl
     refine⟨_,rfl,_,rfl,bJ ?_⟩;refine⟨_,rfl,_,rfl,a,C.cell,dx,_,rfl,c1,T.aH,T.mI,(by show 7<1000;decide),?_⟩;refine⟨_,rfl,_,rfl,a,C.cell,dx,_,rfl,ag,T.aH,T.ie,(cH (bg (by show 7<=19;decide))),?_⟩;rw[bc];have ep:bM "leans" (.ref la) (bM "text" (.ref ta) (cf p (.ref fI) (.ref ip) (.ref iq) fJ i.touched i.stands.num))=cf p (.ref fI) (.ref ta) (.ref la) fJ i.touched i.stands.num:=by kernel_rfl
     rw[ep];have kp:aW (·=a) H (upd H a (.ins C.cell dx (cf p (.ref fI) (.ref ta) (.ref la) fJ i.touched i.stands.num))):=dF rfl;have aB:cq C H (upd H a (.ins C.cell dx (cf p (.ref fI) (.ref ta) (.ref la) fJ i.touched i.stands.num))):=oB T c1;have R2:=R.change T (j:={i with text:=t,leans:=ls}) f2 ki kp ⟨dx,fI,ta,la,fJ,ag,ay.aB c2 aB,ay.aB h2 aB,h3.aB aB,c5.aB aB⟩ rfl;have mem:some a∈g.cs:=cE ki;refine fin _ g _ a p _ (bA.of R2 rfl kp (λx hx=>.inr (.inr (.inr (by rw[hx];exact mem)))) (λx hx=>.inr (.inr (.inr (by rw[hx];exact mem)))) λx hx=>.inl hx) R2 (NB.n4 (NB.p1 (j:={i with text:=t,leans:=ls}) f2 rfl).symm B.nd) (w9 _ _ xa) ?_ ki (ay.aB h1 aB) aJ;rw[NB.sv (j:={i with text:=t,leans:=ls}) f2 rfl];exact f1
  ·rw[ew] at aJ;refine bF ?_;refine⟨bE,λl hl=>?_⟩;exact k.dh (by rw[aJ];exact⟨_,m,al,R,by rw[ew];exact⟨a,aZ,rfl,iX⟩⟩) hl (by rw[aJ])
noncomputable abbrev SJ:Stmt:=top 47
noncomputable def xc(wv:V)(b:Nb.Book)(n:Text):V:=if wv≠.ak then .int (-8) else if Nb.nameOk n=false then .int (-1) else if b.find n=none then .int (-4) else .ak
noncomputable def A5(C:Cs):Sp:=λvs H Q _=>∃(g:Gh) (b:Nb.Book) (wv:V) (m al:Nat) (na:Addr) (n:Text),vs=[.ref g.ba,.ref na]/\Rep C H g b wv m al/\ay H na n/\n.length<=1000000/\Q (xc wv b n) H
theorem SK(T:Tx K mg C)(F:aR K mg "refusal_of_change" SJ ["book","name"])(D1:Ok P w K mg base aq 2 "is_name" ["text"] qf):Ok P w K mg base aq 3 "refusal_of_change" ["book","name"] (A5 C):=by
 refine F.ok (sk ["book","name"]) (λvs H Q E h=>?_) (λf aD A outer s H vs Q E hr h=>?_)
 ·obtain⟨g,b,wv,m,al,na,n,rfl,_⟩:=h;rfl
 ·obtain⟨g,b,wv,m,al,na,n,rfl,R,h1,h2,k⟩:=h;refine⟨_,af (aO (cw (ft (aj (pv 0) rfl))) (ah (aC (aM T.qe))) aP)
   (af (aO (gp (dU (az D1 hr rfl aE (aa (pv 1) ae)))) (ah (aC (aM T.sY))) aP)
   (af (aO (cw (vF (cS hr) (pv 1) (aj (pv 0) rfl))) (ah (aC (aM T.GG))) aP) (ah (aC jV)))),?_⟩
  refine⟨_,rfl,g.ba,C.book,g.bd,_,_,rfl,R.book,T.bx,T.j9,oo ..,_,rfl,?_⟩;unfold xc at k;by_cases hw:wv=.ak
  ·subst hw;rw[if_neg (λz=>z rfl)] at k;refine bJ ⟨_,rfl,na,n,rfl,h1,h2,_,rfl,?_⟩;refine aT (λc=>?_) (λc=>?_)
   ·rw[if_pos (nt c)] at k;exact k
   ·rw[if_neg (by rw[nf c];exact Bool.noConfusion)] at k;obtain⟨kvs,q1,q2,q3,q4⟩:=id R.named;refine⟨_,rfl,_,rfl,g.ba,C.book,g.bd,_,_,rfl,R.book,T.bx,T.gO,iS ..,g.da,_,rfl,b5.t q1 h1.key,_,rfl,?_⟩;rw[q3];cases e:src g b n with
    |none=>rw[if_pos (R.iT e).1] at k;exact bF k
    |some a=>obtain⟨p,i,f1,_⟩:=R.gQ e;rw[if_neg (by rw[f1];exact λz=>nomatch z)] at k;exact bJ k
  ·rw[if_pos hw] at k;refine Hy ?_ k;rw[eo hw];rfl
noncomputable abbrev HD:Stmt:=top 48
noncomputable abbrev HE:Stmt:=top 49
noncomputable def qt(C:Cs)(c:Text->Nb.Call):Sp:=λvs H Q _=>∃(g:Gh) (s:Nb.State) (na:Addr) (n:Text),vs=[.ref g.ba,.ref na]/\dg C H g s/\NB.BI s.book/\ay H na n/\n.length<=1000000/\dI C H g (Nb.step s (c n)) Q
theorem Rep.HF{H:Hp}{g:Gh}{b:Nb.Book}{wv:V}{m al:Nat}(R:Rep C H g b wv m al){n:Text}{a:Addr}(e:src g b n=some a):∃p i,b.find n=some p/\b.items[p]?=some (some i)/\i.name=n/\g.cs[p]?=some (some a)/\bt C H a p i:=by obtain⟨p,i,f1,f2,f3,f4,aU⟩:=R.gQ e;refine⟨p,i,f1,f2,f4,?_,aU⟩;obtain⟨a',h6,_⟩:=R.bK f2;unfold src at e;rw[f1] at e;have e:(g.cs[p]?).join=some a:=e;rw[h6] at e ⊢;cases e;rfl
theorem SM(T:Tx K mg C)(F:aR K mg "drop" HD ["book","name"])(D1:Ok P w K mg base aq 3 "refusal_of_change" ["book","name"] (A5 C))(D2:Ok P w K mg base aq 1 "remove_cell" ["book","cell"] (Hv C))(D3:Ok P w K mg base aq 4 "reopen" ["book","name"] (tI C)) :
 Ok P w K mg base aq 5 "drop" ["book","name"] (qt C .drop):=by
 have sc:=sk (P:=["book","name"]) (st:=HD) ["book","name","refusal","cell"];refine F.ok sc (λvs H Q E h=>?_) (λf aD A outer s H vs Q E hr h=>?_)
 ·obtain⟨g,st,na,n,rfl,_⟩:=h;rfl
 ·obtain⟨g,st,na,n,rfl,⟨wv,m,al,R,W⟩,B,h1,h2,k⟩:=h;refine⟨_,af (aN (i:=2) sc.nd rfl (Or.inl rfl) (az D1 (hr.mono (by decide)) rfl aE (aa (pv 0) (aa (pv 1) ae))))
   (af (aO (cw (ft (pv 2))) (ah (aC (br (aa (pv 2) ae)))) aP)
   (af (aN (i:=3) sc.nd rfl (Or.inl rfl) (mq (cS hr) (aj (pv 0) rfl) (pv 1) (λ_ _=>rfl)))
   (af (cb (az D2 (hr.mono (by decide)) rfl aE (aa (pv 0) (aa (pv 3) ae))))
   (af (cb (az D3 hr rfl aE (aa (pv 0) (aa (pv 1) ae))))
   (ah (aC (br (aa (aj (pv 3) rfl) ae)))))))),?_⟩
  refine⟨_,rfl,_,rfl,g,st.book,wv,m,al,na,n,rfl,R,h1,h2,?_⟩;have aJ:Nb.step st (.drop n)=match st.wait with
   |some _=>(st,.refused (-8))
   |none=>(⟨(Nb.changed st.book (.drop n)).1,none⟩,(Nb.changed st.book (.drop n)).2):=by
   unfold Nb.step;cases st.wait<;>rfl
  unfold xc;rcases oE W with ⟨rfl,ew⟩ | ⟨a,w',rfl,ew,aZ,iX⟩
  ·rw[ew] at aJ;rw[if_neg (λz=>z rfl)];by_cases hn:Nb.nameOk n=false
   ·rw[if_pos hn];refine⟨_,rfl,_,rfl,bF ⟨_,rfl,bE,λl hl=>?_⟩⟩;have cg:Nb.changed st.book (.drop n)=(st.book,Nb.BAD):=by show(if Nb.nameOk n=false then _ else _)=_;rw[if_pos hn]
    rw[cg] at aJ;exact k.dh (by rw[aJ];exact⟨_,m,al,R,rfl⟩) hl (by rw[aJ])
   ·rw[if_neg hn];cases hf:st.book.find n with
    |none=>
     rw[if_pos rfl];refine⟨_,rfl,_,rfl,bF ⟨_,rfl,bE,λl hl=>?_⟩⟩;have cg:Nb.changed st.book (.drop n)=(st.book,.refused (-4)):=by show(if Nb.nameOk n=false then _ else _)=_;rw[if_neg hn,hf]
     rw[cg] at aJ;exact k.dh (by rw[aJ];exact⟨_,m,al,R,rfl⟩) hl (by rw[aJ])
    |some p=>
     rw[if_neg (λz=>nomatch z)];have cg:Nb.changed st.book (.drop n)=(st.book.drop p,.nums [p]):=by show(if Nb.nameOk n=false then _ else _)=_;rw[if_neg hn,hf]
     rw[cg] at aJ;refine⟨_,rfl,_,rfl,bJ ?_⟩;obtain⟨kvs,q1,q2,q3,q4⟩:=id R.named;cases e:src g st.book n with
     |none=>rw[(R.iT e).1] at hf;cases hf
     |some a=>
      obtain⟨p',i,f1,f2,f4,ki,aU⟩:=R.HF e;rw[hf] at f1;cases f1;refine⟨_,rfl,g.ba,C.book,g.bd,_,_,rfl,R.book,T.bx,T.gO,iS ..,_,rfl,g.da,.ref a,rfl,?_,?_⟩
      ·have:=b5.t q1 h1.key;rw[q3,e] at this;exact this
      ·refine⟨_,rfl,_,rfl,g,st.book,.ak,m,al,a,p,i,rfl,R,B.nd,f2,ki,λH2 kp R2=>?_⟩;have ji:ay H2 na n:=kp _ _ h1 λz=>by
        rcases z with z | z
        ·exact absurd z (b9 h1 R.cells (λz=>nomatch z))
        ·exact absurd z (b9 h1 q1 (λz=>nomatch z))
       have A6:bA g H H2 {g with cs:=g.cs.set p none}:=by
        refine bA.of R2 rfl kp (λy hy=>?_) (λy hy=>?_) λy hy=>?_
        ·exact hy.elim (λz=>.inr (.inl z)) λz=>.inr (.inr (.inl z))
        ·exact hy.elim (λz=>.inr (.inl z)) λz=>.inr (.inr (.inl z))
        ·rcases hy with hy | hy | hy | hy
         ·exact .inl (.inl hy)
         ·exact .inl (.inr (.inl hy))
         ·exact .inl (.inr (.inr (.inl hy)))
         ·rcases Lv hy with z | z
          ·exact .inl (.inr (.inr (.inr z)))
          ·cases z
       have aL:p<st.book.items.length:=(bh.mp f2).1;refine⟨_,rfl,_,rfl,{g with cs:=g.cs.set p none},st.book.set p none,.ak,m,al,na,n,rfl,R2,NB.FL B.nd,ji,NB.Qw B,.inr (Nat.lt_of_lt_of_eq (NB.FU (NB.dY aL)) (by rw[NB.fE,B.len])),λH3 lA R3=>?_⟩;obtain⟨dx,fI,ip,iq,fJ,c1,_⟩:=id aU;have c2:H2 a=_:=kp _ _ c1 λz=>by
        rcases z with z | z
        ·exact absurd z (b9 c1 R.cells (λz=>nomatch z))
        ·exact absurd z (b9 c1 q1 (λz=>nomatch z))
       have c3:H3 a=_:=lA _ _ c2 λz=>by
        obtain⟨q,hq⟩:=fN.mp z;have hq:(g.cs.set p none)[q]?=some (some a):=hq;by_cases kg:p=q
        ·subst kg;rw[m6 (by rw[R.len,<-R.dG];exact aL)] at hq;cases hq
        ·rw[m7 kg] at hq;exact R.Hl ki hq kg rfl
       refine⟨_,rfl,a,C.cell,dx,_,_,rfl,c3,T.aH,T.eG,fh ..,bE,λl hl=>?_⟩;have tL:bA g H H3 {g with cs:=g.cs.set p none}:=A6.trans (bA.of R3 rfl lA (λx hx=>.inr (.inr (.inr hx))) (λx hx=>.inr (.inr (.inr hx))) λx hx=>.inl hx);have hd:st.book.drop p=(st.book.set p none).opening n:=by unfold Nb.Book.drop;rw[NB.p4 f2,f4]
       rw[hd] at aJ;exact k.tell tL (by rw[aJ];exact⟨_,m,al,R3,rfl⟩) hl (by rw[aJ])
  ·rw[ew] at aJ;rw[if_pos (λz=>nomatch z)];refine⟨_,rfl,_,rfl,bF ⟨_,rfl,bE,λl hl=>?_⟩⟩;exact k.dh (by rw[aJ];exact⟨_,m,al,R,by rw[ew];exact⟨a,aZ,rfl,iX⟩⟩) hl (by rw[aJ])
theorem SN(T:Tx K mg C)(F:aR K mg "touch" HE ["book","name"])(D1:Ok P w K mg base aq 3 "refusal_of_change" ["book","name"] (A5 C))(D3:Ok P w K mg base aq 4 "reopen" ["book","name"] (tI C)) :
 Ok P w K mg base aq 5 "touch" ["book","name"] (qt C .touch):=by
 have sc:=sk (P:=["book","name"]) (st:=HE) ["book","name","refusal","cell"];refine F.ok sc (λvs H Q E h=>?_) (λf aD A outer s H vs Q E hr h=>?_)
 ·obtain⟨g,st,na,n,rfl,_⟩:=h;rfl
 ·obtain⟨g,st,na,n,rfl,⟨wv,m,al,R,W⟩,B,h1,h2,k⟩:=h;refine⟨_,af (aN (i:=2) sc.nd rfl (Or.inl rfl) (az D1 (hr.mono (by decide)) rfl aE (aa (pv 0) (aa (pv 1) ae))))
   (af (aO (cw (ft (pv 2))) (ah (aC (br (aa (pv 2) ae)))) aP)
   (af (aN (i:=3) sc.nd rfl (Or.inl rfl) (mq (cS hr) (aj (pv 0) rfl) (pv 1) (λ_ _=>rfl)))
   (af (bI (pv 3) cY rfl)
   (af (cb (az D3 hr rfl aE (aa (pv 0) (aa (pv 1) ae))))
   (ah (aC (br (aa (aj (pv 3) rfl) ae)))))))),?_⟩
  refine⟨_,rfl,_,rfl,g,st.book,wv,m,al,na,n,rfl,R,h1,h2,?_⟩;have aJ:Nb.step st (.touch n)=match st.wait with
   |some _=>(st,.refused (-8))
   |none=>(⟨(Nb.changed st.book (.touch n)).1,none⟩,(Nb.changed st.book (.touch n)).2):=by
   unfold Nb.step;cases st.wait<;>rfl
  unfold xc;rcases oE W with ⟨rfl,ew⟩ | ⟨a,w',rfl,ew,aZ,iX⟩
  ·rw[ew] at aJ;rw[if_neg (λz=>z rfl)];by_cases hn:Nb.nameOk n=false
   ·rw[if_pos hn];refine⟨_,rfl,_,rfl,bF ⟨_,rfl,bE,λl hl=>?_⟩⟩;have cg:Nb.changed st.book (.touch n)=(st.book,Nb.BAD):=by show(if Nb.nameOk n=false then _ else _)=_;rw[if_pos hn]
    rw[cg] at aJ;exact k.dh (by rw[aJ];exact⟨_,m,al,R,rfl⟩) hl (by rw[aJ])
   ·rw[if_neg hn];cases hf:st.book.find n with
    |none=>
     rw[if_pos rfl];refine⟨_,rfl,_,rfl,bF ⟨_,rfl,bE,λl hl=>?_⟩⟩;have cg:Nb.changed st.book (.touch n)=(st.book,.refused (-4)):=by show(if Nb.nameOk n=false then _ else _)=_;rw[if_neg hn,hf]
     rw[cg] at aJ;exact k.dh (by rw[aJ];exact⟨_,m,al,R,rfl⟩) hl (by rw[aJ])
    |some p=>
     rw[if_neg (λz=>nomatch z)];have cg:Nb.changed st.book (.touch n)=(st.book.touch p,.nums [p]):=by show(if Nb.nameOk n=false then _ else _)=_;rw[if_neg hn,hf]
     rw[cg] at aJ;refine⟨_,rfl,_,rfl,bJ ?_⟩;obtain⟨kvs,q1,q2,q3,q4⟩:=id R.named;cases e:src g st.book n with
     |none=>rw[(R.iT e).1] at hf;cases hf
     |some a=>
      obtain⟨p',i,f1,f2,f4,ki,aU⟩:=R.HF e;rw[hf] at f1;cases f1;obtain⟨dx,fI,ip,iq,fJ,c1,c2,c3,c4,c5⟩:=id aU;refine⟨_,rfl,g.ba,C.book,g.bd,_,_,rfl,R.book,T.bx,T.gO,iS ..,_,rfl,g.da,.ref a,rfl,?_,?_⟩
      ·have:=b5.t q1 h1.key;rw[q3,e] at this;exact this
      ·refine⟨_,rfl,a,C.cell,dx,_,rfl,c1,T.aH,T.j8,(by show 7<1000;decide),?_⟩;have ep:bM "touched" (.bl true) (cf p (.ref fI) (.ref ip) (.ref iq) fJ i.touched i.stands.num)=cf p (.ref fI) (.ref ip) (.ref iq) fJ true i.stands.num:=by kernel_rfl
       rw[ep];have kp:aW (·=a) H (upd H a (.ins C.cell dx (cf p (.ref fI) (.ref ip) (.ref iq) fJ true i.stands.num))):=dF rfl;have aB:cq C H (upd H a (.ins C.cell dx (cf p (.ref fI) (.ref ip) (.ref iq) fJ true i.stands.num))):=oB T c1;have R2:=R.change T (j:={i with touched:=true}) f2 ki kp ⟨dx,fI,ip,iq,fJ,ag,ay.aB c2 aB,ay.aB c3 aB,c4.aB aB,c5.aB aB⟩ rfl;have mem:some a∈g.cs:=cE ki;have A6:bA g H _ g:=bA.of R2 rfl kp (λx hx=>.inr (.inr (.inr (by rw[hx];exact mem)))) (λx hx=>.inr (.inr (.inr (by rw[hx];exact mem)))) λx hx=>.inl hx;refine⟨_,rfl,_,rfl,g,_,.ak,m,al,na,n,rfl,R2,NB.n4 (NB.p1 (j:={i with touched:=true}) f2 rfl).symm B.nd,ay.aB h1 aB,NB.FT B (show i.leans.length<=8 from B.leans f2),.inl (by rw[NB.sv (j:={i with touched:=true}) f2 rfl,hf];rfl),λH3 lA R3=>?_⟩;obtain⟨i3,_,SO,qu,ZP,ZQ,qv,d1,_⟩:=R3.fF ki;refine⟨_,rfl,a,C.cell,SO,_,_,rfl,d1,T.aH,T.eG,fh ..,bE,λl hl=>?_⟩;have tL:bA g H H3 g:=A6.trans (bA.of R3 rfl lA (λx hx=>.inr (.inr (.inr hx))) (λx hx=>.inr (.inr (.inr hx))) λx hx=>.inl hx);have hd:st.book.touch p=(st.book.set p (some {i with touched:=true})).opening n:=by unfold Nb.Book.touch;rw[NB.p4 f2,NB.bK f2,<-f4];rfl
       rw[hd] at aJ;exact k.tell tL (by rw[aJ];exact⟨_,m,al,R3,rfl⟩) hl (by rw[aJ])
  ·rw[ew] at aJ;rw[if_pos (λz=>nomatch z)];refine⟨_,rfl,_,rfl,bF ⟨_,rfl,bE,λl hl=>?_⟩⟩;exact k.dh (by rw[aJ];exact⟨_,m,al,R,by rw[ew];exact⟨a,aZ,rfl,iX⟩⟩) hl (by rw[aJ])
end
end Rr
namespace Rr
open PySem PySem.Spec PyProof.Rows L2
open Nb (Text Item Last Came Stands)
section
variable {P:Program}{w:World}{K:PySem.W.Frag}{mg:Str->Option Value}{base:Heap}{C:Cs}
noncomputable abbrev HG:Stmt:=top 109
noncomputable def lB(H0 H:Hp)(d:Addr)(g:Gh)(b:Nb.Book):Prop:=∃kvs:List (Key×V),H d=some (.dK kvs)/\H0 d=none/\∀(p:Nat) (i:Item),b.items[p]?=some (some i)->i.stands=.open_->∃l,aV kvs (Sum.inl (p:Int))=some (.ref l)/\H l=some (.lst (bV g b i.leans))/\H0 l=none
noncomputable def A7(C:Cs):Sp:=λvs H Q _=>∃(g:Gh) (b:Nb.Book) (wv:V) (m al:Nat),vs=[.ref g.ba]/\Rep C H g b wv m al/\NB.BI b/\∀H' d,ai H H'->lB H H' d g b->Q (.ref d) H'
theorem SQ(T:Tx K mg C)(F:aR K mg "sources_of_open_cells" HG ["book"])(D1:Ok P w K mg base aq 1 "cells_of" ["book"] (ka C))(D2:Ok P w K mg base aq 1 "sources_of" ["book","cell"] (tj C)):Ok P w K mg base aq 2 "sources_of_open_cells" ["book"] (A7 C):=by
 have sc:=sk (P:=["book"]) (st:=HG) ["book","sources","cell"];refine F.ok sc (λvs H Q E h=>?_) (λf aD A outer s H vs Q E hr h=>?_)
 ·obtain⟨g,b,wv,m,al,rfl,_⟩:=h;rfl
 ·obtain⟨g,b,wv,m,al,rfl,R,B,k⟩:=h;refine⟨_,af (aN (i:=1) sc.nd rfl (Or.inl rfl) Oz) (af (cR PassesOwn.never rfl (dD (az D1 hr rfl aE (aa (pv 0) ae))) (bQ (i:=2) sc.nd rfl (Or.inl rfl))
   (ah (aO (bo b3 (aj (pv 2) rfl) (aM T.mK) (aY _)) (ah (rW (cS hr) (pv 1) (aj (pv 2) rfl) (az D2 hr rfl aE (aa (pv 0) (aa (pv 2) ae))) rfl)) aP)))
   (ah (aC (pv 1)))),?_⟩
  intro d hd;have s0:ai H (upd H d (.dK [])):=aG hd;refine⟨_,rfl,g,g.bd,b,wv,m,al,rfl,R.same s0,λl hl=>?_⟩;have s1:ai (upd H d (.dK [])) (upd (upd H d (.dK [])) l (.lst ((g.cs.filterMap id).map V.ref))):=aG hl;have ox:H l=none:=s0.free hl;have pl:=R.placed;refine⟨l,rfl,⟨_,ax.of ag⟩,fQ (K:=K) (a:=l) (xs:=(g.cs.filterMap id).map V.ref) (λn σ H'=>(∃v2:Option V,σ=[some (.ref g.ba),some (.ref d),v2])/\ai H H'/\H' l=some (.lst ((g.cs.filterMap id).map V.ref))/\
   ∃kvs:List (Key×V),H' d=some (.dK kvs)/\kvs.length<=n/\∀q<n,∀(i:Item) (p:Nat),(Nb.placed b)[q]?=some (i,p)->i.stands=.open_->∃l',aV kvs (Sum.inl (p:Int))=some (.ref l')/\H' l'=some (.lst (bV g b i.leans))/\H l'=none)
   ⟨⟨none,rfl⟩,s0.trans s1,ag,[],s1 _ _ ag,bB _,λq hq=>absurd hq (qZ _)⟩ (λn σ H' _ ⟨_,_,e,_⟩=>ax.of e) ?_ ?_⟩
  ·rintro n x σ H' hx ⟨⟨v2,rfl⟩,sm,du,kvs,k1,k2,k3⟩;obtain⟨a,ha,rfl⟩:=dH hx;obtain⟨⟨i,p⟩,hi,hc⟩:=Paired.get pl ha;have hb:b.items[p]?=some (some i):=NB.b7.mp (cE hi);have eD:bt C H' a p i:=bt.same hc sm;obtain⟨dx,na,ta,la,lv,h1,h2,h3,h4,h5⟩:=id eD;have oG:n<256:=by have h6:=(bh.mp hi).1;have h7:=NB.fV b;rw[B.len] at h7;omega
   refine⟨_,rfl,a,C.cell,dx,_,_,rfl,h1,T.aH,T.c8,ed ..,rfl,_,rfl,?_⟩;refine aT (λhh=>?_) (λhh=>?_)
   ·have ho:i.stands=.open_:=cN.mp (bw hh);refine⟨_,rfl,_,rfl,g,b,wv,m,al,a,p,i,rfl,R.same sm,eD,aS (B.leans hb) (by decide),λl2 fU=>?_⟩;have s2:ai H' (upd H' l2 (.lst (bV g b i.leans))):=aG fU;have SS:H l2=none:=sm.free fU;refine⟨_,rfl,_,rfl,a,C.cell,dx,_,_,rfl,s2 _ _ h1,T.aH,T.eG,fh ..,d,_,rfl,ia.k (k:=Sum.inl (p:Int)) (s2 _ _ k1) (dC k2 (yw oG (by decide))),?_⟩;have oF:∀{c:Addr} {xs:List V},(upd H' l2 (.lst (bV g b i.leans))) c=some (.lst xs)->c≠d:=λ{c xs} e z=>by rw[z,s2 _ _ k1] at e;cases e
    refine⟨⟨_,rfl⟩,λc o e=>?_,?_,_,ag,aS (rU ..) (Nat.succ_le_succ k2),λq hq j pj hj xf=>?_⟩
    ·rw[aw (bj e hd)];exact s2 _ _ (sm _ _ e)
    ·rw[aw (oF (s2 _ _ du))];exact s2 _ _ du
    ·rw[pS];by_cases A8:pj=p
     ·subst A8;rw[if_pos rfl];have xg:b.items[pj]?=some (some j):=NB.b7.mp (cE hj);rw[hb] at xg;cases xg;exact⟨l2,rfl,by rw[aw (oF ag)];exact ag,SS⟩
     ·rw[if_neg (λz=>A8 (by have:=Sum.inl.inj z;omega))];have SU:q<n:=by
       rcases rj q n with z | z
       ·exact z
       ·have:q=n:=by omega
        subst this;rw[hi] at hj;cases hj;exact absurd rfl A8
      obtain⟨l',e1,e2,e3⟩:=k3 q SU j pj hj xf;refine⟨l',e1,?_,e3⟩;rw[aw (oF (s2 _ _ e2))];exact s2 _ _ e2
   ·have ho:¬i.stands=.open_:=λz=>hh (bp (cN.mpr z));refine⟨⟨_,rfl⟩,sm,du,kvs,k1,Nat.le_succ_of_le k2,λq hq j pj hj xf=>?_⟩;rcases rj q n with z | z
    ·exact k3 q z j pj hj xf
    ·have:q=n:=by omega
     subst this;rw[hi] at hj;cases hj;exact absurd xf ho
  ·rintro σ H' ⟨⟨v2,rfl⟩,sm,du,kvs,k1,k2,k3⟩;refine⟨_,rfl,k H' d sm ⟨kvs,k1,hd,λp i hi ho=>?_⟩⟩;obtain⟨q,hq⟩:=fN.mp (NB.b7.mpr hi:(i,p)∈Nb.placed b);refine k3 q ?_ i p hq ho;rw[aF,Paired.len pl];exact(bh.mp hq).1
noncomputable abbrev SV:Stmt:=top 110
noncomputable def fk:Nb.Todo->Bool
 |.run _=>true
 |_=>false
noncomputable def HH(C:Cs):Sp:=λvs H Q _=>∃(g:Gh) (b:Nb.Book) (wv:V) (m al:Nat) (a l:Addr) (p:Nat) (i:Item),vs=[.ref a,.ref l]/\Rep C H g b wv m al/\bt C H a p i/\H l=some (.lst (bV g b i.leans))/\NB.BI b/\i.leans.length<=8/\∀H',ai H H'->Q (.bl (fk (b.todo i))) H'
theorem A9{b:Nb.Book}(B:NB.BI b):∀ts:List Text,(ts.all λn=>fH (b.item n))=true->∃us,ot b ts=some us
 |[],_=>⟨[],rfl⟩
 |t::ts,h=>by
  rw[uN,bq] at h;obtain⟨us,e⟩:=A9 B ts h.2;have h1:=h.1;cases e2:b.item t with
  |none=>rw[e2] at h1;cases h1
  |some i=>rw[e2] at h1;obtain⟨q,_,hq,_⟩:=NB.jv e2;obtain⟨_,v,_,_,e3,_⟩:=B.value hq (eq_of_beq h1);refine⟨v::us,?_⟩;unfold ot at e ⊢;rw[m8,e2,e];show((i.value).bind λv=>some (v::us))=_;rw[e3];rfl
theorem xh{b:Nb.Book}:∀(ts us:List Text),ot b ts=some us->(ts.all λn=>fH (b.item n))=true
 |[],us,h=>rfl
 |t::ts,us,h=>by
  have pr:=wJ h;cases pr with
  |cons h1 h2=>
   rw[uN,xh ts _ (RM h2),LR];cases e2:b.item t with
   |none=>rw[e2] at h1;cases h1
   |some i=>rw[e2] at h1;obtain⟨hg,_⟩:=wK (show i.value=_ from h1);show(i.stands==.good)=true;rw[hg];rfl
theorem SW(T:Tx K mg C)(F:aR K mg "must_run" SV ["cell","sources"])(D1:Ok P w K mg base aq 1 "are_good" ["sources"] (oq C λb ts=>ts.all λn=>fH (b.item n)))(D2:Ok P w K mg base aq 1 "was_run_as_it_is" ["cell"] (AJ C))
 (D3:Ok P w K mg base aq 1 "values_of" ["sources"] (wL C)):Ok P w K mg base aq 2 "must_run" ["cell","sources"] (HH C):=by
 refine F.ok (sk ["cell","sources"]) (λvs H Q E h=>?_) (λf aD A outer s H vs Q E hr h=>?_)
 ·obtain⟨g,b,wv,m,al,a,l,p,i,rfl,_⟩:=h;rfl
 ·obtain⟨g,b,wv,m,al,a,l,p,i,rfl,R,hc,hl,B,hlen,k⟩:=h;refine⟨_,af (aO (gp (dU (az D1 hr rfl aE (aa (pv 1) ae)))) (ah (aC cY)) aP)
   (ah (aC (Dn (aj (pv 0) rfl) (Dn (rB (az D2 hr rfl aE (aa (pv 0) ae))) (pE (j0 (Q3 hr.units) (aj (aj (pv 0) rfl) rfl) (az D3 hr rfl aE (aa (pv 1) ae)) (aY _))))))),?_⟩
  obtain⟨dx,na,ta,la,lv,h1,h2,h3,h4,h5⟩:=id hc;refine⟨_,rfl,g,b,wv,m,al,l,i.leans,rfl,R,hl,_,rfl,?_⟩;refine aT (λhh=>?_) (λhh=>?_)
  ·have hh:(i.leans.all λn=>fH (b.item n))=false:=nt hh;have e:fk (b.todo i)=false:=by
    unfold Nb.Book.todo;cases ev:b.values i with
    |none=>rfl
    |some us=>have:=xh i.leans us ev;rw[hh] at this;cases this
   rw[e] at k;exact k H λ_ _ z=>z
  ·have hh:=nf hh;obtain⟨us,ev⟩:=A9 B i.leans hh;have et:fk (b.todo i)=(i.touched||(!iU i||match i.last with | some l=>!decide (l.values=us) | none=>true)):=by
    unfold Nb.Book.todo;have ev:b.values i=some us:=ev;rw[ev];unfold iU;cases el:i.last with
    |none=>simp[fk]
    |some l=>
     show fk (if i.touched=false/\l.text=i.text/\l.names=i.leans/\l.values=us then .kept l.came else .run us)=_;by_cases c1:i.touched=false
     ·by_cases c2:l.text=i.text
      ·by_cases c3:l.names=i.leans
       ·by_cases c4:l.values=us
        ·rw[if_pos ⟨c1,c2,c3,c4⟩];simp[c1,c2,c3,c4,fk]
        ·rw[if_neg λz=>c4 z.2.2.2];simp[c1,c2,c3,c4,fk]
       ·rw[if_neg λz=>c3 z.2.2.1];simp[c1,c2,c3,fk]
      ·rw[if_neg λz=>c2 z.2.1];simp[c1,c2,fk]
     ·rw[if_neg λz=>c1 z.1];simp[c1,fk]
   rw[et] at k;refine⟨_,rfl,a,C.cell,dx,_,_,rfl,h1,T.aH,T.j8,qh ..,_,rfl,?_⟩;refine aT (λc1=>?_) (λc1=>?_)
   ·rw[c1,yz] at k;exact k H λ_ _ z=>z
   ·rw[jL] at c1;rw[c1,uO] at k;refine⟨_,rfl,a,p,i,rfl,hc,_,rfl,_,rfl,?_⟩;refine aT (λc2=>?_) (λc2=>?_)
    ·rw[c2,yz] at k;exact k H λ_ _ z=>z
    ·rw[jL] at c2;rw[c2,uO] at k;have c2:iU i=true:=by simpa using c2
     unfold iU at c2;cases el:i.last with
     |none=>rw[el] at c2;cases c2
     |some lr=>rw[el] at h5 k;obtain⟨ra,rfl,dr,tr,qk,gr,vr,r1,r2,r3,r4,r5⟩:=h5;refine⟨_,rfl,a,C.cell,dx,_,_,rfl,h1,T.aH,T.fY,ig ..,ra,C.run,dr,_,_,rfl,r1,T.dR,T.wC,AH ..,_,rfl,g,b,wv,m,al,l,i.leans,us,rfl,R,hl,aS hlen (by decide),ev,λH' va sm iY=>?_⟩;exact⟨gr,va,_,_,rfl,rfl,cz.aB (C:=C) r4 (ai.aB sm),iY,k H' sm⟩
noncomputable abbrev HI:Stmt:=top 111
noncomputable def nextK(b:Nb.Book):Nat×Option Nat:=if b.anyOpen=false then (0,none) else match b.next with
 |none=>(3,none)
 |some p=>match b.at_ p with
  |none=>(3,none)
  |some i=>(if fk (b.todo i)=true then 1 else 2,some p)
noncomputable def Ba(g:Gh):Option Nat->V
 |none=>.ak
 |some p=>ov (g.cs[p]?).join
noncomputable def sf(n:Nat)(v:V):List (Str×V):=[("choice",.int (n:Int)),("cell",v)]
theorem oH(n:Nat)(v:V):(sf n v).lookup ("choice":Str)=some (.int (n:Int)):=by kernel_rfl
theorem mP(n:Nat)(v:V):(sf n v).lookup ("cell":Str)=some v:=by kernel_rfl
noncomputable def Bb(C:Cs):Sp:=λvs H Q _=>∃(g:Gh) (b:Nb.Book) (wv:V) (m al:Nat) (d:Addr) (H0:Hp),vs=[.ref g.ba,.ref d]/\Rep C H g b wv m al/\NB.BI b/\lB H0 H d g b/\
 ∀H' st dx,ai H H'->H st=none->H' st=some (.ins C.step dx (sf (nextK b).1 (Ba g (nextK b).2)))->Q (.ref st) H'
theorem SX(T:Tx K mg C)(F:aR K mg "next_step" HI ["book","sources"])(D1:Ok P w K mg base aq 1 "is_any_open" ["sources"] (oq C λb ts=>ts.any λn=>Nb.isOpen (b.item n)))(D2:Ok P w K mg base aq 2 "must_run" ["cell","sources"] (HH C))
 (D3:fj P w K mg base 1 "Step" C.step ["self","choice","cell"] (gR C.step 2 wY)):Ok P w K mg base aq 3 "next_step" ["book","sources"] (Bb C):=by
 have sc:=sk (P:=["book","sources"]) (st:=HI) ["book","sources","any_open","cell","choice"];refine F.ok sc (λvs H Q E h=>?_) (λf aD A outer s H vs Q E hr h=>?_)
 ·obtain⟨g,b,wv,m,al,d,H0,rfl,_⟩:=h;rfl
 ·obtain⟨g,b,wv,m,al,d,H0,rfl,R,B,⟨kvs,d1,d2,d3⟩,k⟩:=h;refine⟨_,af (aN (i:=2) sc.nd rfl (Or.inl rfl) cY) (af (cR PassesOwn.never rfl (dD (aj (pv 0) rfl)) (bQ (i:=3) sc.nd rfl (Or.inl rfl))
   (ah (aO (PW.pt (uY (cw (ft (pv 3))) (yF (bo b3 (aj (pv 3) rfl) (aM T.mK) (aY _)))))
    (af (aN (i:=2) sc.nd rfl (Or.inl rfl) cY)
    (ah (aO (gp (dU (az D1 (hr.mono (by decide)) rfl aE (aa (mq (cS hr) (pv 1) (aj (pv 3) rfl) (λ_ _=>rfl)) ae))))
     (af (aN (i:=4) sc.nd rfl (Or.inl rfl) (kI (dU (az D2 hr rfl aE (aa (pv 3) (aa (mq (cS hr) (pv 1) (aj (pv 3) rfl) (λ_ _=>rfl)) ae)))) (aM T.GK) (aM T.GL)))
     (ah (aC (ly D3 hr rfl (aa (pv 4) (aa (pv 3) ae)))))) aP))) aP)))
   (ah (aC (ly D3 hr rfl (aa (kI (dU (pv 2)) (aM T.Rm) (aM T.GJ)) (aa jV ae)))))),?_⟩
  refine⟨_,rfl,g.ba,C.book,g.bd,_,_,rfl,R.book,T.bx,T.fZ,gP ..,g.ca,rfl,⟨_,ax.of R.cells⟩,fQ (K:=K) (a:=g.ca) (xs:=g.cs.map ov) (λn σ H'=>H'=H/\(∃v3 v4:Option V,σ=[some (.ref g.ba),some (.ref d),some (.bl ((b.items.take n).any Nb.isOpen)),v3,v4])/\
   ∀q<n,∀j,b.items[q]?=some (some j)->¬(j.stands=.open_/\b.ready j=true)) ⟨rfl,⟨none,none,rfl⟩,λq hq=>absurd hq (qZ _)⟩ (λn σ H' _ ⟨e,_⟩=>by rw[e];exact ax.of R.cells) ?_ ?_⟩
  ·rintro n x σ H' hx ⟨rfl,⟨v3,v4,rfl⟩,hq⟩;obtain⟨c,hc,rfl⟩:=GW hx;refine⟨_,rfl,_,rfl,?_⟩;have aL:n<256:=by rw[<-R.len];exact(bh.mp hc).1
   cases c with
   |none=>
    have hn:=R.of_none hc;refine bJ (bJ ⟨rfl,⟨some .ak,v4,?_⟩,λq fR j hj=>?_⟩)
    ·rw[wI hn,show Nb.isOpen none=false from rfl,Bool.or_false];rfl
    ·rcases rj q n with z | z
     ·exact hq q z j hj
     ·have:q=n:=by omega
      subst this;rw[hn] at hj;cases hj
   |some a=>
    obtain⟨i,hi,aU⟩:=R.fF hc;obtain⟨dx,na,ta,la,lv,h1,h2,h3,h4,h5⟩:=id aU;refine bF ⟨_,rfl,a,C.cell,dx,_,_,rfl,h1,T.aH,T.c8,ed ..,rfl,_,rfl,?_⟩;refine aT (λhh=>?_) (λhh=>?_)
    ·have ho:i.stands=.open_:=cN.mp (bw hh);have xi:Nb.isOpen (some i)=true:=by show(i.stands==.open_)=true;rw[ho];rfl
     obtain⟨l,l1,l2,l3⟩:=d3 n i hi ho;have tM:b5 H' d (.int (n:Int)) (some (.ref l)):=by have:=b5.k (k:=Sum.inl (n:Int)) d1;rw[l1] at this;exact this
     refine⟨_,rfl,_,rfl,a,C.cell,dx,_,_,rfl,h1,T.aH,T.eG,fh ..,d,_,rfl,tM,g,b,wv,m,al,l,i.leans,rfl,R,l2,_,rfl,?_⟩;have er:(!(i.leans.any λn=>Nb.isOpen (b.item n)))=b.ready i:=by unfold Nb.Book.ready;rw[List.not_any_eq_all_not]
     have Bc:b.anyOpen=true:=by unfold Nb.Book.anyOpen;exact AI hi xi
     refine aT (λlC=>?_) (λlC=>?_)
     ·have lC:(!(i.leans.any λn=>Nb.isOpen (b.item n)))=true:=lC;rw[er] at lC;have gS:=NB.QA B.len hi ho lC hq;have ek:nextK b=(if fk (b.todo i)=true then 1 else 2,some n):=by unfold nextK;rw[if_neg (by rw[Bc];exact Bool.noConfusion),gS];show(match b.at_ n with | none=>_ | some i=>_)=_;rw[NB.bK hi]
      refine⟨_,rfl,_,rfl,_,rfl,a,C.cell,dx,_,_,rfl,h1,T.aH,T.eG,fh ..,d,_,rfl,tM,g,b,wv,m,al,a,l,n,i,rfl,R,aU,l2,B,B.leans hi,λH1 sm=>⟨_,rfl,?_⟩⟩;have fin:∀(z:Nat),z=(nextK b).1->∀x dx,H1 x=none->H1 dx=none->dx≠x->gR C.step 2 wY (.ref x::([.int (z:Int),.ref a]++[])) (upd (upd H1 dx (.own x)) x (.ins C.step dx [])) (λv H2=>v=.ak/\Q (.ref x) H2) E0:=by intro z hz x cG tN ir bG;refine⟨x,cG,[.int (z:Int),.ref a],rfl,rfl,ag,rfl,?_⟩;rw[bc];refine k _ x cG (sm.trans ((aG ir).trans (aG (by rw[aw bG.symm];exact tN)))) (sm.free tN) ?_;rw[ag,hz,ek];show _=some (HO.ins C.step cG (sf _ (ov (g.cs[n]?).join)));rw[hc];rfl
      refine aT (λhb=>?_) (λhb=>?_)
      ·exact⟨_,rfl,_,rfl,fin 1 (by rw[ek,if_pos hb])⟩
      ·exact⟨_,rfl,_,rfl,fin 2 (by rw[ek,if_neg hb])⟩
     ·have lC:¬(!(i.leans.any λn=>Nb.isOpen (b.item n)))=true:=lC;rw[er] at lC;refine⟨rfl,⟨some (.ref a),v4,?_⟩,λq fR j hj=>?_⟩
      ·rw[wI hi,xi,Bool.or_true];rfl
      ·rcases rj q n with z | z
       ·exact hq q z j hj
       ·have:q=n:=by omega
        subst this;rw[hi] at hj;cases hj;exact λz=>lC z.2
    ·have ho:¬i.stands=.open_:=λz=>hh (bp (cN.mpr z));have xi:Nb.isOpen (some i)=false:=dt.mpr ho;refine⟨rfl,⟨some (.ref a),v4,?_⟩,λq fR j hj=>?_⟩
     ·rw[wI hi,xi,Bool.or_false];rfl
     ·rcases rj q n with z | z
      ·exact hq q z j hj
      ·have:q=n:=by omega
       subst this;rw[hi] at hj;cases hj;exact λz=>ho z.1
  ·rintro σ H' ⟨rfl,⟨v3,v4,rfl⟩,hq⟩;rw[aF,R.len] at hq;have ea:(b.items.take (List.map ov g.cs).length).any Nb.isOpen=b.anyOpen:=by rw[aF,R.len,<-B.len,cA];rfl
   rw[ea];have SY:b.next=none:=NB.FX.mpr λp hp i hi=>hq p hp i hi;have fin:∀(z:Nat),(z,none)=nextK b->∀x dx,H' x=none->H' dx=none->dx≠x->gR C.step 2 wY (.ref x::([.int (z:Int),.ak]++[])) (upd (upd H' dx (.own x)) x (.ins C.step dx [])) (λv H2=>v=.ak/\Q (.ref x) H2) E0:=by intro z hz x cG tN ir bG;refine⟨x,cG,[.int (z:Int),.ak],rfl,rfl,ag,rfl,?_⟩;rw[bc];refine k _ x cG ((aG ir).trans (aG (by rw[aw bG.symm];exact tN))) tN ?_;rw[ag,<-hz];rfl
   refine⟨_,rfl,_,rfl,?_⟩;refine aT (λhb=>?_) (λhb=>?_)
   ·refine fin 3 ?_;unfold nextK;rw[if_neg (by rw[hb];exact Bool.noConfusion),SY]
   ·refine fin 0 ?_;unfold nextK;rw[if_pos (by simpa using hb)]
noncomputable abbrev S1:Stmt:=top 112
noncomputable def Bd(C:Cs):Sp:=λvs H Q _=>∃(a:Addr) (p:Nat) (i:Item) (l:Last),vs=[.ref a]/\bt C H a p i/\i.last=some l/\Nb.cameOk l.came=true/\∀H',aW (·=a) H H'->bt C H' a p {i with stands:=Nb.standsBy l.came}->Q .ak H'
theorem Be(T:Tx K mg C){H:Hp}{a dx na ta la:Addr}{lv:V}{p:Nat}{i:Item}{st:Stands}(h1:H a=some (.ins C.cell dx (cf p (.ref na) (.ref ta) (.ref la) lv i.touched i.stands.num)))(h2:ay H na i.name)(h3:ay H ta i.text)(h4:cz H la i.leans)(h5:mG C H lv i.last) :
 bt C (upd H a (.ins C.cell dx (bM "stands" (.int (st.num:Int)) (cf p (.ref na) (.ref ta) (.ref la) lv i.touched i.stands.num)))) a p {i with stands:=st}:=by
 have aB:cq C H (upd H a (.ins C.cell dx (bM "stands" (.int (st.num:Int)) (cf p (.ref na) (.ref ta) (.ref la) lv i.touched i.stands.num)))):=oB T h1;have ep:bM "stands" (.int (st.num:Int)) (cf p (.ref na) (.ref ta) (.ref la) lv i.touched i.stands.num)=cf p (.ref na) (.ref ta) (.ref la) lv i.touched st.num:=by kernel_rfl
 refine⟨dx,na,ta,la,lv,?_,ay.aB h2 aB,ay.aB h3 aB,h4.aB aB,h5.aB aB⟩;rw[ag,ep]
theorem S6(T:Tx K mg C)(F:aR K mg "stand_by_last_run" S1 ["cell"]):Ok P w K mg base aq 1 "stand_by_last_run" ["cell"] (Bd C):=by
 refine F.ok (sk ["cell"]) (λvs H Q E h=>?_) (λf aD A outer s H vs Q E hr h=>?_)
 ·obtain⟨a,p,i,l,rfl,_⟩:=h;rfl
 ·obtain⟨a,p,i,l,rfl,hc,hl,ao,k⟩:=h;refine⟨_,ah (bI (pv 0) (kI (bo b3 (aj (aj (pv 0) rfl) rfl) aK (aY _)) (aM T.oj) (aM T.sX)) rfl),?_⟩;obtain⟨dx,na,ta,la,lv,h1,h2,h3,h4,h5⟩:=id hc;have S7:=h5;rw[hl] at h5;obtain⟨ra,rfl,dr,tr,lr,gr,vr,r1,r2,r3,r4,r5⟩:=h5;refine⟨_,rfl,a,C.cell,dx,_,_,rfl,h1,T.aH,T.fY,ig ..,ra,C.run,dr,_,_,rfl,r1,T.dR,T.oh,qi ..,rfl,_,rfl,?_⟩;have fin:∀st:Stands,st=Nb.standsBy l.came->Q .ak (upd H a (.ins C.cell dx (bM "stands" (.int (st.num:Int)) (cf p (.ref na) (.ref ta) (.ref la) (.ref ra) i.touched i.stands.num)))):=λst e=>by refine k _ (dF rfl) ?_;rw[<-e];exact Be T h1 h2 h3 h4 S7
  refine aT (λhh=>?_) (λhh=>?_)
  ·have hh:V.int (cn l.came:Int)=V.int 0:=bw hh;have hh:=V.int.inj hh;refine⟨_,rfl,a,C.cell,dx,_,rfl,h1,T.aH,T.c8,(by show 7<1000;decide),fin .good ?_⟩;cases e:l.came with
   |value v=>rfl
   |bad n=>rw[e] at hh ao;have hh:(n:Int)=0:=hh;have ao:(decide (n≠0)&&decide (n<Nb.W32))=true:=ao;rw[bq] at ao;exact absurd (by omega) (bw ao.1)
  ·have hh:¬V.int (cn l.came:Int)=V.int 0:=λz=>hh (bp z);refine⟨_,rfl,a,C.cell,dx,_,rfl,h1,T.aH,T.c8,(by show 7<1000;decide),fin .bad ?_⟩;cases e:l.came with
   |value v=>rw[e] at hh;exact absurd rfl hh
   |bad n=>rfl
noncomputable abbrev S8:Stmt:=top 113
noncomputable def iZ:Nb.Todo->Stands
 |.stuck=>.stuck
 |.kept c=>Nb.standsBy c
 |.run _=>.open_
noncomputable def HJ(C:Cs):Sp:=λvs H Q _=>∃(g:Gh) (b:Nb.Book) (wv:V) (m al:Nat) (a l:Addr) (p:Nat) (i:Item),vs=[.ref a,.ref l]/\Rep C H g b wv m al/\NB.BI b/\b.items[p]?=some (some i)/\bt C H a p i/\H l=some (.lst (bV g b i.leans))/\fk (b.todo i)=false/\
 ∀H',aW (·=a) H H'->bt C H' a p {i with stands:=iZ (b.todo i)}->Q .ak H'
theorem S9(T:Tx K mg C)(F:aR K mg "take_without_run" S8 ["cell","sources"])(D1:Ok P w K mg base aq 1 "are_good" ["sources"] (oq C λb ts=>ts.all λn=>fH (b.item n)))(D2:Ok P w K mg base aq 1 "stand_by_last_run" ["cell"] (Bd C)):Ok P w K mg base aq 2 "take_without_run" ["cell","sources"] (HJ C):=by
 refine F.ok (sk ["cell","sources"]) (λvs H Q E h=>?_) (λf aD A outer s H vs Q E hr h=>?_)
 ·obtain⟨g,b,wv,m,al,a,l,p,i,rfl,_⟩:=h;rfl
 ·obtain⟨g,b,wv,m,al,a,l,p,i,rfl,R,B,hi,hc,hl,HK,k⟩:=h;refine⟨_,ah (aO (dU (az D1 hr rfl aE (aa (pv 1) ae))) (ah (cb (az D2 hr rfl aE (aa (pv 0) ae)))) (ah (bI (pv 0) (aM T.om) rfl))),?_⟩;refine⟨_,rfl,g,b,wv,m,al,l,i.leans,rfl,R,hl,_,rfl,?_⟩;refine aT (λhh=>?_) (λhh=>?_)
  ·have hh:(i.leans.all λn=>fH (b.item n))=true:=hh;obtain⟨us,ev⟩:=A9 B i.leans hh;obtain⟨c,ht⟩:∃c,b.todo i=.kept c:=by
    cases e:b.todo i with
    |stuck=>
     exfalso;unfold Nb.Book.todo at e;have ev:b.values i=some us:=ev;rw[ev] at e;cases e2:i.last with
     |none=>rw[e2] at e;cases e
     |some l=>rw[e2] at e;have e:(if i.touched=false/\l.text=i.text/\l.names=i.leans/\l.values=us then Nb.Todo.kept l.came else .run us)=.stuck:=e;split at e<;>cases e
    |kept c=>exact⟨c,rfl⟩
    |run v=>rw[e] at HK;cases HK
   obtain⟨v,l',e1,e2,e3,e4,e5,e6,e7⟩:=NB.FY ht;have qw:=(NB.p7 ((NB.d8 (B.ok p i hi).1).2.2.2.1 l' e2)).2.2.2.2;refine⟨_,rfl,a,p,i,l',rfl,hc,e2,qw,λH' kp eD=>k H' kp ?_⟩;rw[ht,<-e7];exact eD
  ·have hh:¬(i.leans.all λn=>fH (b.item n))=true:=hh;have ht:b.todo i=.stuck:=by
    unfold Nb.Book.todo;cases ev:b.values i with
    |none=>rfl
    |some us=>exact absurd (xh i.leans us ev) hh
   obtain⟨dx,na,ta,la,lv,h1,h2,h3,h4,h5⟩:=id hc;refine⟨_,rfl,a,C.cell,dx,_,rfl,h1,T.aH,T.c8,(by show 7<1000;decide),k _ (dF rfl) ?_⟩;rw[ht];exact Be (st:=.stuck) T h1 h2 h3 h4 h5
end
theorem Bf{H:Hp}{a:Addr}{o:HO}(h:H a=some o):upd H a o=H:=by
 funext b;by_cases e:b=a
 ·rw[e,ag,h]
 ·rw[aw e]
theorem Rep.Ta{C:Cs}{H:Hp}{g:Gh}{b:Nb.Book}{wv:V}{m al:Nat}(R:Rep C H g b wv m al):Paired (λa (x:Item×Nat)=>g.cs[x.2]?=some (some a)/\bt C H a x.2 x.1) (g.cs.filterMap id) (Nb.placed b):=by refine AU (Paired.len R.placed) λq a x h1 h2=>?_;obtain⟨y,e,hc⟩:=Paired.get R.placed h1;rw[h2] at e;cases e;refine⟨?_,hc⟩;obtain⟨o,ho,e⟩:=pq.mp (cE h1);have e:o=some a:=e;subst e;obtain⟨r,hr⟩:=fN.mp ho;obtain⟨i,_,eD⟩:=R.fF hr;rw[bt.place hc eD];exact hr
section
variable {P:Program}{w:World}{K:PySem.W.Frag}{mg:Str->Option Value}{base:Heap}{C:Cs}
noncomputable abbrev HL:Stmt:=top 114
noncomputable def HM(C:Cs):Sp:=λvs H Q _=>∃(g:Gh) (b:Nb.Book) (wv:V) (m al:Nat),vs=[.ref g.ba]/\Rep C H g b wv m al/\
 ∀H' l as,aW (λx=>some x∈g.cs) H H'->Rep C H' g b.rings wv m al->H l=none->H' l=some (.lst (as.map V.ref))->Paired (λa p=>g.cs[p]?=some (some a)) as (Nb.openPlaces b)->Q (.ref l) H'
theorem Tc(T:Tx K mg C)(F:aR K mg "stick_open_cells" HL ["book"])(D1:Ok P w K mg base aq 1 "cells_of" ["book"] (ka C)):Ok P w K mg base aq 2 "stick_open_cells" ["book"] (HM C):=by
 have sc:=sk (P:=["book"]) (st:=HL) ["book","stuck","cell"];refine F.ok sc (λvs H Q E h=>?_) (λf aD A outer s H vs Q E hr h=>?_)
 ·obtain⟨g,b,wv,m,al,rfl,_⟩:=h;rfl
 ·obtain⟨g,b,wv,m,al,rfl,R,k⟩:=h;refine⟨_,af (pR (i:=1) (own:=[("cell",2)]) (tt:=l9 (iF ny (dO K (bU 2) "stands") (tC (.int 0)))) (te:=bU 2) rfl sc.nd rfl rfl rfl (dD (az D1 hr rfl aE (aa (pv 0) ae))) (gq (by kernel_rfl)) (λs H C cl fp=>bQ (i:=2) sc.nd rfl (Or.inl rfl)) (λs H C cl fp=>vy (bo b3 (aj (pv 2) rfl) (aM T.mK) (aY _))) (λs H C cl fp=>pv 2))
   (af (cR PassesOwn.never rfl (dD (pv 1)) (bQ (i:=2) sc.nd rfl (Or.inl rfl)) (ah (bI (pv 2) (aM T.om) rfl))) (ah (aC (pv 1)))),?_⟩
  refine⟨_,rfl,g,g.bd,b,wv,m,al,rfl,R,λl hl=>?_⟩;have s1:ai H (upd H l (.lst ((g.cs.filterMap id).map V.ref))):=aG hl;generalize kj:upd H l (.lst ((g.cs.filterMap id).map V.ref))=H1 at s1;have cO:H1 l=some (.lst ((g.cs.filterMap id).map V.ref)):=by rw[<-kj];exact ag
  have R1:=R.same s1;refine⟨l,rfl,⟨_,ax.of cO⟩,λD hD=>?_⟩;have pl:=R1.Ta;have oG:∀n:Nat,((((Nb.placed b).take n).filter λx=>x.1.stands==.open_).map (·.2)).length<sizeLine:=λn=>by
   rw[aF];have h1:=pk (λx:Item×Nat=>x.1.stands==.open_) ((Nb.placed b).take n);have h2:((Nb.placed b).take n).length<=(Nb.placed b).length:=by rw[eU];exact jK _ _
   have h3:=NB.fV b;rw[R.dG] at h3;exact dC (aS h1 (aS h2 h3)) (by decide)
  refine mj (K:=K) (a:=l) (xs:=(g.cs.filterMap id).map V.ref) (λn H'=>∃as:List Addr,H'=upd H1 D (.lst (as.map V.ref))/\Paired (λa p=>g.cs[p]?=some (some a)) as ((((Nb.placed b).take n).filter λx=>x.1.stands==.open_).map (·.2))) ⟨[],rfl,.nil⟩ (λn H' _ ⟨as,e,_⟩=>by rw[e];exact ax.of (by rw[aw (bj cO hD)];exact cO)) ?_ ?_
  ·rintro n x H' hx ⟨as,rfl,hp⟩;obtain⟨a,ha,rfl⟩:=dH hx;obtain⟨⟨i,p⟩,hi,aZ,dx,na,ta,la,lv,h1,h2,h3,h4,h5⟩:=Paired.get pl ha;refine⟨rfl,_,rfl,a,C.cell,dx,_,_,rfl,by rw[aw (bj h1 hD)];exact h1,T.aH,T.c8,ed ..,rfl,_,rfl,?_⟩;refine aT (λhh=>?_) (λhh=>?_)
   ·have ho:i.stands=.open_:=cN.mp (bw hh);refine⟨_,rfl,_,ag,by rw[aF,Paired.len hp];exact oG n,as++[a],?_,?_⟩
    ·rw[bc,bW];rfl
    ·rw[take_snoc hi,uG,bW];refine Paired.append hp ?_;rw[eK,if_pos (by show(i.stands==.open_)=true;rw[ho];rfl)];exact .cons aZ .nil
   ·have ho:¬i.stands=.open_:=λz=>hh (bp (cN.mpr z));refine⟨as,rfl,?_⟩;rw[take_snoc hi,uG,bW];rw[eK,if_neg (by show ¬(i.stands==.open_)=true;rw[dt.mpr ho];exact Bool.noConfusion)];rw[C7,rk,ez];exact hp
  ·rintro H' ⟨as,rfl,hp⟩;have eN:((g.cs.filterMap id).map V.ref).length=(Nb.placed b).length:=by rw[aF,Paired.len pl]
   rw[eN,cA,<-NB.QE R.dG] at hp;have s2:ai H1 (upd H1 D (.lst (as.map V.ref))):=aG hD;have sH:=s1.trans s2;generalize qx:upd H1 D (.lst (as.map V.ref))=H2 at s2 sH;have jE:H2 D=some (.lst (as.map V.ref)):=by rw[<-qx];exact ag
   have nD:∀x,some x∈g.cs->D≠x:=λx hx z=>by subst z;obtain⟨q,hq⟩:=fN.mp hx;obtain⟨i,_,dx,na,ta,la,lv,h1,_⟩:=(R.same sH).fF hq;rw[jE] at h1;cases h1
   refine⟨_,rfl,D,rfl,⟨_,ax.of jE⟩,fQ (K:=K) (a:=D) (xs:=as.map V.ref) (λn σ H'=>(∃v2:Option V,σ=[some (.ref g.ba),some (.ref D),v2])/\H' D=some (.lst (as.map V.ref))/\aW (λx=>some x∈g.cs) H H'/\Rep C H' g (((Nb.openPlaces b).take n).foldl (λc p=>c.stand p .stuck) b) wv m al)
    ⟨⟨_,rfl⟩,jE,ai.keep sH,R.same sH⟩ (λn σ H' _ ⟨_,e,_⟩=>ax.of e) ?_ ?_⟩
   ·rintro n x σ H' hx ⟨⟨v2,rfl⟩,tO,kp,Rn⟩;obtain⟨a,ha,rfl⟩:=dH hx;obtain⟨p,jw,aZ⟩:=Paired.get hp ha;obtain⟨j,hj,aU⟩:=Rn.fF aZ;obtain⟨dx,na,ta,la,lv,h1,h2,h3,h4,h5⟩:=id aU;have mem:some a∈g.cs:=cE aZ;have tK:aW (·=a) H' (upd H' a (.ins C.cell dx (bM "stands" (.int 3) (cf p (.ref na) (.ref ta) (.ref la) lv j.touched j.stands.num)))):=dF rfl;refine⟨_,rfl,a,C.cell,dx,_,rfl,h1,T.aH,T.c8,(by show 7<1000;decide),⟨_,rfl⟩,?_,kp.trans (tK.mono λz hz=>by rw[hz];exact mem),?_⟩
    ·rw[aw (nD a mem)];exact tO
    ·rw[take_snoc jw,List.foldl_append];show Rep C _ g (Nb.Book.stand _ p .stuck) wv m al;rw[NB.mD hj];exact Rn.change T hj aZ tK (Be (st:=.stuck) T h1 h2 h3 h4 h5) rfl
   ·rintro σ H' ⟨⟨v2,rfl⟩,tO,kp,Rn⟩;rw[aF,Paired.len hp,cA,NB.QH R.dG] at Rn;exact⟨_,rfl,k H' D as kp Rn (s1.free hD) tO hp⟩
noncomputable abbrev HN:Stmt:=top 115
noncomputable def jF(g:Gh)(b:Nb.Book)(as:List Addr)(ls:List (Nat×Nat)):Prop:=Paired (λ(a:Addr) (x:Nat×Nat)=>g.cs[x.1]?=some (some a)/\∃i,b.items[x.1]?=some (some i)/\i.stands.num=x.2/\i.stands≠.open_) as ls
noncomputable def iu(x:Nat×Nat):List Int:=[(x.1:Int),(x.2:Int)]
noncomputable def HP(C:Cs):Sp:=λvs H Q _=>∃(g:Gh) (b:Nb.Book) (wv:V) (m al z:Nat) (lk:Addr) (as:List Addr) (ls:List (Nat×Nat)),vs=[.int (z:Int),.ref g.ba,.ref lk]/\Rep C H g b wv m al/\H lk=some (.lst (as.map V.ref))/\jF g b as ls/\ls.length<=1000000/\
 ∀l,H l=none->Q (.ref l) (upd H l (.lst (([(z:Int),(m:Int),(ls.length:Int)]++ls.flatMap iu).map V.int)))
theorem HQ(ls:List (Nat×Nat)):(ls.flatMap iu).length=2*ls.length:=by
 induction ls with
 |nil=>rfl
 |cons a r ih=>rw[kz,aX,ih,cu];show 2+_=_;omega
theorem Td(T:Tx K mg C)(F:aR K mg "report" HN ["answer","book","looked"]):Ok P w K mg base aq 1 "report" ["answer","book","looked"] (HP C):=by
 have sc:=sk (P:=["answer","book","looked"]) (st:=HN) ["answer","book","looked","told","cell"];refine F.ok sc (λvs H Q E h=>?_) (λf aD A outer s H vs Q E hr h=>?_)
 ·obtain⟨g,b,wv,m,al,z,lk,as,ls,rfl,_⟩:=h;rfl
 ·obtain⟨g,b,wv,m,al,z,lk,as,ls,rfl,R,eS,hL,hlen,k⟩:=h;refine⟨_,af (aN (i:=3) sc.nd rfl (Or.inl rfl) (br (aa (pv 0) (aa (aj (pv 1) rfl) (aa (dv dE rfl T.dA dN (aa (pv 2) ae)) ae)))))
   (af (cR PassesOwn.never rfl (dD (pv 2)) (bQ (i:=4) sc.nd rfl (Or.inl rfl))
    (af (cb (cZ di gC gB fT (pv 3) (aa (aj (pv 4) rfl) ae)))
    (ah (cb (cZ di gC gB fT (pv 3) (aa (aj (pv 4) rfl) ae))))))
   (ah (aC (pv 3)))),?_⟩
  refine⟨_,rfl,_,rfl,g.ba,C.book,g.bd,_,_,rfl,R.book,T.bx,T.sU,AG ..,_,rfl,lk,_,rfl,.inl (ax.of eS),(by show 3<=sizeLine;decide),λl hl=>?_⟩;have el:((as.map V.ref).length:Int)=(ls.length:Int):=by rw[aF,Paired.len hL]
  rw[el];have s1:∀{o:HO},ai H (upd H l o):=aG hl;refine⟨_,rfl,lk,rfl,⟨_,ax.of (s1 _ _ eS)⟩,fQ (K:=K) (a:=lk) (xs:=as.map V.ref) (λn σ H'=>(∃v4:Option V,σ=[some (.int (z:Int)),some (.ref g.ba),some (.ref lk),some (.ref l),v4])/\H'=upd H l (.lst (([(z:Int),(m:Int),(ls.length:Int)]++(ls.take n).flatMap iu).map V.int)))
   ⟨⟨none,rfl⟩,rfl⟩ (λn σ H' _ ⟨_,e⟩=>by rw[e];exact ax.of (s1 _ _ eS)) ?_ ?_⟩
  ·rintro n x σ H' hx ⟨⟨v4,rfl⟩,rfl⟩;obtain⟨a,ha,rfl⟩:=dH hx;obtain⟨⟨p,q⟩,kg,aZ,i,hi,bS,_⟩:=Paired.get hL ha;have bS:i.stands.num=q:=bS;obtain⟨i',gT,dx,na,ta,la,lv,h1,h2,h3,h4,h5⟩:=R.fF aZ;have hi:b.items[p]?=some (some i):=hi;rw[hi] at gT;cases gT;have Bg:∀t:Nat,((ls.take t).flatMap iu).length<=2000000:=λt=>by rw[HQ,eU];have:=jK t ls.length;omega
   have zF:((([(z:Int),(m:Int),(ls.length:Int)]++(ls.take n).flatMap iu).map V.int).length<2000010):=by rw[aF,aX];have:=Bg n;show 3+_ < _;omega
   refine⟨_,rfl,.inl ⟨rfl,_,ax.of ag⟩,_,rfl,a,C.cell,dx,_,_,rfl,s1 _ _ h1,T.aH,T.eG,fh ..,l,_,_,rfl,rfl,ag,yw zF (by decide),?_⟩;rw[bc];refine⟨_,rfl,.inl ⟨rfl,_,ax.of ag⟩,_,rfl,a,C.cell,dx,_,_,rfl,s1 _ _ h1,T.aH,T.c8,ed ..,l,_,_,rfl,rfl,ag,?_,⟨_,rfl⟩,?_⟩
   ·rw[aX];exact yw (Nat.add_lt_add_right zF 1) (by decide)
   ·rw[bc,bS,lu kg];congr 2;rw[<-cK,bW (l₂:=iu (p,q))];rw[cK];rfl
  ·rintro σ H' ⟨⟨v4,rfl⟩,rfl⟩;rw[aF,Paired.len hL,cA];exact⟨_,rfl,k l hl⟩
noncomputable abbrev HR:Stmt:=top 116
noncomputable def HS(C:Cs):Sp:=λvs H Q _=>∃(g:Gh) (b:Nb.Book) (wv:V) (m al:Nat) (a l:Addr) (p:Nat) (i:Item) (us:List Text),vs=[.ref a,.ref l]/\Rep C H g b wv m al/\bt C H a p i/\H l=some (.lst (bV g b i.leans))/\ot b i.leans=some us/\i.leans.length<=8/\i.name.length<=1000000/\i.text.length<=1000000/\(∀u∈us,u.length<=1000000)/\
 ∀H' r,ai H H'->H r=none->LstAt H' r (NbNeutral.sized i.name++(NbNeutral.sized i.text++us.flatMap NbNeutral.sized))->Q (.ref r) H'
theorem HU(t:Text):(NbNeutral.sized t).map V.int=.int (t.length:Int)::bv t:=by unfold NbNeutral.sized NbNeutral.bytesOf bv;rw[bX,pz];rfl
theorem tP(t:Text):(NbNeutral.sized t).length=t.length+1:=by unfold NbNeutral.sized NbNeutral.bytesOf;rw[cu,aF]
theorem Bh{ts:List Text}{n k:Nat}(h:∀t∈ts,t.length<=n)(hk:ts.length<=k):(ts.flatMap NbNeutral.sized).length<=k*(n+1):=by
 have:(ts.flatMap NbNeutral.sized).length<=ts.length*(n+1):=by
  clear hk;induction ts with
  |nil=>exact bY _
  |cons a r ih=>rw[kz,aX,tP,cu,Nat.succ_mul];have h1:=h a (bP ..);have h2:=ih λt ht=>h t (bO _ ht);omega
 exact aS this (LC _ hk)
theorem Te(T:Tx K mg C)(F:aR K mg "wanted" HR ["cell","sources"]):Ok P w K mg base aq 1 "wanted" ["cell","sources"] (HS C):=by
 have sc:=sk (P:=["cell","sources"]) (st:=HR) ["cell","sources","told","text","source"];refine F.ok sc (λvs H Q E h=>?_) (λf aD A outer s H vs Q E hr h=>?_)
 ·obtain⟨g,b,wv,m,al,a,l,p,i,us,rfl,_⟩:=h;rfl
 ·obtain⟨g,b,wv,m,al,a,l,p,i,us,rfl,R,hc,hl,hv,hle,hn,ht,kZ,k⟩:=h;refine⟨_,af (aN (i:=2) sc.nd rfl (Or.inl rfl) (br ae))
   (af (cR PassesOwn.never rfl (dD (cB ff (br (aa (aj (pv 0) rfl) (aa (aj (pv 0) rfl) ae))) (nM (te:=dO K (dO K (bU 4) "last") "value") (own:=[("source",4)]) rfl sc.nd (dD (pv 1)) (gq (by kernel_rfl)) (λs H C cl fp=>bQ (i:=4) sc.nd rfl (Or.inl rfl)) (λs H C cl fp=>jm)
   (λs H C cl fp=>aj (aj (pv 4) rfl) rfl)))) (bQ (i:=3) sc.nd rfl (Or.inl rfl))
    (af (cb (cZ di gC gB fT (pv 2) (aa (dv dE rfl T.dA dN (aa (pv 3) ae)) ae)))
    (ah (cb (cZ di m4 ph Fx (pv 2) (aa (pv 3) ae))))))
   (ah (aC (pv 2)))),?_⟩
  obtain⟨dx,na,ta,la,lv,h1,h2,h3,h4,h5⟩:=id hc;refine⟨bY _,λr qy=>?_⟩;have s0:ai H (upd H r (.lst [])):=aG qy;refine⟨_,rfl,a,C.cell,dx,_,_,rfl,s0 _ _ h1,T.aH,T.jy,ke ..,_,rfl,a,C.cell,dx,_,_,rfl,s0 _ _ h1,T.aH,T.mI,qg ..,(by show 2<=sizeLine;decide),λq hq=>?_⟩;have s1:ai (upd H r (.lst [])) (upd (upd H r (.lst [])) q (.lst [.ref na,.ref ta])):=aG hq;generalize Tf:upd (upd H r (.lst [])) q (.lst [.ref na,.ref ta])=T1 at s1;have q1:T1 q=some (.lst [.ref na,.ref ta]):=by rw[<-Tf];exact ag
  have Bi:=s0.trans s1;have pr:=wJ hv;have R1:=R.same Bi;have l1:=Bi _ _ hl;refine⟨_,rfl,l,rfl,⟨_,ax.of l1⟩,λD hD=>?_⟩;refine mj (K:=K) (a:=l) (xs:=bV g b i.leans) (λn H'=>∃as:List Addr,H'=upd T1 D (.lst (as.map V.ref))/\Paired (λa t=>ay T1 a t) as (us.take n)) ⟨[],rfl,.nil⟩ (λn H' _ ⟨as,e,_⟩=>by rw[e];exact ax.of (by rw[aw (bj l1 hD)];exact l1)) ?_ ?_
  ·rintro n x H' hx ⟨as,rfl,hp⟩;obtain⟨t,lD,rfl⟩:=qj hx;obtain⟨u,hu,ij⟩:=Paired.get pr lD;cases e:b.item t with
   |none=>rw[e] at ij;cases ij
   |some i2=>
    rw[e] at ij;have ij:i2.value=some u:=ij;obtain⟨hg,lr,kf,qr⟩:=wK ij;obtain⟨a2,p2,e1,e2,e3,oI,lz,HV,Bj,HW,g1,g2,g3,g4,g5⟩:=R1.GX e;rw[kf] at g5;obtain⟨ra,rfl,dr,tr,qk,gr,vr,r1,r2,r3,r4,r5⟩:=g5;have AK:ay T1 vr u:=by rw[qr] at r5;exact r5
    rw[e1];refine⟨rfl,yes ?_⟩;refine⟨_,rfl,a2,C.cell,oI,_,_,rfl,by rw[aw (bj g1 hD)];exact g1,T.aH,T.fY,ig ..,ra,C.run,dr,_,_,rfl,by rw[aw (bj r1 hD)];exact r1,T.dR,T.qc,tf ..,_,ag,?_,as++[vr],?_,?_⟩
    ·rw[aF,Paired.len hp];have h2:(us.take n).length<=i.leans.length:=by rw[eU,Paired.len pr];exact jK _ _
     exact dC (aS h2 hle) (by decide)
    ·rw[bc,bW];rfl
    ·rw[take_snoc hu];exact Paired.append hp (.cons AK .nil)
  ·rintro H' ⟨as,rfl,hp⟩;have e1:(bV g b i.leans).length=us.length:=by rw[<-Paired.len pr];exact aF ..
   rw[e1,cA] at hp;have s2:ai T1 (upd T1 D (.lst (as.map V.ref))):=aG hD;generalize Tg:upd T1 D (.lst (as.map V.ref))=T2 at s2;have d2:T2 D=some (.lst (as.map V.ref)):=by rw[<-Tg];exact ag
   have Th:us.length<=8:=by rw[<-Paired.len pr];exact hle
   refine⟨q,D,_,_,rfl,rfl,s2 _ _ q1,d2,?_,λp3 kl=>?_⟩
   ·rw[aF,Paired.len hp];show 2+us.length<=sizeLine;exact aS (Nat.add_le_add_left Th 2) (by decide)
   have s3:ai T2 (upd T2 p3 (.lst ([.ref na,.ref ta]++as.map V.ref))):=aG kl;generalize Ti:upd T2 p3 (.lst ([.ref na,.ref ta]++as.map V.ref))=T3 at s3;have Bk:T3 p3=some (.lst ((na::ta::as).map V.ref)):=by rw[<-Ti];exact ag
   have sA:=s2.trans s3;have oJ:=Bi.trans sA;have HX:T3 r=some (.lst []):=sA _ _ (s1 _ _ ag);have np:p3≠r:=λz=>by subst z;rw[(s1.trans s2) p3 _ ag] at kl;cases kl
   have xj:Paired (λa t=>ay T3 a t) (na::ta::as) (i.name::i.text::us):=.cons (oJ _ _ h2) (.cons (oJ _ _ h3) (Paired.cW hp λ_ _ z=>sA _ _ z));have HY:∀t∈i.name::i.text::us,t.length<=1000000:=λt lD=>by
    rcases bL.mp lD with z | z
    ·rw[z];exact hn
    ·rcases bL.mp z with z | z
     ·rw[z];exact ht
     ·exact kZ t z
   generalize HZ:i.name::i.text::us=ts at xj HY;generalize ZR:na::ta::as=Tj at xj Bk;have Tn:ts.length<=10:=by rw[<-HZ];show us.length+1+1<=10;omega
   have Bg:(ts.flatMap NbNeutral.sized).length<=10*1000001:=Bh HY Tn;have sR:∀{o:HO} {c:Addr} {u:HO},T3 c=some u->c≠r->(upd T3 r o) c=some u:=λe z=>by rw[aw z];exact e
   have To:∀{c:Addr} {t:Text},ay T3 c t->c≠r:=λe=>b9 e HX (λz=>nomatch z);refine⟨p3,rfl,⟨_,ax.of Bk⟩,fQ (K:=K) (a:=p3) (xs:=Tj.map V.ref) (λn σ H'=>(∃v3 v4:Option V,σ=[some (.ref a),some (.ref l),some (.ref r),v3,v4])/\H'=upd T3 r (.lst (((ts.take n).flatMap NbNeutral.sized).map V.int)))
    ⟨⟨_,_,rfl⟩,(Bf HX).symm⟩ (λn σ H' _ ⟨_,e⟩=>by rw[e];exact ax.of (sR Bk np)) ?_ ?_⟩
   ·rintro n x σ H' hx ⟨⟨v3,v4,rfl⟩,rfl⟩;obtain⟨c,eD,rfl⟩:=dH hx;obtain⟨t,lD,b8⟩:=Paired.get xj eD;have b8:ay T3 c t:=b8;have Ia:=To b8;have fl:((ts.take (n+1)).flatMap NbNeutral.sized)=((ts.take n).flatMap NbNeutral.sized)++NbNeutral.sized t:=lu lD;have Tp:((ts.take n).flatMap NbNeutral.sized).length+(t.length+1)<=10*1000001:=by have h6:=ow (f:=NbNeutral.sized) (l:=ts) (n+1);rw[fl,aX,tP] at h6;omega
    refine⟨_,rfl,.inl ⟨rfl,_,ax.of ag⟩,_,rfl,c,_,rfl,.inr (aQ.of (sR b8 Ia)),r,_,_,rfl,rfl,ag,by rw[aF];exact eh (by omega:_<10*1000001) (by decide),?_⟩;rw[bc];refine⟨_,rfl,.inl ⟨rfl,_,ax.of ag⟩,_,rfl,r,c,_,_,rfl,rfl,ag,aQ.of (sR b8 Ia),?_,⟨_,_,rfl⟩,?_⟩
    ·rw[aX,aF,bH];show _+1+_<=sizeLine;exact aS (by omega:_<=10*1000001) (by decide)
    ·rw[bc,fl,bW,HU,bH,cK];rfl
   ·rintro σ H' ⟨⟨v3,v4,rfl⟩,rfl⟩;rw[aF,Paired.len xj,cA];refine⟨_,rfl,k _ r (λc o e=>?_) qy ?_⟩
    ·rw[aw (bj e qy)];exact oJ _ _ e
    ·show(upd T3 r _) r=_;rw[ag,<-HZ];rfl
end
theorem Tq{g:Gh}{b c:Nb.Book}(h:NB.dn c=NB.dn b)(t:Text):src g c t=src g b t:=by unfold src;rw[NB.sr h]
theorem Tr{g:Gh}{b c:Nb.Book}(h:NB.dn c=NB.dn b)(ts:List Text):bV g c ts=bV g b ts:=by unfold bV;exact qT λt _=>by rw[Tq h]
theorem lB.step{H0 H H':Hp}{d:Addr}{g:Gh}{b c:Nb.Book}{W:Addr->Prop}(S:lB H0 H d g b)(hn:NB.dn c=NB.dn b)(hi:∀(p:Nat) (i:Item),c.items[p]?=some (some i)->i.stands=.open_->∃j,b.items[p]?=some (some j)/\j.stands=.open_/\j.leans=i.leans)
 (kp:aW W H H') (hd:∀kvs,H d=some (.dK kvs)->H0 d=none->¬W d) (hl:∀l xs,H l=some (.lst xs)->H0 l=none->¬W l):lB H0 H' d g c:=by
 obtain⟨kvs,h1,h2,h3⟩:=S;refine⟨kvs,kp _ _ h1 (hd kvs h1 h2),h2,λp i h4 h5=>?_⟩;obtain⟨j,g1,g2,g3⟩:=hi p i h4 h5;obtain⟨l,e1,e2,e3⟩:=h3 p j g1 g2;refine⟨l,e1,?_,e3⟩;rw[Tr hn,<-g3];exact kp _ _ e2 (hl _ _ e2 e3)
theorem lB.same{H0 H H':Hp}{d:Addr}{g:Gh}{b:Nb.Book}(S:lB H0 H d g b)(s:ai H H'):lB H0 H' d g b:=
 S.step (W:=λ_=>False) rfl (λp i h1 h2=>⟨i,h1,h2,rfl⟩) (ai.keep s) (λ_ _ _ z=>z) λ_ _ _ _ z=>z
theorem jF.set{g:Gh}{b:Nb.Book}{as:List Addr}{ls:List (Nat×Nat)}(L:jF g b as ls){p:Nat}{i:Item}{o:Option Item}(h:b.items[p]?=some (some i))(ho:i.stands=.open_):jF g (b.set p o) as ls:=by
 refine Paired.cW L λa x z=>?_;obtain⟨z1,j,z2,z3,z4⟩:=z;refine⟨z1,j,?_,z3,z4⟩;rw[NB.dP λe=>?_]
 ·exact z2
 ·subst e;rw[h] at z2;cases z2;exact z4 ho
theorem jF.rings{g:Gh}{b:Nb.Book}{as:List Addr}{ls:List (Nat×Nat)}(L:jF g b as ls):jF g b.rings as ls:=by refine Paired.cW L λa x z=>?_;obtain⟨z1,j,z2,z3,z4⟩:=z;refine⟨z1,j,?_,z3,z4⟩;rw[NB.sL,NB.sG,z2];show some (some (NB.dw j))=_;unfold NB.dw;rw[if_neg z4]
theorem Rep.out{C:Cs}{H H':Hp}{g:Gh}{b:Nb.Book}{wv:V}{m al:Nat}(R:Rep C H g b wv m al){l:Addr}{xs:List V}(hl:H l=some (.lst xs))(hf:¬g.foot l)(kp:aW (·=l) H H'):Rep C H' g b wv m al:=by
 have aB:cq C H H':=λc o e z=>kp c o e λq=>by subst q;rw[hl] at e;cases e;rcases z with ⟨_,z⟩ | ⟨_,_,z⟩<;>cases z
 obtain⟨kvs,k1,k2,k3,k4⟩:=R.named;refine⟨kp _ _ R.book λq=>hf (.inl q.symm),kp _ _ R.cells λq=>hf (.inr (.inl q.symm)),R.len,mM (by rw[R.len];exact R.dG.symm) λq c o g1 g2=>?_,kvs,kp _ _ k1 λq=>hf (.inr (.inr (.inl q.symm))),k2,k3,k4⟩;have h3:=R.oz g1 g2;cases c with
 |none=>cases o<;>exact h3
 |some a'=>
  cases o with
  |none=>exact h3
  |some k=>exact bt.aB h3 aB λu e=>kp _ _ e λz=>hf (.inr (.inr (.inr (by rw[<-z];exact cE g1))))
theorem Ts{g:Gh}{b:Nb.Book}{as:List Addr}{ps:List Nat}(h:Paired (λa p=>g.cs[p]?=some (some a)) as ps)(ho:∀p∈ps,∃i,b.items[p]?=some (some i)/\i.stands=.open_):jF g b.rings as (ps.map λp=>(p,3)):=by
 unfold jF;induction h with
 |nil=>exact .nil
 | @cons a p as ps r t ih=>rw[bX];refine .cons ⟨r,?_⟩ (ih λq hq=>ho q (bO _ hq));obtain⟨i,h1,h2⟩:=ho p (bP ..);refine⟨{i with stands:=.stuck},?_,rfl,λz=>nomatch z⟩;rw[NB.sL,NB.sG,h1];show some (some (NB.dw i))=_;unfold NB.dw;rw[if_pos h2]
theorem xk{C:Cs}{H:Hp}{g:Gh}{b:Nb.Book}{wv:V}{m al:Nat}(R:Rep C H g b wv m al){x:Addr}{o:HO}(h:H x=some o)(ho:∀dx fs,o≠.ins C.cell dx fs):¬some x∈g.cs:=λz=>by obtain⟨q,hq⟩:=fN.mp z;obtain⟨i,_,dx,na,ta,la,lv,h1,_⟩:=R.fF hq;rw[h] at h1;exact ho _ _ (a4 h1)
section
variable {P:Program}{w:World}{K:PySem.W.Frag}{mg:Str->Option Value}{base:Heap}{C:Cs}
noncomputable abbrev Ib:Stmt:=top 117
noncomputable def Bl(C:Cs):Sp:=λvs H Q _=>∃(g:Gh) (b:Nb.Book) (m al:Nat) (lk:Addr) (as:List Addr) (l0:List (Nat×Nat)),vs=[.ref g.ba,.ref lk]/\Rep C H g b .ak m al/\NB.BI b/\H lk=some (.lst (as.map V.ref))/\¬g.foot lk/\jF g b as l0/\l0.length<=10/\
 ∀H' l,aW (λx=>g.foot x\/x=lk) H H'->(∀x,H' x=none->H x=none)->dg C H' g (Nb.goOn b al m l0).1->LstAt H' l (NbNeutral.told (Nb.goOn b al m l0).2)->H l=none->Q (.ref l) H'
theorem Tt(T:Tx K mg C)(F:aR K mg "go_on" Ib ["book","looked"])(D1:Ok P w K mg base aq 2 "sources_of_open_cells" ["book"] (A7 C))(D2:Ok P w K mg base aq 3 "next_step" ["book","sources"] (Bb C))(D3:Ok P w K mg base aq 1 "report" ["answer","book","looked"] (HP C))
 (D4:Ok P w K mg base aq 1 "wanted" ["cell","sources"] (HS C)) (D5:Ok P w K mg base aq 2 "take_without_run" ["cell","sources"] (HJ C)) (D6:Ok P w K mg base aq 2 "stick_open_cells" ["book"] (HM C)):Ok P w K mg base aq 4 "go_on" ["book","looked"] (Bl C):=by
 have sc:=sk (P:=["book","looked"]) (st:=Ib) ["book","looked","sources","step"];refine F.ok sc (λvs H Q E h=>?_) (λf aD A outer s H vs Q E hr h=>?_)
 ·obtain⟨g,b,m,al,lk,as,l0,rfl,_⟩:=h;rfl
 ·obtain⟨g,b,m,al,lk,as,l0,rfl,R,B,eS,de,hL,ox,k⟩:=h;refine⟨_,af (aN (i:=2) sc.nd rfl (Or.inl rfl) (az D1 (hr.mono (by decide)) rfl aE (aa (pv 0) ae)))
   (ah (u6 PassesOwn.never (dU cY)
    (af (aN (i:=3) sc.nd rfl (Or.inl rfl) (az D2 hr rfl aE (aa (pv 0) (aa (pv 2) ae))))
    (af (aO (bo b3 (aj (pv 3) rfl) (aM T.GJ) (aY _)) (ah (aC (az D3 (hr.mono (by decide)) rfl aE (aa (aM T.Rj) (aa (pv 0) (aa (pv 1) ae)))))) aP)
    (af (aO (bo b3 (aj (pv 3) rfl) (aM T.GK) (aY _))
     (af (aO (bo DI (aj (pv 0) rfl) (aj (pv 0) rfl) (aY _)) (ah (aC (az D3 (hr.mono (by decide)) rfl aE (aa (aM T.Rl) (aa (pv 0) (aa (pv 1) ae)))))) aP)
     (af (bI (pv 0) (aj (pv 3) rfl) rfl)
     (ah (aC (cB ff (az D3 (hr.mono (by decide)) rfl aE (aa (aM T.Rk) (aa (pv 0) (aa (pv 1) ae)))) (az D4 (hr.mono (by decide)) rfl aE (aa (aj (pv 3) rfl) (aa (mq (cS hr) (pv 2) (aj (aj (pv 3) rfl) rfl) (λ_ _=>rfl)) ae)))))))) aP)
    (ah (aO (bo b3 (aj (pv 3) rfl) (aM T.GL) (aY _))
     (af (cb (az D5 (hr.mono (by decide)) rfl aE (aa (aj (pv 3) rfl) (aa (mq (cS hr) (pv 2) (aj (aj (pv 3) rfl) rfl) (λ_ _=>rfl)) ae))))
     (ah (cb (cZ di gC gB fT (pv 1) (aa (aj (pv 3) rfl) ae)))))
     (ah (cb (cZ di m4 ph pO (pv 1) (aa (az D6 (hr.mono (by decide)) rfl aE (aa (pv 0) ae)) ae))))))))))),?_⟩
  refine⟨_,rfl,g,b,.ak,m,al,rfl,R,B,λH1 d iW hS=>?_⟩;refine⟨λn σ H'=>∃(bn:Nb.Book) (ln:List (Nat×Nat)) (gx:List Addr) (f:Nat) (v3:Option V),n=NB.eE bn/\σ=[some (.ref g.ba),some (.ref lk),some (.ref d),v3]/\Rep C H' g bn .ak m al/\NB.BI bn/\H' lk=some (.lst (gx.map V.ref))/\jF g bn gx ln/\lB H H' d g bn/\
   aW (λx=>g.foot x\/x=lk) H H'/\(∀x,H' x=none->H x=none)/\ln.length+NB.eE bn<=300/\Nb.settling al m (f+1) bn ln=Nb.settling al m 257 b l0/\NB.eE bn<=f,⟨NB.eE b,b,l0,as,256,none,rfl,rfl,R.same iW,B,iW _ _ eS,hL,hS,ai.keep iW,λx h=>iW.free h,?_,rfl,NB.F0 B.len⟩,?_⟩
  ·have:=NB.F0 B.len;omega
  ·rintro n σ H2 ⟨bn,ln,gx,f,v3,rfl,rfl,Rn,Bn,Tu,oK,Ic,Tv,Tw,hlen,xl,hf⟩;refine⟨_,rfl,bF ⟨_,λ_ _ z=>z,?_⟩⟩;refine⟨_,rfl,_,rfl,g,bn,.ak,m,al,d,H,rfl,Rn,Bn,Ic,λH3 st dx f7 Ie bS=>?_⟩;have R3:=Rn.same f7;have qz:=f7 _ _ Tu;have Bm:=Ic.same f7;have lA:aW (λx=>g.foot x\/x=lk) H H3:=Tv.trans (ai.keep f7);have qv:∀x,H3 x=none->H x=none:=λx h=>Tw x (f7.free h);refine⟨_,rfl,st,C.step,dx,_,_,rfl,bS,T.fG,T.mJ,oH ..,rfl,_,rfl,?_⟩;have Bo:ln.length<=1000000:=by omega
   have ends:∀(z:Nat) (p:Nb.Pause),(p=.ended/\z=0\/p=.stopped/\z=2)->Nb.settling al m 257 b l0=(ln,bn,p)->∀l,H3 l=none->Q (.ref l) (upd H3 l (.lst (([(z:Int),(m:Int),(ln.length:Int)]++ln.flatMap iu).map V.int))):=by
    intro z p hp he l hl;have s4:ai H3 (upd H3 l (.lst (([(z:Int),(m:Int),(ln.length:Int)]++ln.flatMap iu).map V.int))):=aG hl;have eg:Nb.goOn b al m l0=(⟨bn,none⟩,.settled z m ln none):=by unfold Nb.goOn;rw[he];rcases hp with ⟨rfl,rfl⟩ | ⟨rfl,rfl⟩<;>rfl
    refine k _ l (lA.trans (ai.keep s4)) (λx h=>qv x (s4.free h)) ?_ ?_ (qv l hl)
    ·rw[eg];exact⟨.ak,m,al,R3.same s4,rfl⟩
    ·rw[eg];show(upd H3 l _) l=_;rw[ag];show _=some (HO.lst ((([(z:Int),(m:Int),(ln.length:Int)]++ln.flatMap iu)++[]).map V.int));rw[ez]
   by_cases km:bn.anyOpen=false
   ·have ek:nextK bn=(0,none):=by unfold nextK;rw[if_pos km]
    rw[ek];refine bF ⟨_,rfl,_,rfl,g,bn,.ak,m,al,0,lk,gx,ln,rfl,R3,qz,oK,Bo,ends 0 .ended (.inl ⟨rfl,rfl⟩) ?_⟩;rw[<-xl,NB.Aa km]
   ·have km:bn.anyOpen=true:=by simpa using km
    have pos:0<NB.eE bn:=NB.z7.mp km;cases gS:bn.next with
    |none=>
     have ek:nextK bn=(3,none):=by unfold nextK;rw[if_neg (by rw[km];exact Bool.noConfusion),gS]
     rw[ek];refine bJ ⟨_,rfl,st,C.step,dx,_,_,rfl,bS,T.fG,T.mJ,oH ..,rfl,_,rfl,?_⟩;rw[ek];refine bJ ⟨_,rfl,st,C.step,dx,_,_,rfl,bS,T.fG,T.mJ,oH ..,rfl,_,rfl,?_⟩;rw[ek];refine bJ ?_;refine⟨_,rfl,.inl ⟨rfl,_,ax.of qz⟩,_,rfl,g,bn,.ak,m,al,rfl,R3,λH4 l4 tE jG R4 ZS Tz tQ=>?_⟩;have kn:H4 lk=some (.lst (gx.map V.ref)):=jG _ _ qz λz=>de (.inr (.inr (.inr z)));have TB:tE.length=NB.eE bn:=by rw[Paired.len tQ,NB.F3 Bn.len]
     refine⟨lk,l4,_,_,rfl,rfl,kn,Tz,?_,?_⟩
     ·rw[aF,aF,Paired.len oK,TB];exact aS hlen (by decide)
     ·have oM:aW (·=lk) H4 (upd H4 lk (.lst (gx.map V.ref++tE.map V.ref))):=dF rfl;have o0:NB.eE bn.rings=0:=NB.any_false.mp (NB.F1 bn);have ko:aW (λx=>some x∈g.cs\/x=lk) H3 (upd H4 lk (.lst (gx.map V.ref++tE.map V.ref))):=(jG.mono λx h=>.inl h).trans (oM.mono λx h=>.inr h);refine⟨NB.eE bn.rings,by omega,bn.rings,ln++(Nb.openPlaces bn).map (λp=>(p,3)),gx++tE,0,_,rfl,rfl,R4.out kn de oM,Bn.rings gS,by rw[ag,bW],Paired.append oK.rings (Ts tQ λp hp=>(NB.z9.mp hp).2),
       Bm.step (NB.wk NB.sJ) (λp i h1 h2=>?_) ko (λkvs h1 h2=>?_) (λl xs h1 h2=>?_),lA.trans (ko.mono λx h=>h.elim (λz=>.inl (.inr (.inr (.inr z)))) .inr),λx h=>qv x (ko.free h λz=>?_),?_,?_,by omega⟩
      ·obtain⟨j,hj,e⟩:=NB.zV h1;subst e;exfalso;split at h2
       ·cases h2
       ·rename_i h3;exact h3 h2
      ·rintro(z | z)
       ·exact xk R3 h1 (λ_ _ z=>nomatch z) z
       ·rw[z,eS] at h2;cases h2
      ·rintro(z | z)
       ·exact xk R3 h1 (λ_ _ z=>nomatch z) z
       ·rw[z,eS] at h2;cases h2
      ·rcases z with z | z
       ·exact(R4.out kn de oM).jD (.inr (.inr (.inr z))) h
       ·rw[z,ag] at h;cases h
      ·rw[aX,aF,NB.F3 Bn.len,o0];omega
      ·rw[<-xl,NB.Aa (NB.F1 bn),NB.F6 km gS]
    |some p=>
     obtain⟨i,hi,ho,tS⟩:=NB.oa gS;obtain⟨a,aZ,aU⟩:=R3.bK hi;obtain⟨gy,na,ta,la,lv,h1,h2,h3,h4,h5⟩:=id aU;have ek:nextK bn=(if fk (bn.todo i)=true then 1 else 2,some p):=by unfold nextK;rw[if_neg (by rw[km];exact Bool.noConfusion),gS];show(match bn.at_ p with | none=>_ | some i=>_)=_;rw[NB.bK hi]
     have xm:Ba g (some p)=.ref a:=by show ov (g.cs[p]?).join=_;rw[aZ];rfl
     obtain⟨kvs,d1,d2,d3⟩:=id Bm;obtain⟨ls,l1,l2,l3⟩:=d3 p i hi ho;have tM:∀{H9:Hp},H9 d=some (.dK kvs)->b5 H9 d (.int (p:Int)) (some (.ref ls)):=λe=>by have:=b5.k (k:=Sum.inl (p:Int)) e;rw[l1] at this;exact this
     have mem:some a∈g.cs:=cE aZ;rw[ek,xm] at bS;rw[ek];by_cases fK:fk (bn.todo i)=true
     ·rw[if_pos fK] at bS;rw[if_pos fK];obtain⟨us,ht⟩:∃us,bn.todo i=.run us:=by
       cases e:bn.todo i with
       |run v=>exact⟨v,rfl⟩
       |stuck=>rw[e] at fK;cases fK
       |kept c=>rw[e] at fK;cases fK
      have qA:=NB.zY ht;refine bJ ⟨_,rfl,st,C.step,dx,_,_,rfl,bS,T.fG,T.mJ,oH ..,rfl,_,rfl,?_⟩;refine bF ⟨_,rfl,g.ba,C.book,g.bd,_,_,rfl,R3.book,T.bx,T.sU,AG ..,_,rfl,g.ba,C.book,g.bd,_,_,rfl,R3.book,T.bx,T.Ay,RC ..,_,_,rfl,rfl,_,rfl,?_⟩;have aJ:=NB.Ab (most:=al) (made:=m) (f:=f) (l:=ln) km gS hi;rw[ht] at aJ;have aJ:Nb.settling al m (f+1) bn ln=if al<=m then (ln,bn,.stopped) else (ln,bn,.wants p i us):=aJ
      rw[xl] at aJ;refine aT (λc6=>?_) (λc6=>?_)
      ·have c6:al<=m:=by have:=bw c6;omega
       rw[if_pos c6] at aJ;exact⟨_,rfl,_,rfl,g,bn,.ak,m,al,2,lk,gx,ln,rfl,R3,qz,oK,Bo,ends 2 .stopped (.inr ⟨rfl,rfl⟩) aJ⟩
      ·have c6:¬al<=m:=λz=>c6 (bp (by omega));rw[if_neg c6] at aJ;refine⟨_,rfl,st,C.step,dx,_,_,rfl,bS,T.fG,T.lh,mP ..,_,rfl,g.ba,C.book,g.bd,_,rfl,R3.book,T.bx,T.j9,(by show 6<1000;decide),?_⟩;have ep:bM "waiting" (.ref a) (bf g.ca g.da bn.runs .ak m al)=bf g.ca g.da bn.runs (.ref a) m al:=by kernel_rfl
       rw[ep];have lE:aW (·=g.ba) H3 (upd H3 g.ba (.ins C.book g.bd (bf g.ca g.da bn.runs (.ref a) m al))):=dF rfl;have R4:Rep C (upd H3 g.ba (.ins C.book g.bd (bf g.ca g.da bn.runs (.ref a) m al))) g bn (.ref a) m al:=R3.fields T lE ag;generalize xn:upd H3 g.ba (.ins C.book g.bd (bf g.ca g.da bn.runs (.ref a) m al))=H4 at lE R4;have nb:∀{x:Addr} {o:HO},H3 x=some o->x≠g.ba->H4 x=some o:=λe z=>lE _ _ e z;have kn:H4 lk=some (.lst (gx.map V.ref)):=nb qz λz=>de (.inl z);have mi:H4 st=_:=nb bS λz=>by have:=Rn.book;rw[<-z,Ie] at this;cases this
       have TC:H4 ls=some (.lst (bV g bn i.leans)):=nb l2 (b9 l2 R3.book (λz=>nomatch z));have d4:H4 d=some (.dK kvs):=nb d1 (b9 d1 R3.book (λz=>nomatch z));refine⟨_,rfl,_,rfl,g,bn,.ref a,m,al,1,lk,gx,ln,rfl,R4,kn,oK,Bo,λr1 iV=>?_⟩;have s5:ai H4 (upd H4 r1 (.lst (([((1:Nat):Int),(m:Int),(ln.length:Int)]++ln.flatMap iu).map V.int))):=aG iV;generalize xo:upd H4 r1 (.lst (([((1:Nat):Int),(m:Int),(ln.length:Int)]++ln.flatMap iu).map V.int))=H5 at s5;have r5:H5 r1=some (.lst (([((1:Nat):Int),(m:Int),(ln.length:Int)]++ln.flatMap iu).map V.int)):=by rw[<-xo];exact ag
       have R5:=R4.same s5;obtain⟨i',gT,tT⟩:=R5.fF aZ;rw[hi] at gT;cases gT;obtain⟨TF,Ig,xp,xq,ZT,TH,_⟩:=id tT;obtain⟨o1,o2,o3,o4,_,_⟩:=NB.d8 (Bn.ok p i hi).1;have wU:=(NB.n6 o1).2;have Ih:∀u∈us,u.length<=16384:=λu hu=>by
        obtain⟨n,hn,e⟩:=(NB.zX qA).2 u hu;cases e2:bn.item n with
        |none=>rw[e2] at e;cases e
        |some k2=>rw[e2] at e;have e:k2.value=some u:=e;obtain⟨q,_,hq,_⟩:=NB.jv e2;obtain⟨_,y,_,_,e4,e5⟩:=Bn.value hq (wK e).1;rw[e4] at e;cases e;exact e5
       refine⟨_,rfl,st,C.step,dx,_,_,rfl,s5 _ _ mi,T.fG,T.lh,mP ..,_,rfl,_,rfl,st,C.step,dx,_,_,rfl,s5 _ _ mi,T.fG,T.lh,mP ..,a,C.cell,TF,_,_,rfl,TH,T.aH,T.eG,fh ..,d,_,rfl,tM (s5 _ _ d4),g,bn,.ref a,m,al,a,ls,p,i,us,rfl,R5,tT,s5 _ _ TC,qA,Bn.leans hi,by omega,by omega,λu hu=>aS (Ih u hu) (by decide),λH6 r2 s6 gU TJ=>?_⟩;have TK:us.length<=8:=by rw[(NB.zX qA).1];exact Bn.leans hi
       have fb:=Bh (n:=16384) (k:=8) Ih TK;refine⟨r1,r2,_,_,rfl,rfl,s6 _ _ r5,TJ,?_,λr3 Ii=>?_⟩
       ·rw[aF,aF,aX,aX,aX,HQ,tP,tP];show 3+2*ln.length+(i.name.length+1+(i.text.length+1+_))<=sizeLine;exact aS (by omega:_<=1000000) (by decide)
       ·have s7:ai H6 (upd H6 r3 (.lst ((([((1:Nat):Int),(m:Int),(ln.length:Int)]++ln.flatMap iu).map V.int)++((NbNeutral.sized i.name++(NbNeutral.sized i.text++us.flatMap NbNeutral.sized)).map V.int)))):=aG Ii;have oJ:=s5.trans (s6.trans s7);have eg:Nb.goOn b al m l0=(⟨bn,some ⟨p,us,al,m⟩⟩,.settled 1 m ln (some (i.name,i.text,us))):=by unfold Nb.goOn;rw[aJ]
        have xr:∀x,H4 x=none->H x=none:=λx h=>qv x (lE.free h λz=>R4.jD (.inl z) h);refine k _ r3 (lA.trans ((lE.mono λx h=>.inl (.inl h)).trans (ai.keep oJ))) (λx h=>xr x (oJ.free h)) ?_ ?_ (xr r3 ((s5.trans s6).free Ii))
        ·rw[eg];exact⟨.ref a,m,al,R4.same oJ,a,aZ,rfl,rfl,rfl⟩
        ·rw[eg];show(upd H6 r3 _) r3=_;rw[ag,<-bW];rfl
     ·rw[if_neg fK] at bS;rw[if_neg fK];have fK:fk (bn.todo i)=false:=by simpa using fK
      refine bJ ⟨_,rfl,st,C.step,dx,_,_,rfl,bS,T.fG,T.mJ,oH ..,rfl,_,rfl,?_⟩;refine bJ ⟨_,rfl,st,C.step,dx,_,_,rfl,bS,T.fG,T.mJ,oH ..,rfl,_,rfl,?_⟩;refine bF ⟨_,rfl,st,C.step,dx,_,_,rfl,bS,T.fG,T.lh,mP ..,_,rfl,_,rfl,st,C.step,dx,_,_,rfl,bS,T.fG,T.lh,mP ..,a,C.cell,gy,_,_,rfl,h1,T.aH,T.eG,fh ..,d,_,rfl,tM d1,g,bn,.ak,m,al,a,ls,p,i,rfl,R3,Bn,hi,aU,l2,fK,λH4 jG TM=>?_⟩;have R4:Rep C H4 g (bn.stand p (iZ (bn.todo i))) .ak m al:=by rw[NB.mD hi];exact R3.change T hi aZ jG TM rfl
      have TN:st≠a:=λz=>by obtain⟨j,_,jd,_,_,_,_,j1,_⟩:=Rn.fF aZ;rw[<-z,Ie] at j1;cases j1
      have kn:H4 lk=some (.lst (gx.map V.ref)):=jG _ _ qz λz=>de (.inr (.inr (.inr (by rw[z];exact mem))));refine⟨_,rfl,.inl ⟨rfl,_,ax.of kn⟩,_,rfl,st,C.step,dx,_,_,rfl,jG _ _ bS TN,T.fG,T.lh,mP ..,lk,_,_,rfl,rfl,kn,?_,?_⟩
      ·rw[aF,Paired.len oK];exact dC (by omega:_<=300) (by decide)
      ·have oM:aW (·=lk) H4 (upd H4 lk (.lst (gx.map V.ref++[.ref a]))):=dF rfl;have ko:aW (λx=>some x∈g.cs\/x=lk) H3 (upd H4 lk (.lst (gx.map V.ref++[.ref a]))):=(jG.mono λx h=>.inl (by rw[h];exact mem)).trans (oM.mono λx h=>.inr h);have Bp:iZ (bn.todo i)≠.open_:=by
        cases e:bn.todo i with
        |stuck=>exact λz=>nomatch z
        |kept c=>exact(NB.p8 c).1
        |run v=>rw[e] at fK;cases fK
       have on:NB.eE (bn.stand p (iZ (bn.todo i)))+1=NB.eE bn:=by rw[NB.mD hi];exact NB.QD hi ho Bp
       obtain⟨f',rfl⟩:∃f',f=f'+1:=⟨f-1,by omega⟩;have TQ:NB.BI (bn.stand p (iZ (bn.todo i))):=by
        cases e:bn.todo i with
        |stuck=>exact Bn.stuck hi ho tS e
        |kept c=>exact Bn.kept hi ho tS e
        |run v=>rw[e] at fK;cases fK
       have aJ:=NB.Ab (most:=al) (made:=m) (f:=f'+1) (l:=ln) km gS hi;have aJ:Nb.settling al m (f'+1+1) bn ln=Nb.settling al m (f'+1) (bn.stand p (iZ (bn.todo i))) (ln++[(p,(iZ (bn.todo i)).num)]):=by
        rw[aJ];cases e:bn.todo i with
        |stuck=>rfl
        |kept c=>rfl
        |run v=>rw[e] at fK;cases fK
       refine⟨NB.eE (bn.stand p (iZ (bn.todo i))),by omega,bn.stand p (iZ (bn.todo i)),ln++[(p,(iZ (bn.todo i)).num)],gx++[a],f',_,rfl,rfl,R4.out kn de oM,TQ,by rw[ag,bW];rfl,?_,
        Bm.step ?_ (λq j g1 g2=>?_) ko (λkvs h1 h2=>?_) (λl xs h1 h2=>?_),lA.trans (ko.mono λx h=>h.elim (λz=>.inl (.inr (.inr (.inr z)))) .inr),λx h=>qv x (ko.free h λz=>?_),?_,?_,by omega⟩
       ·rw[NB.mD hi];refine Paired.append (oK.set hi ho) (.cons ⟨aZ,{i with stands:=iZ (bn.todo i)},NB.dY (bh.mp hi).1,rfl,Bp⟩ .nil)
       ·rw[NB.mD hi];exact NB.p1 (j:={i with stands:=iZ (bn.todo i)}) hi rfl
       ·rw[NB.mD hi] at g1;by_cases hq:p=q
        ·subst hq;rw[NB.dY (bh.mp hi).1] at g1;cases g1;exact absurd g2 Bp
        ·rw[NB.dP hq] at g1;exact⟨j,g1,g2,rfl⟩
       ·rintro(z | z)
        ·exact xk R3 h1 (λ_ _ z=>nomatch z) z
        ·rw[z,eS] at h2;cases h2
       ·rintro(z | z)
        ·exact xk R3 h1 (λ_ _ z=>nomatch z) z
        ·rw[z,eS] at h2;cases h2
       ·rcases z with z | z
        ·exact(R4.out kn de oM).jD (.inr (.inr (.inr z))) h
        ·rw[z,ag] at h;cases h
       ·rw[aX];show ln.length+1+_<=300;omega
       ·rw[<-xl,aJ]
end
theorem dI.Ij{C:Cs}{H H1 H':Hp}{g:Gh}{r:Nb.State×Nb.Answer}{Q:VK}{lk l:Addr}(k:dI C H g r Q)(po:bA g H H1 g)(eS:H lk=none)(kp:aW (λx=>g.foot x\/x=lk) H1 H')(lv:∀x,H' x=none->H1 x=none)(SR:dg C H' g r.1)(L:LstAt H' l (NbNeutral.told r.2))(hl:H1 l=none):Q (.ref l) H':=by refine k H' g l ⟨rfl,λx o e hf=>?_,λx h=>.inl h,λx h=>po.live x (lv x h)⟩ SR L (po.live l hl);exact kp x o (po.keep x o e hf) λz=>z.elim hf λz=>by rw[z,eS] at e;cases e
section
variable {P:Program}{w:World}{K:PySem.W.Frag}{mg:Str->Option Value}{base:Heap}{C:Cs}
noncomputable abbrev TR:Stmt:=top 118
noncomputable def Ik(C:Cs):Sp:=λvs H Q _=>∃(g:Gh) (s:Nb.State) (n:Nat),vs=[.ref g.ba,.int (n:Int)]/\dg C H g s/\NB.SI s/\dI C H g (Nb.step s (.settle n)) Q
theorem TU(T:Tx K mg C)(F:aR K mg "settle" TR ["book","most"])(D1:Ok P w K mg base aq 4 "go_on" ["book","looked"] (Bl C)):Ok P w K mg base aq 5 "settle" ["book","most"] (Ik C):=by
 refine F.ok (sk ["book","most"]) (λvs H Q E h=>?_) (λf aD A outer s H vs Q E hr h=>?_)
 ·obtain⟨g,st,n,rfl,_⟩:=h;rfl
 ·obtain⟨g,st,n,rfl,⟨wv,m,al,R,W⟩,S,k⟩:=h;refine⟨_,af (aO (cw (ft (aj (pv 0) rfl))) (ah (aC (br (aa (aM T.qe) ae)))) aP)
   (af (bI (pv 0) aK rfl) (af (bI (pv 0) (pv 1) rfl) (ah (aC (az D1 hr rfl aE (aa (pv 0) (aa (br ae) ae))))))),?_⟩
  refine⟨_,rfl,g.ba,C.book,g.bd,_,_,rfl,R.book,T.bx,T.j9,oo ..,_,rfl,?_⟩;have aJ:Nb.step st (.settle n)=match st.wait with
   |some _=>(st,.refused (-8))
   |none=>Nb.goOn st.book n 0 []:=by
   unfold Nb.step;cases st.wait<;>rfl
  rcases oE W with ⟨rfl,ew⟩ | ⟨a,w',rfl,ew,aZ,iX⟩
  ·rw[ew] at aJ;refine bJ ⟨_,rfl,g.ba,C.book,g.bd,_,rfl,R.book,T.bx,T.sU,(by show 6<1000;decide),?_⟩;refine⟨_,rfl,_,rfl,g.ba,C.book,g.bd,_,rfl,ag,T.bx,T.Ay,(cH (bg (by show 6<=19;decide))),?_⟩;rw[bc];have ep:bM "allowed" (.int (n:Int)) (bM "made" (.int 0) (bf g.ca g.da st.book.runs .ak m al))=bf g.ca g.da st.book.runs .ak 0 n:=by kernel_rfl
   rw[ep];have lE:aW (·=g.ba) H (upd H g.ba (.ins C.book g.bd (bf g.ca g.da st.book.runs .ak 0 n))):=dF rfl;have R1:Rep C (upd H g.ba (.ins C.book g.bd (bf g.ca g.da st.book.runs .ak 0 n))) g st.book .ak 0 n:=R.fields T lE ag;generalize kj:upd H g.ba (.ins C.book g.bd (bf g.ca g.da st.book.runs .ak 0 n))=H1 at lE R1;have xb:bA g H H1 g:=bA.of R1 rfl lE (λx h=>.inl h) (λx h=>.inl h) λx h=>.inl h;refine⟨_,rfl,bY _,λlk eS=>?_⟩;have s2:ai H1 (upd H1 lk (.lst [])):=aG eS;have R2:=R1.same s2;refine⟨g,st.book,0,n,lk,[],[],rfl,R2,S.bi,ag,λz=>?_,.nil,bY _,λH' l kp lv SR L hl=>?_⟩
   ·exact R1.jD z eS
   ·have aJ:Nb.step st (.settle n)=Nb.goOn st.book n 0 []:=aJ;rw[<-aJ] at SR L;exact k.Ij (xb.trans (bA.same s2)) (xb.live lk eS) kp lv SR L hl
  ·rw[ew] at aJ;refine bF ⟨bE,λl hl=>?_⟩;exact k.dh (by rw[aJ];exact⟨_,m,al,R,by rw[ew];exact⟨a,aZ,rfl,iX⟩⟩) hl (by rw[aJ])
noncomputable abbrev Il:Stmt:=top 119
noncomputable def Bq(C:Cs):Sp:=λvs H Q _=>∃(g:Gh) (s:Nb.State) (x:Nb.Wait) (va:Addr) (c:Came),vs=[.ref g.ba,.ref va,.int (cn c:Int)]/\dg C H g s/\NB.SI s/\s.wait=some x/\ay H va (cv c)/\Nb.cameOk c=true/\
 dI C H g (Nb.goOn (s.book.ran x.place x.values c) x.most (x.made+1) [(x.place,(Nb.standsBy c).num)]) Q
theorem TV(T:Tx K mg C)(F:aR K mg "end_run" Il ["book","value","number"])(D1:Ok P w K mg base aq 1 "sources_of" ["book","cell"] (tj C))(D2:Ok P w K mg base aq 1 "values_of" ["sources"] (wL C))(D3:fj P w K mg base 1 "Run" C.run ["self","text","leans","given","value","number"] (gR C.run 5 oA))
 (D4:Ok P w K mg base aq 1 "stand_by_last_run" ["cell"] (Bd C)) (D5:Ok P w K mg base aq 4 "go_on" ["book","looked"] (Bl C)):Ok P w K mg base aq 5 "end_run" ["book","value","number"] (Bq C):=by
 have sc:=sk (P:=["book","value","number"]) (st:=Il) ["book","value","number","cell","given"];refine F.ok sc (λvs H Q E h=>?_) (λf aD A outer s H vs Q E hr h=>?_)
 ·obtain⟨g,st,x,va,c,rfl,_⟩:=h;rfl
 ·obtain⟨g,st,x,va,c,rfl,⟨wv,m,al,R,W⟩,S,hw,iY,ao,k⟩:=h;rw[hw] at W;obtain⟨a,aZ,rfl,rfl,rfl⟩:=W;obtain⟨i,hi,gS,oN⟩:=S.wt x hw;obtain⟨i',gT,ho,tS⟩:=NB.oa gS;rw[hi] at gT;cases gT;have qA:=NB.zY oN;obtain⟨i',gT,aU⟩:=R.fF aZ;rw[hi] at gT;cases gT;obtain⟨gy,na,ta,la,lv,h1,h2,h3,h4,h5⟩:=id aU;refine⟨_,af (aN (i:=3) sc.nd rfl (Or.inl rfl) (aj (pv 0) rfl))
   (af (aN (i:=4) sc.nd rfl (Or.inl rfl) (az D2 (hr.mono (by decide)) rfl aE (aa (az D1 (hr.mono (by decide)) rfl aE (aa (pv 0) (aa (pv 3) ae))) ae)))
   (af (bI (pv 3) (ly D3 (hr.mono (by decide)) rfl (aa (aj (pv 3) rfl) (aa (aj (pv 3) rfl) (aa (pv 4) (aa (pv 1) (aa (pv 2) ae)))))) rfl)
   (af (bI (pv 3) cY rfl)
   (af (cb (az D4 (hr.mono (by decide)) rfl aE (aa (pv 3) ae)))
   (af (bI (pv 0) jV rfl)
   (af (DP (pv 0) aK DQ)
   (af (DP (pv 0) aK DQ)
   (ah (aC (az D5 hr rfl aE (aa (pv 0) (aa (br (aa (pv 3) ae)) ae)))))))))))),?_⟩
  refine⟨_,rfl,g.ba,C.book,g.bd,_,_,rfl,R.book,T.bx,T.j9,oo ..,?_⟩;refine⟨_,rfl,_,rfl,g,st.book,.ref a,x.made,x.most,a,x.place,i,rfl,R,aU,aS (S.bi.leans hi) (by decide),λl hl=>?_⟩;have s1:ai H (upd H l (.lst (bV g st.book i.leans))):=aG hl;refine⟨g,st.book,.ref a,x.made,x.most,l,i.leans,x.values,rfl,R.same s1,ag,aS (S.bi.leans hi) (by decide),qA,λH2 ga qm Br=>?_⟩;have s2:=s1.trans qm;refine⟨_,rfl,a,C.cell,gy,_,_,rfl,s2 _ _ h1,T.aH,T.mI,qg ..,_,rfl,a,C.cell,gy,_,_,rfl,s2 _ _ h1,T.aH,T.ie,jA ..,_,rfl,_,rfl,_,rfl,λy dy hy TX bG=>?_⟩;refine⟨y,dy,[.ref ta,.ref la,.ref ga,.ref va,.int (cn c:Int)],rfl,rfl,ag,rfl,?_⟩;rw[bc];have s3:ai H2 (upd (upd H2 dy (.own y)) y (.ins C.run dy (oA [.ref ta,.ref la,.ref ga,.ref va,.int (cn c:Int)]))):=(aG TX).trans (aG (by rw[aw bG.symm];exact hy));generalize vA:upd (upd H2 dy (.own y)) y (.ins C.run dy (oA [.ref ta,.ref la,.ref ga,.ref va,.int (cn c:Int)]))=H3 at s3;have y3:H3 y=some (.ins C.run dy (rf (.ref ta) (.ref la) (.ref ga) (.ref va) (cn c:Int))):=by rw[<-vA,ag];rfl
  have sH:=s2.trans s3;have Im:=sH _ _ h1;refine⟨_,rfl,a,C.cell,gy,_,rfl,Im,T.aH,T.fY,(by show 7<1000;decide),?_⟩;refine⟨_,rfl,a,C.cell,gy,_,rfl,ag,T.aH,T.j8,(cH (bg (by show 7<=19;decide))),?_⟩;rw[bc];have ep:bM "touched" (.bl false) (bM "last" (.ref y) (cf x.place (.ref na) (.ref ta) (.ref la) lv i.touched i.stands.num))=cf x.place (.ref na) (.ref ta) (.ref la) (.ref y) false i.stands.num:=by kernel_rfl
  rw[ep];have aB:cq C H3 (upd H3 a (.ins C.cell gy (cf x.place (.ref na) (.ref ta) (.ref la) (.ref y) false i.stands.num))):=oB T Im;have ko:aW (·=a) H3 (upd H3 a (.ins C.cell gy (cf x.place (.ref na) (.ref ta) (.ref la) (.ref y) false i.stands.num))):=dF rfl;have sI:cq C H H3:=ai.aB sH;have TY:qb C H3 y ⟨i.text,i.leans,x.values,c⟩:=⟨dy,ta,la,ga,va,y3,ay.aB h3 sI,h4.aB sI,cz.aB (C:=C) Br (ai.aB s3),ay.aB iY sI⟩;have tT:bt C (upd H3 a (.ins C.cell gy (cf x.place (.ref na) (.ref ta) (.ref la) (.ref y) false i.stands.num))) a x.place {i with touched:=false,last:=some ⟨i.text,i.leans,x.values,c⟩}:=
   ⟨gy,na,ta,la,.ref y,ag,ay.aB (ay.aB h2 sI) aB,ay.aB (ay.aB h3 sI) aB,(h4.aB sI).aB aB,y,rfl,TY.aB aB⟩
  generalize xo:upd H3 a (.ins C.cell gy (cf x.place (.ref na) (.ref ta) (.ref la) (.ref y) false i.stands.num))=H5 at ko tT;refine⟨_,rfl,a,x.place,_,_,rfl,tT,rfl,ao,λH6 oO TZ=>?_⟩;have R3:=R.same sH;have Io:aW (·=a) H3 H6:=ko.trans oO;have R6:Rep C H6 g (st.book.set x.place (some {i with stands:=Nb.standsBy c,touched:=false,last:=some ⟨i.text,i.leans,x.values,c⟩})) (.ref a) x.made x.most:=R3.change T hi aZ Io TZ rfl;refine⟨_,rfl,g.ba,C.book,g.bd,_,rfl,R6.book,T.bx,T.j9,(by show 6<1000;decide),?_⟩;have T6:bM "waiting" .ak (bf g.ca g.da st.book.runs (.ref a) x.made x.most)=bf g.ca g.da st.book.runs .ak x.made x.most:=by kernel_rfl
  have e0:(st.book.set x.place (some {i with stands:=Nb.standsBy c,touched:=false,last:=some ⟨i.text,i.leans,x.values,c⟩})).runs=st.book.runs:=rfl;rw[e0,T6];refine⟨_,rfl,g.ba,C.book,g.bd,_,_,rfl,ag,T.bx,T.sU,AG ..,_,_,rfl,rfl,g.bd,_,ag,(by show 6<1000;decide),?_⟩;rw[bc];have Bs:bM "made" (.int ((x.made:Int)+1)) (bf g.ca g.da st.book.runs .ak x.made x.most)=bf g.ca g.da st.book.runs .ak (x.made+1) x.most:=by kernel_rfl
  rw[Bs];refine⟨_,rfl,g.ba,C.book,g.bd,_,_,rfl,ag,T.bx,T.wD,GS ..,_,_,rfl,rfl,g.bd,_,ag,(by show 6<1000;decide),?_⟩;rw[bc];have Bt:bM "runs" (.int ((st.book.runs:Int)+1)) (bf g.ca g.da st.book.runs .ak (x.made+1) x.most)=bf g.ca g.da (st.book.runs+1) .ak (x.made+1) x.most:=by kernel_rfl
  rw[Bt];have qB:aW (·=g.ba) H6 (upd H6 g.ba (.ins C.book g.bd (bf g.ca g.da (st.book.runs+1) .ak (x.made+1) x.most))):=dF rfl;have R7:Rep C (upd H6 g.ba (.ins C.book g.bd (bf g.ca g.da (st.book.runs+1) .ak (x.made+1) x.most))) g (st.book.ran x.place x.values c) .ak (x.made+1) x.most:=by rw[NB.zZ hi];exact R6.fields T qB ag
  generalize ZU:upd H6 g.ba (.ins C.book g.bd (bf g.ca g.da (st.book.runs+1) .ak (x.made+1) x.most))=H7 at qB R7;have mem:some a∈g.cs:=cE aZ;have T7:aW (λz=>z=a\/z=g.ba) H3 H7:=(Io.mono λz h=>.inl h).trans (qB.mono λz h=>.inr h);have fo:∀z,(z=a\/z=g.ba)->g.foot z:=λz h=>h.elim (λe=>.inr (.inr (.inr (by rw[e];exact mem)))) .inl;have Ip:bA g H H7 g:=(bA.same sH).trans (bA.of R7 rfl T7 fo fo λz h=>.inl h);refine⟨_,rfl,_,rfl,bE,λlk eS=>?_⟩;have s8:ai H7 (upd H7 lk (.lst [.ref a])):=aG eS;refine⟨g,st.book.ran x.place x.values c,x.made+1,x.most,lk,[a],_,rfl,R7.same s8,S.bi.ran hi ho tS qA ao,ag,λz=>R7.jD z eS,.cons ⟨aZ,{i with stands:=Nb.standsBy c,touched:=false,last:=some ⟨i.text,i.leans,x.values,c⟩},?_,rfl,(NB.p8 c).1⟩ .nil,(by show 1<=10;decide),λH' l kp lv SR L hl=>k.Ij (Ip.trans (bA.same s8)) (Ip.live lk eS) kp lv SR L hl⟩;rw[NB.zZ hi];exact NB.dY (bh.mp hi).1
noncomputable abbrev T8:Stmt:=top 120
noncomputable abbrev T9:Stmt:=top 121
noncomputable def Iq(C:Cs):Sp:=λvs H Q _=>∃(g:Gh) (s:Nb.State) (va:Addr) (t:Text),vs=[.ref g.ba,.ref va]/\dg C H g s/\NB.SI s/\ay H va t/\dI C H g (Nb.step s (.came (.value t))) Q
noncomputable def Ir(C:Cs):Sp:=λvs H Q _=>∃(g:Gh) (s:Nb.State) (n:Nat),vs=[.ref g.ba,.int (n:Int)]/\dg C H g s/\NB.SI s/\dI C H g (Nb.step s (.came (.bad n))) Q
theorem Iu{s:Nb.State}{c:Came}:Nb.step s (.came c)=match s.wait with
 |some w=>if Nb.cameMay c=false then (s,Nb.BAD) else Nb.goOn (s.book.ran w.place w.values (Nb.taken c)) w.most (w.made+1) [(w.place,(Nb.standsBy (Nb.taken c)).num)]
 |none=>(s,.refused (-8)):=by
 unfold Nb.step;cases s.wait<;>rfl
theorem Ua(T:Tx K mg C)(F:aR K mg "came" T8 ["book","value"])(D1:Ok P w K mg base aq 5 "end_run" ["book","value","number"] (Bq C)):Ok P w K mg base aq 6 "came" ["book","value"] (Iq C):=by
 refine F.ok (sk ["book","value"]) (λvs H Q E h=>?_) (λf aD A outer s H vs Q E hr h=>?_)
 ·obtain⟨g,st,va,t,rfl,_⟩:=h;rfl
 ·obtain⟨g,st,va,t,rfl,⟨wv,m,al,R,W⟩,S,iY,k⟩:=h;refine⟨_,af (aO (cw (iD (aj (pv 0) rfl))) (ah (aC (br (aa (aM T.qe) ae)))) aP)
   (af (aO (bo rJ (dv dE rfl T.dA dN (aa (pv 1) ae)) (aM T.GD) (aY _)) (ah (aC (az D1 hr rfl aE (aa (pv 0) (aa (vh ae) (aa (aM T.GF) ae)))))) aP)
   (ah (aC (az D1 hr rfl aE (aa (pv 0) (aa (pv 1) (aa aK ae))))))),?_⟩
  refine⟨_,rfl,g.ba,C.book,g.bd,_,_,rfl,R.book,T.bx,T.j9,oo ..,_,rfl,?_⟩;rw[Iu] at k;rcases oE W with ⟨rfl,ew⟩ | ⟨a,w',rfl,ew,aZ,iX⟩
  ·rw[ew] at k;refine bF ⟨bE,λl hl=>?_⟩;exact k.dh ⟨_,m,al,R,by rw[ew];rfl⟩ hl rfl
  ·rw[ew] at k;have k:dI C H g (Nb.goOn (st.book.ran w'.place w'.values (Nb.taken (.value t))) w'.most (w'.made+1) [(w'.place,(Nb.standsBy (Nb.taken (.value t))).num)]) Q:=k;have W':WV g (.ref a) m al st.wait:=by rw[ew];exact⟨a,aZ,rfl,iX⟩
   refine bJ ⟨_,rfl,va,_,rfl,.inr (aQ.of iY),_,_,rfl,rfl,_,rfl,?_⟩;rw[bH];refine aT (λhh=>?_) (λhh=>?_)
   ·have hh:Nb.VALUE<t.length:=by have:=bw hh;show 16384<t.length;omega
    have e:Nb.taken (.value t)=.bad (Nb.W32-1):=by show(if Nb.VALUE<t.length then _ else _)=_;rw[if_pos hh]
    rw[e] at k;refine⟨_,rfl,bY _,λp hp=>?_⟩;have s1:ai H (upd H p (.tup [])):=aG hp;refine⟨g,st,w',p,.bad (Nb.W32-1),rfl,⟨_,m,al,R.same s1,W'⟩,S,ew,ag,by decide,λH' g' l po SR L hl=>k H' g' l ((bA.same s1).trans po) SR L (s1.free hl)⟩
   ·have hh:¬Nb.VALUE<t.length:=λz=>hh (bp (by have z:16384<t.length:=z;omega));have e:Nb.taken (.value t)=.value t:=by show(if Nb.VALUE<t.length then _ else _)=_;rw[if_neg hh]
    rw[e] at k;exact⟨_,rfl,_,rfl,g,st,w',va,.value t,rfl,⟨_,m,al,R,W'⟩,S,ew,iY,bp (by have hh:¬16384<t.length:=hh;show t.length<=16384;omega),k⟩
theorem Ub(T:Tx K mg C)(F:aR K mg "came_failed" T9 ["book","number"])(D1:Ok P w K mg base aq 5 "end_run" ["book","value","number"] (Bq C)):Ok P w K mg base aq 6 "came_failed" ["book","number"] (Ir C):=by
 refine F.ok (sk ["book","number"]) (λvs H Q E h=>?_) (λf aD A outer s H vs Q E hr h=>?_)
 ·obtain⟨g,st,n,rfl,_⟩:=h;rfl
 ·obtain⟨g,st,n,rfl,⟨wv,m,al,R,W⟩,S,k⟩:=h;refine⟨_,af (aO (cw (iD (aj (pv 0) rfl))) (ah (aC (br (aa (aM T.qe) ae)))) aP)
   (af (aO (PW.pt (uZ (bo lZ (pv 1) aK (aY _)) (uX (bo rJ (pv 1) (aM T.GF) (aY _))))) (ah (aC (br (aa (aM T.sY) ae)))) aP)
   (ah (aC (az D1 hr rfl aE (aa (pv 0) (aa (vh ae) (aa (pv 1) ae))))))),?_⟩
  refine⟨_,rfl,g.ba,C.book,g.bd,_,_,rfl,R.book,T.bx,T.j9,oo ..,_,rfl,?_⟩;rw[Iu] at k;rcases oE W with ⟨rfl,ew⟩ | ⟨a,w',rfl,ew,aZ,iX⟩
  ·rw[ew] at k;refine bF ⟨bE,λl hl=>?_⟩;exact k.dh ⟨_,m,al,R,by rw[ew];rfl⟩ hl rfl
  ·rw[ew] at k;have k:dI C H g (if Nb.cameMay (.bad n)=false then (st,Nb.BAD) else Nb.goOn (st.book.ran w'.place w'.values (.bad n)) w'.most (w'.made+1) [(w'.place,(Nb.standsBy (.bad n)).num)]) Q:=k;have W':WV g (.ref a) m al st.wait:=by rw[ew];exact⟨a,aZ,rfl,iX⟩
   have may:Nb.cameMay (.bad n)=(decide (n≠0)&&decide (n<4294967296)):=rfl;have bad:¬(n≠0/\n<4294967296)->rD (yV (jj (tC (V.int (-1))) iG)) {nx:=λ_ H'=>Q .ak H',rt:=Q} [some (.ref g.ba),some (.int (n:Int))] H:=λhn=>by
    refine⟨bE,λl hl=>?_⟩;have e:Nb.cameMay (.bad n)=false:=by
     rw[may,Bool.and_eq_false_iff];by_cases h1:n≠0
     ·exact .inr (eo λz=>hn ⟨h1,z⟩)
     ·exact .inl (eo h1)
    rw[if_pos e] at k;exact k.dh ⟨_,m,al,R,W'⟩ hl rfl
   refine bJ ⟨_,rfl,_,_,rfl,rfl,_,rfl,?_⟩;refine aT (λhh=>?_) (λhh=>?_)
   ·have hh:=bw hh;exact bF (bad λz=>by omega)
   ·have hh:¬(n:Int)<1:=λz=>hh (bp z);refine⟨_,rfl,_,_,rfl,rfl,_,rfl,?_⟩;refine aT (λh2=>?_) (λh2=>?_)
    ·have h2:=bw h2;exact bad λz=>by omega
    ·have h2:¬(4294967295:Int)<(n:Int):=λz=>h2 (bp z);have e:Nb.cameMay (.bad n)=true:=by rw[may,bp (by omega:n≠0),bp (by omega:n<4294967296)];rfl
     rw[if_neg (by rw[e];exact Bool.noConfusion)] at k;refine⟨_,rfl,bY _,λp hp=>?_⟩;have s1:ai H (upd H p (.tup [])):=aG hp;exact⟨_,rfl,g,st,w',p,.bad n,rfl,⟨_,m,al,R.same s1,W'⟩,S,ew,ag,e,λH' g' l po SR L hl=>k H' g' l ((bA.same s1).trans po) SR L (s1.free hl)⟩
noncomputable abbrev Iv:Stmt:=top 122
noncomputable def Iw(C:Cs):Sp:=λvs H Q _=>∃(g:Gh) (s:Nb.State),vs=[.ref g.ba]/\dg C H g s/\NB.SI s/\dI C H g (Nb.step s .next) Q
theorem Iy{b:Nb.Book}{p:Nat}{i:Item}(ha:b.anyOpen=true)(hn:b.next=some p)(hi:b.items[p]?=some (some i)):nextK b=(if fk (b.todo i)=true then 1 else 2,some p):=by unfold nextK;rw[if_neg (by rw[ha];exact Bool.noConfusion),hn];show(match b.at_ p with | none=>_ | some i=>_)=_;rw[NB.bK hi]
theorem Uc{s:Nb.State}(S:NB.SI s):Nb.nextOf s=.nums [(nextK s.book).1,(nextK s.book).2.getD 0]:=by
 unfold Nb.nextOf;cases hw:s.wait with
 |some x=>
  obtain⟨i,hi,gS,oN⟩:=S.wt x hw;obtain⟨i',gT,ho,tS⟩:=NB.oa gS;rw[hi] at gT;cases gT;have Bc:s.book.anyOpen=true:=by unfold Nb.Book.anyOpen;exact AI hi (by show(i.stands==.open_)=true;rw[ho];rfl)
  rw[Iy Bc gS hi,oN];rfl
 |none=>
  show(if s.book.anyOpen=false then Nb.Answer.nums [0,0] else _)=_;by_cases ha:s.book.anyOpen=false
  ·have ek:nextK s.book=(0,none):=by unfold nextK;rw[if_pos ha]
   rw[if_pos ha,ek];rfl
  ·rw[if_neg ha];have ha:s.book.anyOpen=true:=by simpa using ha
   cases hn:s.book.next with
   |none=>
    have ek:nextK s.book=(3,none):=by unfold nextK;rw[if_neg (by rw[ha];exact Bool.noConfusion),hn]
    rw[ek];rfl
   |some p=>obtain⟨i,hi,_⟩:=NB.oa hn;rw[Iy ha hn hi];show(match s.book.at_ p with | none=>Nb.Answer.nums [3,0] | some i=>(match s.book.todo i with | .run _=>.nums [1,p] | _=>.nums [2,p]))=_;rw[NB.bK hi];show(match s.book.todo i with | .run _=>Nb.Answer.nums [1,p] | _=>.nums [2,p])=.nums [if fk (s.book.todo i)=true then 1 else 2,p];cases s.book.todo i<;>rfl
theorem Ud(T:Tx K mg C)(F:aR K mg "tell_next" Iv ["book"])(D1:Ok P w K mg base aq 2 "sources_of_open_cells" ["book"] (A7 C))(D2:Ok P w K mg base aq 3 "next_step" ["book","sources"] (Bb C)):Ok P w K mg base aq 4 "tell_next" ["book"] (Iw C):=by
 have sc:=sk (P:=["book"]) (st:=Iv) ["book","step"];refine F.ok sc (λvs H Q E h=>?_) (λf aD A outer s H vs Q E hr h=>?_)
 ·obtain⟨g,st,rfl,_⟩:=h;rfl
 ·obtain⟨g,st,rfl,⟨wv,m,al,R,W⟩,S,k⟩:=h;refine⟨_,af (aN (i:=1) sc.nd rfl (Or.inl rfl) (az D2 hr rfl aE (aa (pv 0) (aa (az D1 (hr.mono (by decide)) rfl aE (aa (pv 0) ae)) ae))))
   (ah (aC (br (aa (aj (pv 1) rfl) (aa (kI (cw (iD (aj (pv 1) rfl))) aK (aj (aj (pv 1) rfl) rfl)) ae))))),?_⟩
  refine⟨_,rfl,_,rfl,g,st.book,wv,m,al,rfl,R,S.bi,λH1 d iW hS=>?_⟩;refine⟨g,st.book,wv,m,al,d,H,rfl,R.same iW,S.bi,hS,λH2 sa dx qm _ bS=>?_⟩;have sm:=iW.trans qm;have aJ:Nb.step st .next=(st,Nb.nextOf st):=rfl
  rw[aJ,Uc S] at k;refine⟨_,rfl,sa,C.step,dx,_,_,rfl,bS,T.fG,T.mJ,oH ..,_,rfl,sa,C.step,dx,_,_,rfl,bS,T.fG,T.lh,mP ..,_,rfl,?_⟩;have two:∀u v:V,([u,v]:List V).length<=sizeLine:=λu v=>by show 2<=sizeLine;decide
  cases e:(nextK st.book).2 with
  |none=>refine bF ⟨two _ _,λl hl=>?_⟩;exact k.tell (bA.same sm) ⟨wv,m,al,R.same sm,W⟩ hl (by rw[e])
  |some p=>
   have:∃i,st.book.items[p]?=some (some i):=by
    unfold nextK at e;split at e
    ·cases e
    ·split at e
     ·cases e
     ·rename_i q hq;obtain⟨i,hi,_⟩:=NB.oa hq;split at e
      ·cases e
      ·cases e;exact⟨i,hi⟩
   obtain⟨i,hi⟩:=this;obtain⟨a,aZ,aU⟩:=(R.same sm).bK hi;obtain⟨gy,na,ta,la,lv,h1,_⟩:=id aU;have xm:Ba g (some p)=.ref a:=by show ov (g.cs[p]?).join=_;rw[aZ];rfl
   rw[xm];rw[e,xm] at bS;refine bJ ⟨_,rfl,sa,C.step,dx,_,_,rfl,bS,T.fG,T.lh,mP ..,a,C.cell,gy,_,_,rfl,h1,T.aH,T.eG,fh ..,two _ _,λl hl=>?_⟩;exact k.tell (bA.same sm) ⟨wv,m,al,R.same sm,W⟩ hl (by rw[e])
end
end Rr
namespace NB
open Nb
theorem Ue{b:Book}(h:b.items.length=256)(f:Item->Bool)(q:Nat->Bool)(hq:∀p,q p=match b.at_ p with | some i=>f i | none=>false):(List.range PLACES).filter q=((placed b).filter λx=>f x.1).map (·.2):=by
 unfold placed;rw[F2 h];generalize List.range PLACES=l;induction l with
 |nil=>rfl
 |cons p l ih=>
  rw[bX,eK,hq p];generalize b.at_ p=o;cases o with
  |none=>exact ih
  |some i=>
   show(if f i=true then p::l.filter q else l.filter q)=List.map (·.2) (List.filter (λx=>f x.1) ((i,p)::(l.map λp=>(b.at_ p,p)).filterMap λx=>x.1.map λi=>(i,x.2)));rw[eK];by_cases ho:f i=true
   ·rw[if_pos ho,if_pos ho,bX,ih]
   ·rw[if_neg ho,if_neg ho];exact ih
theorem Iz{s t:Stands}:(s.num:Int)=(t.num:Int)↔s=t:=by
 constructor
 ·intro h;cases s<;>cases t<;>first|rfl | (exfalso;revert h;decide)
 ·rintro rfl;rfl
theorem Ug(l:List (Item×Nat))(s:Stands):(l.map λx=>(x.1.stands.num:Int)).count (s.num:Int)=(l.filter λx=>x.1.stands==s).length:=by
 induction l with
 |nil=>rfl
 |cons a r ih=>
  rw[bX,rg,ih,eK];by_cases h:a.1.stands=s
  ·rw[if_pos (jb.mpr (Iz.mpr h)),if_pos (jb.mpr h)];rfl
  ·rw[if_neg (λz=>h (Iz.mp (jb.mp z))),if_neg (λz=>h (jb.mp z))];rfl
end NB
namespace Rr
open PySem PySem.Spec PyProof.Rows L2
open Nb (Text Item Last Came Stands)
theorem Bu{b:Bool}{A B:Prop}(h:b=false)(a:B):if b=true then A else B:=by rw[if_neg (by rw[h];exact Bool.noConfusion)];exact a
theorem Bv(t:Text):(NbNeutral.bytesOf t).map V.int=bv t:=by unfold NbNeutral.bytesOf bv;rw[pz];rfl
section
variable {P:Program}{w:World}{K:PySem.W.Frag}{mg:Str->Option Value}{base:Heap}{C:Cs}
noncomputable abbrev IA:Stmt:=top 77
theorem Uh(T:Tx K mg C)(F:aR K mg "find_place" IA ["book","name"])(D1:Ok P w K mg base aq 2 "is_name" ["text"] qf):Ok P w K mg base aq 3 "find_place" ["book","name"] (qt C .find):=by
 have sc:=sk (P:=["book","name"]) (st:=IA) ["book","name","cell"];refine F.ok sc (λvs H Q E h=>?_) (λf aD A outer s H vs Q E hr h=>?_)
 ·obtain⟨g,st,na,n,rfl,_⟩:=h;rfl
 ·obtain⟨g,st,na,n,rfl,SR,B,h1,h2,k⟩:=h;obtain⟨wv,m,al,R,W⟩:=id SR;refine⟨_,af (aO (gp (dU (az D1 hr rfl aE (aa (pv 1) ae)))) (ah (aC (br (aa (aM T.sY) ae)))) aP)
   (af (aN (i:=2) sc.nd rfl (Or.inl rfl) (wH (aj (pv 0) rfl) (pv 1) ⟨rfl,rfl,rfl,rfl⟩ (cS hr)))
   (af (aO (cw (iD (pv 2))) (ah (aC (br (aa (aM T.GG) ae)))) aP)
   (ah (aC (br (aa (aj (pv 2) rfl) ae)))))),?_⟩
  have aJ:Nb.step st (.find n)=(st,if Nb.nameOk n=false then Nb.BAD else match st.book.find n with | some p=>.nums [p] | none=>.refused (-4)):=rfl;rw[aJ] at k;refine⟨_,rfl,na,n,rfl,h1,h2,_,rfl,?_⟩;refine aT (λc=>?_) (λc=>?_)
  ·rw[if_pos (nt c)] at k;exact⟨bE,λl hl=>k.dh SR hl rfl⟩
  ·rw[if_neg (by rw[nf c];exact Bool.noConfusion)] at k;obtain⟨kvs,q1,q2,q3,q4⟩:=id R.named;refine⟨_,rfl,g.ba,C.book,g.bd,_,_,rfl,R.book,T.bx,T.gO,iS ..,g.da,rfl,.inr ⟨kvs,.inl q1⟩,_,rfl,_,b5.t q1 h1.key,?_⟩;rw[q3];cases e:src g st.book n with
   |none=>rw[(R.iT e).1] at k;exact⟨_,rfl,_,rfl,bF ⟨bE,λl hl=>k.dh SR hl rfl⟩⟩
   |some a=>obtain⟨p,i,f1,f2,f3,f4,dx,fI,ip,iq,fJ,c1,_⟩:=R.gQ e;rw[f1] at k;exact⟨_,rfl,_,rfl,bJ ⟨_,rfl,a,C.cell,dx,_,_,rfl,c1,T.aH,T.eG,fh ..,bE,λl hl=>k.dh SR hl rfl⟩⟩
noncomputable abbrev Ui:Stmt:=top 78
noncomputable def tU(b:Nb.Book)(p:Nat):V:=if 256<=p then .int (-1) else if b.at_ p=none then .int (-3) else .ak
noncomputable def oP(C:Cs):Sp:=λvs H Q _=>∃(g:Gh) (b:Nb.Book) (wv:V) (m al p:Nat),vs=[.ref g.ba,.int (p:Int)]/\Rep C H g b wv m al/\Q (tU b p) H
theorem qC{b:Nb.Book}(p:Nat)(f:Item->Nb.Answer):(∃z,tU b p=.int z/\Nb.ofPlace b p f=.refused z)\/(tU b p=.ak/\∃i,b.items[p]?=some (some i)/\Nb.ofPlace b p f=f i):=by
 unfold tU Nb.ofPlace;by_cases h:256<=p
 ·exact .inl ⟨-1,by rw[if_pos h],by rw[if_pos (show Nb.PLACES<=p from h)];rfl⟩
 ·rw[if_neg h,if_neg (show ¬Nb.PLACES<=p from h)];cases e:b.at_ p with
  |none=>exact .inl ⟨-3,by rw[if_pos rfl],rfl⟩
  |some i=>exact .inr ⟨by rw[if_neg (λz=>nomatch z)],i,NB.nZ e,rfl⟩
theorem Rep.ix{H:Hp}{g:Gh}{b:Nb.Book}{wv:V}{m al:Nat}(R:Rep C H g b wv m al){p:Nat}{a:Addr}(h:g.cs[p]?=some (some a)):kN (g.cs.map ov) (p:Int)=some (.ref a):=at_of (j:=p) rfl (by rw[cJ,h];rfl)
theorem Uj(T:Tx K mg C)(F:aR K mg "refusal_of_place" Ui ["book","place"]):Ok P w K mg base aq 1 "refusal_of_place" ["book","place"] (oP C):=by
 refine F.ok (sk ["book","place"]) (λvs H Q E h=>?_) (λf aD A outer s H vs Q E hr h=>?_)
 ·obtain⟨g,b,wv,m,al,p,rfl,_⟩:=h;rfl
 ·obtain⟨g,b,wv,m,al,p,rfl,R,k⟩:=h;refine⟨_,af (aO (bo DI (pv 1) (aM T.AB) (aY _)) (ah (aC (aM T.sY))) aP)
   (af (aO (cw (iD (cx cC (aj (pv 0) rfl) (pv 1) (λ_ _=>rfl)))) (ah (aC (aM T.Rc))) aP) (ah (aC jV))),?_⟩
  unfold tU at k;refine⟨_,rfl,_,_,rfl,rfl,_,rfl,?_⟩;refine aT (λhh=>?_) (λhh=>?_)
  ·have hh:=bw hh;rw[if_pos (by omega)] at k;exact k
  ·have hh:¬(256:Int)<=(p:Int):=λz=>hh (bp z);have hp:p<256:=by omega
   rw[if_neg (by omega)] at k;obtain⟨o,ho⟩:∃o,b.items[p]?=some o:=⟨_,fm (by rw[R.dG];exact hp)⟩;rw[NB.bK ho] at k;cases o with
   |none=>rw[if_pos rfl] at k;exact⟨_,rfl,g.ba,C.book,g.bd,_,_,rfl,R.book,T.bx,T.fZ,gP ..,_,rfl,g.ca,_,_,.ak,rfl,rfl,ax.of R.cells,at_of (j:=p) rfl (by rw[cJ,R.Gw ho];rfl),_,rfl,bF k⟩
   |some i=>obtain⟨a,aZ,_⟩:=R.bK ho;rw[if_neg (λz=>nomatch z)] at k;exact⟨_,rfl,g.ba,C.book,g.bd,_,_,rfl,R.book,T.bx,T.fZ,gP ..,_,rfl,g.ca,_,_,.ref a,rfl,rfl,ax.of R.cells,R.ix aZ,_,rfl,bJ k⟩
noncomputable def i4(C:Cs)(c:Nat->Nb.Call):Sp:=λvs H Q _=>∃(g:Gh) (s:Nb.State) (p:Nat),vs=[.ref g.ba,.int (p:Int)]/\dg C H g s/\NB.SI s/\dI C H g (Nb.step s (c p)) Q
noncomputable abbrev IB:Stmt:=top 79
theorem Uk(T:Tx K mg C)(F:aR K mg "tell_state" IB ["book","place"])(D1:Ok P w K mg base aq 1 "refusal_of_place" ["book","place"] (oP C)):Ok P w K mg base aq 2 "tell_state" ["book","place"] (i4 C .state):=by
 have sc:=sk (P:=["book","place"]) (st:=IB) ["book","place","refusal","cell"];refine F.ok sc (λvs H Q E h=>?_) (λf aD A outer s H vs Q E hr h=>?_)
 ·obtain⟨g,st,p,rfl,_⟩:=h;rfl
 ·obtain⟨g,st,p,rfl,SR,S,k⟩:=h;obtain⟨wv,m,al,R,W⟩:=id SR;refine⟨_,af (aN (i:=2) sc.nd rfl (Or.inl rfl) (az D1 hr rfl aE (aa (pv 0) (aa (pv 1) ae))))
   (af (aO (cw (ft (pv 2))) (ah (aC (br (aa (pv 2) ae)))) aP)
   (af (aN (i:=3) sc.nd rfl (Or.inl rfl) (cx cC (aj (pv 0) rfl) (pv 1) (λ_ _=>rfl)))
   (ah (aC (br (aa (aj (pv 3) rfl) (aa (dv dE rfl T.dA dN (aa (aj (pv 3) rfl) ae)) (aa (dv dE rfl T.dA dN (aa (aj (pv 3) rfl) ae))
    (aa (kI (cw (iD (aj (pv 3) rfl))) aK aK) (aa (kI (dU (aj (pv 3) rfl)) aK aK)
    (aa (kI (bo b3 (aj (pv 3) rfl) (aM T.oj) (aY _)) (dv dE rfl T.dA dN (aa (aj (aj (pv 3) rfl) rfl) ae)) aK)
    (aa (kI (bo b3 (aj (pv 3) rfl) (aM T.sX) (aY _)) (aj (aj (pv 3) rfl) rfl) aK) ae)))))))))))),?_⟩
  have aJ:Nb.step st (.state p)=(st,Nb.ofPlace st.book p Nb.stateOf):=rfl;rw[aJ] at k;refine⟨_,rfl,_,rfl,g,st.book,wv,m,al,p,rfl,R,?_⟩;rcases qC (b:=st.book) p Nb.stateOf with ⟨z,e1,e2⟩ | ⟨e1,i,hi,e2⟩
  ·rw[e1];rw[e2] at k;exact⟨_,rfl,_,rfl,bF ⟨_,rfl,bE,λl hl=>k.dh SR hl rfl⟩⟩
  ·rw[e1];rw[e2] at k;obtain⟨a,aZ,aU⟩:=R.bK hi;obtain⟨dx,na,ta,la,lv,h1,h2,h3,h4,h5⟩:=id aU;obtain⟨jH,l1,l2⟩:=id h4;refine⟨_,rfl,_,rfl,bJ ⟨_,rfl,g.ba,C.book,g.bd,_,_,rfl,R.book,T.bx,T.fZ,gP ..,_,rfl,g.ca,_,_,.ref a,rfl,rfl,ax.of R.cells,R.ix aZ,?_⟩⟩;refine⟨_,rfl,a,C.cell,dx,_,_,rfl,h1,T.aH,T.c8,ed ..,_,rfl,a,C.cell,dx,_,_,rfl,h1,T.aH,T.mI,qg ..,ta,_,rfl,.inr (aQ.of h3),_,rfl,a,C.cell,dx,_,_,rfl,h1,T.aH,T.ie,jA ..,la,_,rfl,.inr (aQ.of l1),_,rfl,a,C.cell,dx,_,_,rfl,h1,T.aH,T.fY,ig ..,_,rfl,?_⟩;rw[bH,aF,Paired.len l2];have fin:∀(x4 x5 x6 x7:Int),x4=(if i.last.isSome=true then 1 else 0)->x5=(if i.touched=true then 1 else 0)->x6=(((i.value.map List.length).getD 0:Nat):Int)->x7=(Nb.badNumber i:Int)->
    ([V.int (i.stands.num:Int),.int (i.text.length:Int),.int (i.leans.length:Int),.int x4,.int x5,.int x6,.int x7]:List V).length<=sizeLine/\∀l,H l=none->Q (.ref l) (upd H l (.lst [V.int (i.stands.num:Int),.int (i.text.length:Int),.int (i.leans.length:Int),.int x4,.int x5,.int x6,.int x7])):=by
    rintro x4 x5 x6 x7 rfl rfl rfl rfl;refine⟨by show 7<=sizeLine;decide,λl hl=>?_⟩;have:=k.dh SR hl (zs:=[(i.stands.num:Int),(i.text.length:Int),(i.leans.length:Int),if i.last.isSome=true then 1 else 0,if i.touched=true then 1 else 0,(((i.value.map List.length).getD 0:Nat):Int),(Nb.badNumber i:Int)]) ?_
    ·exact this
    ·show[(i.stands.num:Int),(i.text.length:Int),(i.leans.length:Int),((if i.last.isSome=true then 1 else 0:Nat):Int),((if i.touched=true then 1 else 0:Nat):Int),(((i.value.map List.length).getD 0:Nat):Int),(Nb.badNumber i:Int)]=_;congr 4
     ·split<;>rfl
     ·congr 1;split<;>rfl
   have IC:∀x4 x5:Int,x4=(if i.last.isSome=true then 1 else 0)->x5=(if i.touched=true then 1 else 0)->yG (l9 (iF ny (dO K (bU 3) "stands") (tC (.int 1)))) (yW (λxs H Q=>∃p ys,xs=[.ref p]/\(ax K H p ys\/aQ K H p ys)/\Q (.int ys.length) H) (jj (dO K (dO K (bU 3) "last") "value") iG)) (tC (.int 0)) [some (.ref g.ba),some (.int (p:Int)),some .ak,some (.ref a)] H (λv6 H6=>
    yG (l9 (iF ny (dO K (bU 3) "stands") (tC (.int 2)))) (dO K (dO K (bU 3) "last") "number") (tC (.int 0)) [some (.ref g.ba),some (.int (p:Int)),some .ak,some (.ref a)] H6 (λv7 H7=>([V.int (i.stands.num:Int),.int (i.text.length:Int),.int (i.leans.length:Int),.int x4,.int x5,v6,v7]:List V).length<=sizeLine/\∀l,H7 l=none->Q (.ref l) (upd H7 l (.lst [V.int (i.stands.num:Int),.int (i.text.length:Int),.int (i.leans.length:Int),.int x4,.int x5,v6,v7])))):=by
    intro x4 x5 e4 e5;refine⟨_,rfl,a,C.cell,dx,_,_,rfl,h1,T.aH,T.c8,ed ..,rfl,_,rfl,?_⟩;refine aT (λhh=>?_) (λhh=>?_)
    ·have hg:i.stands=.good:=cN.mp (bw hh);obtain⟨lr,v,kf,Bw,hv,Ej⟩:=S.bi.value hi hg;rw[kf] at h5;obtain⟨ra,rfl,dr,tr,qk,gr,vr,r1,r2,r3,r4,r5⟩:=h5;rw[Bw] at r5;have r5:ay H vr v:=r5;refine⟨_,rfl,a,C.cell,dx,_,_,rfl,h1,T.aH,T.fY,ig ..,ra,C.run,dr,_,_,rfl,r1,T.dR,T.qc,tf ..,vr,_,rfl,.inr (aQ.of r5),?_⟩;refine⟨_,rfl,a,C.cell,dx,_,_,rfl,h1,T.aH,T.c8,ed ..,rfl,_,rfl,?_⟩;refine Bu (by rw[hg];rfl) (fin _ _ _ _ e4 e5 (by rw[hv,bH];rfl) ?_);unfold Nb.badNumber;rw[hg];rfl
    ·have hg:¬i.stands=.good:=λz=>hh (bp (cN.mpr z));have ev:i.value=none:=by unfold Nb.Item.value;rw[if_neg hg]
     refine⟨_,rfl,a,C.cell,dx,_,_,rfl,h1,T.aH,T.c8,ed ..,rfl,_,rfl,?_⟩;refine aT (λh'=>?_) (λh'=>?_)
     ·have hb:i.stands=.bad:=cN.mp (bw h');obtain⟨_,_,_,_,_,o6⟩:=NB.d8 (S.bi.ok p i hi).1;obtain⟨lr,kf,_,_,_,ZV⟩:=NB.n9 (o6 hb);rw[kf] at h5;obtain⟨ra,rfl,dr,tr,qk,gr,vr,r1,r2,r3,r4,r5⟩:=h5;refine⟨_,rfl,a,C.cell,dx,_,_,rfl,h1,T.aH,T.fY,ig ..,ra,C.run,dr,_,_,rfl,r1,T.dR,T.oh,qi ..,?_⟩;refine fin _ _ _ _ e4 e5 (by rw[ev];rfl) ?_;unfold Nb.badNumber;rw[if_pos hb,kf];show _=((match lr.came with | .bad n=>n | .value _=>0:Nat):Int);cases ec:lr.came with
      |value v=>rfl
      |bad n=>rfl
     ·have hb:¬i.stands=.bad:=λz=>h' (bp (cN.mpr z));refine fin _ _ _ _ e4 e5 (by rw[ev];rfl) ?_;unfold Nb.badNumber;rw[if_neg hb];rfl
   have ID:∀x4:Int,x4=(if i.last.isSome=true then 1 else 0)->∃b:Bool,V.bl i.touched=V.bl b/\if b=true then _ else _:=λx4 e4=>by
    refine⟨i.touched,rfl,?_⟩;refine aT (λht=>?_) (λht=>?_)
    ·exact IC x4 1 e4 (by rw[if_pos ht])
    ·exact IC x4 0 e4 (by rw[if_neg ht])
   cases el:i.last with
   |none=>rw[el] at h5;have h5:lv=.ak:=h5;subst h5;refine bF ⟨_,rfl,a,C.cell,dx,_,_,rfl,h1,T.aH,T.j8,qh ..,ID 0 (by rw[el];rfl)⟩
   |some lr=>rw[el] at h5;obtain⟨ra,rfl,_⟩:=id h5;refine bJ ⟨_,rfl,a,C.cell,dx,_,_,rfl,h1,T.aH,T.j8,qh ..,ID 1 (by rw[el];rfl)⟩
noncomputable abbrev IE:Stmt:=top 80
noncomputable abbrev IF:Stmt:=top 81
theorem Ul(T:Tx K mg C)(F:aR K mg "tell_value" IE ["book","place"])(D1:Ok P w K mg base aq 1 "refusal_of_place" ["book","place"] (oP C)):Ok P w K mg base aq 2 "tell_value" ["book","place"] (i4 C .value):=by
 have sc:=sk (P:=["book","place"]) (st:=IE) ["book","place","refusal","cell"];refine F.ok sc (λvs H Q E h=>?_) (λf aD A outer s H vs Q E hr h=>?_)
 ·obtain⟨g,st,p,rfl,_⟩:=h;rfl
 ·obtain⟨g,st,p,rfl,SR,S,k⟩:=h;obtain⟨wv,m,al,R,W⟩:=id SR;refine⟨_,af (aN (i:=2) sc.nd rfl (Or.inl rfl) (az D1 hr rfl aE (aa (pv 0) (aa (pv 1) ae))))
   (af (aO (cw (ft (pv 2))) (ah (aC (br (aa (pv 2) ae)))) aP)
   (af (aN (i:=3) sc.nd rfl (Or.inl rfl) (cx cC (aj (pv 0) rfl) (pv 1) (λ_ _=>rfl)))
   (af (aO (bo rH (aj (pv 3) rfl) (aM T.oj) (aY _)) (ah (aC (br (aa (aM T.Rf) ae)))) aP)
   (ah (aC (cB ff (br (aa aK ae)) (kM vp rfl T.wF CS (aa (aj (aj (pv 3) rfl) rfl) ae)))))))),?_⟩
  have aJ:Nb.step st (.value p)=(st,Nb.ofPlace st.book p λi=>match i.value with | some v=>.text v | none=>.refused (-4)):=rfl;rw[aJ] at k;refine⟨_,rfl,_,rfl,g,st.book,wv,m,al,p,rfl,R,?_⟩;rcases qC (b:=st.book) p (λi=>match i.value with | some v=>.text v | none=>.refused (-4)) with ⟨z,e1,e2⟩ | ⟨e1,i,hi,e2⟩
  ·rw[e1];rw[e2] at k;exact⟨_,rfl,_,rfl,bF ⟨_,rfl,bE,λl hl=>k.dh SR hl rfl⟩⟩
  ·rw[e1];rw[e2] at k;obtain⟨a,aZ,aU⟩:=R.bK hi;obtain⟨dx,na,ta,la,lv,h1,h2,h3,h4,h5⟩:=id aU;refine⟨_,rfl,_,rfl,bJ ⟨_,rfl,g.ba,C.book,g.bd,_,_,rfl,R.book,T.bx,T.fZ,gP ..,_,rfl,g.ca,_,_,.ref a,rfl,rfl,ax.of R.cells,R.ix aZ,?_⟩⟩;refine⟨_,rfl,a,C.cell,dx,_,_,rfl,h1,T.aH,T.c8,ed ..,rfl,_,rfl,?_⟩;refine aT (λhh=>?_) (λhh=>?_)
   ·have hg:¬i.stands=.good:=λz=>CW (nt hh) (cN.mpr z);have ev:i.value=none:=by unfold Nb.Item.value;rw[if_neg hg]
    simp only[ev] at k;exact⟨bE,λl hl=>k.dh SR hl rfl⟩
   ·have hg:i.stands=.good:=cN.mp (bw (nf hh));obtain⟨lr,v,kf,Bw,hv,Ej⟩:=S.bi.value hi hg;simp only[hv] at k;rw[kf] at h5;obtain⟨ra,rfl,dr,tr,qk,gr,vr,r1,r2,r3,r4,r5⟩:=h5;rw[Bw] at r5;have r5:ay H vr v:=r5;refine⟨bE,λq hq=>?_⟩;have s1:ai H (upd H q (.lst [.int 0])):=aG hq;refine⟨_,rfl,a,C.cell,dx,_,_,rfl,s1 _ _ h1,T.aH,T.fY,ig ..,ra,C.run,dr,_,_,rfl,s1 _ _ r1,T.dR,T.qc,tf ..,vr,_,rfl,.inr (aQ.of (s1 _ _ r5)),λq2 il=>?_⟩;have s2:ai (upd H q (.lst [.int 0])) (upd (upd H q (.lst [.int 0])) q2 (.lst (bv v))):=aG il;refine⟨q,q2,_,_,rfl,rfl,s2 _ _ ag,ag,?_,λl hl=>?_⟩
    ·rw[bH];show 1+v.length<=sizeLine;exact aS (by omega:1+v.length<=100000) (by decide)
    ·have:=k.tell (zs:=0::NbNeutral.bytesOf v) (bA.same (s1.trans s2)) (SR.same (s1.trans s2)) hl rfl;rw[bX,Bv] at this;exact this
theorem Um(T:Tx K mg C)(F:aR K mg "tell_text" IF ["book","place"])(D1:Ok P w K mg base aq 1 "refusal_of_place" ["book","place"] (oP C)):Ok P w K mg base aq 2 "tell_text" ["book","place"] (i4 C .text):=by
 have sc:=sk (P:=["book","place"]) (st:=IF) ["book","place","refusal"];refine F.ok sc (λvs H Q E h=>?_) (λf aD A outer s H vs Q E hr h=>?_)
 ·obtain⟨g,st,p,rfl,_⟩:=h;rfl
 ·obtain⟨g,st,p,rfl,SR,S,k⟩:=h;obtain⟨wv,m,al,R,W⟩:=id SR;refine⟨_,af (aN (i:=2) sc.nd rfl (Or.inl rfl) (az D1 hr rfl aE (aa (pv 0) (aa (pv 1) ae))))
   (af (aO (cw (ft (pv 2))) (ah (aC (br (aa (pv 2) ae)))) aP)
   (ah (aC (cB ff (br (aa aK ae)) (kM vp rfl T.wF CS (aa (aj (cx cC (aj (pv 0) rfl) (pv 1) (λ_ _=>rfl)) rfl) ae)))))),?_⟩
  have aJ:Nb.step st (.text p)=(st,Nb.ofPlace st.book p λi=>.text i.text):=rfl;rw[aJ] at k;refine⟨_,rfl,_,rfl,g,st.book,wv,m,al,p,rfl,R,?_⟩;rcases qC (b:=st.book) p (λi=>.text i.text) with ⟨z,e1,e2⟩ | ⟨e1,i,hi,e2⟩
  ·rw[e1];rw[e2] at k;exact⟨_,rfl,_,rfl,bF ⟨_,rfl,bE,λl hl=>k.dh SR hl rfl⟩⟩
  ·rw[e1];rw[e2] at k;obtain⟨a,aZ,aU⟩:=R.bK hi;obtain⟨dx,na,ta,la,lv,h1,h2,h3,h4,h5⟩:=id aU;have tl:=(NB.d8 (S.bi.ok p i hi).1).2.1;refine⟨_,rfl,_,rfl,bJ ⟨bE,λq hq=>?_⟩⟩;have s1:ai H (upd H q (.lst [.int 0])):=aG hq;refine⟨_,rfl,g.ba,C.book,g.bd,_,_,rfl,s1 _ _ R.book,T.bx,T.fZ,gP ..,_,rfl,g.ca,_,_,.ref a,rfl,rfl,ax.of (s1 _ _ R.cells),R.ix aZ,a,C.cell,dx,_,_,rfl,s1 _ _ h1,T.aH,T.mI,qg ..,ta,_,rfl,.inr (aQ.of (s1 _ _ h3)),λq2 il=>?_⟩;have s2:ai (upd H q (.lst [.int 0])) (upd (upd H q (.lst [.int 0])) q2 (.lst (bv i.text))):=aG il;refine⟨q,q2,_,_,rfl,rfl,s2 _ _ ag,ag,?_,λl hl=>?_⟩
   ·rw[bH];show 1+i.text.length<=sizeLine;exact aS (by omega:1+i.text.length<=100000) (by decide)
   ·have:=k.tell (zs:=0::NbNeutral.bytesOf i.text) (bA.same (s1.trans s2)) (SR.same (s1.trans s2)) hl rfl;rw[bX,Bv] at this;exact this
noncomputable abbrev IG:Stmt:=top 82
theorem Uo(T:Tx K mg C)(F:aR K mg "tell_leans" IG ["book","place"])(D1:Ok P w K mg base aq 1 "refusal_of_place" ["book","place"] (oP C)):Ok P w K mg base aq 2 "tell_leans" ["book","place"] (i4 C .leans):=by
 have sc:=sk (P:=["book","place"]) (st:=IG) ["book","place","refusal","told","lean"];refine F.ok sc (λvs H Q E h=>?_) (λf aD A outer s H vs Q E hr h=>?_)
 ·obtain⟨g,st,p,rfl,_⟩:=h;rfl
 ·obtain⟨g,st,p,rfl,SR,S,k⟩:=h;obtain⟨wv,m,al,R,W⟩:=id SR;refine⟨_,af (aN (i:=2) sc.nd rfl (Or.inl rfl) (az D1 hr rfl aE (aa (pv 0) (aa (pv 1) ae))))
   (af (aO (cw (ft (pv 2))) (ah (aC (br (aa (pv 2) ae)))) aP)
   (af (aN (i:=3) sc.nd rfl (Or.inl rfl) (br (aa aK ae)))
   (af (cR PassesOwn.never rfl (jg (aj (cx cC (aj (pv 0) rfl) (pv 1) (λ_ _=>rfl)) rfl)) (bQ (i:=4) sc.nd rfl (Or.inl rfl))
    (af (cb (cZ di gC gB fT (pv 3) (aa (dv dE rfl T.dA dN (aa (pv 4) ae)) ae)))
    (ah (cb (cZ di m4 ph Fx (pv 3) (aa (pv 4) ae))))))
   (ah (aC (pv 3)))))),?_⟩
  have aJ:Nb.step st (.leans p)=(st,Nb.ofPlace st.book p λi=>.list i.leans):=rfl;rw[aJ] at k;refine⟨_,rfl,_,rfl,g,st.book,wv,m,al,p,rfl,R,?_⟩;rcases qC (b:=st.book) p (λi=>.list i.leans) with ⟨z,e1,e2⟩ | ⟨e1,i,hi,e2⟩
  ·rw[e1];rw[e2] at k;exact⟨_,rfl,_,rfl,bF ⟨_,rfl,bE,λl hl=>k.dh SR hl rfl⟩⟩
  ·rw[e1];rw[e2] at k;obtain⟨a,aZ,aU⟩:=R.bK hi;obtain⟨dx,na,ta,la,lv,h1,h2,h3,⟨jH,l1,l2⟩,h5⟩:=id aU;have qw:=NB.kY (NB.d8 (S.bi.ok p i hi).1).2.2.1;refine⟨_,rfl,_,rfl,bJ ⟨bE,λr qy=>?_⟩⟩;have sR:∀{o:HO},ai H (upd H r o):=aG qy;have Bg:(i.leans.flatMap NbNeutral.sized).length<=8*33:=Bh (λt ht=>(NB.n6 (qw.2 t ht)).2) qw.1;refine⟨_,rfl,g.ba,C.book,g.bd,_,_,rfl,sR _ _ R.book,T.bx,T.fZ,gP ..,_,rfl,g.ca,_,_,.ref a,rfl,rfl,ax.of (sR _ _ R.cells),R.ix aZ,a,C.cell,dx,_,_,rfl,sR _ _ h1,T.aH,T.ie,jA ..,la,rfl,⟨_,aQ.of (sR _ _ l1)⟩,?_⟩;refine nu (K:=K) (a:=la) (xs:=jH.map V.ref) (λn σ H'=>(∃v4:Option V,σ=[some (.ref g.ba),some (.int (p:Int)),some .ak,some (.ref r),v4])/\H'=upd H r (.lst ((0::(i.leans.take n).flatMap NbNeutral.sized).map V.int))) ⟨⟨_,rfl⟩,rfl⟩ (λn σ H' _ ⟨_,e⟩=>by rw[e];exact aQ.of (sR _ _ l1)) ?_ ?_
   ·rintro n x σ H' hx ⟨⟨v4,rfl⟩,rfl⟩;obtain⟨c,eD,rfl⟩:=dH hx;obtain⟨t,lD,b8⟩:=Paired.get l2 eD;have b8:ay H c t:=b8;have fl:((i.leans.take (n+1)).flatMap NbNeutral.sized)=((i.leans.take n).flatMap NbNeutral.sized)++NbNeutral.sized t:=lu lD;have Tp:((i.leans.take n).flatMap NbNeutral.sized).length+(t.length+1)<=8*33:=by have h6:=ow (f:=NbNeutral.sized) (l:=i.leans) (n+1);rw[fl,aX,tP] at h6;omega
    refine⟨_,rfl,.inl ⟨rfl,_,ax.of ag⟩,_,rfl,c,_,rfl,.inr (aQ.of (sR _ _ b8)),r,_,_,rfl,rfl,ag,by rw[aF,cu];exact eh (by omega:_<1000) (by decide),?_⟩;rw[bc];refine⟨_,rfl,.inl ⟨rfl,_,ax.of ag⟩,_,rfl,r,c,_,_,rfl,rfl,ag,aQ.of (sR _ _ b8),?_,⟨_,rfl⟩,?_⟩
    ·rw[aX,aF,cu,bH];show _+1+1+_<=sizeLine;exact aS (by omega:_<=1000) (by decide)
    ·rw[bc,fl,<-qY,bW (l₂:=NbNeutral.sized t),HU,bH,cK];rfl
   ·rintro σ H' ⟨⟨v4,rfl⟩,rfl⟩;rw[aF,Paired.len l2,cA];exact⟨_,rfl,k.dh SR qy rfl⟩
end
noncomputable def IH:R2:=λx y H Q=>∃a b t ts,x=.ref a/\y=.ref b/\ay H a t/\cz H b ts/\Q (.bl (ts.contains t)) H
theorem Up{X:Cx}(hu:X.A.units+64<cLine):cF X (compareOp .In) IH:=Q4 hu
section
variable {P:Program}{w:World}{K:PySem.W.Frag}{mg:Str->Option Value}{base:Heap}{C:Cs}
noncomputable abbrev II:Stmt:=top 83
theorem Uq(T:Tx K mg C)(F:aR K mg "tell_users" II ["book","place"])(D1:Ok P w K mg base aq 1 "refusal_of_place" ["book","place"] (oP C))(D2:Ok P w K mg base aq 1 "cells_of" ["book"] (ka C)):Ok P w K mg base aq 2 "tell_users" ["book","place"] (i4 C .users):=by
 have sc:=sk (P:=["book","place"]) (st:=II) ["book","place","refusal","name","users","cell"];refine F.ok sc (λvs H Q E h=>?_) (λf aD A outer s H vs Q E hr h=>?_)
 ·obtain⟨g,st,p,rfl,_⟩:=h;rfl
 ·obtain⟨g,st,p,rfl,SR,S,k⟩:=h;obtain⟨wv,m,al,R,W⟩:=id SR;refine⟨_,af (aN (i:=2) sc.nd rfl (Or.inl rfl) (az D1 hr rfl aE (aa (pv 0) (aa (pv 1) ae))))
   (af (aO (cw (ft (pv 2))) (ah (aC (br (aa (pv 2) ae)))) aP)
   (af (aN (i:=3) sc.nd rfl (Or.inr rfl) (aj (cx cC (aj (pv 0) rfl) (pv 1) (λ_ _=>rfl)) rfl))
   (af (pR (i:=4) (own:=[("cell",5)]) (tt:=l9 (iF IH (bU 3) (dO K (bU 5) "leans"))) (te:=dO K (bU 5) "place") rfl sc.nd rfl rfl rfl (dD (az D2 hr rfl aE (aa (pv 0) ae))) (gq (by kernel_rfl)) (λs H C cl fp=>bQ (i:=5) sc.nd rfl (Or.inl rfl)) (λs H C cl fp=>vy (bo (Up hr.units) (pv 3) (aj (pv 5) rfl) rfl)) (λs H C cl fp=>aj (pv 5) rfl))
   (ah (aC (cB ff (br (aa (dv dE rfl T.dA dN (aa (pv 4) ae)) ae)) (pv 4))))))),?_⟩
  have aJ:Nb.step st (.users p)=(st,Nb.ofPlace st.book p λi=>.places (st.book.users i.name)):=rfl;rw[aJ] at k;refine⟨_,rfl,_,rfl,g,st.book,wv,m,al,p,rfl,R,?_⟩;rcases qC (b:=st.book) p (λi=>.places (st.book.users i.name)) with ⟨z,e1,e2⟩ | ⟨e1,i,hi,e2⟩
  ·rw[e1];rw[e2] at k;exact⟨_,rfl,_,rfl,bF ⟨_,rfl,bE,λl hl=>k.dh SR hl rfl⟩⟩
  ·rw[e1];rw[e2] at k;obtain⟨a,aZ,aU⟩:=R.bK hi;obtain⟨dx,na,ta,la,lv,h1,h2,h3,h4,h5⟩:=id aU;refine⟨_,rfl,_,rfl,bJ ⟨_,rfl,g.ba,C.book,g.bd,_,_,rfl,R.book,T.bx,T.fZ,gP ..,_,rfl,g.ca,_,_,.ref a,rfl,rfl,ax.of R.cells,R.ix aZ,a,C.cell,dx,_,_,rfl,h1,T.aH,T.jy,ke ..,?_⟩⟩;refine⟨_,rfl,g,g.bd,st.book,wv,m,al,rfl,R,λl hl=>?_⟩;have s1:ai H (upd H l (.lst ((g.cs.filterMap id).map V.ref))):=aG hl;generalize kj:upd H l (.lst ((g.cs.filterMap id).map V.ref))=H1 at s1;have cO:H1 l=some (.lst ((g.cs.filterMap id).map V.ref)):=by rw[<-kj];exact ag
   have R1:=R.same s1;refine⟨l,rfl,⟨_,ax.of cO⟩,λD hD=>?_⟩;have pl:=R1.placed;have eu:st.book.users i.name=((Nb.placed st.book).filter λx=>x.1.leans.contains i.name).map (·.2):=by unfold Nb.Book.users;exact NB.Ue R.dG (λj=>j.leans.contains i.name) _ λp=>by cases st.book.at_ p<;>rfl
   rw[eu] at k;have oQ:∀n:Nat,((((Nb.placed st.book).take n).filter λx=>x.1.leans.contains i.name).map (·.2)).length<=256:=λn=>by
    rw[aF];have g1:=pk (λx:Item×Nat=>x.1.leans.contains i.name) ((Nb.placed st.book).take n);have g2:((Nb.placed st.book).take n).length<=(Nb.placed st.book).length:=by rw[eU];exact jK _ _
    have g3:=NB.fV st.book;rw[R.dG] at g3;omega
   refine mj (K:=K) (a:=l) (xs:=(g.cs.filterMap id).map V.ref) (λn H'=>H'=upd H1 D (.lst ((NbNeutral.ints ((((Nb.placed st.book).take n).filter λx=>x.1.leans.contains i.name).map (·.2))).map V.int))) rfl (λn H' _ e=>by rw[e];exact ax.of (by rw[aw (bj cO hD)];exact cO)) ?_ ?_
   ·rintro n x H' hx rfl;obtain⟨c,hc,rfl⟩:=dH hx;obtain⟨⟨j,q⟩,hj,oI,lz,HV,Bj,HW,g1,g2,g3,g4,g5⟩:=Paired.get pl hc;have sD:∀{o:HO},ai H1 (upd H1 D o):=aG hD;refine⟨rfl,_,rfl,_,rfl,c,C.cell,oI,_,_,rfl,sD _ _ g1,T.aH,T.ie,jA ..,na,Bj,_,_,rfl,rfl,sD _ _ (s1 _ _ h2),cz.aB (C:=C) g4 (ai.aB sD),_,rfl,?_⟩;rw[take_snoc hj,uG,bW];refine aT (λhh=>?_) (λhh=>?_)
    ·have hh:j.leans.contains i.name=true:=hh;refine⟨_,rfl,c,C.cell,oI,_,_,rfl,sD _ _ g1,T.aH,T.eG,fh ..,_,ag,?_,?_⟩
     ·unfold NbNeutral.ints;rw[aF,aF];exact dC (oQ n) (by decide)
     ·rw[bc,eK,if_pos hh];unfold NbNeutral.ints;rw[bW,bW];rfl
    ·have hh:¬j.leans.contains i.name=true:=hh;rw[eK,if_neg hh,C7,rk,ez]
   ·rintro H' rfl;have eN:((g.cs.filterMap id).map V.ref).length=(Nb.placed st.book).length:=by rw[aF,Paired.len pl]
    rw[eN,cA];have pf:=oQ (Nb.placed st.book).length;rw[cA] at pf;generalize ZW:((Nb.placed st.book).filter λx=>x.1.leans.contains i.name).map (·.2)=ps at k pf;have s2:ai H1 (upd H1 D (.lst ((NbNeutral.ints ps).map V.int))):=aG hD;have le:(NbNeutral.ints ps).length=ps.length:=aF ..;refine⟨_,rfl,D,_,rfl,.inl (ax.of ag),bE,λq hq=>?_⟩;have s3:ai (upd H1 D (.lst ((NbNeutral.ints ps).map V.int))) (upd (upd H1 D (.lst ((NbNeutral.ints ps).map V.int))) q (.lst [.int (((NbNeutral.ints ps).map V.int).length:Int)])):=aG hq;refine⟨_,rfl,q,D,_,_,rfl,rfl,ag,s3 _ _ ag,?_,λl' du=>?_⟩
    ·rw[aF,le];show 1+ps.length<=sizeLine;exact aS (by omega:_<=1000) (by decide)
    ·have sA:=s1.trans (s2.trans s3);have:=k.tell (zs:=(ps.length:Int)::NbNeutral.ints ps) (bA.same sA) (SR.same sA) du rfl;rw[bX] at this;rw[aF,le];rw[aF,le] at this;exact this
noncomputable abbrev IJ:Stmt:=top 84
noncomputable def IK(C:Cs)(c:Nb.Call):Sp:=λvs H Q _=>∃(g:Gh) (s:Nb.State),vs=[.ref g.ba]/\dg C H g s/\NB.SI s/\dI C H g (Nb.step s c) Q
theorem Ur(T:Tx K mg C)(F:aR K mg "tell_counts" IJ ["book"])(D2:Ok P w K mg base aq 1 "cells_of" ["book"] (ka C)):Ok P w K mg base aq 2 "tell_counts" ["book"] (IK C .counts):=by
 have sc:=sk (P:=["book"]) (st:=IJ) ["book","stands","counted","cell","kind"];refine F.ok sc (λvs H Q E h=>?_) (λf aD A outer s H vs Q E hr h=>?_)
 ·obtain⟨g,st,rfl,_⟩:=h;rfl
 ·obtain⟨g,st,rfl,SR,S,k⟩:=h;obtain⟨wv,m,al,R,W⟩:=id SR;refine⟨_,af (aN (i:=1) sc.nd rfl (Or.inr rfl) (nM (own:=[("cell",3)]) (te:=dO K (bU 3) "stands") rfl sc.nd (dD (az D2 hr rfl aE (aa (pv 0) ae))) (gq (by kernel_rfl)) (λs H C cl fp=>bQ (i:=3) sc.nd rfl (Or.inl rfl)) (λs H C cl fp=>jm) (λs H C cl fp=>aj (pv 3) rfl)))
   (af (pR (i:=2) (own:=[("kind",4)]) (te:=y4 K "list" (Fy K) (bU 1) (jj (bU 4) iG)) rfl sc.nd rfl rfl rfl (jg (vh (aa (aM T.mK) (aa (aM T.oj) (aa (aM T.sX) (aa (aM T.om) ae)))))) (gq (by kernel_rfl)) (λs H C cl fp=>bQ (i:=4) sc.nd rfl (Or.inl rfl)) (λs H C cl fp=>jm) (λs H C cl fp=>cZ di PySem.F.slot_list_count PySem.F.type_list_count P4 (pv 1) (aa (pv 4) ae)))
   (ah (aC (cB ff (cB ff (br (aa aK (aa (dv dE rfl T.dA dN (aa (pv 1) ae)) ae))) (pv 2)) (br (aa (cB DC (aj (pv 0) rfl) (aM T.Ra)) ae)))))),?_⟩
  refine⟨_,rfl,g,g.bd,st.book,wv,m,al,rfl,R,λl hl=>?_⟩;have s1:ai H (upd H l (.lst ((g.cs.filterMap id).map V.ref))):=aG hl;generalize kj:upd H l (.lst ((g.cs.filterMap id).map V.ref))=H1 at s1;have cO:H1 l=some (.lst ((g.cs.filterMap id).map V.ref)):=by rw[<-kj];exact ag
  have R1:=R.same s1;refine⟨l,rfl,⟨_,ax.of cO⟩,λD hD=>?_⟩;have pl:=R1.placed;have oQ:(Nb.placed st.book).length<=256:=by have g3:=NB.fV st.book;rw[R.dG] at g3;exact g3
  refine mj (K:=K) (a:=l) (xs:=(g.cs.filterMap id).map V.ref) (λn H'=>H'=upd H1 D (.lst ((((Nb.placed st.book).take n).map λx=>(x.1.stands.num:Int)).map V.int))) rfl (λn H' _ e=>by rw[e];exact ax.of (by rw[aw (bj cO hD)];exact cO)) ?_ ?_
  ·rintro n x H' hx rfl;obtain⟨c,hc,rfl⟩:=dH hx;obtain⟨⟨j,q⟩,hj,oI,lz,HV,Bj,HW,g1,g2,g3,g4,g5⟩:=Paired.get pl hc;have sD:∀{o:HO},ai H1 (upd H1 D o):=aG hD;refine⟨rfl,yes ⟨_,rfl,c,C.cell,oI,_,_,rfl,sD _ _ g1,T.aH,T.c8,ed ..,_,ag,?_,?_⟩⟩
   ·rw[aF,aF,eU];exact dC (aS (jK _ _) oQ) (by decide)
   ·rw[bc,take_snoc hj,bW,bW];rfl
  ·rintro H' rfl;have eN:((g.cs.filterMap id).map V.ref).length=(Nb.placed st.book).length:=by rw[aF,Paired.len pl]
   rw[eN,cA];have IL:((Nb.placed st.book).map λx=>(x.1.stands.num:Int)).length=(Nb.placed st.book).length:=aF ..;have cnt:∀s:Stands,((Nb.placed st.book).map λx=>(x.1.stands.num:Int)).count (s.num:Int)=Nb.howMany st.book s:=NB.Ug _;generalize ((Nb.placed st.book).map λx=>(x.1.stands.num:Int))=ns at IL cnt;have s2:ai H1 (upd H1 D (.lst (ns.map V.int))):=aG hD;generalize qx:upd H1 D (.lst (ns.map V.int))=H2 at s2;have d2:H2 D=some (.lst (ns.map V.int)):=by rw[<-qx];exact ag
   refine⟨by show 4<=sizeLine;decide,λt ht=>?_⟩;have s3:ai H2 (upd H2 t (.tup (([0,1,2,3]:List Int).map V.int))):=aG ht;refine⟨t,rfl,⟨_,aQ.of ag⟩,λD2 jE=>?_⟩;have t3:(upd H2 t (.tup [V.int 0,.int 1,.int 2,.int 3])) t=some (.tup (([0,1,2,3]:List Int).map V.int)):=ag;have s3:ai H2 (upd H2 t (.tup [V.int 0,.int 1,.int 2,.int 3])):=s3;generalize vA:upd H2 t (.tup [V.int 0,.int 1,.int 2,.int 3])=H3 at s3 t3 jE;have lF:∀{o:HO},ai H3 (upd H3 D2 o):=aG jE;refine vC (K:=K) (a:=t) (xs:=([0,1,2,3]:List Int).map V.int) (λn H'=>H'=upd H3 D2 (.lst ((([0,1,2,3]:List Int).take n).map λkk=>V.int ((ns.count kk:Nat):Int)))) rfl (λn H' _ e=>by rw[e];exact aQ.of (lF _ _ t3)) ?_ ?_
   ·rintro n x H' hx rfl;obtain⟨kk,hk,rfl⟩:∃kk,([0,1,2,3]:List Int)[n]?=some kk/\x=.int kk:=by
     rw[cJ] at hx;cases e:([0,1,2,3]:List Int)[n]? with
     |none=>rw[e] at hx;cases hx
     |some kk=>rw[e] at hx;exact⟨kk,rfl,(a4 hx).symm⟩
    refine⟨rfl,yes ⟨_,rfl,.inl ⟨rfl,_,ax.of (lF _ _ (s3 _ _ d2))⟩,_,rfl,D,ns,kk,rfl,rfl,ax.of (lF _ _ (s3 _ _ d2)),_,ag,?_,?_⟩⟩
    ·rw[aF,eU];exact dC (jK _ _) (by show 4<sizeLine;decide)
    ·rw[bc,take_snoc hk,bW];rfl
   ·rintro H' rfl;have s4:ai H3 (upd H3 D2 (.lst [V.int ((ns.count 0:Nat):Int),.int ((ns.count 1:Nat):Int),.int ((ns.count 2:Nat):Int),.int ((ns.count 3:Nat):Int)])):=lF;have e4:(([0,1,2,3]:List Int).take (([0,1,2,3]:List Int).map V.int).length).map (λkk=>V.int ((ns.count kk:Nat):Int))=[V.int ((ns.count 0:Nat):Int),.int ((ns.count 1:Nat):Int),.int ((ns.count 2:Nat):Int),.int ((ns.count 3:Nat):Int)]:=rfl;rw[e4];generalize xn:upd H3 D2 (.lst [V.int ((ns.count 0:Nat):Int),.int ((ns.count 1:Nat):Int),.int ((ns.count 2:Nat):Int),.int ((ns.count 3:Nat):Int)])=H4 at s4;have d4:H4 D2=some (.lst [V.int ((ns.count 0:Nat):Int),.int ((ns.count 1:Nat):Int),.int ((ns.count 2:Nat):Int),.int ((ns.count 3:Nat):Int)]):=by rw[<-xn];exact ag
    have IM:=s3.trans s4;refine⟨_,rfl,D,_,rfl,.inl (ax.of (IM _ _ d2)),(by show 2<=sizeLine;decide),λq hq=>?_⟩;rw[aF,IL];have s5:ai H4 (upd H4 q (.lst [.int 0,.int ((Nb.placed st.book).length:Int)])):=aG hq;refine⟨_,rfl,q,D2,_,_,rfl,rfl,ag,s5 _ _ d4,(by show 6<=sizeLine;decide),λq2 il=>?_⟩;have s6:ai (upd H4 q (.lst [.int 0,.int ((Nb.placed st.book).length:Int)])) (upd (upd H4 q (.lst [.int 0,.int ((Nb.placed st.book).length:Int)])) q2 (.lst ([.int 0,.int ((Nb.placed st.book).length:Int)]++[V.int ((ns.count 0:Nat):Int),.int ((ns.count 1:Nat):Int),.int ((ns.count 2:Nat):Int),.int ((ns.count 3:Nat):Int)]))):=aG il;have sA:=s1.trans (s2.trans (IM.trans (s5.trans s6)));refine⟨_,rfl,g.ba,C.book,g.bd,_,_,rfl,sA _ _ R.book,T.bx,T.wD,GS ..,_,_,rfl,rfl,(by show(0:Int)<18446744073709551616;decide),bE,λq3 mQ=>?_⟩;generalize Us:upd (upd H4 q (.lst [.int 0,.int ((Nb.placed st.book).length:Int)])) q2 (.lst ([.int 0,.int ((Nb.placed st.book).length:Int)]++[V.int ((ns.count 0:Nat):Int),.int ((ns.count 1:Nat):Int),.int ((ns.count 2:Nat):Int),.int ((ns.count 3:Nat):Int)]))=H6 at s6 sA mQ;have Ut:H6 q2=some (.lst ([.int 0,.int ((Nb.placed st.book).length:Int)]++[V.int ((ns.count 0:Nat):Int),.int ((ns.count 1:Nat):Int),.int ((ns.count 2:Nat):Int),.int ((ns.count 3:Nat):Int)])):=by rw[<-Us];exact ag
    have s7:ai H6 (upd H6 q3 (.lst [.int ((st.book.runs:Int) % 18446744073709551616)])):=aG mQ;refine⟨q2,q3,_,_,rfl,rfl,s7 _ _ Ut,ag,(by show 7<=sizeLine;decide),λl' du=>?_⟩;have sB:=sA.trans s7;have:=k.tell (zs:=[0,((Nb.placed st.book).length:Int),((ns.count 0:Nat):Int),((ns.count 1:Nat):Int),((ns.count 2:Nat):Int),((ns.count 3:Nat):Int),(st.book.runs:Int) % 18446744073709551616]) (bA.same sB) (SR.same sB) du ?_
    ·exact this
    ·have c0:=cnt .open_;have c1:=cnt .good;have c2:=cnt .bad;have c3:=cnt .stuck;show[((0:Nat):Int),((Nb.placed st.book).length:Int),(Nb.howMany st.book .open_:Int),(Nb.howMany st.book .good:Int),(Nb.howMany st.book .bad:Int),(Nb.howMany st.book .stuck:Int),((st.book.runs % 18446744073709551616:Nat):Int)]=_;rw[<-c0,<-c1,<-c2,<-c3,Int.natCast_emod];rfl
end
end Rr
namespace Rr
open PySem PySem.Spec PyProof.Rows L2
open Nb (Text Item Last Came Stands)
theorem Bx{α:Type}{f:α->Bool}{l:List α}{i:Nat}{x:α}(h:l[i]?=some x):(l.take (i+1)).filter f=(l.take i).filter f++(if f x=true then [x] else []):=by rw[take_snoc h,uG,eK];rfl
theorem By{α:Type}{f:α->Bool}{l:List α}(i:Nat):((l.take i).filter f).length<=l.length:=by
 have h1:=pk f (l.take i);have h2:(l.take i).length<=l.length:=by rw[eU];exact jK _ _
 omega
section
variable {P:Program}{w:World}{K:PySem.W.Frag}{mg:Str->Option Value}{base:Heap}{C:Cs}
noncomputable abbrev IP:Stmt:=top 90
noncomputable def IQ(C:Cs):Sp:=λvs H Q _=>∃(g:Gh) (b:Nb.Book) (wv:V) (m al:Nat),vs=[.ref g.ba]/\Rep C H g b wv m al/\NB.BI b/\∀H' d R,ai H H'->H' d=some (.dT (eI R))->NB.Cl b (NB.og b) R->Q (.ref d) H'
theorem Uu{b:Nb.Book}(B:NB.BI b):(NB.og b).length<=256*9:=by
 have:∀l:List (Item×Nat),(∀x∈l,(NB.fX b x.1).length<=9)->(l.flatMap λx=>NB.fX b x.1).length<=l.length*9:=λl=>by
  induction l with
  |nil=>intro _;exact bB _
  |cons a r ih=>intro h;rw[kz,aX,cu,Nat.succ_mul];have h1:=h a (bP ..);have h2:=ih λx hx=>h x (bO _ hx);omega
 have h1:=this (Nb.placed b) λx hx=>by
  have hi:=NB.b7.mp hx;unfold NB.fX;rw[aX];have h2:=pk (λn=>(b.find n).isNone) x.1.leans;have h3:=B.leans hi;have h4:(if x.1.stands=.bad then [x.1.name] else []).length<=1:=by split<;>simp
  omega
 have h2:=NB.fV b;rw[B.len] at h2;exact aS h1 (LC _ h2)
theorem Uv(T:Tx K mg C)(F:aR K mg "spoiled_names" IP ["book"])(D1:Ok P w K mg base aq 1 "cells_of" ["book"] (ka C))(D2:Ok P w K mg base aq 3 "names_above" ["book","names"] (AO C)):Ok P w K mg base aq 4 "spoiled_names" ["book"] (IQ C):=by
 have sc:=sk (P:=["book"]) (st:=IP) ["book","causes","cell","lean"];refine F.ok sc (λvs H Q E h=>?_) (λf aD A outer s H vs Q E hr h=>?_)
 ·obtain⟨g,b,wv,m,al,rfl,_⟩:=h;rfl
 ·obtain⟨g,b,wv,m,al,rfl,R,B,k⟩:=h;refine⟨_,af (aN (i:=1) sc.nd rfl (Or.inl rfl) (br ae)) (af (cR PassesOwn.never rfl (dD (az D1 (hr.mono (by decide)) rfl aE (aa (pv 0) ae))) (bQ (i:=2) sc.nd rfl (Or.inl rfl))
   (af (aO (bo b3 (aj (pv 2) rfl) (aM T.sX) (aY _)) (ah (cb (cZ di gC gB fT (pv 1) (aa (aj (pv 2) rfl) ae)))) aP)
   (ah (cR PassesOwn.never rfl (jg (aj (pv 2) rfl)) (bQ (i:=3) sc.nd rfl (Or.inl rfl))
    (ah (aO (cw (vF (cS hr) (pv 3) (aj (pv 0) rfl))) (ah (cb (cZ di gC gB fT (pv 1) (aa (pv 3) ae)))) aP))))))
   (ah (aC (az D2 hr rfl aE (aa (pv 0) (aa (pv 1) ae)))))),?_⟩
  refine⟨bY _,λD hD=>?_⟩;have s0:ai H (upd H D (.lst [])):=aG hD;refine⟨_,rfl,g,g.bd,b,wv,m,al,rfl,R.same s0,λl hl=>?_⟩;have s1:ai (upd H D (.lst [])) (upd (upd H D (.lst [])) l (.lst ((g.cs.filterMap id).map V.ref))):=aG hl;have sA:=s0.trans s1;generalize kj:upd (upd H D (.lst [])) l (.lst ((g.cs.filterMap id).map V.ref))=H1 at s1 sA;have cO:H1 l=some (.lst ((g.cs.filterMap id).map V.ref)):=by rw[<-kj];exact ag
  have Uw:H1 D=some (.lst []):=s1 _ _ ag;have Ux:l≠D:=λz=>by rw[z,ag] at hl;cases hl
  have pl:=R.placed;have st:∀{o:HO} {c:Addr} {u:HO},H c=some u->(upd H1 D o) c=some u:=λe=>by rw[aw (bj e hD)];exact sA _ _ e
  have RU:∀{o:HO},Rep C (upd H1 D o) g b wv m al:=R.same λ_ _ e=>st e;have IS:=Uu B;refine⟨l,rfl,⟨_,ax.of cO⟩,fQ (K:=K) (a:=l) (xs:=(g.cs.filterMap id).map V.ref) (λn σ H'=>(∃v2 v3:Option V,σ=[some (.ref g.ba),some (.ref D),v2,v3])/\∃as:List Addr,H'=upd H1 D (.lst (as.map V.ref))/\Paired (λa t=>ay H a t) as (((Nb.placed b).take n).flatMap λx=>NB.fX b x.1))
   ⟨⟨_,_,rfl⟩,[],(Bf Uw).symm,.nil⟩ (λn σ H' _ ⟨_,as,e,_⟩=>by rw[e];exact ax.of (by rw[aw Ux];exact cO)) ?_ ?_⟩
  ·rintro n x σ H' hx ⟨⟨v2,v3,rfl⟩,as,rfl,hp⟩;obtain⟨a,ha,rfl⟩:=dH hx;obtain⟨⟨i,p⟩,hi,dx,na,ta,la,lv,h1,h2,h3,⟨jH,l1,l2⟩,h5⟩:=Paired.get pl ha;have hb:b.items[p]?=some (some i):=NB.b7.mp (cE hi);have fl:((Nb.placed b).take (n+1)).flatMap (λx=>NB.fX b x.1)=(((Nb.placed b).take n).flatMap λx=>NB.fX b x.1)++NB.fX b i:=lu hi;have wy:(((Nb.placed b).take n).flatMap λx=>NB.fX b x.1).length+(NB.fX b i).length<=256*9:=by have h6:=ow (f:=λx:Item×Nat=>NB.fX b x.1) (l:=Nb.placed b) (n+1);rw[fl,aX] at h6;exact aS h6 IS
   have cl:(NB.fX b i).length=(if i.stands=.bad then [i.name] else []).length+(i.leans.filter λn=>(b.find n).isNone).length:=by unfold NB.fX;rw[aX]
   have inner:∀(D':Ends),(∀σ H',((∃v2 v3:Option V,σ=[some (.ref g.ba),some (.ref D),v2,v3])/\∃as:List Addr,H'=upd H1 D (.lst (as.map V.ref))/\Paired (λa t=>ay H a t) as (((Nb.placed b).take (n+1)).flatMap λx=>NB.fX b x.1))->D'.nx σ H')->
    ∀(xt:List Addr) (v3:Option V),Paired (λa t=>ay H a t) xt ((((Nb.placed b).take n).flatMap λx=>NB.fX b x.1)++(if i.stands=.bad then [i.name] else []))->
    DB (DA K (dO K (bU 2) "leans")) (rE 3) (u0 (tB (EL (bU 3) (dO K (bU 0) "named"))) (yI (y4 K "list" za (bU 1) (jj (bU 3) iG))) Dr) D' [some (.ref g.ba),some (.ref D),some (.ref a),v3] (upd H1 D (.lst (xt.map V.ref))):=by
    intro D' tO xt v3 iH;refine⟨_,rfl,a,C.cell,dx,_,_,rfl,st h1,T.aH,T.ie,jA ..,la,rfl,⟨_,aQ.of (st l1)⟩,?_⟩;refine nu (K:=K) (a:=la) (xs:=jH.map V.ref) (λq σ H'=>(∃v3:Option V,σ=[some (.ref g.ba),some (.ref D),some (.ref a),v3])/\∃as:List Addr,H'=upd H1 D (.lst (as.map V.ref))/\Paired (λa t=>ay H a t) as (((((Nb.placed b).take n).flatMap λx=>NB.fX b x.1)++(if i.stands=.bad then [i.name] else []))++(i.leans.take q).filter λn=>(b.find n).isNone))
     ⟨⟨_,rfl⟩,xt,rfl,by rw[uJ,C7,ez];exact iH⟩ (λq σ H' _ ⟨_,as,e,_⟩=>by rw[e];exact aQ.of (st l1)) ?_ ?_
    ·rintro q x σ H' hx ⟨⟨v3,rfl⟩,ql,rfl,kl⟩;obtain⟨c,hc,rfl⟩:=dH hx;obtain⟨t,ht,b8⟩:=Paired.get l2 hc;have b8:ay H c t:=b8;obtain⟨kvs,q1,q2,q3,q4⟩:=id R.named;refine⟨_,rfl,_,rfl,g.ba,C.book,g.bd,_,_,rfl,st R.book,T.bx,T.gO,iS ..,g.da,_,rfl,b5.t (st q1) (st (ay.key b8)),_,rfl,?_⟩;rw[q3];have ht:i.leans[q]?=some t:=ht;have e:=Bx (f:=λn=>(b.find n).isNone) ht;cases es:src g b t with
     |none=>
      have fn:=(R.iT es).1;rw[if_pos (by rw[fn];rfl)] at e;refine bF ⟨_,rfl,.inl ⟨rfl,_,ax.of ag⟩,_,rfl,D,_,_,rfl,rfl,ag,?_,⟨_,rfl⟩,ql++[c],?_,?_⟩
      ·rw[aF,Paired.len kl,aX,aX];have h7:=By (f:=λn=>(b.find n).isNone) (l:=i.leans) q;have h8:=B.leans hb;rw[cl] at wy;exact dC (by omega:_<=256*9+8) (by decide)
      ·rw[bc,bW];rfl
      ·rw[e,<-cK];exact Paired.append kl (.cons b8 .nil)
     |some a'=>obtain⟨p',i',f1,_⟩:=R.gQ es;rw[if_neg (by rw[f1];exact Bool.noConfusion),ez] at e;refine bJ ⟨⟨_,rfl⟩,ql,rfl,?_⟩;rw[e];exact kl
    ·rintro σ H' ⟨⟨v3,rfl⟩,ql,rfl,kl⟩;refine tO _ _ ⟨⟨_,_,rfl⟩,ql,rfl,?_⟩;rw[aF,Paired.len l2,cA,cK] at kl;rw[fl];exact kl
   refine⟨_,rfl,a,C.cell,dx,_,_,rfl,st h1,T.aH,T.c8,ed ..,rfl,_,rfl,?_⟩;refine aT (λhh=>?_) (λhh=>?_)
   ·have hs:i.stands=.bad:=cN.mp (bw hh);refine⟨_,rfl,.inl ⟨rfl,_,ax.of ag⟩,_,rfl,a,C.cell,dx,_,_,rfl,st h1,T.aH,T.jy,ke ..,D,_,_,rfl,rfl,ag,?_,?_⟩
    ·rw[aF,Paired.len hp];exact dC (by omega:_<=256*9) (by decide)
    ·rw[bc];have e:as.map V.ref++[V.ref na]=(as++[na]).map V.ref:=by rw[bW];rfl
     rw[e];refine inner _ (λσ H' z=>z) (as++[na]) _ ?_;rw[if_pos hs];exact Paired.append hp (.cons h2 .nil)
   ·have hs:¬i.stands=.bad:=λz=>hh (bp (cN.mpr z));refine inner _ (λσ H' z=>z) as _ ?_;rw[if_neg hs,ez];exact hp
  ·rintro σ H' ⟨⟨v2,v3,rfl⟩,as,rfl,hp⟩;rw[aF,Paired.len pl,cA] at hp;have hp:Paired (λa t=>ay H a t) as (NB.og b):=hp;refine⟨_,rfl,_,rfl,g,b,wv,m,al,D,as,NB.og b,rfl,RU,ag,Paired.cW hp λ_ _ z=>st z,B.pairs,aS IS (by decide),λH2 d L sm _ _ kQ dW=>k H2 d L (λc u e=>sm _ _ (st e)) kQ dW⟩
end
theorem Bz{α:Type}{f:α->Bool}{l:List α}{j:Nat}(h:l.findIdx? f=some j):∃x,l[j]?=some x/\f x=true/\∀(m:Nat) (y:α),m<j->l[m]?=some y->f y=false:=by obtain⟨h1,h2,h3⟩:=yi.mp h;refine⟨l[j],fm h1,h2,λm y hm hy=>?_⟩;have:=h3 m hm;obtain⟨h4,h5⟩:=bh.mp hy;rw[h5] at this;simpa using this
theorem BA{α:Type}{f g:α->Bool}:∀{l:List α},(∀x∈l,f x=g x)->l.findIdx? f=l.findIdx? g
 |[],_=>rfl
 |a::l,h=>by rw[List.findIdx?_cons,List.findIdx?_cons,h a (bP ..),BA λx hx=>h x (bO _ hx)]
theorem IT{α:Type}(f:α->Bool)(l:List α):mf (.bl true) (l.map λx=>V.bl (f x))=l.any f:=by unfold mf;rw[List.any_map];refine List.any_congr rfl λx=>?_;show(f x==true)=f x;cases f x<;>rfl
theorem xu{α:Type}(f:α->Bool)(l:List α):(l.map λx=>V.bl (f x)).all gK=true:=by rw[List.all_map,eV];intro x _;rfl
theorem Uy{α:Type}(f:α->Int)(l:List α):(l.map λx=>V.int (f x)).all gK=true:=by rw[List.all_map,eV];intro x _;rfl
theorem BB{α:Type}{f:α->Bool}{l:List α}(h:l.any f=true):∃j,l.findIdx? f=some j:=by
 cases e:l.findIdx? f with
 |some j=>exact⟨j,rfl⟩
 |none=>have:=uA.mp e;obtain⟨x,h1,h2⟩:=iz.mp h;rw[this x h1] at h2;cases h2
theorem IU{α:Type}{f:α->Bool}{l:List α}(h:¬l.any f=true):l.findIdx? f=none:=by
 refine uA.mpr λx hx=>?_;cases e:f x with
 |false=>rfl
 |true=>exact absurd (iz.mpr ⟨x,hx,e⟩) h
theorem IV{α:Type}{f:α->Bool}{l:List α}{j:Nat}(h:l.findIdx? f=some j):(l.map λx=>V.bl (f x))[j]?=some (.bl true)/\∀(m:Nat) (z:V),m<j->(l.map λx=>V.bl (f x))[m]?=some z->jl z (.bl true)=false:=by
 obtain⟨x,h1,h2,h3⟩:=Bz h;refine⟨by rw[cJ,h1,<-h2];rfl,λm z hm hz=>?_⟩;rw[cJ] at hz;cases e:l[m]? with
 |none=>rw[e] at hz;cases hz
 |some y=>rw[e] at hz;have hz:V.bl (f y)=z:=a4 hz;subst hz;show(f y==true)=false;rw[h3 m y hm e];rfl
section
variable {P:Program}{w:World}{K:PySem.W.Frag}{mg:Str->Option Value}{base:Heap}{C:Cs}
noncomputable abbrev IW:Stmt:=top 91
theorem Uz(T:Tx K mg C)(F:aR K mg "tell_why" IW ["book","place"])(D1:Ok P w K mg base aq 1 "refusal_of_place" ["book","place"] (oP C))(D2:Ok P w K mg base aq 1 "sources_of" ["book","cell"] (tj C))(D3:Ok P w K mg base aq 4 "spoiled_names" ["book"] (IQ C)):Ok P w K mg base aq 5 "tell_why" ["book","place"] (i4 C .why):=by
 have sc:=sk (P:=["book","place"]) (st:=IW) ["book","place","refusal","cell","sources","without_cell","spoiled","are_spoiled","number","source","lean"];refine F.ok sc (λvs H Q E h=>?_) (λf aD A outer s H vs Q E hr h=>?_)
 ·obtain⟨g,st,p,rfl,_⟩:=h;rfl
 ·obtain⟨g,st,p,rfl,SR,S,k⟩:=h;obtain⟨wv,m,al,R,W⟩:=id SR;refine⟨_,af (aN (i:=2) sc.nd rfl (Or.inl rfl) (az D1 (hr.mono (by decide)) rfl aE (aa (pv 0) (aa (pv 1) ae))))
   (af (aO (cw (ft (pv 2))) (ah (aC (br (aa (pv 2) ae)))) aP)
   (af (aN (i:=3) sc.nd rfl (Or.inl rfl) (cx cC (aj (pv 0) rfl) (pv 1) (λ_ _=>rfl)))
   (af (aO (bo rH (aj (pv 3) rfl) (aM T.om) (aY _)) (ah (aC (br (aa (aM T.Ro) (aa aK (aa aK ae)))))) aP)
   (af (aN (i:=4) sc.nd rfl (Or.inl rfl) (az D2 (hr.mono (by decide)) rfl aE (aa (pv 0) (aa (pv 3) ae))))
   (af (pR (i:=5) (own:=[("source",9)]) (te:=Dl (bU 9)) rfl sc.nd rfl rfl rfl (dD (pv 4)) (gq (by kernel_rfl)) (λs H C cl fp=>bQ (i:=9) sc.nd rfl (Or.inl rfl)) (λs H C cl fp=>jm) (λs H C cl fp=>yE (iD (pv 9))))
   (af (aO (bo Ee cY (pv 5) rfl) (ah (aC (br (aa (aM T.Rp) (aa (cZ di CO Ly zc (pv 5) (aa cY ae)) (aa aK ae)))))) aP)
   (af (aN (i:=6) sc.nd rfl (Or.inr rfl) (az D3 hr rfl aE (aa (pv 0) ae)))
   (af (pR (i:=7) (own:=[("lean",10)]) (te:=EK (bU 10) (bU 6)) rfl sc.nd rfl rfl rfl (jg (aj (pv 3) rfl)) (gq (by kernel_rfl)) (λs H C cl fp=>bQ (i:=10) sc.nd rfl (Or.inl rfl)) (λs H C cl fp=>jm) (λs H C cl fp=>yE (zA (cS hr) (pv 10) (pv 6)) rfl))
   (af (aO (bo Ee cY (pv 7) rfl)
    (af (aN (i:=8) sc.nd rfl (Or.inl rfl) (cZ di CO Ly zc (pv 7) (aa cY ae)))
    (ah (aC (br (aa (aM T.Rq) (aa (pv 8) (aa (aj (cx cC (pv 4) (pv 8) (λ_ _=>rfl)) rfl) ae))))))) aP)
   (af (aN (i:=8) sc.nd rfl (Or.inl rfl) (cZ di CO Ly zc (nM (own:=[("source",9)]) (te:=dO K (bU 9) "stands") rfl sc.nd (dD (pv 4)) (gq (by kernel_rfl)) (λs H C cl fp=>bQ (i:=9) sc.nd rfl (Or.inl rfl)) (λs H C cl fp=>jm) (λs H C cl fp=>aj (pv 9) rfl)) (aa (aM T.om) ae)))
   (ah (aC (br (aa (aM T.Rt) (aa (pv 8) (aa (aj (cx cC (pv 4) (pv 8) (λ_ _=>rfl)) rfl) ae)))))))))))))))),?_⟩
  have aJ:Nb.step st (.why p)=(st,Nb.ofPlace st.book p λi=>.nums [(Nb.why st.book i).1,(Nb.why st.book i).2.1,(Nb.why st.book i).2.2]):=rfl;rw[aJ] at k;have three:∀u v x:V,([u,v,x]:List V).length<=sizeLine:=λu v x=>by show 3<=sizeLine;decide
  refine⟨_,rfl,_,rfl,g,st.book,wv,m,al,p,rfl,R,?_⟩;rcases qC (b:=st.book) p (λi=>.nums [(Nb.why st.book i).1,(Nb.why st.book i).2.1,(Nb.why st.book i).2.2]) with ⟨z,e1,e2⟩ | ⟨e1,i,hi,e2⟩
  ·rw[e1];rw[e2] at k;exact⟨_,rfl,_,rfl,bF ⟨_,rfl,bE,λl hl=>k.dh SR hl rfl⟩⟩
  ·rw[e1];rw[e2] at k;obtain⟨a,aZ,aU⟩:=R.bK hi;obtain⟨dx,na,ta,la,lv,h1,h2,h3,⟨jH,l1,l2⟩,h5⟩:=id aU;have IX:=S.bi.leans hi;refine⟨_,rfl,_,rfl,bJ ⟨_,rfl,g.ba,C.book,g.bd,_,_,rfl,R.book,T.bx,T.fZ,gP ..,_,rfl,g.ca,_,_,.ref a,rfl,rfl,ax.of R.cells,R.ix aZ,?_⟩⟩;refine⟨_,rfl,a,C.cell,dx,_,_,rfl,h1,T.aH,T.c8,ed ..,rfl,_,rfl,?_⟩;refine aT (λhh=>?_) (λhh=>?_)
   ·have hs:¬i.stands=.stuck:=λz=>CW (nt hh) (cN.mpr z);have ew:Nb.why st.book i=(0,0,0):=by unfold Nb.why;rw[if_pos hs]
    rw[ew] at k;exact⟨three _ _ _,λl hl=>k.dh SR hl rfl⟩
   ·have hs:i.stands=.stuck:=cN.mp (bw (nf hh));refine⟨_,rfl,_,rfl,g,st.book,wv,m,al,a,p,i,rfl,R,aU,aS IX (by decide),λsl vq=>?_⟩;have s1:ai H (upd H sl (.lst (bV g st.book i.leans))):=aG vq;generalize kj:upd H sl (.lst (bV g st.book i.leans))=H1 at s1;have xw:H1 sl=some (.lst (bV g st.book i.leans)):=by rw[<-kj];exact ag
    refine⟨_,rfl,sl,rfl,⟨_,ax.of xw⟩,λD hD=>?_⟩;have oG:∀{n:Nat} {f:Text->V},((i.leans.take n).map f).length<sizeLine:=λ{n f}=>by rw[aF,eU];exact dC (aS (jK _ _) IX) (by decide)
    refine mj (K:=K) (a:=sl) (xs:=bV g st.book i.leans) (λn H'=>H'=upd H1 D (.lst ((i.leans.take n).map λt=>V.bl (st.book.find t).isNone))) rfl (λn H' _ e=>by rw[e];exact ax.of (by rw[aw (bj xw hD)];exact xw)) ?_ ?_
    ·rintro n x H' hx rfl;obtain⟨t,ht,rfl⟩:=qj hx;refine⟨rfl,yes ⟨_,rfl,_,ag,oG,?_⟩⟩;rw[bc,take_snoc ht,bW];have:decide (ov (src g st.book t)=V.ak)=(st.book.find t).isNone:=by
      cases e:src g st.book t with
      |none=>rw[(R.iT e).1];rfl
      |some a'=>obtain⟨p',i',f1,_⟩:=R.gQ e;rw[f1];rfl
     rw[this];rfl
    ·rintro H' rfl;have eN:(bV g st.book i.leans).length=i.leans.length:=aF ..;rw[eN,cA];have s2:ai H1 (upd H1 D (.lst (i.leans.map λt=>V.bl (st.book.find t).isNone))):=aG hD;generalize qx:upd H1 D (.lst (i.leans.map λt=>V.bl (st.book.find t).isNone))=H2 at s2;have d2:H2 D=some (.lst (i.leans.map λt=>V.bl (st.book.find t).isNone)):=by rw[<-qx];exact ag
     have kq:=s1.trans s2;refine⟨_,rfl,D,_,rfl,.inl (ax.of d2),rfl,xu _ _,_,rfl,?_⟩;have ei:(if false=true then !mf (.bl true) (i.leans.map λt=>V.bl (st.book.find t).isNone) else mf (.bl true) (i.leans.map λt=>V.bl (st.book.find t).isNone))=i.leans.any λt=>(st.book.find t).isNone:=IT _ _;rw[ei];refine aT (λhm=>?_) (λhm=>?_)
     ·obtain⟨j,hj⟩:=BB hm;have ew:Nb.why st.book i=(1,j,0):=by unfold Nb.why;rw[if_neg (λz=>z hs),hj]
      rw[ew] at k;obtain⟨x1,x2⟩:=IV hj;refine⟨_,rfl,.inl ⟨rfl,_,ax.of d2⟩,D,_,.bl true,j,.bl true,rfl,rfl,ax.of d2,rfl,xu _ _,x1,rfl,x2,three _ _ _,λl hl=>?_⟩;exact k.tell (bA.same kq) (SR.same kq) hl rfl
     ·have hj:=IU hm;have bR:∀t∈i.leans,∃(q:Nat) (j:Item) (a':Addr),st.book.find t=some q/\st.book.items[q]?=some (some j)/\st.book.item t=some j/\src g st.book t=some a':=λt ht=>by
       have:=uA.mp hj t ht;cases e:src g st.book t with
       |none=>rw[(R.iT e).1] at this;cases this
       |some a'=>obtain⟨q,j,f1,f2,f3,_⟩:=R.gQ e;exact⟨q,j,a',f1,f2,f3,rfl⟩
      refine⟨_,rfl,g,st.book,wv,m,al,rfl,R.same kq,S.bi,λH3 d L f7 hd dW=>?_⟩;have tV:=kq.trans f7;refine⟨_,rfl,a,C.cell,dx,_,_,rfl,tV _ _ h1,T.aH,T.ie,jA ..,la,rfl,⟨_,aQ.of (tV _ _ l1)⟩,λD2 jE=>?_⟩;have lF:∀{o:HO},ai H3 (upd H3 D2 o):=aG jE;refine vC (K:=K) (a:=la) (xs:=jH.map V.ref) (λn H'=>H'=upd H3 D2 (.lst ((i.leans.take n).map λt=>V.bl (decide (t∈L))))) rfl (λn H' _ e=>by rw[e];exact aQ.of (lF _ _ (tV _ _ l1))) ?_ ?_
      ·rintro n x H' hx rfl;obtain⟨c,hc,rfl⟩:=dH hx;obtain⟨t,ht,b8⟩:=Paired.get l2 hc;have ht:i.leans[n]?=some t:=ht;refine⟨rfl,yes ⟨_,rfl,_,rfl,d,_,rfl,b5.t (lF _ _ hd) (lF _ _ (tV _ _ (ay.key b8))),_,ag,oG,?_⟩⟩;rw[bc,take_snoc ht,bW,tw];have:(if t∈L then some (V.bl true) else none).isSome=decide (t∈L):=by
        by_cases hm:t∈L
        ·rw[if_pos hm,bp hm];rfl
        ·rw[if_neg hm,eo hm];rfl
       rw[this];rfl
      ·rintro H' rfl;rw[aF,Paired.len l2,cA];have s4:ai H3 (upd H3 D2 (.lst (i.leans.map λt=>V.bl (decide (t∈L))))):=lF;generalize xn:upd H3 D2 (.lst (i.leans.map λt=>V.bl (decide (t∈L))))=H4 at s4;have d4:H4 D2=some (.lst (i.leans.map λt=>V.bl (decide (t∈L)))):=by rw[<-xn];exact ag
       have jI:=tV.trans s4;have xx:=(s2.trans (f7.trans s4)) _ _ xw;refine⟨_,rfl,D2,_,rfl,.inl (ax.of d4),rfl,xu _ _,_,rfl,?_⟩;have ei:(if false=true then !mf (.bl true) (i.leans.map λt=>V.bl (decide (t∈L))) else mf (.bl true) (i.leans.map λt=>V.bl (decide (t∈L))))=i.leans.any λt=>decide (t∈L):=IT _ _;rw[ei];have IY:(i.leans.findIdx? λn=>match st.book.item n with | some j=>j.stands==.bad||(Nb.blamed st.book).contains n | none=>false)=i.leans.findIdx? λt=>decide (t∈L):=BA λt ht=>by obtain⟨q,j,a',f1,f2,f3,_⟩:=bR t ht;rw[f3];show(j.stands==.bad||(Nb.blamed st.book).contains t)=decide (t∈L);have UA:=NB.Ge S.bi dW hi hs ht f3;rw[kE,px,decide_eq_true_iff,UA,fO];exact or_congr ⟨λz=>eq_of_beq z,λz=>by rw[z];rfl⟩ Iff.rfl
       have IZ:∀(j:Nat) (t:Text),i.leans[j]?=some t->∃(q:Nat) (a':Addr) (cG:Addr) (fs:List (Str×V)),st.book.find t=some q/\kN (bV g st.book i.leans) ((j:Nat):Int)=some (.ref a')/\H4 a'=some (.ins C.cell cG fs)/\fs.lookup ("place":Str)=some (.int (q:Int)):=λj t ht=>by obtain⟨q,k',a',f1,f2,f3,f4⟩:=bR t (cE ht);obtain⟨p',i',g1,g2,g3,g4,cG,fI,ip,iq,fJ,c1,_⟩:=R.gQ f4;rw[f1] at g1;cases g1;refine⟨q,a',cG,_,f1,at_of (j:=j) rfl ?_,jI _ _ c1,fh ..⟩;unfold bV;rw[cJ,ht];show some (ov (src g st.book t))=_;rw[f4];rfl
       refine aT (λhm=>?_) (λhm=>?_)
       ·obtain⟨j,qD⟩:=BB hm;obtain⟨t,ht,_⟩:=Bz qD;obtain⟨q,a',cG,fs,f1,f2,f3,f4⟩:=IZ j t ht;have ew:Nb.why st.book i=(2,j,q):=by unfold Nb.why;rw[if_neg (λz=>z hs),hj];show(match i.leans.findIdx? (λn=>match st.book.item n with | some j=>j.stands==.bad||(Nb.blamed st.book).contains n | none=>false) with | some k=>(2,k,(st.book.find (i.leans.getD k [])).getD 0) | none=>_)=_;rw[IY,qD];show(2,j,(st.book.find (i.leans.getD j [])).getD 0)=_;rw[CM,ht];show(2,j,(st.book.find t).getD 0)=_;rw[f1];rfl
        rw[ew] at k;obtain⟨x1,x2⟩:=IV qD;refine⟨_,rfl,.inl ⟨rfl,_,ax.of d4⟩,D2,_,.bl true,j,.bl true,rfl,rfl,ax.of d4,rfl,xu _ _,x1,rfl,x2,?_⟩;refine⟨_,rfl,_,rfl,_,rfl,sl,_,_,.ref a',rfl,rfl,ax.of xx,f2,a',C.cell,cG,_,_,rfl,f3,T.aH,T.eG,f4,three _ _ _,λl hl=>k.tell (bA.same jI) (SR.same jI) hl rfl⟩
       ·have qD:=IU hm;refine⟨_,rfl,sl,rfl,⟨_,ax.of xx⟩,λD3 qE=>?_⟩;have BC:∀{o:HO},ai H4 (upd H4 D3 o):=aG qE;have stN:Text->Int:=λt=>(((st.book.item t).map λj=>(j.stands.num:Int)).getD 0);refine mj (K:=K) (a:=sl) (xs:=bV g st.book i.leans) (λn H'=>H'=upd H4 D3 (.lst ((i.leans.take n).map λt=>V.int (((st.book.item t).map λj=>(j.stands.num:Int)).getD 0)))) rfl (λn H' _ e=>by rw[e];exact ax.of (BC _ _ xx)) ?_ ?_
        ·rintro n x H' hx rfl;obtain⟨t,ht,rfl⟩:=qj hx;obtain⟨q,k',a',f1,f2,f3,f4⟩:=bR t (cE ht);obtain⟨p',i',g1,g2,g3,g4,cG,fI,ip,iq,fJ,c1,_⟩:=R.gQ f4;rw[f3] at g3;cases g3;rw[f4];refine⟨rfl,yes ⟨_,rfl,a',C.cell,cG,_,_,rfl,BC _ _ (jI _ _ c1),T.aH,T.c8,ed ..,_,ag,oG,?_⟩⟩;rw[bc,take_snoc ht,bW,bX,f3];rfl
        ·rintro H' rfl;rw[eN,cA];have UB:(i.leans.findIdx? λn=>match st.book.item n with | some j=>j.stands==.stuck | none=>false)=i.leans.findIdx? λt=>(((st.book.item t).map λj=>(j.stands.num:Int)).getD 0)==3:=BA λt ht=>by obtain⟨q,j,a',f1,f2,f3,_⟩:=bR t ht;rw[f3];show(j.stands==.stuck)=((j.stands.num:Int)==3);cases j.stands<;>rfl
         have hex:∃j,(i.leans.findIdx? λt=>(((st.book.item t).map λj=>(j.stands.num:Int)).getD 0)==3)=some j:=by
          refine BB ?_;obtain⟨n,hn,hb⟩:=((NB.iO (by rw[hs];exact λz=>nomatch z)).mp (S.bi.ok p i hi).2).2.1 hs;obtain⟨q,j,a',f1,f2,f3,_⟩:=bR n hn;refine iz.mpr ⟨n,hn,?_⟩;rw[f3] at hb ⊢;have hb:(j.stands==.bad||j.stands==.stuck)=true:=hb;have UC:¬j.stands=.bad:=λz=>by have:=(NB.Ge S.bi dW hi hs hn f3).mpr (.inl z);have h9:=uA.mp qD n hn;rw[bp this] at h9;cases h9
          show((j.stands.num:Int)==3)=true;cases e:j.stands with
          |bad=>exact absurd e UC
          |stuck=>rfl
          |good=>rw[e] at hb;cases hb
          |open_=>rw[e] at hb;cases hb
         obtain⟨j,Ja⟩:=hex;obtain⟨t,ht,UD,UE⟩:=Bz Ja;obtain⟨q,a',cG,fs,f1,f2,f3,f4⟩:=IZ j t ht;have ew:Nb.why st.book i=(3,j,q):=by unfold Nb.why;rw[if_neg (λz=>z hs),hj];show(match i.leans.findIdx? (λn=>match st.book.item n with | some j=>j.stands==Stands.bad||(Nb.blamed st.book).contains n | none=>false) with | some k=>(2,k,(st.book.find (i.leans.getD k [])).getD 0) | none=>(3,(i.leans.findIdx? λn=>match st.book.item n with | some j=>j.stands==Stands.stuck | none=>false).getD 0,(st.book.find (i.leans.getD ((i.leans.findIdx? λn=>match st.book.item n with | some j=>j.stands==Stands.stuck | none=>false).getD 0) [])).getD 0))=_;rw[IY,qD,UB,Ja];show(3,j,(st.book.find (i.leans.getD j [])).getD 0)=_;rw[CM,ht];show(3,j,(st.book.find t).getD 0)=_;rw[f1];rfl
         rw[ew] at k;have s5:ai H4 (upd H4 D3 (.lst (i.leans.map λt=>V.int (((st.book.item t).map λj=>(j.stands.num:Int)).getD 0)))):=BC;generalize xo:upd H4 D3 (.lst (i.leans.map λt=>V.int (((st.book.item t).map λj=>(j.stands.num:Int)).getD 0)))=H5 at s5;have d5:H5 D3=some (.lst (i.leans.map λt=>V.int (((st.book.item t).map λj=>(j.stands.num:Int)).getD 0))):=by rw[<-xo];exact ag
         have tW:=jI.trans s5;refine⟨.inl ⟨rfl,_,ax.of d5⟩,D3,_,.int 3,j,.int (Option.getD (Option.map (λj:Item=>((j.stands.num:Nat):Int)) (st.book.item t)) 0),rfl,rfl,ax.of d5,rfl,Uy _ _,by rw[cJ,ht];rfl,UD,λm z hm hz=>?_,?_⟩
         ·rw[cJ] at hz;cases e:i.leans[m]? with
          |none=>rw[e] at hz;cases hz
          |some y=>rw[e] at hz;have hz:V.int (((st.book.item y).map λj=>(j.stands.num:Int)).getD 0)=z:=a4 hz;subst hz;exact UE m y hm e
         ·refine⟨_,rfl,_,rfl,_,rfl,sl,_,_,.ref a',rfl,rfl,ax.of (s5 _ _ xx),f2,a',C.cell,cG,_,_,rfl,s5 _ _ f3,T.aH,T.eG,f4,three _ _ _,λl hl=>k.tell (bA.same tW) (SR.same tW) hl rfl⟩
end
theorem gW(a b:Text):bv (a++b)=bv a++bv b:=by unfold bv;rw[bW]
theorem Jb:∀(w n:Nat),Nb.low (w+1) n=Nb.low w n++[UInt8.ofNat (n / 256 ^ w % 256)]
 |0,n=>by show[UInt8.ofNat (n % 256)]=[]++[UInt8.ofNat (n / 256 ^ 0 % 256)];rw[Nat.pow_zero,Nat.div_one];rfl
 |w+1,n=>by show UInt8.ofNat (n % 256)::Nb.low (w+1) (n / 256)=UInt8.ofNat (n % 256)::Nb.low w (n / 256)++[UInt8.ofNat (n / 256 ^ (w+1) % 256)];rw[Jb w (n / 256),Nat.div_div_eq_div_mul,Dc,Nat.mul_comm 256];rfl
theorem f9:∀(w n:Nat),(Nb.low w n).length=w
 |0,_=>rfl
 |w+1,n=>by show(Nb.low w (n / 256)).length+1=w+1;rw[f9]
theorem ofNat_mod(n:Nat):((UInt8.ofNat (n % 256)).toNat:Int)=((n % 256:Nat):Int):=by rw[qU];omega
theorem mR(n:Nat):Nb.low 1 n=[UInt8.ofNat n]:=by show[UInt8.ofNat (n % 256)]=[UInt8.ofNat n];congr 1;refine LM.mp ?_;rw[qU,qU];omega
theorem xy(t:Text):Nb.shortBytes t=Nb.low 1 t.length++t:=by rw[mR];rfl
theorem xA(l:List Text):Nb.namesBytes l=Nb.low 1 l.length++l.flatMap Nb.shortBytes:=by rw[mR];rfl
noncomputable def mS(H:Hp)(Q:VK)(bs:Text):Prop:=∀H' l,ai H H'->H l=none->H' l=some (.lst (bv bs))->Q (.ref l) H'
theorem mS.new{H H1:Hp}{Q:VK}{bs:Text}{l:Addr}{xs:List V}(k:mS H Q bs)(s:ai H H1)(hl:H1 l=none)(e:xs=bv bs):Q (.ref l) (upd H1 l (.lst xs)):=by refine k _ l (s.trans (aG hl)) (s.free hl) ?_;rw[ag,e]
section
variable {P:Program}{w:World}{K:PySem.W.Frag}{mg:Str->Option Value}{base:Heap}{C:Cs}
noncomputable abbrev Jc:Stmt:=top 93
noncomputable def tX:Sp:=λvs H Q _=>∃(n wd:Nat),vs=[.int (n:Int),.int (wd:Int)]/\wd<=8/\mS H Q (Nb.low wd n)
theorem UG(T:Tx K mg C)(F:aR K mg "write_number" Jc ["number","width"]):Ok P w K mg base aq 1 "write_number" ["number","width"] tX:=by
 have sc:=sk (P:=["number","width"]) (st:=Jc) ["number","width","written","rest","count"];refine F.ok sc (λvs H Q E h=>?_) (λf aD A outer s H vs Q E hr h=>?_)
 ·obtain⟨n,wd,rfl,_⟩:=h;rfl
 ·obtain⟨n,wd,rfl,hw,k⟩:=h;refine⟨_,af (aN (i:=2) sc.nd rfl (Or.inl rfl) (br ae)) (af (aN (i:=3) sc.nd rfl (Or.inl rfl) (pv 0))
   (af (cR PassesOwn.never rfl (pG rfl T.qd (aa (pv 1) ae)) (bQ (i:=4) sc.nd rfl (Or.inl rfl))
    (af (cb (cZ di gC gB fT (pv 2) (aa (cB DC (pv 3) aK) ae)))
    (ah (aN (i:=3) sc.nd rfl (Or.inl rfl) (cB MM (pv 3) aK)))))
   (ah (aC (pv 2))))),?_⟩
  refine⟨bY _,λl hl=>⟨_,rfl,_,rfl,(wd:Int),rfl,by omega,by omega,?_⟩⟩;refine vb (n:=(wd:Int).toNat) (λi σ H'=>(∃v4:Option V,σ=[some (.int (n:Int)),some (.int (wd:Int)),some (.ref l),some (.int ((n / 256 ^ i:Nat):Int)),v4])/\H'=upd H l (.lst (bv (Nb.low i n)))) ⟨⟨_,by rw[Nat.pow_zero,Nat.div_one];rfl⟩,rfl⟩ ?_ ?_
  ·rintro i σ H' hi ⟨⟨v4,rfl⟩,rfl⟩;have hi:i<8:=by omega
   refine⟨_,rfl,.inl ⟨rfl,_,ax.of ag⟩,_,rfl,_,_,rfl,rfl,(by show(0:Int)<256;decide),l,_,_,rfl,rfl,ag,?_,?_⟩
   ·rw[bH,f9];exact yw hi (by decide)
   ·rw[bc];refine⟨_,rfl,_,_,rfl,rfl,⟨by decide,by decide⟩,⟨some (.int ((0:Int)+(i:Int))),?_⟩,?_⟩
    ·show _=[_,_,_,some (V.int _),_];have:((n / 256 ^ i:Nat):Int) / 256=((n / 256 ^ (i+1):Nat):Int):=by rw[Dc,<-Nat.div_div_eq_div_mul];omega
     rw[<-this];rfl
    ·rw[Jb,gW];congr 3;show[V.int _]=[V.int _];rw[ofNat_mod];rfl
  ·rintro σ H' ⟨⟨v4,rfl⟩,rfl⟩;rw[ja];exact⟨_,rfl,k.new (λ_ _ z=>z) hl rfl⟩
noncomputable abbrev UH:Stmt:=top 94
noncomputable def tY:Sp:=λvs H Q _=>∃(a:Addr) (t:Text) (wd:Nat),vs=[.ref a,.int (wd:Int)]/\ay H a t/\wd<=8/\t.length<=1000000/\mS H Q (Nb.low wd t.length++t)
theorem UI(T:Tx K mg C)(F:aR K mg "write_text" UH ["text","width"])(D1:Ok P w K mg base aq 1 "write_number" ["number","width"] tX):Ok P w K mg base aq 2 "write_text" ["text","width"] tY:=by
 refine F.ok (sk ["text","width"]) (λvs H Q E h=>?_) (λf aD A outer s H vs Q E hr h=>?_)
 ·obtain⟨a,t,wd,rfl,_⟩:=h;rfl
 ·obtain⟨a,t,wd,rfl,ht,hw,hl,k⟩:=h;refine⟨_,ah (aC (cB ff (az D1 hr rfl aE (aa (dv dE rfl T.dA dN (aa (pv 0) ae)) (aa (pv 1) ae))) (kM vp rfl T.wF CS (aa (pv 0) ae)))),?_⟩;refine⟨_,rfl,a,_,rfl,.inr (aQ.of ht),_,rfl,t.length,wd,by rw[bH];rfl,hw,λH1 l1 s1 cO e1=>?_⟩;refine⟨_,rfl,a,_,rfl,.inr (aQ.of (s1 _ _ ht)),λl2 fU=>?_⟩;have s2:ai H1 (upd H1 l2 (.lst (bv t))):=aG fU;refine⟨l1,l2,_,_,rfl,rfl,s2 _ _ e1,ag,?_,λl3 tZ=>k.new (s1.trans s2) tZ (gW ..).symm⟩;rw[bH,bH,f9];exact aS (by omega:_<=1000008) (by decide)
noncomputable abbrev Jd:Stmt:=top 95
noncomputable def BD:Sp:=λvs H Q _=>∃(a:Addr) (ts:List Text),vs=[.ref a]/\cz H a ts/\ts.length<=8/\(∀t∈ts,t.length<=32)/\mS H Q (Nb.namesBytes ts)
theorem xB{ts:List Text}{f:Text->Text}{n k:Nat}(h:∀t∈ts,(f t).length<=n)(hk:ts.length<=k):(ts.flatMap f).length<=k*n:=by
 have:(ts.flatMap f).length<=ts.length*n:=by
  clear hk;induction ts with
  |nil=>exact bY _
  |cons a r ih=>rw[kz,aX,cu,Nat.succ_mul];have h1:=h a (bP ..);have h2:=ih λt ht=>h t (bO _ ht);omega
 exact aS this (LC _ hk)
theorem xC(t:Text):(Nb.shortBytes t).length=t.length+1:=rfl
theorem oR(t:Text):(Nb.longBytes t).length=t.length+4:=by unfold Nb.longBytes;rw[aX,f9];omega
theorem BE{ts:List Text}(h1:ts.length<=8)(h2:∀t∈ts,t.length<=32):(Nb.namesBytes ts).length<=1+8*33:=by rw[xA,aX,f9];have:=xB (f:=Nb.shortBytes) (n:=33) (k:=8) (λt ht=>by rw[xC];have:=h2 t ht;omega) h1;omega
theorem UJ(T:Tx K mg C)(F:aR K mg "write_names" Jd ["names"])(D1:Ok P w K mg base aq 1 "write_number" ["number","width"] tX)(D2:Ok P w K mg base aq 2 "write_text" ["text","width"] tY):Ok P w K mg base aq 3 "write_names" ["names"] BD:=by
 have sc:=sk (P:=["names"]) (st:=Jd) ["names","written","name"];refine F.ok sc (λvs H Q E h=>?_) (λf aD A outer s H vs Q E hr h=>?_)
 ·obtain⟨a,ts,rfl,_⟩:=h;rfl
 ·obtain⟨a,ts,rfl,⟨as,ha,hp⟩,xa,Je,k⟩:=h;refine⟨_,af (aN (i:=1) sc.nd rfl (Or.inl rfl) (az D1 (hr.mono (by decide)) rfl aE (aa (dv dE rfl T.dA dN (aa (pv 0) ae)) (aa (aM T.mL) ae))))
   (af (cR PassesOwn.never rfl (jg (pv 0)) (bQ (i:=2) sc.nd rfl (Or.inl rfl))
    (ah (cb (cZ di m4 ph pO (pv 1) (aa (az D2 hr rfl aE (aa (pv 2) (aa (aM T.mL) ae))) ae)))))
   (ah (aC (pv 1)))),?_⟩
  refine⟨_,rfl,a,_,rfl,.inr (aQ.of ha),ts.length,1,by rw[aF,Paired.len hp];rfl,by decide,λH1 l s1 hl e1=>?_⟩;rw[xA] at k;have wy:=xB (f:=Nb.shortBytes) (n:=33) (k:=8) (λt ht=>by rw[xC];have:=Je t ht;omega) xa;refine⟨_,rfl,a,rfl,⟨_,aQ.of (s1 _ _ ha)⟩,nu (K:=K) (a:=a) (xs:=as.map V.ref) (λn σ H'=>(∃v2:Option V,σ=[some (.ref a),some (.ref l),v2])/\ai H H'/\H' l=some (.lst (bv (Nb.low 1 ts.length++(ts.take n).flatMap Nb.shortBytes)))) ⟨⟨_,rfl⟩,s1,by rw[uJ,LL,ez];exact e1⟩ (λn σ H' _ ⟨_,e,_⟩=>aQ.of (e _ _ ha)) ?_ ?_⟩
  ·rintro n x σ H' hx ⟨⟨v2,rfl⟩,sm,el⟩;obtain⟨c,hc,rfl⟩:=dH hx;obtain⟨t,ht,b8⟩:=Paired.get hp hc;have b8:ay H c t:=b8;have fl:(ts.take (n+1)).flatMap Nb.shortBytes=(ts.take n).flatMap Nb.shortBytes++Nb.shortBytes t:=lu ht;have ZX:=Je t (cE ht);refine⟨_,rfl,.inl ⟨rfl,_,ax.of el⟩,_,rfl,c,t,1,rfl,sm _ _ b8,by decide,by omega,λH2 l2 s2 fU e2=>?_⟩;refine⟨l,l2,_,_,rfl,rfl,s2 _ _ el,e2,?_,⟨_,rfl⟩,λb o e=>?_,?_⟩
   ·rw[bH,bH,aX,aX,f9,f9];have h6:=ow (f:=Nb.shortBytes) (l:=ts) n;exact aS (by omega:_<=1000) (by decide)
   ·rw[aw (bj e hl)];exact s2 _ _ (sm _ _ e)
   ·rw[ag,fl,<-gW,xy,cK]
  ·rintro σ H' ⟨⟨v2,rfl⟩,sm,el⟩;rw[aF,Paired.len hp,cA] at el;exact⟨_,rfl,k H' l sm hl el⟩
noncomputable abbrev UK:Stmt:=top 96
noncomputable def Jf(C:Cs):Sp:=λvs H Q _=>∃(a:Addr) (l:Last),vs=[.ref a]/\qb C H a l/\Nb.cameOk l.came=true/\mS H Q (Nb.cameBytes l.came)
theorem Jg{c:Came}(h:Nb.cameOk c=true):(Nb.cameBytes c).length<=16389:=by
 cases c with
 |value b=>show(Nb.longBytes b).length+1<=_;rw[oR];have:b.length<=16384:=bw h;omega
 |bad n=>show(Nb.low 4 n).length+1<=_;rw[f9];omega
theorem UL(T:Tx K mg C)(F:aR K mg "write_what_came" UK ["last"])(D1:Ok P w K mg base aq 1 "write_number" ["number","width"] tX)(D2:Ok P w K mg base aq 2 "write_text" ["text","width"] tY):Ok P w K mg base aq 3 "write_what_came" ["last"] (Jf C):=by
 refine F.ok (sk ["last"]) (λvs H Q E h=>?_) (λf aD A outer s H vs Q E hr h=>?_)
 ·obtain⟨a,l,rfl,_⟩:=h;rfl
 ·obtain⟨a,l,rfl,⟨dr,tr,lr,gr,vr,r1,r2,r3,r4,r5⟩,ao,k⟩:=h;refine⟨_,af (aO (bo b3 (aj (pv 0) rfl) aK (aY _)) (ah (aC (cB ff (br (aa aK ae)) (az D2 hr rfl aE (aa (aj (pv 0) rfl) (aa (aM T.ll) ae)))))) aP)
   (ah (aC (cB ff (br (aa aK ae)) (az D1 (hr.mono (by decide)) rfl aE (aa (aj (pv 0) rfl) (aa (aM T.ll) ae)))))),?_⟩
  refine⟨_,rfl,a,C.run,dr,_,_,rfl,r1,T.dR,T.oh,qi ..,rfl,_,rfl,?_⟩;cases ec:l.came with
  |value v=>rw[ec] at ao k r5;have hv:v.length<=16384:=bw ao;refine bF ⟨bE,λq hq=>?_⟩;have s1:ai H (upd H q (.lst [.int 0])):=aG hq;refine⟨_,rfl,a,C.run,dr,_,_,rfl,s1 _ _ r1,T.dR,T.qc,tf ..,vr,v,4,rfl,s1 _ _ r5,by decide,by omega,λH2 l2 s2 fU e2=>?_⟩;refine⟨q,l2,_,_,rfl,rfl,s2 _ _ ag,e2,?_,λl3 tZ=>k.new (s1.trans s2) tZ rfl⟩;rw[bH,aX,f9];show 1+_<=sizeLine;exact aS (by omega:_<=100000) (by decide)
  |bad n=>rw[ec] at ao k;have ao:(decide (n≠0)&&decide (n<Nb.W32))=true:=ao;rw[bq] at ao;have h0:=bw ao.1;have UM:decide (V.int (cn (.bad n):Int)=V.int 0)=false:=eo λz=>h0 (by have:=V.int.inj z;have this:(n:Int)=0:=this;omega);rw[ec] at r1;refine Bu UM ⟨bE,λq hq=>?_⟩;have s1:ai H (upd H q (.lst [.int 1])):=aG hq;refine⟨_,rfl,a,C.run,dr,_,_,rfl,s1 _ _ r1,T.dR,T.oh,qi ..,n,4,rfl,by decide,λH2 l2 s2 fU e2=>?_⟩;refine⟨q,l2,_,_,rfl,rfl,s2 _ _ ag,e2,?_,λl3 tZ=>k.new (s1.trans s2) tZ rfl⟩;rw[bH,f9];show 1+4<=sizeLine;decide
noncomputable abbrev Jh:Stmt:=top 97
noncomputable def BF(C:Cs):Sp:=λvs H Q _=>∃(v:V) (o:Option Last),vs=[v]/\mG C H v o/\(∀l,o=some l->Nb.lastOk l=true)/\mS H Q (Nb.lastBytes o)
theorem UN{o:Option Last}(h:∀l,o=some l->Nb.lastOk l=true):(Nb.lastBytes o).length<=300000:=by
 cases o with
 |none=>show 1<=_;omega
 |some l=>obtain⟨h1,h2,h3,h4,h5⟩:=NB.p7 (h l rfl);obtain⟨h6,h7⟩:=NB.kY h2;show(Nb.longBytes l.text++(Nb.namesBytes l.names++(l.values.flatMap Nb.longBytes++Nb.cameBytes l.came))).length+1<=_;rw[aX,aX,aX,oR];have a1:=BE h6 λt ht=>(NB.n6 (h7 t ht)).2;have a2:=xB (f:=Nb.longBytes) (n:=16388) (k:=8) (λt ht=>by rw[oR];have:=h4 t ht;omega) (by rw[h3];exact h6);have a3:=Jg h5;omega
theorem UO(T:Tx K mg C)(F:aR K mg "write_last_run" Jh ["last"])(D1:Ok P w K mg base aq 2 "write_text" ["text","width"] tY)(D2:Ok P w K mg base aq 3 "write_names" ["names"] BD)(D3:Ok P w K mg base aq 3 "write_what_came" ["last"] (Jf C)):Ok P w K mg base aq 4 "write_last_run" ["last"] (BF C):=by
 have sc:=sk (P:=["last"]) (st:=Jh) ["last","written","value"];refine F.ok sc (λvs H Q E h=>?_) (λf aD A outer s H vs Q E hr h=>?_)
 ·obtain⟨v,o,rfl,_⟩:=h;rfl
 ·obtain⟨v,o,rfl,hL,ao,k⟩:=h;refine⟨_,af (aO (cw (iD (pv 0))) (ah (aC (br (aa aK ae)))) aP)
   (af (aN (i:=1) sc.nd rfl (Or.inl rfl) (cB ff (cB ff (br (aa aK ae)) (az D1 (hr.mono (by decide)) rfl aE (aa (aj (pv 0) rfl) (aa (aM T.ll) ae)))) (az D2 hr rfl aE (aa (aj (pv 0) rfl) ae))))
   (af (cR PassesOwn.never rfl (jg (aj (pv 0) rfl)) (bQ (i:=2) sc.nd rfl (Or.inl rfl))
    (ah (cb (cZ di m4 ph pO (pv 1) (aa (az D1 (hr.mono (by decide)) rfl aE (aa (pv 2) (aa (aM T.ll) ae))) ae)))))
   (ah (aC (cB ff (pv 1) (az D3 hr rfl aE (aa (pv 0) ae))))))),?_⟩
  refine⟨_,rfl,_,rfl,?_⟩;cases o with
  |none=>have hL:v=.ak:=hL;subst hL;exact bF ⟨bE,λl hl=>k.new (λ_ _ z=>z) hl rfl⟩
  |some lr=>
   obtain⟨a,rfl,hR⟩:=hL;obtain⟨dr,tr,la,ga,va,r1,r2,r3,⟨UP,g1,g2⟩,r5⟩:=id hR;obtain⟨h1,h2,h3,h4,h5⟩:=NB.p7 (ao lr rfl);obtain⟨h6,h7⟩:=NB.kY h2;have h8:∀t∈lr.names,t.length<=32:=λt ht=>(NB.n6 (h7 t ht)).2;refine bJ ⟨bE,λq1 t6=>?_⟩;have s1:ai H (upd H q1 (.lst [.int 1])):=aG t6;refine⟨_,rfl,a,C.run,dr,_,_,rfl,s1 _ _ r1,T.dR,T.Aw,GU ..,tr,lr.text,4,rfl,s1 _ _ r2,by decide,by omega,λH2 q2 s2 il e2=>?_⟩;have sA:=s1.trans s2;refine⟨q1,q2,_,_,rfl,rfl,s2 _ _ ag,e2,?_,λq3 mQ=>?_⟩
   ·rw[bH,aX,f9];show 1+_<=sizeLine;exact aS (by omega:_<=100000) (by decide)
   have e3:[V.int 1]++bv (Nb.low 4 lr.text.length++lr.text)=bv (1::Nb.longBytes lr.text):=rfl;rw[e3];have s3:ai H2 (upd H2 q3 (.lst (bv (1::Nb.longBytes lr.text)))):=aG mQ;have sB:=sA.trans s3;refine⟨_,rfl,a,C.run,dr,_,_,rfl,sB _ _ r1,T.dR,T.Ax,GV ..,la,lr.names,rfl,cz.aB (C:=C) r3 (ai.aB sB),h6,h8,λH4 q4 s4 UQ e4=>?_⟩;have nl:=BE h6 h8;have sC:=sB.trans s4;refine⟨q3,q4,_,_,rfl,rfl,s4 _ _ ag,e4,?_,λq5 qF=>?_⟩
   ·rw[bH,bH,cu,oR];exact aS (by omega:_<=100000) (by decide)
   rw[<-gW];have s5:ai H4 (upd H4 q5 (.lst (bv (1::Nb.longBytes lr.text++Nb.namesBytes lr.names)))):=aG qF;have sD:=sC.trans s5;have BG:H q5=none:=sC.free qF;have e5:(upd H4 q5 (.lst (bv (1::Nb.longBytes lr.text++Nb.namesBytes lr.names)))) q5=some (.lst (bv (1::Nb.longBytes lr.text++Nb.namesBytes lr.names))):=ag;generalize upd H4 q5 (.lst (bv (1::Nb.longBytes lr.text++Nb.namesBytes lr.names)))=H5 at s5 sD e5;have wy:=xB (f:=Nb.longBytes) (n:=16388) (k:=8) (λt ht=>by rw[oR];have:=h4 t ht;omega) (by rw[h3];exact h6);have ox:(1::Nb.longBytes lr.text++Nb.namesBytes lr.names).length<=100000:=by rw[aX,cu,oR];omega
   refine⟨_,rfl,a,C.run,dr,_,_,rfl,sD _ _ r1,T.dR,T.wC,AH ..,ga,rfl,⟨_,aQ.of (sD _ _ g1)⟩,nu (K:=K) (a:=ga) (xs:=UP.map V.ref) (λn σ H'=>(∃v2:Option V,σ=[some (.ref a),some (.ref q5),v2])/\ai H H'/\H' q5=some (.lst (bv ((1::Nb.longBytes lr.text++Nb.namesBytes lr.names)++(lr.values.take n).flatMap Nb.longBytes)))) ⟨⟨_,rfl⟩,sD,by rw[uJ,LL,ez];exact e5⟩ (λn σ H' _ ⟨_,e,_⟩=>aQ.of (e _ _ g1)) ?_ ?_⟩
   ·rintro n x σ H' hx ⟨⟨v2,rfl⟩,sm,el⟩;obtain⟨c,hc,rfl⟩:=dH hx;obtain⟨t,ht,b8⟩:=Paired.get g2 hc;have b8:ay H c t:=b8;have fl:(lr.values.take (n+1)).flatMap Nb.longBytes=(lr.values.take n).flatMap Nb.longBytes++Nb.longBytes t:=lu ht;have tl:=h4 t (cE ht);refine⟨_,rfl,.inl ⟨rfl,_,ax.of el⟩,_,rfl,c,t,4,rfl,sm _ _ b8,by decide,by omega,λH2 l2 s2 fU e2=>?_⟩;refine⟨q5,l2,_,_,rfl,rfl,s2 _ _ el,e2,?_,⟨_,rfl⟩,λb o e=>?_,?_⟩
    ·have h6:=ow (f:=Nb.longBytes) (l:=lr.values) n;rw[bH,bH,aX,aX (as:=Nb.low 4 t.length),f9];exact aS (by omega:_<=1000000) (by decide)
    ·rw[aw (bj e BG)];exact s2 _ _ (sm _ _ e)
    ·have et:Nb.low 4 t.length++t=Nb.longBytes t:=rfl;rw[ag,fl,<-gW,et,cK]
   ·rintro σ H' ⟨⟨v2,rfl⟩,sm,el⟩;rw[aF,Paired.len g2,cA] at el;refine⟨_,rfl,_,rfl,a,lr,rfl,hR.aB (ai.aB sm),h5,λH6 q6 s6 t7 e6=>?_⟩;refine⟨q5,q6,_,_,rfl,rfl,s6 _ _ el,e6,?_,λq7 Ji=>k.new (sm.trans s6) Ji ?_⟩
    ·rw[bH,bH,aX];have:=Jg h5;exact aS (by omega:_<=1000000) (by decide)
    ·rw[<-gW];show bv _=bv (1::(Nb.longBytes lr.text++(Nb.namesBytes lr.names++(lr.values.flatMap Nb.longBytes++Nb.cameBytes lr.came))));rw[cK,cK];rfl
noncomputable abbrev Jj:Stmt:=top 98
noncomputable def Jk(C:Cs):Sp:=λvs H Q _=>∃(a:Addr) (p:Nat) (i:Item),vs=[.ref a]/\bt C H a p i/\p<256/\i.ok=true/\mS H Q (Nb.itemBytes (i,p))
theorem UR(T:Tx K mg C)(F:aR K mg "write_cell" Jj ["cell"])(D1:Ok P w K mg base aq 2 "write_text" ["text","width"] tY)(D2:Ok P w K mg base aq 3 "write_names" ["names"] BD)(D3:Ok P w K mg base aq 4 "write_last_run" ["last"] (BF C)):Ok P w K mg base aq 5 "write_cell" ["cell"] (Jk C):=by
 have sc:=sk (P:=["cell"]) (st:=Jj) ["cell","written"];refine F.ok sc (λvs H Q E h=>?_) (λf aD A outer s H vs Q E hr h=>?_)
 ·obtain⟨a,p,i,rfl,_⟩:=h;rfl
 ·obtain⟨a,p,i,rfl,aU,hp,ao,k⟩:=h;refine⟨_,af (aN (i:=1) sc.nd rfl (Or.inl rfl) (cB ff (cB ff (br (aa (aj (pv 0) rfl) ae)) (az D1 (hr.mono (by decide)) rfl aE (aa (aj (pv 0) rfl) (aa (aM T.mL) ae)))) (az D1 (hr.mono (by decide)) rfl aE (aa (aj (pv 0) rfl) (aa (aM T.ll) ae)))))
   (af (cb (cZ di m4 ph pO (pv 1) (aa (az D2 (hr.mono (by decide)) rfl aE (aa (aj (pv 0) rfl) ae)) ae)))
   (af (cb (cZ di gC gB fT (pv 1) (aa (aj (pv 0) rfl) ae)))
   (af (cb (cZ di gC gB fT (pv 1) (aa (kI (dU (aj (pv 0) rfl)) aK aK) ae)))
   (ah (aC (cB ff (pv 1) (az D3 hr rfl aE (aa (aj (pv 0) rfl) ae)))))))),?_⟩
  obtain⟨dx,na,ta,la,lv,h1,h2,h3,h4,h5⟩:=id aU;obtain⟨o1,o2,o3,o4,_,_⟩:=NB.d8 ao;obtain⟨l8,qw⟩:=NB.kY o3;have Jl:∀t∈i.leans,t.length<=32:=λt ht=>(NB.n6 (qw t ht)).2;have ZY:=(NB.n6 o1).2;have nl:=BE l8 Jl;refine⟨_,rfl,a,C.cell,dx,_,_,rfl,h1,T.aH,T.eG,fh ..,bE,λq1 t6=>?_⟩;have s1:ai H (upd H q1 (.lst [.int (p:Int)])):=aG t6;refine⟨_,rfl,a,C.cell,dx,_,_,rfl,s1 _ _ h1,T.aH,T.jy,ke ..,na,i.name,1,rfl,s1 _ _ h2,by decide,by omega,λH2 q2 s2 il e2=>?_⟩;have sA:=s1.trans s2;refine⟨q1,q2,_,_,rfl,rfl,s2 _ _ ag,e2,?_,λq3 mQ=>?_⟩
  ·rw[bH,aX,f9];show 1+_<=sizeLine;exact aS (by omega:_<=100000) (by decide)
  have ep:[V.int (p:Int)]=bv [UInt8.ofNat p]:=by show _=[V.int _];rw[qU];congr 2;omega
  rw[<-xy,ep,<-gW];have s3:ai H2 (upd H2 q3 (.lst (bv ([UInt8.ofNat p]++Nb.shortBytes i.name)))):=aG mQ;have sB:=sA.trans s3;refine⟨_,rfl,a,C.cell,dx,_,_,rfl,sB _ _ h1,T.aH,T.mI,qg ..,ta,i.text,4,rfl,sB _ _ h3,by decide,by omega,λH4 q4 s4 UQ e4=>?_⟩;have sC:=sB.trans s4;refine⟨q3,q4,_,_,rfl,rfl,s4 _ _ ag,e4,?_,λq5 qF=>?_⟩
  ·rw[bH,bH,aX,aX,f9,xC];show 1+_+_<=sizeLine;exact aS (by omega:_<=100000) (by decide)
  have US:Nb.low 4 i.text.length++i.text=Nb.longBytes i.text:=rfl;rw[US,<-gW];have s5:ai H4 (upd H4 q5 (.lst (bv (([UInt8.ofNat p]++Nb.shortBytes i.name)++Nb.longBytes i.text)))):=aG qF;have sD:=sC.trans s5;have BG:H q5=none:=sC.free qF;have e5:(upd H4 q5 (.lst (bv (([UInt8.ofNat p]++Nb.shortBytes i.name)++Nb.longBytes i.text)))) q5=some (.lst (bv (([UInt8.ofNat p]++Nb.shortBytes i.name)++Nb.longBytes i.text))):=ag;have UT:(([UInt8.ofNat p]++Nb.shortBytes i.name)++Nb.longBytes i.text).length<=65800:=by rw[aX,aX,oR,xC];show 1+_+_<=_;omega
  generalize hz:([UInt8.ofNat p]++Nb.shortBytes i.name)++Nb.longBytes i.text=z at e5 s5 sD UT;generalize upd H4 q5 (.lst (bv z))=H5 at s5 sD e5;refine⟨_,rfl,.inl ⟨rfl,_,ax.of e5⟩,_,rfl,a,C.cell,dx,_,_,rfl,sD _ _ h1,T.aH,T.ie,jA ..,la,i.leans,rfl,cz.aB (C:=C) h4 (ai.aB sD),l8,Jl,λH6 q6 s6 t7 e6=>?_⟩;have sE:=sD.trans s6;refine⟨q5,q6,_,_,rfl,rfl,s6 _ _ e5,e6,?_,?_⟩
  ·rw[bH,bH];exact aS (by omega:_<=100000) (by decide)
  rw[<-gW];have sF:∀{o:HO},ai H (upd H6 q5 o):=λb o' e=>by rw[aw (bj e BG)];exact sE _ _ e
  refine⟨_,rfl,.inl ⟨rfl,_,ax.of ag⟩,_,rfl,a,C.cell,dx,_,_,rfl,sF _ _ h1,T.aH,T.c8,ed ..,q5,_,_,rfl,rfl,ag,?_,?_⟩
  ·rw[bH,aX];exact dC (by omega:_<=100000) (by decide)
  rw[bc];have fin:∀zt:Int,zt=(if i.touched=true then 1 else 0)->za (.ref q5) [.int zt] (upd H6 q5 (.lst (bv (z++Nb.namesBytes i.leans)++[.int (i.stands.num:Int)]))) (λv H'=>rD (iF Eh (bU 1) (pL (BF C) [] E0 (jj (dO K (bU 0) "last") iG))) {nx:=λ_ H'=>Q .ak H',rt:=Q} [some (.ref a),some (.ref q5)] H'):=by
   rintro zt UU;refine⟨q5,_,_,rfl,rfl,ag,?_,?_⟩
   ·rw[aX,bH,aX];show _+_+1 < _;exact dC (by omega:_<=100000) (by decide)
   rw[bc];refine⟨_,rfl,_,rfl,a,C.cell,dx,_,_,rfl,sF _ _ h1,T.aH,T.fY,ig ..,lv,i.last,rfl,h5.aB (ai.aB sF),o4,λH7 q7 s7 Ji e7=>?_⟩;refine⟨q5,q7,_,_,rfl,rfl,s7 _ _ ag,e7,?_,λq8 UW=>k.new (sF.trans s7) UW ?_⟩
   ·rw[aX,aX,bH,aX,bH];have:=UN o4;show _+_+1+1+_<=_;exact aS (by omega:_<=1000000) (by decide)
   ·have BH:[V.int (i.stands.num:Int)]=bv [UInt8.ofNat i.stands.num]:=by cases i.stands<;>rfl
    have UX:[V.int zt]=bv [if i.touched=true then 1 else 0]:=by
     rw[UU];by_cases hb:i.touched=true
     ·rw[if_pos hb,if_pos hb];rfl
     ·rw[if_neg hb,if_neg hb];rfl
    rw[BH,UX,<-gW,<-gW,<-gW,<-hz];congr 1;unfold Nb.itemBytes;simp[cK]
  refine⟨_,rfl,.inl ⟨rfl,_,ax.of ag⟩,_,rfl,a,C.cell,dx,_,_,rfl,sF _ _ h1,T.aH,T.j8,qh ..,_,rfl,?_⟩;refine aT (λhb=>?_) (λhb=>?_)
  ·exact fin 1 (by rw[if_pos hb])
  ·exact fin 0 (by rw[if_neg hb])
noncomputable abbrev Jm:Stmt:=top 99
noncomputable def Jn(C:Cs):Sp:=λvs H Q _=>∃(g:Gh) (s:Nb.State),vs=[.ref g.ba]/\dg C H g s/\NB.SI s/\s.book.bytes.length<=10000000/\dI C H g (Nb.step s .save) Q
theorem UY(T:Tx K mg C)(F:aR K mg "save" Jm ["book"])(D1:Ok P w K mg base aq 1 "cells_of" ["book"] (ka C))(D2:Ok P w K mg base aq 1 "write_number" ["number","width"] tX)(D3:Ok P w K mg base aq 5 "write_cell" ["cell"] (Jk C)):Ok P w K mg base aq 6 "save" ["book"] (Jn C):=by
 have sc:=sk (P:=["book"]) (st:=Jm) ["book","cells","told","cell"];obtain⟨ma,BJ,t8⟩:=T.mark;refine F.ok sc (λvs H Q E h=>?_) (λf aD A outer s H vs Q E hr h=>?_)
 ·obtain⟨g,st,rfl,_⟩:=h;rfl
 ·obtain⟨g,st,rfl,SR,S,hlen,k⟩:=h;obtain⟨wv,m,al,R,W⟩:=id SR;refine⟨_,af (aN (i:=1) sc.nd rfl (Or.inl rfl) (az D1 (hr.mono (by decide)) rfl aE (aa (pv 0) ae)))
   (af (aN (i:=2) sc.nd rfl (Or.inl rfl) (cB ff (cB ff (br (aa aK ae)) (kM vp rfl T.wF CS (aa (yD (v:=.ref ma) rfl BJ rfl) ae))) (az D2 (hr.mono (by decide)) rfl aE (aa (dv dE rfl T.dA dN (aa (pv 1) ae)) (aa (aM T.GH) ae)))))
   (af (cR PassesOwn.never rfl (dD (pv 1)) (bQ (i:=3) sc.nd rfl (Or.inl rfl))
    (ah (cb (cZ di m4 ph pO (pv 2) (aa (az D3 hr rfl aE (aa (pv 3) ae)) ae)))))
   (ah (aC (pv 2))))),?_⟩
  have aJ:Nb.step st .save=(st,.text st.book.bytes):=rfl;rw[aJ] at k;refine⟨_,rfl,g,g.bd,st.book,wv,m,al,rfl,R,λl hl=>?_⟩;have s1:ai H (upd H l (.lst ((g.cs.filterMap id).map V.ref))):=aG hl;have cO:(upd H l (.lst ((g.cs.filterMap id).map V.ref))) l=some (.lst ((g.cs.filterMap id).map V.ref)):=ag;generalize upd H l (.lst ((g.cs.filterMap id).map V.ref))=H1 at s1 cO;have pl:=(R.same s1).placed;refine⟨bE,λq1 t6=>?_⟩;have s2:ai H1 (upd H1 q1 (.lst [.int 0])):=aG t6;refine⟨ma,_,rfl,.inr (t8 _),λq2 il=>?_⟩;have s3:ai (upd H1 q1 (.lst [.int 0])) (upd (upd H1 q1 (.lst [.int 0])) q2 (.lst [.int 76,.int 87,.int 75,.int 49])):=aG il;refine⟨q1,q2,_,_,rfl,rfl,s3 _ _ ag,ag,(by show 5<=sizeLine;decide),λq3 mQ=>?_⟩;have e3:[V.int 0]++[V.int 76,.int 87,.int 75,.int 49]=.int 0::bv Nb.MARK:=rfl;rw[e3];have s4:ai (upd (upd H1 q1 (.lst [.int 0])) q2 (.lst [.int 76,.int 87,.int 75,.int 49])) (upd (upd (upd H1 q1 (.lst [.int 0])) q2 (.lst [.int 76,.int 87,.int 75,.int 49])) q3 (.lst (.int 0::bv Nb.MARK))):=aG mQ;have jI:=s2.trans (s3.trans s4);have Jo:(upd (upd (upd H1 q1 (.lst [.int 0])) q2 (.lst [.int 76,.int 87,.int 75,.int 49])) q3 (.lst (.int 0::bv Nb.MARK))) q3=some (.lst (.int 0::bv Nb.MARK)):=ag;generalize upd (upd (upd H1 q1 (.lst [.int 0])) q2 (.lst [.int 76,.int 87,.int 75,.int 49])) q3 (.lst (.int 0::bv Nb.MARK))=H4 at s4 jI Jo;refine⟨_,rfl,l,_,rfl,.inl (ax.of (jI _ _ cO)),(Nb.placed st.book).length,2,by rw[aF,Paired.len pl];rfl,by decide,λH5 q5 s5 qF e5=>?_⟩;refine⟨q3,q5,_,_,rfl,rfl,s5 _ _ Jo,e5,?_,λq6 t7=>?_⟩
  ·rw[bH,f9];show 5+2<=sizeLine;decide
  have e6:(V.int 0::bv Nb.MARK)++bv (Nb.low 2 (Nb.placed st.book).length)=.int 0::bv (Nb.MARK++Nb.low 2 (Nb.placed st.book).length):=by rw[gW];rfl
  rw[e6];have tW:=s1.trans (jI.trans s5);have Jp:H q6=none:=tW.free t7;have s6:ai H5 (upd H5 q6 (.lst (.int 0::bv (Nb.MARK++Nb.low 2 (Nb.placed st.book).length)))):=aG t7;have l6:=(jI.trans (s5.trans s6)) _ _ cO;have Jq:(upd H5 q6 (.lst (.int 0::bv (Nb.MARK++Nb.low 2 (Nb.placed st.book).length)))) q6=some (.lst (.int 0::bv (Nb.MARK++Nb.low 2 (Nb.placed st.book).length))):=ag;have UZ:l≠q6:=bj ((jI.trans s5) _ _ cO) t7;have sB:=tW.trans s6;generalize upd H5 q6 (.lst (.int 0::bv (Nb.MARK++Nb.low 2 (Nb.placed st.book).length)))=H6 at s6 l6 Jq sB;have bytes:st.book.bytes=(Nb.MARK++Nb.low 2 (Nb.placed st.book).length)++(Nb.placed st.book).flatMap Nb.itemBytes:=by unfold Nb.Book.bytes;rw[cK]
  have cT:=R.placed;refine⟨_,rfl,l,rfl,⟨_,ax.of l6⟩,fQ (K:=K) (a:=l) (xs:=(g.cs.filterMap id).map V.ref) (λn σ H'=>(∃v3:Option V,σ=[some (.ref g.ba),some (.ref l),some (.ref q6),v3])/\ai H H'/\H' l=some (.lst ((g.cs.filterMap id).map V.ref))/\H' q6=some (.lst (.int 0::bv ((Nb.MARK++Nb.low 2 (Nb.placed st.book).length)++((Nb.placed st.book).take n).flatMap Nb.itemBytes))))
   ⟨⟨_,rfl⟩,sB,l6,by rw[uJ,LL,ez];exact Jq⟩ (λn σ H' _ ⟨_,_,e,_⟩=>ax.of e) ?_ ?_⟩
  ·rintro n x σ H' hx ⟨⟨v3,rfl⟩,sm,du,el⟩;obtain⟨c,hc,rfl⟩:=dH hx;obtain⟨⟨i,p⟩,hi,aU⟩:=Paired.get cT hc;have hb:st.book.items[p]?=some (some i):=NB.b7.mp (cE hi);have hp:p<256:=by rw[<-S.bi.len];exact(bh.mp hb).1
   have fl:((Nb.placed st.book).take (n+1)).flatMap Nb.itemBytes=((Nb.placed st.book).take n).flatMap Nb.itemBytes++Nb.itemBytes (i,p):=lu hi;refine⟨_,rfl,.inl ⟨rfl,_,ax.of el⟩,_,rfl,c,p,i,rfl,bt.same aU sm,hp,(S.bi.ok p i hb).1,λH2 l2 s2 fU e2=>?_⟩;refine⟨q6,l2,_,_,rfl,rfl,s2 _ _ el,e2,?_,⟨_,rfl⟩,λb o e=>?_,?_,?_⟩
   ·have h6:=ow (f:=Nb.itemBytes) (l:=Nb.placed st.book) (n+1);rw[fl,aX] at h6;rw[bytes,aX] at hlen;rw[cu,bH,bH,aX];exact aS (by omega:_<=10000001) (by decide)
   ·rw[aw (bj e Jp)];exact s2 _ _ (sm _ _ e)
   ·rw[aw UZ];exact s2 _ _ du
   ·rw[ag,fl,qY,<-gW,cK]
  ·rintro σ H' ⟨⟨v3,rfl⟩,sm,du,el⟩;rw[aF,Paired.len cT,cA,<-bytes] at el;refine⟨_,rfl,k H' g q6 (bA.same sm) (SR.same sm) ?_ Jp⟩;show H' q6=some (.lst ((0::NbNeutral.bytesOf st.book.bytes).map V.int));rw[el,bX,Bv]
end
end Rr
namespace NB
open Nb
noncomputable def own(i:Item):Bool:=match i.stands with
 |.good=>ownLast i .good
 |.bad=>ownLast i .bad
 |_=>true
noncomputable def Parts(i:Item):Prop:=nameOk i.name=true/\i.text.length<=65536/\leansOk i.leans=true/\∀l,i.last=some l->lastOk l=true
theorem Jr{i:Item}(h:Parts i):i.ok=own i:=by
 obtain⟨h1,h2,h3,h4⟩:=h;rw[kE];constructor
 ·intro h;obtain⟨_,_,_,_,o5,o6⟩:=d8 h;unfold own;cases e:i.stands with
  |good=>exact o5 e
  |bad=>exact o6 e
  |open_=>rfl
  |stuck=>rfl
 ·intro h;refine p6 h1 h2 h3 h4 (λe=>?_) λe=>?_
  ·unfold own at h;rw[e] at h;exact h
  ·unfold own at h;rw[e] at h;exact h
structure WB(b:Book):Prop where
 len:b.items.length=256
 nd:ND b
 pt:∀(p:Nat) (i:Item),b.items[p]?=some (some i)->Parts i
theorem WB.pairs{b:Book}(B:WB b):(NB.pairs b).length<=1000000:=by have h1:=wc (b:=b) λp i h=>(kY (B.pt p i h).2.2.1).1;have h2:=fV b;rw[B.len] at h2;omega
theorem U0{b:Book}(ao:∀(p:Nat) (i:Item),b.items[p]?=some (some i)->i.ok=true){p:Nat}{i:Item}(h:b.items[p]?=some (some i))(hg:i.stands=.good):∃v,i.value=some v:=by
 obtain⟨_,_,_,h4,h5,_⟩:=d8 (ao p i h);obtain⟨l,e1,_,_,_,e2⟩:=n9 (h5 hg);cases e3:l.came with
 |bad n=>rw[e3] at e2;cases e2
 |value v=>refine⟨v,?_⟩;unfold Item.value;rw[if_pos hg,e1];show(match l.came with | .value b=>some b | .bad _=>none)=some v;rw[e3]
end NB
namespace Rr
open PySem PySem.Spec PyProof.Rows L2
open Nb (Text Item Last Came Stands)
theorem Js{b:Nb.Book}(ao:∀(p:Nat) (i:Item),b.items[p]?=some (some i)->i.ok=true):∀ts:List Text,(ts.all λn=>fH (b.item n))=true->∃us,ot b ts=some us
 |[],_=>⟨[],rfl⟩
 |t::ts,h=>by
  rw[uN,bq] at h;obtain⟨us,e⟩:=Js ao ts h.2;have h1:=h.1;cases e2:b.item t with
  |none=>rw[e2] at h1;cases h1
  |some i=>rw[e2] at h1;obtain⟨q,_,hq,_⟩:=NB.jv e2;obtain⟨v,e3⟩:=NB.U0 ao hq (eq_of_beq h1);refine⟨v::us,?_⟩;unfold ot at e ⊢;rw[m8,e2,e];show((i.value).bind λv=>some (v::us))=_;rw[e3];rfl
section
variable {P:Program}{w:World}{K:PySem.W.Frag}{mg:Str->Option Value}{base:Heap}{C:Cs}
noncomputable abbrev U1:Stmt:=top 56
noncomputable def Jt(C:Cs):Sp:=λvs H Q _=>∃(a:Addr) (p:Nat) (i:Item),vs=[.ref a]/\bt C H a p i/\(∀l,i.last=some l->Nb.lastOk l=true)/\Q (.bl (NB.own i)) H
theorem U2{i:Item}(h:i.stands=.good):NB.own i=(iU i&&match i.last with | some l=>(decide (V.int (cn l.came:Int)=V.int 0)&&!i.touched) | none=>false)\/∃l n,i.last=some l/\l.came=.bad n/\n=0:=by
 unfold NB.own iU;rw[h];show Nb.ownLast i .good=_\/_;unfold Nb.ownLast;cases e:i.last with
 |none=>exact .inl rfl
 |some l=>
  cases ec:l.came with
  |value v=>left;show(l.text==i.text&&(l.names==i.leans&&(!i.touched&&Nb.standsBy l.came==.good)))=(decide (l.text=i.text)&&decide (l.names=i.leans)&&(decide (V.int (cn l.came:Int)=V.int 0)&&!i.touched));rw[ec];show(l.text==i.text&&(l.names==i.leans&&(!i.touched&&true)))=(decide (l.text=i.text)&&decide (l.names=i.leans)&&(true&&!i.touched));simp[Bool.and_assoc,CU]
  |bad n=>
   by_cases hn:n=0
   ·exact .inr ⟨l,n,rfl,ec,hn⟩
   ·left;show(l.text==i.text&&(l.names==i.leans&&(!i.touched&&Nb.standsBy l.came==.good)))=(decide (l.text=i.text)&&decide (l.names=i.leans)&&(decide (V.int (cn l.came:Int)=V.int 0)&&!i.touched));have:decide (V.int (cn l.came:Int)=V.int 0)=false:=eo λz=>hn (by have z:=V.int.inj z;rw[ec] at z;have z:(n:Int)=0:=z;omega);rw[this,ec];show(l.text==i.text&&(l.names==i.leans&&(!i.touched&&false)))=_;simp
theorem U3{i:Item}(h:i.stands=.bad):NB.own i=(iU i&&match i.last with | some l=>(!decide (V.int (cn l.came:Int)=V.int 0)&&!i.touched) | none=>false)\/∃l n,i.last=some l/\l.came=.bad n/\n=0:=by
 unfold NB.own iU;rw[h];show Nb.ownLast i .bad=_\/_;unfold Nb.ownLast;cases e:i.last with
 |none=>exact .inl rfl
 |some l=>
  cases ec:l.came with
  |value v=>left;show(l.text==i.text&&(l.names==i.leans&&(!i.touched&&Nb.standsBy l.came==.bad)))=(decide (l.text=i.text)&&decide (l.names=i.leans)&&(!decide (V.int (cn l.came:Int)=V.int 0)&&!i.touched));rw[ec];show(l.text==i.text&&(l.names==i.leans&&(!i.touched&&false)))=(decide (l.text=i.text)&&decide (l.names=i.leans)&&(false&&!i.touched));simp
  |bad n=>
   by_cases hn:n=0
   ·exact .inr ⟨l,n,rfl,ec,hn⟩
   ·left;show(l.text==i.text&&(l.names==i.leans&&(!i.touched&&Nb.standsBy l.came==.bad)))=(decide (l.text=i.text)&&decide (l.names=i.leans)&&(!decide (V.int (cn l.came:Int)=V.int 0)&&!i.touched));have:decide (V.int (cn l.came:Int)=V.int 0)=false:=eo λz=>hn (by have z:=V.int.inj z;rw[ec] at z;have z:(n:Int)=0:=z;omega);rw[this,ec];show(l.text==i.text&&(l.names==i.leans&&(!i.touched&&true)))=_;simp[Bool.and_assoc,CU]
theorem U4(T:Tx K mg C)(F:aR K mg "came_to_what_it_stands" U1 ["cell"])(D1:Ok P w K mg base aq 1 "was_run_as_it_is" ["cell"] (AJ C)):Ok P w K mg base aq 2 "came_to_what_it_stands" ["cell"] (Jt C):=by
 refine F.ok (sk ["cell"]) (λvs H Q E h=>?_) (λf aD A outer s H vs Q E hr h=>?_)
 ·obtain⟨a,p,i,rfl,_⟩:=h;rfl
 ·obtain⟨a,p,i,rfl,aU,Fd,k⟩:=h;refine⟨_,af (aO (bo b3 (aj (pv 0) rfl) (aM T.oj) (aY _)) (ah (aC (jW (az D1 hr rfl aE (aa (pv 0) ae)) (jW (j0 b3 (aj (aj (pv 0) rfl) rfl) aK (aY _)) (pE (rB (aj (pv 0) rfl))))))) aP)
   (af (aO (bo b3 (aj (pv 0) rfl) (aM T.sX) (aY _)) (ah (aC (jW (az D1 hr rfl aE (aa (pv 0) ae)) (jW (j0 rH (aj (aj (pv 0) rfl) rfl) aK (aY _)) (pE (rB (aj (pv 0) rfl))))))) aP)
   (ah (aC cY))),?_⟩
  obtain⟨dx,na,ta,la,lv,h1,h2,h3,h4,h5⟩:=id aU;have Ju:¬∃l n,i.last=some l/\l.came=.bad n/\n=0:=by rintro⟨l,n,e1,e2,e3⟩;have:=(NB.p7 (Fd l e1)).2.2.2.2;rw[e2,e3] at this;cases this
  refine⟨_,rfl,a,C.cell,dx,_,_,rfl,h1,T.aH,T.c8,ed ..,rfl,_,rfl,?_⟩;refine aT (λhh=>?_) (λhh=>?_)
  ·have hs:i.stands=.good:=cN.mp (bw hh);rw[(U2 hs).resolve_right Ju] at k;refine⟨_,rfl,a,p,i,rfl,aU,_,rfl,?_⟩;refine aT (λc1=>?_) (λc1=>?_)
   ·rw[c1,gD] at k;unfold iU at c1;cases el:i.last with
    |none=>rw[el] at c1;cases c1
    |some l=>
     rw[el] at h5 k;obtain⟨ra,rfl,dr,tr,lr,gr,vr,r1,r2,r3,r4,r5⟩:=h5;have k:Q (.bl (decide (V.int (cn l.came:Int)=V.int 0)&&!i.touched)) H:=k;refine⟨_,rfl,a,C.cell,dx,_,_,rfl,h1,T.aH,T.fY,ig ..,ra,C.run,dr,_,_,rfl,r1,T.dR,T.oh,qi ..,rfl,_,rfl,?_⟩;refine aT (λc2=>?_) (λc2=>?_)
     ·rw[c2,gD] at k;exact⟨_,rfl,a,C.cell,dx,_,_,rfl,h1,T.aH,T.j8,qh ..,_,rfl,k⟩
     ·rw[jL] at c2;rw[c2,iC] at k;exact k
   ·rw[jL] at c1;rw[c1,iC] at k;exact k
  ·have hs:¬i.stands=.good:=λz=>hh (bp (cN.mpr z));refine⟨_,rfl,a,C.cell,dx,_,_,rfl,h1,T.aH,T.c8,ed ..,rfl,_,rfl,?_⟩;refine aT (λhh=>?_) (λhh=>?_)
   ·have hs:i.stands=.bad:=cN.mp (bw hh);rw[(U3 hs).resolve_right Ju] at k;refine⟨_,rfl,a,p,i,rfl,aU,_,rfl,?_⟩;refine aT (λc1=>?_) (λc1=>?_)
    ·rw[c1,gD] at k;unfold iU at c1;cases el:i.last with
     |none=>rw[el] at c1;cases c1
     |some l=>
      rw[el] at h5 k;obtain⟨ra,rfl,dr,tr,lr,gr,vr,r1,r2,r3,r4,r5⟩:=h5;have k:Q (.bl (!decide (V.int (cn l.came:Int)=V.int 0)&&!i.touched)) H:=k;refine⟨_,rfl,a,C.cell,dx,_,_,rfl,h1,T.aH,T.fY,ig ..,ra,C.run,dr,_,_,rfl,r1,T.dR,T.oh,qi ..,rfl,_,rfl,?_⟩;refine aT (λc2=>?_) (λc2=>?_)
      ·rw[c2,gD] at k;exact⟨_,rfl,a,C.cell,dx,_,_,rfl,h1,T.aH,T.j8,qh ..,_,rfl,k⟩
      ·rw[jL] at c2;rw[c2,iC] at k;exact k
    ·rw[jL] at c1;rw[c1,iC] at k;exact k
   ·have nz:¬i.stands=.bad:=λz=>hh (bp (cN.mpr z));have e:NB.own i=true:=by
     unfold NB.own;cases e:i.stands with
     |good=>exact absurd e hs
     |bad=>exact absurd e nz
     |open_=>rfl
     |stuck=>rfl
    rw[e] at k;exact k
noncomputable abbrev Jv:Stmt:=top 57
noncomputable def Jw(C:Cs):Sp:=λvs H Q _=>∃(g:Gh) (b:Nb.Book) (wv:V) (m al:Nat) (a:Addr) (p:Nat) (i:Item),vs=[.ref g.ba,.ref a]/\Rep C H g b wv m al/\b.items[p]?=some (some i)/\bt C H a p i/\(∀(q:Nat) (j:Item),b.items[q]?=some (some j)->j.ok=true)/\∀H',ai H H'->Q (.bl (b.fits i)) H'
theorem U5(T:Tx K mg C)(F:aR K mg "fits_its_sources" Jv ["book","cell"])(D1:Ok P w K mg base aq 1 "sources_of" ["book","cell"] (tj C))(D2:Ok P w K mg base aq 1 "is_any_open" ["sources"] (oq C λb ts=>ts.any λn=>Nb.isOpen (b.item n)))(D3:Ok P w K mg base aq 1 "are_good" ["sources"] (oq C λb ts=>ts.all λn=>fH (b.item n)))
 (D4:Ok P w K mg base aq 1 "values_of" ["sources"] (wL C)):Ok P w K mg base aq 2 "fits_its_sources" ["book","cell"] (Jw C):=by
 have sc:=sk (P:=["book","cell"]) (st:=Jv) ["book","cell","sources"];refine F.ok sc (λvs H Q E h=>?_) (λf aD A outer s H vs Q E hr h=>?_)
 ·obtain⟨g,b,wv,m,al,a,p,i,rfl,_⟩:=h;rfl
 ·obtain⟨g,b,wv,m,al,a,p,i,rfl,R,hi,aU,ao,k⟩:=h;refine⟨_,af (aN (i:=2) sc.nd rfl (Or.inl rfl) (az D1 hr rfl aE (aa (pv 0) (aa (pv 1) ae))))
   (af (aO (bo b3 (aj (pv 1) rfl) (aM T.mK) (aY _)) (ah (aC cY)) aP)
   (af (aO (dU (az D2 hr rfl aE (aa (pv 2) ae))) (ah (aC cY)) aP)
   (af (aO (bo b3 (aj (pv 1) rfl) (aM T.om) (aY _)) (ah (aC (rB (az D3 hr rfl aE (aa (pv 2) ae))))) aP)
   (ah (aC (jW (az D3 hr rfl aE (aa (pv 2) ae)) (pE (j0 (Gu hr.units) (aj (aj (pv 1) rfl) rfl) (az D4 hr rfl aE (aa (pv 2) ae)) (aY _))))))))),?_⟩
  obtain⟨dx,na,ta,la,lv,h1,h2,h3,h4,h5⟩:=id aU;obtain⟨o1,o2,o3,o4,o5,o6⟩:=NB.d8 (ao p i hi);have l8:=(NB.kY o3).1;refine⟨_,rfl,_,rfl,g,b,wv,m,al,a,p,i,rfl,R,aU,aS l8 (by decide),λl hl=>?_⟩;have s1:ai H (upd H l (.lst (bV g b i.leans))):=aG hl;have e1:(upd H l (.lst (bV g b i.leans))) l=some (.lst (bV g b i.leans)):=ag;generalize upd H l (.lst (bV g b i.leans))=H1 at s1 e1;have R1:=R.same s1;refine⟨_,rfl,a,C.cell,dx,_,_,rfl,s1 _ _ h1,T.aH,T.c8,ed ..,rfl,_,rfl,?_⟩;refine aT (λhh=>?_) (λhh=>?_)
  ·have hs:i.stands=.open_:=cN.mp (bw hh);rw[NB.wg hs] at k;exact k H1 s1
  ·have hs:¬i.stands=.open_:=λz=>hh (bp (cN.mpr z));refine⟨_,rfl,g,b,wv,m,al,l,i.leans,rfl,R1,e1,_,rfl,?_⟩;have fi:=NB.iO (b:=b) hs;have Jx:¬b.fits i=true->b.fits i=false:=λz=>by simpa using z
   refine aT (λha=>?_) (λha=>?_)
   ·have ha:(i.leans.any λn=>Nb.isOpen (b.item n))=true:=ha;rw[Jx λz=>by
     obtain⟨n,hn,e⟩:=iz.mp ha;rw[(fi.mp z).1 n hn] at e;cases e] at k
    exact k H1 s1
   ·have ha:¬(i.leans.any λn=>Nb.isOpen (b.item n))=true:=ha;have gI:∀n∈i.leans,Nb.isOpen (b.item n)=false:=λn hn=>by
     cases e:Nb.isOpen (b.item n) with
     |false=>rfl
     |true=>exact absurd (iz.mpr ⟨n,hn,e⟩) ha
    refine⟨_,rfl,a,C.cell,dx,_,_,rfl,s1 _ _ h1,T.aH,T.c8,ed ..,rfl,_,rfl,?_⟩;refine aT (λhh=>?_) (λhh=>?_)
    ·have bS:i.stands=.stuck:=cN.mp (bw hh);refine⟨_,rfl,g,b,wv,m,al,l,i.leans,rfl,R1,e1,_,rfl,?_⟩;have e:b.fits i=!(i.leans.all λn=>fH (b.item n)):=by
      rw[kE,fi,C3,List.all_eq_false];constructor
      ·rintro⟨_,z2,_⟩;obtain⟨n,hn,q⟩:=z2 bS;refine⟨n,hn,λy=>?_⟩;cases en:b.item n with
       |none=>rw[en] at y;cases y
       |some j=>rw[en] at y q;have y:(j.stands==.good)=true:=y;have q:(j.stands==.bad||j.stands==.stuck)=true:=q;rw[eq_of_beq y] at q;cases q
      ·rintro⟨n,hn,y⟩;refine⟨gI,λ_=>⟨n,hn,?_⟩,λz=>absurd bS z⟩;have jU:=gI n hn;cases en:b.item n with
       |none=>rfl
       |some j=>
        rw[en] at y jU;have y:¬(j.stands==.good)=true:=y;have jU:(j.stands==.open_)=false:=jU;show(j.stands==.bad||j.stands==.stuck)=true;cases ej:j.stands with
        |good=>rw[ej] at y;exact absurd rfl y
        |open_=>rw[ej] at jU;cases jU
        |bad=>rfl
        |stuck=>rfl
     rw[e] at k;exact k H1 s1
    ·have bS:¬i.stands=.stuck:=λz=>hh (bp (cN.mpr z));have fg:i.stands=.good\/i.stands=.bad:=by
      cases e:i.stands with
      |good=>exact .inl rfl
      |bad=>exact .inr rfl
      |open_=>exact absurd e hs
      |stuck=>exact absurd e bS
     obtain⟨lr,el⟩:∃l,i.last=some l:=by
      rcases fg with h | h
      ·obtain⟨l,e,_⟩:=NB.n9 (o5 h);exact⟨l,e⟩
      ·obtain⟨l,e,_⟩:=NB.n9 (o6 h);exact⟨l,e⟩
     refine⟨_,rfl,g,b,wv,m,al,l,i.leans,rfl,R1,e1,_,rfl,?_⟩;refine aT (λhg=>?_) (λhg=>?_)
     ·have hg:(i.leans.all λn=>fH (b.item n))=true:=hg;obtain⟨us,ev⟩:=Js ao i.leans hg;have e:b.fits i=decide (lr.values=us):=by
       rw[kE,fi,decide_eq_true_iff];have ev:b.values i=some us:=ev;constructor
       ·rintro⟨_,_,z⟩;have z:=z bS;rw[ev,el] at z;exact(a4 z).symm
       ·intro z;refine⟨gI,λy=>absurd y bS,λ_=>?_⟩;rw[ev,el,<-z];rfl
      rw[e] at k;rw[el] at h5;obtain⟨ra,rfl,dr,tr,qk,gr,vr,r1,r2,r3,r4,r5⟩:=h5;refine⟨_,rfl,a,C.cell,dx,_,_,rfl,s1 _ _ h1,T.aH,T.fY,ig ..,ra,C.run,dr,_,_,rfl,s1 _ _ r1,T.dR,T.wC,AH ..,_,rfl,g,b,wv,m,al,l,i.leans,us,rfl,R1,e1,aS l8 (by decide),ev,λH2 va sm iY=>?_⟩;exact⟨gr,va,_,_,rfl,rfl,cz.aB (C:=C) r4 (ai.aB (s1.trans sm)),iY,k H2 (s1.trans sm)⟩
     ·have hg:¬(i.leans.all λn=>fH (b.item n))=true:=hg;rw[Jx λz=>by
       have z:=(fi.mp z).2.2 bS;rw[el] at z;exact hg (xh i.leans _ z)] at k
      exact k H1 s1
end
noncomputable def BK(H:Hp)(d:Addr)(n:Nat)(f:Text->Option Nat):Prop:=∃kvs:List (List Key×V),H d=some (.dT kvs)/\kvs.length=n/\∀t,aV kvs (nk t)=(f t).map λv=>V.int (v:Int)
theorem Jy{κ:Type}[DecidableEq κ]{kvs:List (κ×V)}{k:κ}{v x:V}(h:aV kvs k=some x):(putK kvs k v).length=kvs.length:=by unfold putK;rw[nN,h];show(if true=true then _ else _:List (κ×V)).length=_;rw[if_pos rfl,aF]
noncomputable def gk(x:Item×Nat):List Key×V:=(nk x.1.name,.int (x.1.leans.length:Int))
theorem BL{t:Text}:∀{L:List (Item×Nat)},t∉(L.map λx=>x.1.name)->aV (L.map gk) (nk t)=none
 |[],_=>rfl
 |x::L,h=>by rw[bX,bL,not_or] at h;rw[bX,fB (λz=>h.1 (k8 z).symm)];exact BL h.2
theorem BM{x:Item×Nat}:∀{L:List (Item×Nat)},(L.map λx=>x.1.name).Nodup->x∈L->aV (L.map gk) (nk x.1.name)=some (.int (x.1.leans.length:Int))
 |[],_,h=>nomatch h
 |y::L,dq,h=>by
  rw[bX] at dq;obtain⟨h1,h2⟩:=eL.mp dq;rcases bL.mp h with e | h
  ·subst e;show aV (gk x::L.map gk) (gk x).1=some (gk x).2;exact gs rfl
  ·rw[bX,fB (λz=>h1 (by rw[k8 z];exact cU.mpr ⟨x,h,rfl⟩))];exact BM h2 h
section
variable {P:Program}{w:World}{K:PySem.W.Frag}{mg:Str->Option Value}{base:Heap}{C:Cs}
noncomputable abbrev Jz:Stmt:=top 58
noncomputable def JA(C:Cs):Sp:=λvs H Q _=>∃(g:Gh) (b:Nb.Book) (wv:V) (m al:Nat),vs=[.ref g.ba]/\Rep C H g b wv m al/\NB.WB b/\(∀(p:Nat) (i:Item),b.items[p]?=some (some i)->NB.gw i=true->∀n∈i.leans,n∈NB.eF b)/\∀H',ai H H'->Q (.bl (!b.founded)) H'
theorem U6(T:Tx K mg C)(F:aR K mg "has_ring_of_good_cells" Jz ["book"])(D1:Ok P w K mg base aq 1 "cells_of" ["book"] (ka C))(D2:Ok P w K mg base aq 2 "users_by_name" ["book"] (AL C)):Ok P w K mg base aq 3 "has_ring_of_good_cells" ["book"] (JA C):=by
 have sc:=sk (P:=["book"]) (st:=Jz) ["book","left","cell","aside","users","at","user","name"];refine F.ok sc (λvs H Q E h=>?_) (λf aD A outer s H vs Q E hr h=>?_)
 ·obtain⟨g,b,wv,m,al,rfl,_⟩:=h;rfl
 ·obtain⟨g,b,wv,m,al,rfl,R,B,U7,k⟩:=h;refine⟨_,af (aN (i:=1) sc.nd rfl (Or.inr rfl) vH)
   (af (cR PassesOwn.never rfl (dD (az D1 (hr.mono (by decide)) rfl aE (aa (pv 0) ae))) (bQ (i:=2) sc.nd rfl (Or.inl rfl))
    (ah (aO (bo b3 (aj (pv 2) rfl) (aM T.oj) (aY _)) (ah (rW (cS hr) (pv 1) (aj (pv 2) rfl) (dv dE rfl T.dA dN (aa (aj (pv 2) rfl) ae)) rfl)) aP)))
   (af (OG (pR (i:=3) (own:=[("name",7)]) (tt:=l9 (iF ny (EJ (bU 1) (bU 7)) (tC (.int 0)))) (te:=bU 7) rfl sc.nd rfl rfl rfl (OO (pv 1)) (gq (by kernel_rfl)) (λs H C cl fp=>bQ (i:=7) sc.nd rfl (Or.inl rfl)) (λs H C cl fp=>vy (bo b3 (mq (cS hr) (pv 1) (pv 7) (λ_ _=>rfl)) aK (aY _))) (λs H C cl fp=>pv 7)))
   (af (aN (i:=4) sc.nd rfl (Or.inl rfl) (az D2 hr rfl aE (aa (pv 0) ae)))
   (af (aN (i:=5) sc.nd rfl (Or.inl rfl) aK)
   (af (u6 PassesOwn.never (bo lZ (pv 5) (dv dE rfl T.dA dN (aa (pv 3) ae)) (aY _))
    (af (cR PassesOwn.never rfl (dD (GY (pv 4) (cx cC (pv 3) (pv 5) (λ_ _=>rfl)) (br ae) ⟨rfl,rfl,rfl,rfl⟩ (cS hr))) (bQ (i:=6) sc.nd rfl (Or.inl rfl))
     (ah (aO (cw (zA (cS hr) (pv 6) (pv 1)) rfl)
      (af (Ot (cS hr) (pv 1) (pv 6) aK M4 (by intros;rfl))
      (ah (aO (bo b3 (mq (cS hr) (pv 1) (pv 6) (λ_ _=>rfl)) aK (aY _)) (ah (cb (cZ di gC gB fT (pv 3) (aa (pv 6) ae)))) aP))) aP)))
    (ah (Dx (i:=5) sc.nd rfl (Or.inl rfl) aK Dy))))
   (ah (aC (j0 lZ (dv dE rfl T.dA dN (aa (pv 3) ae)) (dv PZ rfl T.dA dN (aa (pv 1) ae)) (aY _))))))))),?_⟩
  intro d hd;have s0:ai H (upd H d (.dT [])):=aG hd;refine⟨_,rfl,g,g.bd,b,wv,m,al,rfl,R.same s0,λl hl=>?_⟩;have s1:ai (upd H d (.dT [])) (upd (upd H d (.dT [])) l (.lst ((g.cs.filterMap id).map V.ref))):=aG hl;have sA:=s0.trans s1;have cO:(upd (upd H d (.dT [])) l (.lst ((g.cs.filterMap id).map V.ref))) l=some (.lst ((g.cs.filterMap id).map V.ref)):=ag;have wN:(upd (upd H d (.dT [])) l (.lst ((g.cs.filterMap id).map V.ref))) d=some (.dT []):=s1 _ _ ag;have wO:l≠d:=λz=>by rw[z,ag] at hl;cases hl
  generalize upd (upd H d (.dT [])) l (.lst ((g.cs.filterMap id).map V.ref))=H1 at s1 sA cO wN;have st:∀{o:HO} {c:Addr} {u:HO},H c=some u->(upd H1 d o) c=some u:=λe=>by rw[aw (bj e hd)];exact sA _ _ e
  have pl:=R.placed;have U8:=NB.wu b B.nd;have oQ:(Nb.placed b).length<=256:=by have h3:=NB.fV b;rw[B.len] at h3;exact h3
  refine⟨l,rfl,⟨_,ax.of cO⟩,fQ (K:=K) (a:=l) (xs:=(g.cs.filterMap id).map V.ref) (λn σ H'=>(∃v2 v3 v4 v5 v6 v7:Option V,σ=[some (.ref g.ba),some (.ref d),v2,v3,v4,v5,v6,v7])/\H'=upd H1 d (.dT ((((Nb.placed b).take n).filter λx=>x.1.stands==.good).map gk)))
   ⟨⟨_,_,_,_,_,_,rfl⟩,(Bf wN).symm⟩ (λn σ H' _ ⟨_,e⟩=>by rw[e];exact ax.of (by rw[aw wO];exact cO)) ?_ ?_⟩
  ·rintro n x σ H' hx ⟨⟨v2,v3,v4,v5,v6,v7,rfl⟩,rfl⟩;obtain⟨a,ha,rfl⟩:=dH hx;obtain⟨⟨i,p⟩,hi,dx,na,ta,la,lv,h1,h2,h3,⟨jH,l1,l2⟩,h5⟩:=Paired.get pl ha;refine⟨_,rfl,a,C.cell,dx,_,_,rfl,st h1,T.aH,T.c8,ed ..,rfl,_,rfl,?_⟩;have e:=Bx (f:=λx:Item×Nat=>x.1.stands==.good) hi;refine aT (λhh=>?_) (λhh=>?_)
   ·have hs:i.stands=.good:=cN.mp (bw hh);rw[if_pos (by show(i.stands==.good)=true;rw[hs];rfl)] at e;have U9:i.name∉((((Nb.placed b).take n).filter λx=>x.1.stands==.good).map λx=>x.1.name):=λhm=>by
     obtain⟨y,hy,ey⟩:=cU.mp hm;have hy:=(gj.mp hy).1;have t8:i.name∈((Nb.placed b).map λx=>x.1.name).take n:=by rw[<-LQ];exact cU.mpr ⟨y,hy,ey⟩
     exact NB.Ai U8 (by rw[cJ,hi];rfl) t8
    refine⟨_,rfl,a,C.cell,dx,_,_,rfl,st h1,T.aH,T.ie,jA ..,la,_,rfl,.inr (aQ.of (st l1)),_,rfl,_,rfl,a,C.cell,dx,_,_,rfl,st h1,T.aH,T.jy,ke ..,d,_,rfl,ia.t ag (st (ay.key h2)) ?_,⟨_,_,_,_,_,_,rfl⟩,?_⟩
    ·rw[aF];have h6:=By (f:=λx:Item×Nat=>x.1.stands==.good) (l:=Nb.placed b) n;exact dC (aS h6 oQ) (by decide)
    ·rw[bc,e,vD _ (BL U9),bW,aF,Paired.len l2];rfl
   ·have hs:¬i.stands=.good:=λz=>hh (bp (cN.mpr z));rw[if_neg (by show ¬(i.stands==.good)=true;rw[dt.mpr hs];exact Bool.noConfusion),ez] at e;rw[e];exact⟨⟨_,_,_,_,_,_,rfl⟩,rfl⟩
  ·rintro σ H' ⟨⟨v2,v3,v4,v5,v6,v7,rfl⟩,rfl⟩;rw[aF,Paired.len pl,cA];have gG:NB.eF b=((Nb.placed b).filter λx=>x.1.stands==.good).map λx=>x.1.name:=NB.QV b;have Va:=NB.Gf B.nd;have BN:((Nb.placed b).filter λx=>x.1.stands==.good).length<=256:=aS (pk _ _) oQ;have BO:∀x∈((Nb.placed b).filter λx=>x.1.stands==.good),b.items[x.2]?=some (some x.1)/\x.1.stands=.good:=λx hx=>by obtain⟨h1,h2⟩:=gj.mp hx;exact⟨NB.b7.mp h1,eq_of_beq h2⟩
   have BP:∀(t:Text) (ls:List Text),NB.gl b t=some ls->∃x∈((Nb.placed b).filter λx=>x.1.stands==.good),x.1.name=t/\x.1.leans=ls:=λt ls e=>by obtain⟨p,i,h1,h2,h3,h4⟩:=NB.sS e;exact⟨(i,p),gj.mpr ⟨NB.b7.mpr h1,by show(i.stands==.good)=true;rw[h2];rfl⟩,h3,h4⟩
   generalize ((Nb.placed b).filter λx=>x.1.stands==.good)=G at gG BN BO BP;have BQ:(G.map λx=>x.1.name).Nodup:=by rw[<-gG];exact Va
   have vG:∀t,aV (G.map gk) (nk t)=(NB.gl b t).map λls=>V.int (ls.length:Int):=λt=>by
    cases e:NB.gl b t with
    |none=>refine BL λhm=>?_;rw[<-gG] at hm;rw[NB.Ag B.nd,e] at hm;cases hm
    |some ls=>obtain⟨x,hx,e1,e2⟩:=BP t ls e;rw[<-e1,BM BQ hx,e2];rfl
   have hd2:(upd H1 d (.dT (G.map gk))) d=some (.dT (G.map gk)):=ag;have BR:ai H (upd H1 d (.dT (G.map gk))):=λc u e=>st e;generalize qx:upd H1 d (.dT (G.map gk))=H2 at hd2 BR;refine⟨d,.dT (G.map gk),hd2,True.intro,λod=>?_⟩;refine⟨_,rfl,d,od,rfl,.inr ⟨G.map gk,ag,λD hD=>?_⟩⟩;have oS:D≠d:=λz=>by rw[z,ag] at hD;cases hD
   have jE:H2 D=none:=by rw[<-hD,aw oS]
   refine Sr (d:=d) (o:=od) (kvs:=G.map gk) (λn H'=>∃as:List Addr,H'=upd (upd H2 d (.bz od (.dT (G.map gk)))) D (.lst (as.map V.ref))/\Paired (λa t=>ay H2 a t) as (((G.take n).filter λx=>x.1.leans.length==0).map λx=>x.1.name)) ⟨[],rfl,.nil⟩ (λn H' _ ⟨as,e,_⟩=>by rw[e,aw (bu oS)];exact ag) ?_ ?_
   ·rintro n kk v q H' hk hq ⟨as,rfl,hp⟩;obtain⟨x,hx,ek⟩:∃x,G[n]?=some x/\gk x=(kk,v):=by
     rw[cJ] at hk;cases e:G[n]? with
     |none=>rw[e] at hk;cases hk
     |some x=>rw[e] at hk;exact⟨x,rfl,a4 hk⟩
    have Vb:kk=nk x.1.name:=(eW Prod.fst ek).symm;subst Vb;have Vc:q≠d:=λz=>by rw[z,aw (bu oS),ag] at hq;cases hq
    have Vd:q≠D:=λz=>by rw[z,ag] at hq;cases hq
    have il:ay H2 q x.1.name:=by rw[aw Vd,aw Vc] at hq;show H2 q=_;rw[hq,Gq]
    have e:=Bx (f:=λx:Item×Nat=>x.1.leans.length==0) hx;refine⟨rfl,_,rfl,_,rfl,d,.int (x.1.leans.length:Int),rfl,.inr ⟨G.map gk,nk x.1.name,q,.inr ⟨od,by rw[aw (bu oS)];exact ag⟩,rfl,hq,?_⟩,rfl,_,rfl,?_⟩
    ·exact(BM BQ (cE hx)).symm
    refine aT (λhh=>?_) (λhh=>?_)
    ·have hz:x.1.leans.length=0:=by have:=V.int.inj (bw hh);omega
     rw[if_pos (by show(x.1.leans.length==0)=true;rw[hz];rfl)] at e;refine⟨_,rfl,_,ag,?_,as++[q],?_,?_⟩
     ·rw[aF,Paired.len hp,aF];have h6:=By (f:=λx:Item×Nat=>x.1.leans.length==0) (l:=G) n;exact dC (aS h6 BN) (by decide)
     ·rw[bc,bW];rfl
     ·rw[e,bW];exact Paired.append hp (.cons il .nil)
    ·have hz:¬x.1.leans.length=0:=λz=>hh (bp (by rw[z];rfl));rw[if_neg (by show ¬(x.1.leans.length==0)=true;rw[dt.mpr hz];exact Bool.noConfusion),ez] at e;refine⟨as,rfl,?_⟩;rw[e];exact hp
   ·rintro H' ⟨as,rfl,hp⟩;rw[aF,cA] at hp;refine⟨by rw[aw (bu oS)];exact ag,?_⟩;have eH:upd (upd (upd H2 d (.bz od (.dT (G.map gk)))) D (.lst (as.map V.ref))) d (.dT (G.map gk))=upd H2 D (.lst (as.map V.ref)):=by
     funext c;by_cases c1:c=d
     ·rw[c1,ag,aw (bu oS),hd2]
     ·rw[aw c1];by_cases c2:c=D
      ·rw[c2,ag,ag]
      ·rw[aw c2,aw c1,aw c2]
    rw[eH];have s3:ai H2 (upd H2 D (.lst (as.map V.ref))):=aG jE;have qE:(upd H2 D (.lst (as.map V.ref))) D=some (.lst (as.map V.ref)):=ag;have t9:=s3 _ _ hd2;generalize upd H2 D (.lst (as.map V.ref))=H3 at s3 qE t9;have JB:=BR.trans s3;have hp:=Paired.cW hp (G:=λa t=>ay H3 a t) λ_ _ z=>s3 _ _ z;refine⟨_,rfl,g,b,wv,m,al,rfl,R.same JB,B.pairs,λH4 ud s4 JC kZ gL=>?_⟩;have Ve:=JB.trans s4;have tQ:=Paired.cW hp (G:=λa t=>ay H4 a t) λ_ _ z=>s4 _ _ z;obtain⟨ua,u1,u2⟩:=id kZ;have Vf:ud≠d:=bu (bj t9 JC);have Vg:ud≠D:=bu (bj qE JC);have Vh:(NB.eF b).length=G.length:=by rw[gG,aF]
    have K0:NB.KI b ((G.filter λx=>x.1.leans.length==0).map λx=>x.1.name) 0 []:=by
     have zt:∀t ls,NB.gl b t=some ls->(t∈((G.filter λx=>x.1.leans.length==0).map λx=>x.1.name)↔ls.length=0):=λt ls e=>by
      obtain⟨x,hx,e1,e2⟩:=BP t ls e;constructor
      ·intro hm;obtain⟨y,hy,ey⟩:=cU.mp hm;obtain⟨Vi,Vj⟩:=gj.mp hy;obtain⟨g1,g2⟩:=BO y Vi;have:=NB.wx B.nd g1 g2;rw[ey,e] at this;cases this;exact eq_of_beq Vj
      ·intro hz;exact cU.mpr ⟨x,gj.mpr ⟨hx,by rw[e2,hz];rfl⟩,e1⟩
     refine⟨BQ.sublist ((List.filter_sublist).map _),λx hx=>?_,λt ls e=>?_,λkk x hx ls e y hy=>?_⟩
     ·obtain⟨y,hy,ey⟩:=cU.mp hx;obtain⟨g1,g2⟩:=BO y (gj.mp hy).1;rw[<-ey,NB.wx B.nd g1 g2];rfl
     ·rw[zt t ls e,uJ,NB.Gn];show _↔_-0-0=0;omega
     ·have:=(zt x ls e).mp (cE hx);rw[Zq] at this;rw[this] at hy;cases hy
    have L0:BK H4 d G.length (NB.d9 b ((G.filter λx=>x.1.leans.length==0).map λx=>x.1.name) 0 []):=by
     refine⟨G.map gk,s4 _ _ t9,aF ..,λt=>?_⟩;rw[vG];unfold NB.d9;cases NB.gl b t with
     |none=>rfl
     |some ls=>show some _=some (V.int ((ls.length-NB.cP ls []-0:Nat):Int));rw[NB.Gn];rfl
    generalize ((G.filter λx=>x.1.leans.length==0).map λx=>x.1.name)=A0 at K0 L0 tQ;have qG:=s4 _ _ qE;have bound:∀{A:List Text} {j:Nat} {us:List Text},NB.KI b A j us->A.length<=256:=λ{A j us} kk=>by have:=NB.gv kk.nd (u:=NB.eF b) λx hx=>(NB.Ag B.nd).mpr (kk.sub x hx);omega
    refine yM (λσ H'=>∃(A:List Text) (as:List Addr) (j:Nat) (v2 v6 v7:Option V),σ=[some (.ref g.ba),some (.ref d),v2,some (.ref D),some (.ref ud),some (.int (j:Int)),v6,v7]/\aW (λx=>x=d\/x=D) H4 H'/\H' D=some (.lst (as.map V.ref))/\Paired (λa t=>ay H' a t) as A/\BK H' d G.length (NB.d9 b A j [])/\NB.KI b A j []/\j<=A.length)
     (λ(σ:L2.St) (_:Hp)=>match σ[5]? with | some (some (V.int j))=>300-j.toNat | _=>0) ?_ ?_ ?_
    ·exact⟨A0,as,0,_,_,_,rfl,aW.refl,qG,tQ,L0,K0,bY _⟩
    ·rintro σ H5 ⟨A,xD,j,v2,v6,v7,rfl,kp,oU,uc,L5,K5,hj⟩;refine⟨_,rfl,_,rfl,D,_,rfl,.inl (ax.of oU),_,_,rfl,rfl,_,rfl,?_⟩;rw[aF,Paired.len uc];refine aT (λaL=>?_) (λc6=>?_)
     ·have aL:j<A.length:=by have:=bw aL;omega
      obtain⟨c,hc⟩:∃c,xD[j]?=some c:=⟨_,fm (by rw[Paired.len uc];exact aL)⟩;obtain⟨x,hx,oy⟩:=Paired.get uc hc;have oy:ay H5 c x:=oy;have u5:H5 ud=some (.dT ua):=kp _ _ u1 λz=>z.elim Vf Vg;refine⟨_,rfl,ud,rfl,.inr ⟨ua,.inl u5⟩,_,rfl,_,rfl,D,_,_,_,rfl,rfl,ax.of oU,vm (j:=j) (v:=.ref c) (by rw[cJ,hc];rfl),bY _,λz hz=>?_⟩;have sz:ai H5 (upd H5 z (.lst [])):=aG hz;refine⟨_,b5.t (sz _ _ u5) (sz _ _ (ay.key oy)),?_⟩;obtain⟨ul,xE,Vk,BS,BU,Vl,Vm⟩:∃(ul:Addr) (xE:List Addr),(aV ua (nk x)).getD (.ref z)=.ref ul/\(upd H5 z (.lst [])) ul=some (.lst (xE.map V.ref))/\Paired (λa t=>ay (upd H5 z (.lst [])) a t) xE (NB.U (NB.pairs b) x)/\ul≠d/\ul≠D:=by
       obtain⟨lG,l5,_⟩:=id L5;have q:=u2 x;cases e:aV ua (nk x) with
       |none=>rw[e] at q;have q:NB.U (NB.pairs b) x=[]:=q;exact⟨z,[],rfl,ag,by rw[q];exact .nil,bu (bj l5 hz),bu (bj oU hz)⟩
       |some v=>
        rw[e] at q;obtain⟨l',mF,rfl,q1,q2⟩:=q;have f3:=gL ua x l' u1 e;have n1:l'≠d:=bu (bj t9 f3);have n2:l'≠D:=bu (bj qE f3);refine⟨l',mF,rfl,sz _ _ (kp _ _ q1 λz=>z.elim n1 n2),Paired.cW q2 λa t ht=>sz _ _ (kp _ _ ht λz=>?_),n1,n2⟩;have ht:ay H4 a t:=ht;rcases z with z | z
        ·exact b9 ht (s4 _ _ t9) (λz=>nomatch z) z
        ·exact b9 ht qG (λz=>nomatch z) z
      rw[Vk];have ZZ:H4 z=none:=kp.free hz λq=>by
       rcases q with q | q
       ·obtain⟨lG,l5,_⟩:=id L5;rw[q,l5] at hz;cases hz
       ·rw[q,oU] at hz;cases hz
      generalize hB:upd H5 z (.lst [])=Hb at sz BS BU;have Z0:∀y,y∈NB.U (NB.pairs b) x->True:=λ_ _=>True.intro;refine⟨ul,rfl,⟨_,ax.of BS⟩,fQ (K:=K) (a:=ul) (xs:=xE.map V.ref) (λn σ H'=>∃(A':List Text) (fD:List Addr) (v6:Option V),σ=[some (.ref g.ba),some (.ref d),v2,some (.ref D),some (.ref ud),some (.int (j:Int)),v6,v7]/\aW (λx=>x=d\/x=D) Hb H'/\H' D=some (.lst (fD.map V.ref))/\Paired (λa t=>ay H' a t) fD A'/\BK H' d G.length (NB.d9 b A' j ((NB.U (NB.pairs b) x).take n))/\NB.KI b A' j ((NB.U (NB.pairs b) x).take n)/\A'[j]?=some x)
       ⟨A,xD,v6,rfl,aW.refl,sz _ _ oU,Paired.cW uc λ_ _ q=>sz _ _ q,?_,K5,hx⟩ (λn σ H' _ ⟨_,_,_,_,e,_⟩=>ax.of (e _ _ BS λq=>q.elim Vl Vm)) ?_ ?_⟩
      ·obtain⟨lG,l5,l6,l7⟩:=id L5;exact⟨lG,sz _ _ l5,l6,l7⟩
      ·rintro n y σ H6 hy ⟨A',mT,v6,rfl,oO,xF,ue,L6,K6,lH⟩;obtain⟨c1,qo,rfl⟩:=dH hy;obtain⟨u,hu,kW⟩:=Paired.get BU qo;have kW:ay Hb c1 u:=kW;obtain⟨gd,l1,l2,l3⟩:=id L6;have fz:∃kvs,Hb d=some (.dT kvs):=by obtain⟨lG,l5,_⟩:=id L5;exact⟨lG,sz _ _ l5⟩
       have BV:∀{c:Addr} {t:Text},ay Hb c t->c≠d/\c≠D:=λ{c t} ht=>by obtain⟨kv,nQ⟩:=fz;exact⟨b9 ht nQ (λz=>nomatch z),b9 ht (sz _ _ oU) (λz=>nomatch z)⟩
       have xG:ay H6 c1 u:=oO _ _ kW λq=>q.elim (BV kW).1 (BV kW).2;have tG:D≠d:=oS;refine⟨_,rfl,_,rfl,d,_,rfl,b5.t l1 (ay.key xG),_,rfl,?_⟩;rw[l3];have eT:(NB.U (NB.pairs b) x).take (n+1)=(NB.U (NB.pairs b) x).take n++[u]:=take_snoc hu;cases eg:NB.gl b u with
       |none=>
        have e0:NB.d9 b A' j ((NB.U (NB.pairs b) x).take n) u=none:=by unfold NB.d9;rw[eg];rfl
        rw[e0];obtain⟨K7,K8⟩:=K6.skip eg;refine bJ ⟨A',mT,_,rfl,oO,xF,ue,?_,by rw[eT];exact K7,lH⟩;rw[eT];exact⟨gd,l1,l2,λt=>by rw[K8 t];exact l3 t⟩
       |some ls=>
        obtain⟨v,w1,w2,w3,w4,w5⟩:=K6.step B.nd lH eg rfl hu;rw[w1];have BW:aV gd (nk u)=some (.int ((v+1:Nat):Int)):=by rw[l3,w1];rfl
        have Vn:gd.length<sizeLine:=by rw[l2];exact dC BN (by decide)
        have g1:b5 H6 d (.ref c1) (some (.int ((v+1:Nat):Int))):=by have:=b5.t l1 (ay.key xG);rw[BW] at this;exact this
        refine bF ⟨_,rfl,_,rfl,d,_,rfl,g1,_,_,rfl,rfl,_,ia.t l1 (ay.key xG) Vn,?_⟩;have ev:((v+1:Nat):Int)-1=(v:Int):=by omega
        rw[ev];have JD:ay (upd H6 d (.dT (putK gd (nk u) (.int (v:Int))))) c1 u:=by show(upd H6 d _) c1=_;rw[aw (BV kW).1];exact xG
        have g2:b5 (upd H6 d (.dT (putK gd (nk u) (.int (v:Int))))) d (.ref c1) (some (.int (v:Int))):=by have:=b5.t (H:=upd H6 d (.dT (putK gd (nk u) (.int (v:Int))))) (a:=d) ag (ay.key JD);rw[pS,if_pos rfl] at this;exact this
        have qB:aW (λx=>x=d\/x=D) Hb (upd H6 d (.dT (putK gd (nk u) (.int (v:Int))))):=oO.trans (dF (.inl rfl));have xH:(upd H6 d (.dT (putK gd (nk u) (.int (v:Int))))) D=some (.lst (mT.map V.ref)):=by rw[aw tG];exact xF
        have JE:Paired (λa t=>ay (upd H6 d (.dT (putK gd (nk u) (.int (v:Int))))) a t) mT A':=Paired.cW ue λa t q=>by have q:ay H6 a t:=q;show(upd H6 d _) a=_;rw[aw (b9 q l1 (λz=>nomatch z))];exact q
        have L7:∀t,aV (putK gd (nk u) (.int (v:Int))) (nk t)=(NB.d9 b A' j ((NB.U (NB.pairs b) x).take (n+1)) t).map λv=>V.int (v:Int):=λt=>by
         rw[pS,eT,w3 t];by_cases ht:t=u
         ·rw[if_pos (by rw[ht]),if_pos ht];rfl
         ·rw[if_neg (λq=>ht (k8 q)),if_neg ht,l3]
        refine⟨_,rfl,_,rfl,d,_,rfl,g2,rfl,_,rfl,?_⟩;refine aT (λhh=>?_) (λhh=>?_)
        ·have hv:v=0:=by have:=V.int.inj (bw hh);omega
         obtain⟨K7,K8⟩:=w4 hv;refine⟨_,rfl,.inl ⟨rfl,_,ax.of xH⟩,_,rfl,D,_,_,rfl,rfl,xH,?_,A'++[u],mT++[c1],_,rfl,qB.trans (dF (.inr rfl)),by rw[ag,bW];rfl,?_,?_,by rw[eT];exact K7,?_⟩
         ·rw[aF,Paired.len ue];exact dC (bound K6) (by decide)
         ·have up:∀{a:Addr} {t:Text},ay (upd H6 d (.dT (putK gd (nk u) (.int (v:Int))))) a t->ay (upd (upd H6 d (.dT (putK gd (nk u) (.int (v:Int))))) D (.lst (mT.map V.ref++[.ref c1]))) a t:=λ{a t} q=>by show(upd _ D _) a=_;rw[aw (b9 q xH (λz=>nomatch z))];exact q
          exact Paired.append (Paired.cW JE λa t q=>up q) (.cons (up JD) .nil)
         ·refine⟨putK gd (nk u) (.int (v:Int)),by rw[aw (bu tG)];exact ag,by rw[Jy BW];exact l2,λt=>?_⟩;rw[L7,eT,K8 t]
         ·rw[CN (bh.mp lH).1];exact lH
        ·have hv:v≠0:=λq=>hh (bp (by rw[q];rfl));exact⟨A',mT,_,rfl,qB,xH,JE,⟨putK gd (nk u) (.int (v:Int)),ag,by rw[Jy BW];exact l2,L7⟩,by rw[eT];exact w5 hv,lH⟩
      ·rintro σ H6 ⟨A',mT,v6,rfl,oO,xF,ue,L6,K6,lH⟩;rw[aF,Paired.len BU,cA] at L6 K6;obtain⟨K7,K8⟩:=K6.next B.nd lH rfl;obtain⟨gd,l1,l2,l3⟩:=id L6;refine⟨_,rfl,_,_,rfl,rfl,?_⟩;have jn:(j:Int)+1=((j+1:Nat):Int):=by omega
       refine⟨⟨A',mT,j+1,v2,v6,v7,by rw[<-jn];rfl,λc o e hc=>oO c o (sz _ _ (kp c o e hc)) hc,xF,ue,⟨gd,l1,l2,λt=>by rw[K8 t];exact l3 t⟩,K7,(bh.mp lH).1⟩,?_⟩;show 300-((j:Int)+1).toNat<300-((j:Int)).toNat;have hb:=bound K6;have Z1:=(bh.mp lH).1;omega
     ·have c6:¬j<A.length:=λq=>c6 (bp (by omega));have Vo:j=A.length:=by omega
      subst Vo;obtain⟨lG,l5,l6,l7⟩:=id L5;refine⟨_,rfl,D,_,rfl,.inl (ax.of oU),_,rfl,d,lG,rfl,.inl l5,_,_,rfl,rfl,?_⟩;have ef:=K5.done B.len B.nd U7;have e9:decide (((xD.map V.ref).length:Int)<(lG.length:Int))=!b.founded:=by rw[ef,Bool.not_not,aF,Paired.len uc,l6,Vh];exact qV.mpr (by omega)
      show Q (.bl (decide (((xD.map V.ref).length:Int)<(lG.length:Int)))) H5;rw[e9];refine k H5 λc o e=>kp c o (Ve _ _ e) λq=>?_;rcases q with q | q
      ·rw[q,hd] at e;cases e
      ·rw[q,BR.free jE] at e;cases e
    ·intro σ H Q Q' hq h;obtain⟨v,h1,v2,h2,p,ys,e,hs,i,j,e1,e2,c,e3,h3⟩:=h;exact⟨v,h1,v2,h2,p,ys,e,hs,i,j,e1,e2,c,e3,hq _ _ h3⟩
noncomputable abbrev JF:Stmt:=top 59
noncomputable def JG(C:Cs):Sp:=λvs H Q _=>∃(g:Gh) (b:Nb.Book) (wv:V) (m al:Nat),vs=[.ref g.ba]/\Rep C H g b wv m al/\NB.WB b/\∀H',ai H H'->Q (.bl b.ok) H'
theorem JH{b:Nb.Book}(B:NB.WB b):b.ok=(b.founded&&(Nb.placed b).all λx=>x.1.ok&&b.fits x.1):=by unfold Nb.Book.ok;rw[bp (NB.wu b B.nd),LR,show(b.items.length==Nb.PLACES)=true by rw[B.len];rfl,gD]
theorem Vp(T:Tx K mg C)(F:aR K mg "is_sound" JF ["book"])(D1:Ok P w K mg base aq 1 "cells_of" ["book"] (ka C))(D2:Ok P w K mg base aq 2 "came_to_what_it_stands" ["cell"] (Jt C))(D3:Ok P w K mg base aq 2 "fits_its_sources" ["book","cell"] (Jw C))(D4:Ok P w K mg base aq 3 "has_ring_of_good_cells" ["book"] (JA C)):Ok P w K mg base aq 4 "is_sound" ["book"] (JG C):=by
 have sc:=sk (P:=["book"]) (st:=JF) ["book","cells","cell"];refine F.ok sc (λvs H Q E h=>?_) (λf aD A outer s H vs Q E hr h=>?_)
 ·obtain⟨g,b,wv,m,al,rfl,_⟩:=h;rfl
 ·obtain⟨g,b,wv,m,al,rfl,R,B,k⟩:=h;refine⟨_,af (aN (i:=1) sc.nd rfl (Or.inl rfl) (az D1 (hr.mono (by decide)) rfl aE (aa (pv 0) ae)))
   (af (cR PassesOwn.never rfl (dD (pv 1)) (bQ (i:=2) sc.nd rfl (Or.inl rfl)) (ah (aO (gp (dU (az D2 (hr.mono (by decide)) rfl aE (aa (pv 2) ae)))) (ah (aC cY)) aP)))
   (af (cR PassesOwn.never rfl (dD (pv 1)) (bQ (i:=2) sc.nd rfl (Or.inl rfl)) (ah (aO (gp (dU (az D3 (hr.mono (by decide)) rfl aE (aa (pv 0) (aa (pv 2) ae))))) (ah (aC cY)) aP)))
   (ah (aC (rB (az D4 hr rfl aE (aa (pv 0) ae))))))),?_⟩
  refine⟨_,rfl,g,g.bd,b,wv,m,al,rfl,R,λl hl=>?_⟩;have s1:ai H (upd H l (.lst ((g.cs.filterMap id).map V.ref))):=aG hl;have e1:(upd H l (.lst ((g.cs.filterMap id).map V.ref))) l=some (.lst ((g.cs.filterMap id).map V.ref)):=ag;generalize upd H l (.lst ((g.cs.filterMap id).map V.ref))=H1 at s1 e1;have pl:=(R.same s1).placed;have eN:((g.cs.filterMap id).map V.ref).length=(Nb.placed b).length:=by rw[aF,Paired.len pl]
  have bad:∀(n:Nat) (i:Item) (p:Nat),(Nb.placed b)[n]?=some (i,p)->(i.ok&&b.fits i)=false->b.ok=false:=λn i p hi hf=>by rw[JH B,sZ (f:=λx:Item×Nat=>x.1.ok&&b.fits x.1) hi hf,yq]
  refine⟨_,rfl,l,rfl,⟨_,ax.of e1⟩,fQ (K:=K) (a:=l) (xs:=(g.cs.filterMap id).map V.ref) (λn σ H'=>(∃v2:Option V,σ=[some (.ref g.ba),some (.ref l),v2])/\H'=H1/\∀q<n,∀(i:Item) (p:Nat),(Nb.placed b)[q]?=some (i,p)->i.ok=true) ⟨⟨_,rfl⟩,rfl,λq hq=>absurd hq (qZ _)⟩ (λn σ H' _ ⟨_,e,_⟩=>by rw[e];exact ax.of e1) ?_ ?_⟩
  ·rintro n x σ H' hx ⟨⟨v2,rfl⟩,rfl,hq⟩;obtain⟨a,ha,rfl⟩:=dH hx;obtain⟨⟨i,p⟩,hi,aU⟩:=Paired.get pl ha;have hb:b.items[p]?=some (some i):=NB.b7.mp (cE hi);have BX:=B.pt p i hb;refine⟨_,rfl,a,p,i,rfl,aU,BX.2.2.2,_,rfl,?_⟩;refine aT (λhh=>?_) (λhh=>?_)
   ·have hh:=nt hh;rw[bad n i p hi (by rw[NB.Jr BX,hh];rfl)] at k;exact k H' s1
   ·have hh:=nf hh;refine⟨⟨_,rfl⟩,rfl,λq fR j pj hj=>?_⟩;rcases rj q n with z | z
    ·exact hq q z j pj hj
    ·have:q=n:=by omega
     subst this;rw[hi] at hj;cases hj;rw[NB.Jr BX];exact hh
  ·rintro σ H' ⟨⟨v2,rfl⟩,rfl,hq⟩;rw[eN] at hq;have ao:∀(p:Nat) (i:Item),b.items[p]?=some (some i)->i.ok=true:=λp i hi=>by obtain⟨q,fR⟩:=fN.mp (NB.b7.mpr hi:(i,p)∈Nb.placed b);exact hq q (bh.mp fR).1 i p fR
   refine⟨_,rfl,l,rfl,⟨_,ax.of e1⟩,fQ (K:=K) (a:=l) (xs:=(g.cs.filterMap id).map V.ref) (λn σ H2=>(∃v2:Option V,σ=[some (.ref g.ba),some (.ref l),v2])/\ai H' H2/\∀q<n,∀(i:Item) (p:Nat),(Nb.placed b)[q]?=some (i,p)->b.fits i=true) ⟨⟨_,rfl⟩,λ_ _ z=>z,λq hq=>absurd hq (qZ _)⟩ (λn σ H2 _ ⟨_,e,_⟩=>ax.of (e _ _ e1)) ?_ ?_⟩
   ·rintro n x σ H2 hx ⟨⟨v2,rfl⟩,sm,hf⟩;obtain⟨a,ha,rfl⟩:=dH hx;obtain⟨⟨i,p⟩,hi,aU⟩:=Paired.get pl ha;have hb:b.items[p]?=some (some i):=NB.b7.mp (cE hi);refine⟨_,rfl,_,rfl,g,b,wv,m,al,a,p,i,rfl,R.same (s1.trans sm),hb,bt.same aU sm,ao,λH3 f7=>⟨_,rfl,?_⟩⟩;refine aT (λhh=>?_) (λhh=>?_)
    ·have hh:=nt hh;rw[bad n i p hi (by rw[hh,yq])] at k;exact k H3 (s1.trans (sm.trans f7))
    ·have hh:=nf hh;refine⟨⟨_,rfl⟩,sm.trans f7,λq fR j pj hj=>?_⟩;rcases rj q n with z | z
     ·exact hf q z j pj hj
     ·have:q=n:=by omega
      subst this;rw[hi] at hj;cases hj;exact hh
   ·rintro σ H2 ⟨⟨v2,rfl⟩,sm,hf⟩;rw[eN] at hf;have my:∀(p:Nat) (i:Item),b.items[p]?=some (some i)->b.fits i=true:=λp i hi=>by obtain⟨q,fR⟩:=fN.mp (NB.b7.mpr hi:(i,p)∈Nb.placed b);exact hf q (bh.mp fR).1 i p fR
    have BI:NB.BI b:=⟨B.len,B.nd,λp i hi=>⟨ao p i hi,my p i hi⟩⟩;have e:b.ok=b.founded:=by
     rw[JH B];have:((Nb.placed b).all λx=>x.1.ok&&b.fits x.1)=true:=eV.mpr λx hx=>by have:=NB.b7.mp hx;rw[ao _ _ this,my _ _ this];rfl
     rw[this,LR]
    rw[e] at k;refine⟨_,rfl,g,b,wv,m,al,rfl,R.same (s1.trans sm),B,λp i hi fg n hn=>?_,λH3 f7=>⟨_,rfl,?_⟩⟩
    ·have fg:i.stands=.good\/i.stands=.bad:=by unfold NB.gw at fg;rw[px] at fg;exact fg.imp (λz=>eq_of_beq z) λz=>eq_of_beq z
     obtain⟨q,j,h1,h2,h3⟩:=NB.Gd BI hi fg n hn;obtain⟨j',h4,h5⟩:=NB.find_some h1;rw[h2] at h4;cases h4;exact NB.sP.mpr ⟨q,j,h2,h3,h5⟩
    ·rw[Bool.not_not];exact k H3 (s1.trans (sm.trans f7))
end
noncomputable def df(wa:Addr)(k:Nat):List (Str×V):=[("written",.ref wa),("at",.int (k:Int))]
theorem JI(wa:Addr)(k:Nat):(df wa k).lookup ("written":Str)=some (.ref wa):=by kernel_rfl
theorem BY(wa:Addr)(k:Nat):(df wa k).lookup ("at":Str)=some (.int (k:Int)):=by kernel_rfl
structure c9(C:Cs)(H:Hp)(ra wa:Addr)(s r:Text):Prop where
 ex:∃dx k,H ra=some (.ins C.reader dx (df wa k))/\ay H wa s/\k<=s.length/\r=s.drop k
structure KR(ra:Addr)(H H':Hp):Prop where
 keep:aW (·=ra) H H'
 live:∀x,H' x=none->H x=none
theorem KR.refl{ra:Addr}{H:Hp}:KR ra H H:=⟨aW.refl,λ_ h=>h⟩
theorem KR.trans{ra:Addr}{H H1 H2:Hp}(a:KR ra H H1)(b:KR ra H1 H2):KR ra H H2:=⟨a.keep.trans b.keep,λx h=>a.live x (b.live x h)⟩
theorem KR.same{ra:Addr}{H H':Hp}(s:ai H H'):KR ra H H':=⟨ai.keep s,λx h=>s.free h⟩
theorem KR.tx{C:Cs}{H H':Hp}{ra wa:Addr}{s r:Text}(R:c9 C H ra wa s r)(k:KR ra H H'){a:Addr}{t:Text}(h:ay H a t):ay H' a t:=k.keep _ _ h λz=>by obtain⟨dx,kk,h1,_⟩:=R.ex;have h:H a=_:=h;rw[z,h1] at h;cases h
theorem c9.aB{K:PySem.W.Frag}{mg:Str->Option Value}{C:Cs}(T:Tx K mg C){H H':Hp}{ra wa:Addr}{s r:Text}(R:c9 C H ra wa s r)(k:KR ra H H'):cq C H H':=λb o e z=>k.keep _ _ e λq=>by
 obtain⟨dx,kk,h1,_⟩:=R.ex;rw[q,h1] at e;cases e;rcases z with ⟨_,z⟩ | ⟨_,_,z⟩
 ·cases z
 ·exact kh T.Q6 z
noncomputable def gz{α:Type}(C:Cs)(H:Hp)(ra wa:Addr)(s:Text)(o:Option (α×Text))(post:Hp->V->α->Prop)(Q:VK)(E:XK):Prop:=match o with
 |none=>∀H',KR ra H H'->E (.ref C.bD) none H'
 |some (x,r)=>∀H' v,KR ra H H'->c9 C H' ra wa s r->post H' v x->Q v H'
theorem gz.mono{α:Type}{C:Cs}{H H1:Hp}{ra wa:Addr}{s:Text}{o:Option (α×Text)}{post:Hp->V->α->Prop}{Q:VK}{E:XK}(h:gz C H ra wa s o post Q E)(k:KR ra H H1):gz C H1 ra wa s o post Q E:=by
 cases o with
 |none=>exact λH' k'=>h H' (k.trans k')
 |some x=>exact λH' v k'=>h H' v (k.trans k')
noncomputable def iw:Hp->V->Text->Prop:=λH v t=>∃a,v=.ref a/\ay H a t
noncomputable def pNum:Hp->V->Nat->Prop:=λ_ v n=>v=.int (n:Int)
noncomputable def xI:Hp->V->Bool->Prop:=λ_ v b=>v=.bl b
section
variable {P:Program}{w:World}{K:PySem.W.Frag}{mg:Str->Option Value}{base:Heap}{C:Cs}
noncomputable abbrev JJ:Stmt:=top 63
noncomputable def xJ(C:Cs):Sp:=λvs H Q E=>∃(ra wa:Addr) (s r:Text) (n:Nat),vs=[.ref ra,.int (n:Int)]/\c9 C H ra wa s r/\s.length<=1000000/\gz C H ra wa s (Nb.takeR n r) iw Q E
theorem Vq(T:Tx K mg C)(F:aR K mg "take" JJ ["reader","length"]):Ok P w K mg base (bC P w C.bD) 1 "take" ["reader","length"] (xJ C):=by
 have sc:=sk (P:=["reader","length"]) (st:=JJ) ["reader","length","end","taken"];refine F.iQ sc (λvs H Q E h=>?_) (λf aD A outer s H vs Q E hr h fc=>?_)
 ·obtain⟨ra,wa,s,r,n,rfl,_⟩:=h;rfl
 ·obtain⟨ra,wa,t,r,n,rfl,⟨dx,k,h1,h2,h3,rfl⟩,hl,q⟩:=h;refine⟨_,af (aN (i:=2) sc.nd rfl (Or.inl rfl) (cB jZ (aj (pv 0) rfl) (pv 1)))
   (af (aO (bo rJ (pv 2) (dv dE rfl T.dA dN (aa (aj (pv 0) rfl) ae)) (aY _)) (ah (mx fc rfl T.k9 rfl T.lj (aa lW ae))) aP)
   (af (aN (i:=3) sc.nd rfl (Or.inl rfl) (vk (Nv.or P6) (aj (pv 0) rfl) (nE (aj (pv 0) rfl)) (nE (pv 2))))
   (af (bI (pv 0) (pv 2) rfl) (ah (aC (pv 3)))))),?_⟩
  have Vr:(k:Int)+(n:Int)=((k+n:Nat):Int):=by omega
  refine⟨_,rfl,ra,C.reader,dx,_,_,rfl,h1,T.mH,T.sV,BY ..,_,rfl,_,_,rfl,rfl,?_⟩;refine⟨_,rfl,_,rfl,ra,C.reader,dx,_,_,rfl,h1,T.mH,T.Az,JI ..,wa,_,rfl,.inr (aQ.of h2),_,_,rfl,rfl,_,rfl,?_⟩;rw[bH];unfold Nb.takeR at q;have ld:(t.drop k).length=t.length-k:=lP ..;refine aT (λhh=>?_) (λhh=>?_)
  ·have hh:=bw hh;rw[if_pos (by rw[ld];omega)] at q;exact⟨bE,q H KR.refl⟩
  ·have hh:k+n<=t.length:=by refine Nat.le_of_not_lt λz=>hh (bp ?_);show(t.length:Int)<(k:Int)+(n:Int);omega
   rw[if_neg (by rw[ld];omega)] at q;have q:∀H' v,KR ra H H'->c9 C H' ra wa t ((t.drop k).drop n)->iw H' v ((t.drop k).take n)->Q v H':=q;have i1:HT.bb (bv t).length 0 (some (k:Int))=k:=by rw[HT.rL,bH];omega
   have i2:HT.bb (bv t).length (bv t).length (some ((k:Int)+(n:Int)))=k+n:=by rw[Vr,HT.rL,bH];omega
   have dd:(t.drop k).drop n=t.drop (k+n):=C8 ..;rw[dd] at q;have ep:bM "at" (.int ((k:Int)+(n:Int))) (df wa k)=df wa (k+n):=by kernel_rfl
   have fin:∀(H2:Hp) (p:Addr),ai H H2->ay H2 p ((t.drop k).take n)->yH (DO K (bU 0) (bU 2) "at") (rD (bU 3)) {nx:=λ_ H'=>Q .ak H',rt:=Q} [some (.ref ra),some (.int (n:Int)),some (.int ((k:Int)+(n:Int))),some (.ref p)] H2:=by
    intro H2 p s2 iH;refine⟨_,rfl,_,rfl,ra,C.reader,dx,_,rfl,s2 _ _ h1,T.mH,T.sV,(by show 2<1000;decide),?_⟩;rw[ep];have kp:aW (·=ra) H2 (upd H2 ra (.ins C.reader dx (df wa (k+n)))):=dF rfl;have nr:∀{a:Addr} {u:Text},ay H2 a u->ay (upd H2 ra (.ins C.reader dx (df wa (k+n)))) a u:=λ{a u} e=>kp _ _ e λz=>by have e:H2 a=_:=e;rw[z,s2 _ _ h1] at e;cases e
    refine⟨_,rfl,q _ _ ⟨(ai.keep s2).trans kp,λx h=>s2.free ?_⟩ ⟨dx,k+n,ag,nr (s2 _ _ h2),hh,rfl⟩ ⟨p,rfl,nr iH⟩⟩;by_cases hx:x=ra
    ·rw[hx,ag] at h;cases h
    ·rw[aw hx] at h;exact h
   refine⟨_,rfl,ra,C.reader,dx,_,_,rfl,h1,T.mH,T.Az,JI ..,_,rfl,ra,C.reader,dx,_,_,rfl,h1,T.mH,T.sV,BY ..,_,rfl,_,rfl,_,rfl,?_⟩;by_cases hw:k=0/\k+n=t.length
   ·right;refine⟨wa,bv t,rfl,h2,?_,by rw[i1];exact hw.1,by rw[i2,bH];exact hw.2⟩;refine fin H wa (λ_ _ z=>z) ?_;have e:(t.drop k).take n=t:=by rw[hw.1,List.drop_zero];exact List.take_of_length_le (by omega)
    rw[e];exact h2
   ·left;refine⟨wa,bv t,rfl,aQ.of h2,λz=>hw ⟨by rw[i1] at z;exact z.1,by rw[i2,bH] at z;exact z.2⟩,λp hp=>?_⟩;refine fin _ p (aG hp) ?_;show(upd H p _) p=_;rw[ag];unfold gJ;rw[i1,i2,Zp];unfold bv;rw[LQ,List.map_drop]
noncomputable abbrev JK:Stmt:=top 64
noncomputable def uf(C:Cs):Sp:=λvs H Q E=>∃(ra wa:Addr) (s r:Text) (n:Nat),vs=[.ref ra,.int (n:Int)]/\c9 C H ra wa s r/\s.length<=1000000/\n<=8/\gz C H ra wa s (Nb.numR n r) pNum Q E
noncomputable def ee:Text->Nat
 |[]=>0
 |c::t=>c.toNat+256*ee t
theorem ug:∀(n:Nat) (r:Text),Nb.numR n r=(Nb.takeR n r).map λx=>(ee x.1,x.2)
 |0,r=>by unfold Nb.takeR;rw[if_neg (qZ _)];rfl
 |n+1,[]=>by unfold Nb.takeR;rw[if_pos (by show 0<n+1;omega)];rfl
 |n+1,c::r=>by
  show(Nb.numR n r).map (λx=>(c.toNat+256*x.1,x.2))=_;rw[ug n r];unfold Nb.takeR;by_cases h:r.length<n
  ·rw[if_pos h,if_pos (by show r.length+1<n+1;omega)];rfl
  ·rw[if_neg h,if_neg (by show ¬r.length+1<n+1;omega)];rfl
theorem Vs{t:Text}{i:Nat}{c:UInt8}(h:t[i]?=some c):ee (t.drop i)=c.toNat+256*ee (t.drop (i+1)):=by obtain⟨h1,e⟩:=bh.mp h;rw[List.drop_eq_getElem_cons h1,e];rfl
theorem BZ:∀t:Text,ee t<256 ^ t.length
 |[]=>by show 0<256 ^ 0;decide
 |c::t=>by have h:=BZ t;have hc:c.toNat<256:=c.toNat_lt;show c.toNat+256*ee t<256 ^ (t.length+1);rw[Dc];omega
theorem Vt(T:Tx K mg C)(F:aR K mg "take_number" JK ["reader","width"])(D1:Ok P w K mg base (bC P w C.bD) 1 "take" ["reader","length"] (xJ C)):Ok P w K mg base (bC P w C.bD) 2 "take_number" ["reader","width"] (uf C):=by
 have sc:=sk (P:=["reader","width"]) (st:=JK) ["reader","width","number","byte"];refine F.iQ sc (λvs H Q E h=>?_) (λf aD A outer s H vs Q E hr h fc=>?_)
 ·obtain⟨ra,wa,s,r,n,rfl,_⟩:=h;rfl
 ·obtain⟨ra,wa,t,r,n,rfl,R,hl,hn,q⟩:=h;refine⟨_,af (aN (i:=2) sc.nd rfl (Or.inl rfl) aK)
   (af (cR fc.own rfl (Qk rfl T.Q9 (aa (az D1 hr rfl fc.passes (aa (pv 0) (aa (pv 1) ae))) ae)) (bQ (i:=3) sc.nd rfl (Or.inl rfl))
    (ah (aN (i:=2) sc.nd rfl (Or.inl rfl) (cB jZ (cB ML (pv 2) aK) (pv 3)))))
   (ah (aC (pv 2)))),?_⟩
  rw[ug] at q;refine⟨_,rfl,_,rfl,ra,wa,t,r,n,rfl,R,hl,?_⟩;unfold Nb.takeR at q ⊢;by_cases aL:r.length<n
  ·rw[if_pos aL] at q ⊢;exact q
  ·rw[if_neg aL] at q ⊢;have q:∀H' v,KR ra H H'->c9 C H' ra wa t (r.drop n)->pNum H' v (ee (r.take n))->Q v H':=q;rintro H1 v k1 R1 ⟨a,rfl,ha⟩;refine⟨a,bv (r.take n),rfl,aQ.of ha,?_⟩;have ul:(r.take n).length=n:=by rw[eU];omega
   generalize r.take n=u at q ha ul;have bl:(bv u).length=n:=by rw[bH,ul]
   refine Ql (K:=K) (a:=a) (xs:=bv u) (λi σ H'=>(∃v3:Option V,σ=[some (.ref ra),some (.int (n:Int)),some (.int (ee (u.drop (n-i)):Int)),v3])/\H'=H1) ⟨⟨none,?_⟩,rfl⟩ (λi σ H' _ ⟨_,e⟩=>by rw[e];exact aQ.of ha) ?_ ?_
   ·rw[C9,LA (by omega)];rfl
   ·rintro i x σ H' hx hi ⟨⟨v3,rfl⟩,rfl⟩;rw[bl] at hx hi;obtain⟨c,hc,rfl⟩:=GO hx;have e1:ee (u.drop (n-(i+1)))=c.toNat+256*ee (u.drop (n-i)):=by have:=Vs hc;rw[show n-1-i=n-(i+1) by omega] at this;rw[this,show n-(i+1)+1=n-i by omega]
    have lt:=BZ (u.drop (n-i));refine⟨_,rfl,_,_,rfl,rfl,.inr ⟨by decide,by decide⟩,_,rfl,_,_,rfl,rfl,⟨some (.int (c.toNat:Int)),?_⟩,rfl⟩;rw[e1];have e2:(ee (u.drop (n-i)):Int)*256+(c.toNat:Int)=((c.toNat+256*ee (u.drop (n-i)):Nat):Int):=by omega
    rw[<-e2];rfl
   ·rintro σ H' ⟨⟨v3,rfl⟩,rfl⟩;rw[bl,yu,List.drop_zero];exact⟨_,rfl,q H' _ k1 R1 rfl⟩
noncomputable abbrev JL:Stmt:=top 65
noncomputable abbrev Vu:Stmt:=top 66
noncomputable def dc(wd most:Nat):Nb.R Nat:=λs=>match Nb.numR wd s with
 |some (n,r)=>if most<n then none else some (n,r)
 |none=>none
noncomputable def dJ:Nb.R Bool:=λs=>match dc 1 1 s with
 |some (n,r)=>some (n==1,r)
 |none=>none
noncomputable def uh(C:Cs):Sp:=λvs H Q E=>∃(ra wa:Addr) (s r:Text) (wd most:Nat),vs=[.ref ra,.int (wd:Int),.int (most:Int)]/\c9 C H ra wa s r/\s.length<=1000000/\wd<=8/\gz C H ra wa s (dc wd most r) pNum Q E
theorem Vv(T:Tx K mg C)(F:aR K mg "take_number_up_to" JL ["reader","width","most"])(D1:Ok P w K mg base (bC P w C.bD) 2 "take_number" ["reader","width"] (uf C)):Ok P w K mg base (bC P w C.bD) 3 "take_number_up_to" ["reader","width","most"] (uh C):=by
 have sc:=sk (P:=["reader","width","most"]) (st:=JL) ["reader","width","most","number"];refine F.iQ sc (λvs H Q E h=>?_) (λf aD A outer s H vs Q E hr h fc=>?_)
 ·obtain⟨ra,wa,s,r,wd,most,rfl,_⟩:=h;rfl
 ·obtain⟨ra,wa,t,r,wd,most,rfl,R,hl,hw,q⟩:=h;refine⟨_,af (aN (i:=3) sc.nd rfl (Or.inl rfl) (az D1 hr rfl fc.passes (aa (pv 0) (aa (pv 1) ae))))
   (af (aO (bo rJ (pv 3) (pv 2) (aY _)) (ah (mx fc rfl T.k9 rfl T.lj (aa lW ae))) aP) (ah (aC (pv 3)))),?_⟩
  refine⟨_,rfl,_,rfl,ra,wa,t,r,wd,rfl,R,hl,hw,?_⟩;unfold dc at q;cases e:Nb.numR wd r with
  |none=>rw[e] at q;exact q
  |some x=>
   obtain⟨n,r1⟩:=x;rw[e] at q;have q:gz C H ra wa t (if most<n then none else some (n,r1)) pNum Q E:=q;rintro H1 v k1 R1 rfl;refine⟨_,rfl,_,rfl,_,_,rfl,rfl,_,rfl,?_⟩;refine aT (λhh=>?_) (λhh=>?_)
   ·rw[if_pos (by have:=bw hh;omega)] at q;exact⟨bE,q H1 k1⟩
   ·rw[if_neg (λz=>hh (bp (by omega)))] at q;exact⟨_,rfl,q H1 _ k1 R1 rfl⟩
noncomputable def gf{α:Type}(C:Cs)(f:Nb.R α)(post:Hp->V->α->Prop):Sp:=λvs H Q E=>∃(ra wa:Addr) (s r:Text),vs=[.ref ra]/\c9 C H ra wa s r/\s.length<=1000000/\gz C H ra wa s (f r) post Q E
theorem Vw(T:Tx K mg C)(F:aR K mg "take_mark" Vu ["reader"])(D1:Ok P w K mg base (bC P w C.bD) 3 "take_number_up_to" ["reader","width","most"] (uh C)):Ok P w K mg base (bC P w C.bD) 4 "take_mark" ["reader"] (gf C dJ xI):=by
 refine F.iQ (sk ["reader"]) (λvs H Q E h=>?_) (λf aD A outer s H vs Q E hr h fc=>?_)
 ·obtain⟨ra,wa,s,r,rfl,_⟩:=h;rfl
 ·obtain⟨ra,wa,t,r,rfl,R,hl,q⟩:=h;refine⟨_,ah (aC (j0 b3 (az D1 hr rfl fc.passes (aa (pv 0) (aa (aM T.mL) (aa aK ae)))) aK (aY _))),?_⟩;refine⟨_,rfl,ra,wa,t,r,1,1,rfl,R,hl,by decide,?_⟩;unfold dJ at q;cases e:dc 1 1 r with
  |none=>rw[e] at q;exact q
  |some x=>
   obtain⟨n,r1⟩:=x;rw[e] at q;have q:gz C H ra wa t (some (n==1,r1)) xI Q E:=q;rintro H1 v k1 R1 rfl;refine⟨rfl,?_⟩;have eb:decide (V.int (n:Int)=V.int 1)=(n==1):=by rw[CU];exact qV.mpr ⟨λz=>by have:=V.int.inj z;omega,λz=>by rw[z];rfl⟩
   rw[eb];exact q H1 _ k1 R1 rfl
noncomputable abbrev Vx:Stmt:=top 67
noncomputable abbrev Vy:Stmt:=top 70
theorem B1(wd most:Nat)(r:Text):Nb.lenR wd most r=match dc wd most r with | some (n,r1)=>Nb.takeR n r1 | none=>none:=by
 unfold Nb.lenR dc;cases e:Nb.numR wd r with
 |none=>rfl
 |some x=>
  obtain⟨n,r1⟩:=x;show(if most<n then none else Nb.takeR n r1)=match (if most<n then none else some (n,r1)) with | some (n,r1)=>Nb.takeR n r1 | none=>none
  by_cases h:most<n
  ·rw[if_pos h,if_pos h]
  ·rw[if_neg h,if_neg h]
noncomputable def ui(C:Cs):Sp:=λvs H Q E=>∃(ra wa:Addr) (s r:Text) (wd most:Nat),vs=[.ref ra,.int (wd:Int),.int (most:Int)]/\c9 C H ra wa s r/\s.length<=1000000/\wd<=8/\gz C H ra wa s (Nb.lenR wd most r) iw Q E
theorem Vz(T:Tx K mg C)(F:aR K mg "take_text" Vx ["reader","width","most"])(D1:Ok P w K mg base (bC P w C.bD) 1 "take" ["reader","length"] (xJ C))(D2:Ok P w K mg base (bC P w C.bD) 3 "take_number_up_to" ["reader","width","most"] (uh C)):Ok P w K mg base (bC P w C.bD) 4 "take_text" ["reader","width","most"] (ui C):=by
 refine F.iQ (sk ["reader","width","most"]) (λvs H Q E h=>?_) (λf aD A outer s H vs Q E hr h fc=>?_)
 ·obtain⟨ra,wa,s,r,wd,most,rfl,_⟩:=h;rfl
 ·obtain⟨ra,wa,t,r,wd,most,rfl,R,hl,hw,q⟩:=h;refine⟨_,ah (aC (az D1 (hr.mono (by decide)) rfl fc.passes (aa (pv 0) (aa (az D2 hr rfl fc.passes (aa (pv 0) (aa (pv 1) (aa (pv 2) ae)))) ae)))),?_⟩;refine⟨_,rfl,_,rfl,_,rfl,_,rfl,ra,wa,t,r,wd,most,rfl,R,hl,hw,?_⟩;rw[B1] at q;cases e:dc wd most r with
  |none=>rw[e] at q;exact q
  |some x=>obtain⟨n,r1⟩:=x;rw[e] at q;have q:gz C H ra wa t (Nb.takeR n r1) iw Q E:=q;rintro H1 v k1 R1 rfl;exact⟨ra,wa,t,r1,n,rfl,R1,hl,q.mono k1⟩
theorem VA(T:Tx K mg C)(F:aR K mg "take_value" Vy ["reader"])(D1:Ok P w K mg base (bC P w C.bD) 4 "take_text" ["reader","width","most"] (ui C)):Ok P w K mg base (bC P w C.bD) 5 "take_value" ["reader"] (gf C (Nb.lenR 4 Nb.VALUE) iw):=by
 refine F.iQ (sk ["reader"]) (λvs H Q E h=>?_) (λf aD A outer s H vs Q E hr h fc=>?_)
 ·obtain⟨ra,wa,s,r,rfl,_⟩:=h;rfl
 ·obtain⟨ra,wa,t,r,rfl,R,hl,q⟩:=h;refine⟨_,ah (aC (az D1 hr rfl fc.passes (aa (pv 0) (aa (aM T.ll) (aa (aM T.GD) ae))))),?_⟩;exact⟨_,rfl,ra,wa,t,r,4,Nb.VALUE,rfl,R,hl,by decide,q⟩
noncomputable abbrev JM:Stmt:=top 68
noncomputable def dB:Nb.R Text:=λs=>match Nb.lenR 1 32 s with
 |some (t,r)=>if Nb.nameOk t=true then some (t,r) else none
 |none=>none
theorem uj{wd most:Nat}{s t r:Text}(h:Nb.lenR wd most s=some (t,r)):t.length<=most:=by
 unfold Nb.lenR at h;cases e:Nb.numR wd s with
 |none=>rw[e] at h;cases h
 |some x=>
  obtain⟨n,r1⟩:=x;rw[e] at h;have h:(if most<n then none else Nb.takeR n r1)=some (t,r):=h;split at h
  ·cases h
  ·unfold Nb.takeR at h;split at h
   ·cases h
   ·cases h;rw[eU];omega
theorem VB(T:Tx K mg C)(F:aR K mg "take_name" JM ["reader"])(D1:Ok P w K mg base (bC P w C.bD) 4 "take_text" ["reader","width","most"] (ui C))(D2:Ok P w K mg base aq 2 "is_name" ["text"] qf):Ok P w K mg base (bC P w C.bD) 5 "take_name" ["reader"] (gf C dB iw):=by
 have sc:=sk (P:=["reader"]) (st:=JM) ["reader","name"];refine F.iQ sc (λvs H Q E h=>?_) (λf aD A outer s H vs Q E hr h fc=>?_)
 ·obtain⟨ra,wa,s,r,rfl,_⟩:=h;rfl
 ·obtain⟨ra,wa,t,r,rfl,R,hl,q⟩:=h;refine⟨_,af (aN (i:=1) sc.nd rfl (Or.inl rfl) (az D1 hr rfl fc.passes (aa (pv 0) (aa (aM T.mL) (aa (aM T.GB) ae)))))
   (af (aO (gp (dU (az D2 (hr.mono (by decide)) rfl aE (aa (pv 1) ae)))) (ah (mx fc rfl T.k9 rfl T.lj (aa lW ae))) aP) (ah (aC (pv 1)))),?_⟩
  refine⟨_,rfl,ra,wa,t,r,1,32,rfl,R,hl,by decide,?_⟩;unfold dB at q;cases e:Nb.lenR 1 32 r with
  |none=>rw[e] at q;exact q
  |some x=>
   obtain⟨n,r1⟩:=x;rw[e] at q;have q:gz C H ra wa t (if Nb.nameOk n=true then some (n,r1) else none) iw Q E:=q;rintro H1 v k1 R1 ⟨a,rfl,ha⟩;have nl:=uj e;refine⟨_,rfl,a,n,rfl,ha,by omega,_,rfl,?_⟩;refine aT (λhh=>?_) (λhh=>?_)
   ·rw[if_neg (by rw[nt hh];exact Bool.noConfusion)] at q;exact⟨bE,q H1 k1⟩
   ·rw[if_pos (nf hh)] at q;exact⟨_,rfl,q H1 _ k1 R1 ⟨a,rfl,ha⟩⟩
end
end Rr
namespace Rr
open PySem PySem.Spec PyProof.Rows L2
open Nb (Text Item Last Came Stands)
noncomputable def dM:Nb.R (List Text):=λs=>match dc 1 8 s with
 |some (n,r)=>Nb.timesR dB n r
 |none=>none
noncomputable def xK:Hp->V->List Text->Prop:=λH v ts=>∃a,v=.ref a/\cz H a ts
theorem uk{α:Type}{f:Nb.R α}{m:Nat}{s:Text}(h:f s=none):Nb.timesR f (m+1) s=none:=by unfold Nb.timesR;rw[h]
theorem mU{α:Type}{f:Nb.R α}{m:Nat}{s r:Text}{x:α}(h:f s=some (x,r)):Nb.timesR f (m+1) s=(Nb.timesR f m r).map λy=>(x::y.1,y.2):=by
 conv=>lhs;unfold Nb.timesR
 rw[h]
noncomputable def Prog(f:Nb.R Text)(n:Nat)(r:Text)(i:Nat)(xs:List Text)(ri:Text):Prop:=Nb.timesR f n r=(Nb.timesR f (n-i) ri).map λy=>(xs++y.1,y.2)
theorem Prog.zero(f:Nb.R Text)(n:Nat)(r:Text):Prog f n r 0 [] r:=by unfold Prog;rw[C9];cases Nb.timesR f n r<;>rfl
theorem Prog.fail{f:Nb.R Text}{n i:Nat}{r ri:Text}{xs:List Text}(p:Prog f n r i xs ri)(hi:i<n)(h:f ri=none):Nb.timesR f n r=none:=by unfold Prog at p;obtain⟨m,e⟩:∃m,n-i=m+1:=⟨n-i-1,by omega⟩;rw[p,e,uk h];rfl
theorem Prog.succ{f:Nb.R Text}{n i:Nat}{r ri r':Text}{xs:List Text}{x:Text}(p:Prog f n r i xs ri)(hi:i<n)(h:f ri=some (x,r')):Prog f n r (i+1) (xs++[x]) r':=by
 unfold Prog at p ⊢;obtain⟨m,e⟩:∃m,n-i=m+1:=⟨n-i-1,by omega⟩;rw[p,e,show n-(i+1)=m by omega,mU h];cases Nb.timesR f m r' with
 |none=>rfl
 |some y=>show some (xs++x::y.1,y.2)=some ((xs++[x])++y.1,y.2);rw[cK];rfl
theorem Prog.all{f:Nb.R Text}{n:Nat}{r ri:Text}{xs:List Text}(p:Prog f n r n xs ri):Nb.timesR f n r=some (xs,ri):=by unfold Prog at p;rw[p,yu];show some (xs++[],ri)=_;rw[ez]
theorem KR.of2{ra D:Addr}{H H':Hp}(k:aW (λx=>x=ra\/x=D) H H')(l:∀x,H' x=none->H x=none)(hD:H D=none):KR ra H H':=⟨λb o e hb=>k b o e λz=>z.elim hb (λz=>by rw[z,hD] at e;cases e),l⟩
structure lI(C:Cs)(H0 H:Hp)(ra wa D:Addr)(s:Text)(f:Nb.R Text)(n:Nat)(r:Text)(i:Nat):Prop where
 ex:∃(as:List Addr) (xs:List Text) (ri:Text),H D=some (.lst (as.map V.ref))/\Paired (λa t=>ay H a t) as xs/\xs.length=i/\Prog f n r i xs ri/\c9 C H ra wa s ri
 keep:aW (λx=>x=ra\/x=D) H0 H
 live:∀x,H x=none->H0 x=none
theorem c9.same{C:Cs}{H H':Hp}{ra wa:Addr}{s r:Text}(R:c9 C H ra wa s r)(h:ai H H'):c9 C H' ra wa s r:=by obtain⟨dx,k,h1,h2,h3,h4⟩:=R.ex;exact⟨dx,k,h _ _ h1,h _ _ h2,h3,h4⟩
theorem c9.VC{C:Cs}{H:Hp}{ra wa:Addr}{s r:Text}(R:c9 C H ra wa s r){a:Addr}{t:Text}(h:ay H a t):a≠ra:=λz=>by obtain⟨dx,k,h1,_⟩:=R.ex;have h:H a=_:=h;rw[z,h1] at h;cases h
theorem lI.start{C:Cs}{H:Hp}{ra wa D:Addr}{s r:Text}{f:Nb.R Text}{n:Nat}(R:c9 C H ra wa s r)(hD:H D=none):lI C H (upd H D (.lst [])) ra wa D s f n r 0:=
 ⟨⟨[],[],r,ag,.nil,rfl,Prog.zero f n r,R.same (aG hD)⟩,dF (.inr rfl),λx h=>(aG hD).free h⟩
theorem lI.step{C:Cs}{H0 H:Hp}{ra wa D:Addr}{s:Text}{f:Nb.R Text}{n:Nat}{r:Text}{i:Nat}{Q:VK}{E:XK}(I:lI C H0 H ra wa D s f n r i)(hi:i<n)(hn:n<=1000000)(hD:H0 D=none)(hl:s.length<=1000000)
 (hE:Nb.timesR f n r=none->∀H',KR ra H0 H'->E (.ref C.bD) none H') (hQ:∀y H4,(∃acc,H4 D=some (.lst acc)/\acc.length<sizeLine/\lI C H0 (upd H4 D (.lst (acc++[y]))) ra wa D s f n r (i+1))->Q y H4):gf C f iw [.ref ra] H Q E:=by
 obtain⟨as,xs,ri,h1,h2,h3,h4,h5⟩:=I.ex;refine⟨ra,wa,s,ri,rfl,h5,hl,?_⟩;have JN:D≠ra:=λz=>by obtain⟨dx,k,g1,_⟩:=h5.ex;rw[z,g1] at h1;cases h1
 cases e:f ri with
 |none=>exact λH' k=>hE (h4.fail hi e) H' (KR.of2 (I.keep.trans (k.keep.mono λx h=>.inl h)) (λx h=>I.live x (k.live x h)) hD)
 |some x=>
  obtain⟨x,r'⟩:=x;rintro H4 v k R4 ⟨a0,rfl,ha⟩;have qG:H4 D=some (.lst (as.map V.ref)):=k.keep _ _ h1 JN;refine hQ _ H4 ⟨_,qG,by rw[aF,Paired.len h2,h3];exact eh hi (aS hn (by decide)),⟨as++[a0],xs++[x],r',by rw[ag,bW];rfl,?_,by rw[aX,h3];rfl,h4.succ hi e,?_⟩,(I.keep.trans (k.keep.mono λx h=>.inl h)).trans (dF (.inr rfl)),λc hc=>?_⟩
  ·have up:∀{a:Addr} {t:Text},ay H4 a t->ay (upd H4 D (.lst (as.map V.ref++[.ref a0]))) a t:=λ{a t} q=>by show(upd H4 D _) a=_;rw[aw (b9 q qG (λz=>nomatch z))];exact q
   exact Paired.append (Paired.cW h2 λb t q=>up (k.keep _ _ q (h5.VC q))) (.cons (up ha) .nil)
  ·obtain⟨dx,kk,g1,g2,g3,g4⟩:=R4.ex;refine⟨dx,kk,by rw[aw (bu JN)];exact g1,?_,g3,g4⟩;show(upd H4 D _) wa=_;rw[aw (b9 g2 qG (λz=>nomatch z))];exact g2
  ·by_cases vf:c=D
   ·rw[vf,ag] at hc;cases hc
   ·rw[aw vf] at hc;exact I.live c (k.live c hc)
section
variable {P:Program}{w:World}{K:PySem.W.Frag}{mg:Str->Option Value}{base:Heap}{C:Cs}
noncomputable abbrev JO:Stmt:=top 69
theorem VD(T:Tx K mg C)(F:aR K mg "take_names" JO ["reader"])(D1:Ok P w K mg base (bC P w C.bD) 3 "take_number_up_to" ["reader","width","most"] (uh C))(D2:Ok P w K mg base (bC P w C.bD) 5 "take_name" ["reader"] (gf C dB iw)):Ok P w K mg base (bC P w C.bD) 6 "take_names" ["reader"] (gf C dM xK):=by
 have sc:=sk (P:=["reader"]) (st:=JO) ["reader","many","count"];refine F.iQ sc (λvs H Q E h=>?_) (λf aD A outer s H vs Q E hr h fc=>?_)
 ·obtain⟨ra,wa,s,r,rfl,_⟩:=h;rfl
 ·obtain⟨ra,wa,t,r,rfl,R,hl,q⟩:=h;refine⟨_,af (aN (i:=1) sc.nd rfl (Or.inl rfl) (az D1 (hr.mono (by decide)) rfl fc.passes (aa (pv 0) (aa (aM T.mL) (aa (aM T.GC) ae)))))
   (ah (aC (kM rN rfl T.sW yk (aa (Fs (te:=pL (gf C dB iw) [] E (jj (bU 0) iG)) (own:=[("count",2)]) fc rfl sc.nd (pG rfl T.qd (aa (pv 1) ae)) (gq (by kernel_rfl)) (λs H C cl fp=>bQ (i:=2) sc.nd rfl (Or.inl rfl)) (λs H C cl fp=>jm) (λs H C cl fp xe hp=>az D2 hr rfl hp (aa (pv 0) ae))) ae)))),?_⟩
  refine⟨_,rfl,ra,wa,t,r,1,8,rfl,R,hl,by decide,?_⟩;unfold dM at q;cases e:dc 1 8 r with
  |none=>rw[e] at q;exact q
  |some x=>
   obtain⟨n,r1⟩:=x;rw[e] at q;have q:gz C H ra wa t (Nb.timesR dB n r1) xK Q E:=q;have n8:n<=8:=by
    unfold dc at e;cases e2:Nb.numR 1 r with
    |none=>rw[e2] at e;cases e
    |some y=>
     rw[e2] at e;have e:(if 8<y.1 then none else some (y.1,y.2))=some (n,r1):=e;split at e
     ·cases e
     ·cases e;omega
   rintro H1 v k1 R1 rfl;refine⟨_,rfl,(n:Int),rfl,by omega,by omega,λD hD=>?_⟩;refine EA (n:=(n:Int).toNat) (λi H'=>lI C H1 H' ra wa D t dB n r1 i) (lI.start R1 hD) ?_ ?_
   ·rintro i H' hi I;rw[ja] at hi;refine⟨rfl,yes ⟨_,rfl,?_⟩⟩;refine I.step hi (by omega) hD hl (λef H2 k2=>?_) λy H4 z=>z;rw[ef] at q;exact q H2 (k1.trans k2)
   ·intro H' I;rw[ja] at I;obtain⟨as,xs,ri,h1,h2,h3,h4,h5⟩:=I.ex;rw[h4.all] at q;have kr:KR ra H1 H':=KR.of2 I.keep I.live hD;refine⟨D,_,rfl,.inl ⟨ax.of h1,λl du=>?_⟩⟩;have s1:ai H' (upd H' l (.tup (as.map V.ref))):=aG du;exact q _ _ ((k1.trans kr).trans (KR.same s1)) (h5.same s1) ⟨l,rfl,as,ag,Paired.cW h2 λ_ _ z=>s1 _ _ z⟩
end
noncomputable def gX:Nb.R Came:=λs=>match dJ s with
 |none=>none
 |some (m,r)=>if m=true then (match Nb.numR 4 r with
  |none=>none
  |some (n,r)=>if n=0 then none else some (.bad n,r)) else (match Nb.lenR 4 Nb.VALUE r with
  |none=>none
  |some (v,r)=>some (.value v,r))
noncomputable def fL:Nb.R (Option Last):=λs=>match dJ s with
 |none=>none
 |some (m,r)=>if m=true then (match Nb.lenR 4 Nb.TEXT r with
  |none=>none
  |some (t,r)=>match dM r with
   |none=>none
   |some (ns,r)=>match Nb.timesR (Nb.lenR 4 Nb.VALUE) ns.length r with
    |none=>none
    |some (vs,r)=>match gX r with
     |none=>none
     |some (c,r)=>some (some ⟨t,ns,vs,c⟩,r)) else some (none,r)
noncomputable def B3(C:Cs):Hp->V->Option Last->Prop:=λH v o=>mG C H v o
theorem JP{s r:Text}{ns:List Text}(h:dM s=some (ns,r)):ns.length<=8:=by
 unfold dM at h;cases e:dc 1 8 s with
 |none=>rw[e] at h;cases h
 |some x=>
  obtain⟨n,r1⟩:=x;rw[e] at h;have h:Nb.timesR dB n r1=some (ns,r):=h;have n8:n<=8:=by
   unfold dc at e;cases e2:Nb.numR 1 s with
   |none=>rw[e2] at e;cases e
   |some y=>
    rw[e2] at e;have e:(if 8<y.1 then none else some (y.1,y.2))=some (n,r1):=e;split at e
    ·cases e
    ·cases e;omega
  have:∀(n:Nat) (s:Text) (ns:List Text) (r:Text),Nb.timesR dB n s=some (ns,r)->ns.length=n:=λn=>by
   induction n with
   |zero=>intro s ns r h;cases h;rfl
   |succ m ih=>
    intro s ns r h;cases e:dB s with
    |none=>rw[uk e] at h;cases h
    |some x=>
     rw[mU (x:=x.1) (r:=x.2) e] at h;cases e2:Nb.timesR dB m x.2 with
     |none=>rw[e2] at h;cases h
     |some y=>rw[e2] at h;cases h;rw[cu,ih _ _ _ e2]
  rw[this _ _ _ _ h];exact n8
section
variable {P:Program}{w:World}{K:PySem.W.Frag}{mg:Str->Option Value}{base:Heap}{C:Cs}
noncomputable abbrev JQ:Stmt:=top 71
theorem VE(T:Tx K mg C)(F:aR K mg "take_last_run" JQ ["reader"])(D1:Ok P w K mg base (bC P w C.bD) 4 "take_mark" ["reader"] (gf C dJ xI))(D2:Ok P w K mg base (bC P w C.bD) 4 "take_text" ["reader","width","most"] (ui C))(D3:Ok P w K mg base (bC P w C.bD) 6 "take_names" ["reader"] (gf C dM xK))
 (D4:Ok P w K mg base (bC P w C.bD) 5 "take_value" ["reader"] (gf C (Nb.lenR 4 Nb.VALUE) iw)) (D5:Ok P w K mg base (bC P w C.bD) 2 "take_number" ["reader","width"] (uf C)) (D6:fj P w K mg base 1 "Run" C.run ["self","text","leans","given","value","number"] (gR C.run 5 oA)):Ok P w K mg base (bC P w C.bD) 7 "take_last_run" ["reader"] (gf C fL (B3 C)):=by
 have sc:=sk (P:=["reader"]) (st:=JQ) ["reader","text","leans","given","number","lean"];refine F.iQ sc (λvs H Q E h=>?_) (λf aD A outer s H vs Q E hr h fc=>?_)
 ·obtain⟨ra,wa,s,r,rfl,_⟩:=h;rfl
 ·obtain⟨ra,wa,t,r,rfl,R,hl,q⟩:=h;refine⟨_,af (aO (gp (dU (az D1 (hr.mono (by decide)) rfl fc.passes (aa (pv 0) ae)))) (ah (aC jV)) aP)
   (af (aN (i:=1) sc.nd rfl (Or.inl rfl) (az D2 (hr.mono (by decide)) rfl fc.passes (aa (pv 0) (aa (aM T.ll) (aa (aM T.AD) ae)))))
   (af (aN (i:=2) sc.nd rfl (Or.inl rfl) (az D3 hr rfl fc.passes (aa (pv 0) ae)))
   (af (aN (i:=3) sc.nd rfl (Or.inl rfl) (kM rN rfl T.sW yk (aa (Fs (te:=pL (gf C (Nb.lenR 4 Nb.VALUE) iw) [] E (jj (bU 0) iG)) (own:=[("lean",5)]) fc rfl sc.nd (jg (pv 2)) (gq (by kernel_rfl)) (λs H C cl fp=>bQ (i:=5) sc.nd rfl (Or.inl rfl)) (λs H C cl fp=>jm) (λs H C cl fp xe hp=>az D4 (hr.mono (by decide)) rfl hp (aa (pv 0) ae))) ae)))
   (af (aO (gp (dU (az D1 (hr.mono (by decide)) rfl fc.passes (aa (pv 0) ae)))) (ah (aC (ly D6 (hr.mono (by decide)) rfl (aa (pv 1) (aa (pv 2) (aa (pv 3) (aa (az D4 (hr.mono (by decide)) rfl fc.passes (aa (pv 0) ae)) (aa aK ae)))))))) aP)
   (af (aN (i:=4) sc.nd rfl (Or.inl rfl) (az D5 (hr.mono (by decide)) rfl fc.passes (aa (pv 0) (aa (aM T.ll) ae))))
   (af (aO (bo b3 (pv 4) aK (aY _)) (ah (mx fc rfl T.k9 rfl T.lj (aa lW ae))) aP)
   (ah (aC (ly D6 (hr.mono (by decide)) rfl (aa (pv 1) (aa (pv 2) (aa (pv 3) (aa (vh ae) (aa (pv 4) ae)))))))))))))),?_⟩
  refine⟨_,rfl,ra,wa,t,r,rfl,R,hl,?_⟩;unfold fL at q;cases e1:dJ r with
  |none=>rw[e1] at q;exact q
  |some x=>
   obtain⟨m1,r1⟩:=x;simp only[e1] at q;rintro H1 v k1 R1 rfl;refine⟨_,rfl,?_⟩;cases m1 with
   |false=>have q:gz C H ra wa t (some (none,r1)) (B3 C) Q E:=q;exact bF (q H1 _ k1 R1 rfl)
   |true=>
    refine bJ ⟨_,rfl,ra,wa,t,r1,4,Nb.TEXT,rfl,R1,hl,by decide,?_⟩;simp only[eM] at q;cases e2:Nb.lenR 4 Nb.TEXT r1 with
    |none=>rw[e2] at q;exact λH' k'=>q H' (k1.trans k')
    |some x=>
     obtain⟨tx,r2⟩:=x;simp only[e2] at q;rintro H2 v k2 R2 ⟨ta,rfl,B4⟩;refine⟨_,rfl,ra,wa,t,r2,rfl,R2,hl,?_⟩;cases e3:dM r2 with
     |none=>rw[e3] at q;exact λH' k'=>q H' ((k1.trans k2).trans k')
     |some x=>
      obtain⟨ns,r3⟩:=x;simp only[e3] at q;have n8:=JP e3;rintro H3 v k3 R3 ⟨la,rfl,jH,mV,wV⟩;have um:=(k1.trans k2).trans k3;refine⟨_,rfl,la,rfl,⟨_,aQ.of mV⟩,λD hD=>?_⟩;have VF:la≠D:=bj mV hD;have VG:la≠ra:=λz=>by obtain⟨dx,kk,g1,_⟩:=R3.ex;rw[z,g1] at mV;cases mV
      have JR:(jH.map V.ref).length=ns.length:=by rw[aF,Paired.len wV]
      refine vC (K:=K) (a:=la) (xs:=jH.map V.ref) (λi H'=>lI C H3 H' ra wa D t (Nb.lenR 4 Nb.VALUE) ns.length r3 i) (lI.start R3 hD) (λi H' _ I=>aQ.of (I.keep _ _ mV λz=>z.elim VG VF)) ?_ ?_
      ·rintro i x H' hx I;have hi:i<ns.length:=by rw[<-JR];exact(bh.mp hx).1
       refine⟨rfl,yes ⟨_,rfl,?_⟩⟩;refine I.step hi (by omega) hD hl (λef H2 k2=>?_) λy H4 z=>z;simp only[ef] at q;exact q H2 (um.trans k2)
      ·intro H4 I;rw[JR] at I;obtain⟨as,us,r4,h1,h2,h3,h4,R4⟩:=I.ex;have e4:=h4.all;simp only[e4] at q;have k4:KR ra H3 H4:=KR.of2 I.keep I.live hD;refine⟨D,_,rfl,.inl ⟨ax.of h1,λga Br=>?_⟩⟩;have s5:ai H4 (upd H4 ga (.tup (as.map V.ref))):=aG Br;have JS:cz (upd H4 ga (.tup (as.map V.ref))) ga us:=⟨as,ag,Paired.cW h2 λ_ _ z=>s5 _ _ z⟩;have R5:=R4.same s5;have xM:KR ra H3 (upd H4 ga (.tup (as.map V.ref))):=k4.trans (KR.same s5);generalize upd H4 ga (.tup (as.map V.ref))=H5 at s5 JS R5 xM;have uo:=um.trans xM;have xp:ay H5 ta tx:=xM.tx R3 (k3.tx R2 B4);have xq:cz H5 la ns:=cz.aB (C:=C) ⟨jH,mV,wV⟩ (R3.aB T xM);refine⟨_,rfl,ra,wa,t,r4,rfl,R5,hl,?_⟩;unfold gX at q;cases e5:dJ r4 with
       |none=>simp only[e5] at q;exact λH' k'=>q H' (uo.trans k')
       |some x=>
        obtain⟨m5,r5⟩:=x;simp only[e5] at q;rintro H6 v k6 R6 rfl;have oV:=uo.trans k6;have i6:=R5.aB T k6;have JT:=ay.aB xp i6;have JU:=xq.aB i6;have JV:=JS.aB i6;refine⟨_,rfl,?_⟩;cases m5 with
        |false=>
         simp only[gi,dS] at q;refine bF ⟨_,rfl,_,rfl,_,rfl,_,rfl,ra,wa,t,r5,rfl,R6,hl,?_⟩;cases e7:Nb.lenR 4 Nb.VALUE r5 with
         |none=>simp only[e7] at q;exact λH' k'=>q H' (oV.trans k')
         |some x=>obtain⟨Z2,r7⟩:=x;simp only[e7] at q;rintro H7 v k7 R7 ⟨va,rfl,iY⟩;have i7:=R6.aB T k7;intro x dx hx ir bG;refine⟨x,dx,[.ref ta,.ref la,.ref ga,.ref va,.int 0],rfl,rfl,ag,rfl,?_⟩;rw[bc];have s8:ai H7 (upd (upd H7 dx (.own x)) x (.ins C.run dx (oA [.ref ta,.ref la,.ref ga,.ref va,.int 0]))):=(aG ir).trans (aG (by rw[aw bG.symm];exact hx));have i8:cq C H6 _:=i7.trans (ai.aB s8);exact q _ _ ((oV.trans k7).trans (KR.same s8)) (R7.same s8) ⟨x,rfl,dx,ta,la,ga,va,ag,ay.aB JT i8,JU.aB i8,JV.aB i8,s8 _ _ iY⟩
        |true=>
         simp only[eM] at q;refine bJ ⟨_,rfl,ra,wa,t,r5,4,rfl,R6,hl,by decide,?_⟩;cases e7:Nb.numR 4 r5 with
         |none=>simp only[e7] at q;exact λH' k'=>q H' (oV.trans k')
         |some x=>
          obtain⟨n7,r7⟩:=x;simp only[e7] at q;rintro H7 v k7 R7 rfl;have i7:=R6.aB T k7;refine⟨_,rfl,rfl,_,rfl,?_⟩;refine aT (λhh=>?_) (λhh=>?_)
          ·have hz:n7=0:=by have:=V.int.inj (bw hh);omega
           simp only[hz,eM] at q;exact⟨bE,q H7 (oV.trans k7)⟩
          ·have hz:¬n7=0:=λz=>hh (bp (by rw[z];rfl));simp only[hz,dS] at q;refine⟨_,rfl,_,rfl,_,rfl,bY _,λva iY=>?_⟩;have s8:ai H7 (upd H7 va (.tup [])):=aG iY;have JW:ay (upd H7 va (.tup [])) va []:=ag;have R8:=R7.same s8;generalize upd H7 va (.tup [])=H8 at s8 JW R8;refine⟨_,rfl,λx dx hx ir bG=>?_⟩;refine⟨x,dx,[.ref ta,.ref la,.ref ga,.ref va,.int (n7:Int)],rfl,rfl,ag,rfl,?_⟩;rw[bc];have s9:ai H8 (upd (upd H8 dx (.own x)) x (.ins C.run dx (oA [.ref ta,.ref la,.ref ga,.ref va,.int (n7:Int)]))):=(aG ir).trans (aG (by rw[aw bG.symm];exact hx));have i9:cq C H6 _:=i7.trans ((ai.aB s8).trans (ai.aB s9));exact q _ _ (((oV.trans k7).trans (KR.same s8)).trans (KR.same s9)) (R8.same s9) ⟨x,rfl,dx,ta,la,ga,va,ag,ay.aB JT i9,JU.aB i9,JV.aB i9,s9 _ _ JW⟩
end
noncomputable def stN:Nat->Stands
 |0=>.open_
 |1=>.good
 |2=>.bad
 |_=>.stuck
theorem JX{k:Nat}(h:k<=3):(stN k).num=k:=by
 match k,h with
 |0,_=>rfl
 |1,_=>rfl
 |2,_=>rfl
 |3,_=>rfl
noncomputable def gY:Nb.R (Item×Nat):=λs=>match Nb.numR 1 s with
 |none=>none
 |some (p,r)=>match dB r with
  |none=>none
  |some (n,r)=>match Nb.lenR 4 Nb.TEXT r with
   |none=>none
   |some (t,r)=>match dM r with
    |none=>none
    |some (ls,r)=>match dc 1 3 r with
     |none=>none
     |some (k,r)=>match dJ r with
      |none=>none
      |some (b,r)=>match fL r with
       |none=>none
       |some (la,r)=>some ((⟨n,t,ls,stN k,b,la⟩,p),r)
theorem oW{wd most n:Nat}{s r:Text}(h:dc wd most s=some (n,r)):n<=most/\Nb.numR wd s=some (n,r):=by
 unfold dc at h;cases e:Nb.numR wd s with
 |none=>rw[e] at h;cases h
 |some y=>
  rw[e] at h;have h:(if most<y.1 then none else some (y.1,y.2))=some (n,r):=h;split at h
  ·cases h
  ·cases h;exact⟨by omega,rfl⟩
section
variable {P:Program}{w:World}{K:PySem.W.Frag}{mg:Str->Option Value}{base:Heap}{C:Cs}
noncomputable abbrev JY:Stmt:=top 72
noncomputable def JZ(C:Cs):Sp:=λvs H Q E=>∃(ra wa:Addr) (s r:Text),vs=[.ref ra]/\c9 C H ra wa s r/\s.length<=1000000/\gz C H ra wa s (gY r) (λH' v x=>∃a,v=.ref a/\bt C H' a x.2 x.1/\H a=none) Q E
theorem VH(T:Tx K mg C)(F:aR K mg "take_cell" JY ["reader"])(D1:Ok P w K mg base (bC P w C.bD) 2 "take_number" ["reader","width"] (uf C))(D2:Ok P w K mg base (bC P w C.bD) 5 "take_name" ["reader"] (gf C dB iw))(D3:Ok P w K mg base (bC P w C.bD) 4 "take_text" ["reader","width","most"] (ui C))(D4:Ok P w K mg base (bC P w C.bD) 6 "take_names" ["reader"] (gf C dM xK))
 (D5:fj P w K mg base 1 "Cell" C.cell ["self","place","name","text","leans"] (gR C.cell 4 mO)) (D6:Ok P w K mg base (bC P w C.bD) 3 "take_number_up_to" ["reader","width","most"] (uh C)) (D7:Ok P w K mg base (bC P w C.bD) 4 "take_mark" ["reader"] (gf C dJ xI)) (D8:Ok P w K mg base (bC P w C.bD) 7 "take_last_run" ["reader"] (gf C fL (B3 C))) :
 Ok P w K mg base (bC P w C.bD) 8 "take_cell" ["reader"] (JZ C):=by
 have sc:=sk (P:=["reader"]) (st:=JY) ["reader","place","name","text","cell"];refine F.iQ sc (λvs H Q E h=>?_) (λf aD A outer s H vs Q E hr h fc=>?_)
 ·obtain⟨ra,wa,s,r,rfl,_⟩:=h;rfl
 ·obtain⟨ra,wa,t,r,rfl,R,hl,q⟩:=h;refine⟨_,af (aN (i:=1) sc.nd rfl (Or.inl rfl) (az D1 (hr.mono (by decide)) rfl fc.passes (aa (pv 0) (aa (aM T.mL) ae))))
   (af (aN (i:=2) sc.nd rfl (Or.inl rfl) (az D2 (hr.mono (by decide)) rfl fc.passes (aa (pv 0) ae)))
   (af (aN (i:=3) sc.nd rfl (Or.inl rfl) (az D3 (hr.mono (by decide)) rfl fc.passes (aa (pv 0) (aa (aM T.ll) (aa (aM T.AD) ae)))))
   (af (aN (i:=4) sc.nd rfl (Or.inl rfl) (ly D5 (hr.mono (by decide)) rfl (aa (pv 1) (aa (pv 2) (aa (pv 3) (aa (az D4 (hr.mono (by decide)) rfl fc.passes (aa (pv 0) ae)) ae))))))
   (af (bI (pv 4) (az D6 (hr.mono (by decide)) rfl fc.passes (aa (pv 0) (aa (aM T.mL) (aa (aM T.om) ae)))) rfl)
   (af (bI (pv 4) (az D7 (hr.mono (by decide)) rfl fc.passes (aa (pv 0) ae)) rfl)
   (af (bI (pv 4) (az D8 hr rfl fc.passes (aa (pv 0) ae)) rfl)
   (ah (aC (pv 4))))))))),?_⟩
  refine⟨_,rfl,ra,wa,t,r,1,rfl,R,hl,by decide,?_⟩;unfold gY at q;cases e1:Nb.numR 1 r with
  |none=>simp only[e1] at q;exact q
  |some x=>
   obtain⟨p,r1⟩:=x;simp only[e1] at q;rintro H1 v k1 R1 rfl;refine⟨_,rfl,ra,wa,t,r1,rfl,R1,hl,?_⟩;cases e2:dB r1 with
   |none=>simp only[e2] at q;exact λH' k'=>q H' (k1.trans k')
   |some x=>
    obtain⟨n,r2⟩:=x;simp only[e2] at q;rintro H2 v k2 R2 ⟨na,rfl,tJ⟩;have J0:=k1.trans k2;refine⟨_,rfl,ra,wa,t,r2,4,Nb.TEXT,rfl,R2,hl,by decide,?_⟩;cases e3:Nb.lenR 4 Nb.TEXT r2 with
    |none=>simp only[e3] at q;exact λH' k'=>q H' (J0.trans k')
    |some x=>
     obtain⟨tx,r3⟩:=x;simp only[e3] at q;rintro H3 v k3 R3 ⟨ta,rfl,B4⟩;have um:=J0.trans k3;have qu:=k3.tx R2 tJ;refine⟨_,rfl,_,rfl,_,rfl,_,rfl,ra,wa,t,r3,rfl,R3,hl,?_⟩;cases e4:dM r3 with
     |none=>simp only[e4] at q;exact λH' k'=>q H' (um.trans k')
     |some x=>
      obtain⟨ls,r4⟩:=x;simp only[e4] at q;rintro H4 v k4 R4 ⟨la,rfl,mV⟩;have J1:=um.trans k4;have VI:=k4.tx R3 qu;have VJ:=k4.tx R3 B4;intro a dx ha ir bG;refine⟨a,dx,[.int (p:Int),.ref na,.ref ta,.ref la],rfl,rfl,ag,rfl,?_⟩;rw[bc];have s5:ai H4 (upd (upd H4 dx (.own a)) a (.ins C.cell dx (mO [.int (p:Int),.ref na,.ref ta,.ref la]))):=(aG ir).trans (aG (by rw[aw bG.symm];exact ha));have a5:(upd (upd H4 dx (.own a)) a (.ins C.cell dx (mO [.int (p:Int),.ref na,.ref ta,.ref la]))) a=some (.ins C.cell dx (cf p (.ref na) (.ref ta) (.ref la) .ak false 0)):=ag;have R5:=R4.same s5;generalize upd (upd H4 dx (.own a)) a (.ins C.cell dx (mO [.int (p:Int),.ref na,.ref ta,.ref la]))=H5 at s5 a5 R5;have uo:=J1.trans (KR.same s5);have mW:H a=none:=J1.live a ha;have xN:a≠ra:=λz=>by obtain⟨qH,kk,g1,_⟩:=R4.ex;rw[<-z,ha] at g1;cases g1
      have Ig:ay H5 na n:=s5 _ _ VI;have xp:ay H5 ta tx:=s5 _ _ VJ;have xq:cz H5 la ls:=cz.aB (C:=C) mV (ai.aB s5);have wr:∀{H6:Hp} {fs jP:List (Str×V)},KR ra H H6->c9 C H6 ra wa t r->True:=λ_ _=>True.intro;have KW:∀{H6:Hp} {o:HO},KR ra H H6->KR ra H (upd H6 a o):=λ{H6 o} k=>⟨λb u e hb=>by rw[aw (bj e mW)];exact k.keep b u e hb,λx hx=>by
       by_cases J2:x=a
       ·rw[J2,ag] at hx;cases hx
       ·rw[aw J2] at hx;exact k.live x hx⟩
      have RW:∀{H6:Hp} {u o:HO} {r':Text},H6 a=some u->(∀xs,u≠.tup xs)->c9 C H6 ra wa t r'->c9 C (upd H6 a o) ra wa t r':=λ{H6 u o r'} hu lD R6=>by
       obtain⟨qH,kk,g1,g2,g3,g4⟩:=R6.ex;refine⟨qH,kk,by rw[aw (bu xN)];exact g1,?_,g3,g4⟩;show(upd H6 a o) wa=_;rw[aw (λz=>by
        have g2:H6 wa=_:=g2;rw[z,hu] at g2;exact lD _ (a4 g2))]
       exact g2
      refine⟨_,rfl,ra,wa,t,r4,1,3,rfl,R5,hl,by decide,?_⟩;cases e6:dc 1 3 r4 with
      |none=>simp only[e6] at q;exact λH' k'=>q H' (uo.trans k')
      |some x=>
       obtain⟨k,r6⟩:=x;simp only[e6] at q;have k3:=(oW e6).1;rintro H6 v B5 R6 rfl;have oV:=uo.trans B5;have a6:H6 a=_:=B5.keep _ _ a5 xN;have i6:=R5.aB T B5;refine⟨_,rfl,a,C.cell,dx,_,rfl,a6,T.aH,T.c8,(by show 7<1000;decide),?_⟩;have ep:bM "stands" (.int (k:Int)) (cf p (.ref na) (.ref ta) (.ref la) .ak false 0)=cf p (.ref na) (.ref ta) (.ref la) .ak false k:=by kernel_rfl
       rw[ep];have R7:=RW (o:=.ins C.cell dx (cf p (.ref na) (.ref ta) (.ref la) .ak false k)) a6 (λ_ z=>nomatch z) R6;have B6:=KW (o:=.ins C.cell dx (cf p (.ref na) (.ref ta) (.ref la) .ak false k)) oV;have i7:cq C H6 (upd H6 a (.ins C.cell dx (cf p (.ref na) (.ref ta) (.ref la) .ak false k))):=oB T a6;have a7:(upd H6 a (.ins C.cell dx (cf p (.ref na) (.ref ta) (.ref la) .ak false k))) a=some (.ins C.cell dx (cf p (.ref na) (.ref ta) (.ref la) .ak false k)):=ag;generalize upd H6 a (.ins C.cell dx (cf p (.ref na) (.ref ta) (.ref la) .ak false k))=H7 at R7 B6 i7 a7;refine⟨_,rfl,ra,wa,t,r6,rfl,R7,hl,?_⟩;cases e8:dJ r6 with
       |none=>simp only[e8] at q;exact λH' k'=>q H' (B6.trans k')
       |some x=>
        obtain⟨b,r8⟩:=x;simp only[e8] at q;rintro H8 v B7 R8 rfl;have VL:=B6.trans B7;have a8:H8 a=_:=B7.keep _ _ a7 xN;have i8:=R7.aB T B7;refine⟨_,rfl,a,C.cell,dx,_,rfl,a8,T.aH,T.j8,(by show 7<1000;decide),?_⟩;have Bs:bM "touched" (.bl b) (cf p (.ref na) (.ref ta) (.ref la) .ak false k)=cf p (.ref na) (.ref ta) (.ref la) .ak b k:=by kernel_rfl
        rw[Bs];have R9:=RW (o:=.ins C.cell dx (cf p (.ref na) (.ref ta) (.ref la) .ak b k)) a8 (λ_ z=>nomatch z) R8;have B8:=KW (o:=.ins C.cell dx (cf p (.ref na) (.ref ta) (.ref la) .ak b k)) VL;have i9:cq C H8 (upd H8 a (.ins C.cell dx (cf p (.ref na) (.ref ta) (.ref la) .ak b k))):=oB T a8;have a9:(upd H8 a (.ins C.cell dx (cf p (.ref na) (.ref ta) (.ref la) .ak b k))) a=some (.ins C.cell dx (cf p (.ref na) (.ref ta) (.ref la) .ak b k)):=ag;generalize upd H8 a (.ins C.cell dx (cf p (.ref na) (.ref ta) (.ref la) .ak b k))=H9 at R9 B8 i9 a9;refine⟨_,rfl,ra,wa,t,r8,rfl,R9,hl,?_⟩;cases J3:fL r8 with
        |none=>simp only[J3] at q;exact λH' k'=>q H' (B8.trans k')
        |some x=>
         obtain⟨lo,vB⟩:=x;simp only[J3] at q;intro HA lv B9 RA Cb;have VM:=B8.trans B9;have aA:HA a=_:=B9.keep _ _ a9 xN;have iA:=R9.aB T B9;refine⟨_,rfl,a,C.cell,dx,_,rfl,aA,T.aH,T.fY,(by show 7<1000;decide),?_⟩;have Bt:bM "last" lv (cf p (.ref na) (.ref ta) (.ref la) .ak b k)=cf p (.ref na) (.ref ta) (.ref la) lv b k:=by kernel_rfl
         rw[Bt];have iB:cq C HA (upd HA a (.ins C.cell dx (cf p (.ref na) (.ref ta) (.ref la) lv b k))):=oB T aA;have Cc:cq C H5 (upd HA a (.ins C.cell dx (cf p (.ref na) (.ref ta) (.ref la) lv b k))):=i6.trans (i7.trans (i8.trans (i9.trans (iA.trans iB))));have Cb:mG C HA lv lo:=Cb;refine⟨_,rfl,q _ _ (KW VM) (RW aA (λ_ z=>nomatch z) RA) ⟨a,rfl,⟨dx,na,ta,la,lv,?_,ay.aB Ig Cc,ay.aB xp Cc,xq.aB Cc,Cb.aB iB⟩,mW⟩⟩;show(upd HA a _) a=some (.ins C.cell dx (cf p (.ref na) (.ref ta) (.ref la) lv b (stN k).num));rw[ag,JX k3]
end
theorem xO{α:Type}{f:Nb.R α}:∀(n:Nat) (s:Text) (xs:List α) (r:Text),Nb.timesR f n s=some (xs,r)->xs.length=n/\∀x∈xs,∃s' r',f s'=some (x,r')
 |0,s,xs,r,h=>by cases h;exact⟨rfl,(λx hx=>nomatch hx)⟩
 |m+1,s,xs,r,h=>by
  cases e:f s with
  |none=>rw[uk e] at h;cases h
  |some x=>
   rw[mU (x:=x.1) (r:=x.2) e] at h;cases e2:Nb.timesR f m x.2 with
   |none=>rw[e2] at h;cases h
   |some y=>
    rw[e2] at h;cases h;obtain⟨h1,h2⟩:=xO m _ _ _ e2;refine⟨by rw[cu,h1],λz hz=>?_⟩;rcases bL.mp hz with q | q
    ·rw[q];exact⟨s,x.2,e⟩
    ·exact h2 z q
theorem uq{s t r:Text}(h:dB s=some (t,r)):Nb.nameOk t=true/\Nb.lenR 1 32 s=some (t,r):=by
 unfold dB at h;cases e:Nb.lenR 1 32 s with
 |none=>rw[e] at h;cases h
 |some x=>
  rw[e] at h;have h:(if Nb.nameOk x.1=true then some (x.1,x.2) else none)=some (t,r):=h;split at h
  ·rename_i hn;cases h;exact⟨hn,rfl⟩
  ·cases h
theorem J4{s r:Text}{ns:List Text}(h:dM s=some (ns,r)):Nb.leansOk ns=true:=by
 have h8:=JP h;unfold dM at h;cases e:dc 1 8 s with
 |none=>rw[e] at h;cases h
 |some x=>rw[e] at h;have h:Nb.timesR dB x.1 x.2=some (ns,r):=h;obtain⟨_,h2⟩:=xO _ _ _ _ h;unfold Nb.leansOk;rw[bq];refine⟨bp h8,eV.mpr λt ht=>?_⟩;obtain⟨s',r',e'⟩:=h2 t ht;exact(uq e').1
theorem Cd{n k:Nat}{s r:Text}(h:Nb.numR n s=some (k,r)):k<256 ^ n:=by
 rw[ug] at h;unfold Nb.takeR at h;by_cases hl:s.length<n
 ·rw[if_pos hl] at h;cases h
 ·rw[if_neg hl] at h;cases h;have:=BZ (s.take n);rw[eU,Nat.min_eq_left (by omega)] at this;exact this
theorem VN{s r:Text}{c:Came}(h:gX s=some (c,r)):Nb.cameOk c=true:=by
 unfold gX at h;cases e:dJ s with
 |none=>simp only[e] at h;cases h
 |some x=>
  obtain⟨m,r1⟩:=x;simp only[e] at h;cases m with
  |true=>
   simp only[eM] at h;cases e2:Nb.numR 4 r1 with
   |none=>simp only[e2] at h;cases h
   |some y=>
    obtain⟨n,r2⟩:=y;simp only[e2] at h;have hb:=Cd e2;split at h
    ·cases h
    ·rename_i hn;cases h;show(decide (n≠0)&&decide (n<2 ^ 32))=true;rw[bp hn,bp (show n<2 ^ 32 from hb)];rfl
  |false=>
   simp only[gi,dS] at h;cases e2:Nb.lenR 4 Nb.VALUE r1 with
   |none=>simp only[e2] at h;cases h
   |some y=>obtain⟨v,r2⟩:=y;simp only[e2] at h;cases h;exact bp (uj e2)
theorem VO{s r:Text}{l:Last}(h:fL s=some (some l,r)):Nb.lastOk l=true:=by
 unfold fL at h;cases e:dJ s with
 |none=>simp only[e] at h;cases h
 |some x=>
  obtain⟨m,r1⟩:=x;simp only[e] at h;cases m with
  |false=>simp only[gi,dS] at h;cases h
  |true=>
   simp only[eM] at h;cases e2:Nb.lenR 4 Nb.TEXT r1 with
   |none=>simp only[e2] at h;cases h
   |some y=>
    obtain⟨t,r2⟩:=y;simp only[e2] at h;cases e3:dM r2 with
    |none=>simp only[e3] at h;cases h
    |some y=>
     obtain⟨ns,r3⟩:=y;simp only[e3] at h;cases e4:Nb.timesR (Nb.lenR 4 Nb.VALUE) ns.length r3 with
     |none=>simp only[e4] at h;cases h
     |some y=>
      obtain⟨vs,r4⟩:=y;simp only[e4] at h;cases e5:gX r4 with
      |none=>simp only[e5] at h;cases h
      |some y=>obtain⟨c,r5⟩:=y;simp only[e5] at h;cases h;obtain⟨h1,h2⟩:=xO _ _ _ _ e4;unfold Nb.lastOk;rw[bq,bq,bq,bq];refine⟨bp (uj e2),J4 e3,jb.mpr h1,eV.mpr λv hv=>?_,VN e5⟩;obtain⟨s',r',e'⟩:=h2 v hv;exact bp (uj e')
theorem J5{s r:Text}{i:Item}{p:Nat}(h:gY s=some ((i,p),r)):NB.Parts i/\p<256:=by
 unfold gY at h;cases e1:Nb.numR 1 s with
 |none=>simp only[e1] at h;cases h
 |some y=>
  obtain⟨p',r1⟩:=y;simp only[e1] at h;cases e2:dB r1 with
  |none=>simp only[e2] at h;cases h
  |some y=>
   obtain⟨n,r2⟩:=y;simp only[e2] at h;cases e3:Nb.lenR 4 Nb.TEXT r2 with
   |none=>simp only[e3] at h;cases h
   |some y=>
    obtain⟨t,r3⟩:=y;simp only[e3] at h;cases e4:dM r3 with
    |none=>simp only[e4] at h;cases h
    |some y=>
     obtain⟨ls,r4⟩:=y;simp only[e4] at h;cases e5:dc 1 3 r4 with
     |none=>simp only[e5] at h;cases h
     |some y=>
      obtain⟨k,r5⟩:=y;simp only[e5] at h;cases e6:dJ r5 with
      |none=>simp only[e6] at h;cases h
      |some y=>
       obtain⟨b,r6⟩:=y;simp only[e6] at h;cases e7:fL r6 with
       |none=>simp only[e7] at h;cases h
       |some y=>obtain⟨la,r7⟩:=y;simp only[e7] at h;cases h;refine⟨⟨(uq e2).1,uj e3,J4 e4,λl hl=>?_⟩,Cd e1⟩;have hl:la=some l:=hl;subst hl;exact VO e7
noncomputable def eJ:Nat->Nat->Nb.Book->Nb.R Nb.Book
 |0,_,b,s=>some (b,s)
 |n+1,lo,b,s=>match gY s with
  |none=>none
  |some (x,r)=>if x.2<lo\/(b.find x.1.name).isSome=true then none else eJ n (x.2+1) (b.set x.2 (some x.1)) r
structure LI(b:Nb.Book)(lo:Nat):Prop where
 wb:NB.WB b
 free:∀q,lo<=q->∀i,b.items[q]?≠some (some i)
theorem LI.empty:LI Nb.empty 0:=by
 have key:∀(q:Nat) (i:Item),Nb.empty.items[q]?≠some (some i):=λq i h=>by
  have h:(List.replicate Nb.PLACES (none:Option Item))[q]?=some (some i):=h;rw[yl] at h;split at h
  ·cases h
  ·cases h
 exact⟨⟨CT ..,(λp q i j h=>absurd h (key p i)),λp i h=>absurd h (key p i)⟩,λq _ i=>key q i⟩
theorem LI.xP{b:Nb.Book}{lo p:Nat}(L:LI b lo)(h:lo<=p)(hp:p<256):b.items[p]?=some none:=by
 obtain⟨o,ho⟩:∃o,b.items[p]?=some o:=⟨_,fm (by rw[L.wb.len];exact hp)⟩;cases o with
 |none=>exact ho
 |some i=>exact absurd ho (L.free p h i)
theorem LI.step{b:Nb.Book}{lo p:Nat}{i:Item}(L:LI b lo)(h:lo<=p)(hp:p<256)(hf:b.find i.name=none)(hi:NB.Parts i):LI (b.set p (some i)) (p+1):=by
 have hn:=L.xP h hp;refine⟨⟨by rw[NB.fE];exact L.wb.len,NB.we L.wb.nd hn hf,λq k hk=>?_⟩,λq hq k hk=>?_⟩
 ·by_cases kg:p=q
  ·subst kg;rw[NB.dY (bh.mp hn).1] at hk;cases hk;exact hi
  ·rw[NB.dP kg] at hk;exact L.wb.pt q k hk
 ·rw[NB.dP (by omega)] at hk;exact L.free q (by omega) k hk
structure KB(ra:Addr)(g:Gh)(H H':Hp):Prop where
 keep:aW (λx=>x=ra\/x=g.ca\/x=g.da) H H'
 live:∀x,H' x=none->H x=none
theorem KB.trans{ra:Addr}{g:Gh}{H H1 H2:Hp}(a:KB ra g H H1)(b:KB ra g H1 H2):KB ra g H H2:=⟨a.keep.trans b.keep,λx h=>a.live x (b.live x h)⟩
theorem KR.kb{ra:Addr}{g:Gh}{H H':Hp}(k:KR ra H H'):KB ra g H H':=⟨k.keep.mono λx h=>.inl h,k.live⟩
noncomputable def VP(C:Cs)(H:Hp)(ra wa:Addr)(g:Gh)(s:Text)(o:Option (Nb.Book×Text))(Q:VK)(E:XK):Prop:=match o with
 |none=>∀H',KB ra g H H'->E (.ref C.bD) none H'
 |some (b,r)=>∀H' cs,KB ra g H H'->c9 C H' ra wa s r->Rep C H' {g with cs:=cs} b .ak 0 0->NB.WB b->(∀x,some x∈cs->H x=none)->Q .ak H'
theorem Rep.reader{K:PySem.W.Frag}{mg:Str->Option Value}{C:Cs}(T:Tx K mg C){H H':Hp}{g:Gh}{b:Nb.Book}{wv:V}{m al:Nat}{ra wa:Addr}{s r:Text}(R:Rep C H g b wv m al)(Rd:c9 C H ra wa s r)(k:KR ra H H'):Rep C H' g b wv m al:=by
 obtain⟨dx,kk,h1,_⟩:=Rd.ex;have aB:=Rd.aB T k;obtain⟨kvs,k1,k2,k3,k4⟩:=R.named;have ne:∀{x:Addr} {o:HO},H x=some o->(∀dx fs,o≠.ins C.reader dx fs)->x≠ra:=λ{x o} e bG z=>by rw[z,h1] at e;exact bG _ _ (a4 e).symm
 refine⟨k.keep _ _ R.book (ne R.book λ_ _=>kh (bu T.Q8)),k.keep _ _ R.cells (ne R.cells λ_ _ z=>nomatch z),R.len,mM (by rw[R.len];exact R.dG.symm) λq c o g1 g2=>?_,kvs,k.keep _ _ k1 (ne k1 λ_ _ z=>nomatch z),k2,k3,k4⟩;have h3:=R.oz g1 g2;cases c with
 |none=>cases o<;>exact h3
 |some a'=>
  cases o with
  |none=>exact h3
  |some j=>exact bt.aB h3 aB λu e=>k.keep _ _ e (ne e λcG jP z=>by
   obtain⟨oI,na,ta,la,lv,c1,_⟩:=(show bt C H a' q j from h3);rw[e] at c1;rw[z] at c1;exact kh T.Q7 (a4 c1))
section
variable {P:Program}{w:World}{K:PySem.W.Frag}{mg:Str->Option Value}{base:Heap}{C:Cs}
noncomputable abbrev J6:Stmt:=top 73
noncomputable def qI:Nb.R Nb.Book:=λr=>match Nb.numR 2 r with
 |none=>none
 |some (n,r1)=>eJ n 0 Nb.empty r1
noncomputable def J7(C:Cs):Sp:=λvs H Q E=>∃(ra wa:Addr) (g:Gh) (s r:Text),vs=[.ref ra,.ref g.ba]/\c9 C H ra wa s r/\s.length<=1000000/\Rep C H g Nb.empty .ak 0 0/\g.cs=List.replicate 256 none/\VP C H ra wa g s (qI r) Q E
theorem VQ(T:Tx K mg C)(F:aR K mg "take_cells" J6 ["reader","book"])(D1:Ok P w K mg base (bC P w C.bD) 2 "take_number" ["reader","width"] (uf C))(D2:Ok P w K mg base (bC P w C.bD) 8 "take_cell" ["reader"] (JZ C))(D3:Ok P w K mg base aq 1 "add_cell" ["book","cell"] (AZ C)):Ok P w K mg base (bC P w C.bD) 9 "take_cells" ["reader","book"] (J7 C):=by
 have sc:=sk (P:=["reader","book"]) (st:=J6) ["reader","book","lowest","count","cell"];refine F.iQ sc (λvs H Q E h=>?_) (λf aD A outer s H vs Q E hr h fc=>?_)
 ·obtain⟨ra,wa,g,s,r,rfl,_⟩:=h;rfl
 ·obtain⟨ra,wa,g,t,r,rfl,R,hl,RP,Ce,q⟩:=h;refine⟨_,af (aN (i:=2) sc.nd rfl (Or.inl rfl) aK)
   (ah (cR fc.own rfl (pG rfl T.qd (aa (az D1 (hr.mono (by decide)) rfl fc.passes (aa (pv 0) (aa (aM T.GH) ae))) ae)) (bQ (i:=3) sc.nd rfl (Or.inl rfl))
    (af (aN (i:=4) sc.nd rfl (Or.inl rfl) (az D2 hr rfl fc.passes (aa (pv 0) ae)))
    (af (aO (PW.pt (uZ (bo lZ (aj (pv 4) rfl) (pv 2) (aY _)) (uX (cw (zA (cS hr) (aj (pv 4) rfl) (aj (pv 1) rfl)) rfl)))) (ah (mx fc rfl T.k9 rfl T.lj (aa lW ae))) aP)
    (af (cb (az D3 (hr.mono (by decide)) rfl aE (aa (pv 1) (aa (pv 4) ae))))
    (ah (aN (i:=2) sc.nd rfl (Or.inl rfl) (cB jZ (aj (pv 4) rfl) aK)))))))),?_⟩
  refine⟨_,rfl,ra,wa,t,r,2,rfl,R,hl,by decide,?_⟩;unfold qI at q;cases e1:Nb.numR 2 r with
  |none=>simp only[e1] at q;exact λH' k'=>q H' k'.kb
  |some x=>
   obtain⟨n,r1⟩:=x;simp only[e1] at q;have nb:=Cd e1;have nb:n<65536:=nb;rintro H1 v k1 R1 rfl;refine⟨(n:Int),rfl,by omega,by omega,?_⟩;have Z3:∀{H':Hp} {cs:List (Option Addr)} {b:Nb.Book},Rep C H' {g with cs:=cs} b .ak 0 0->True:=λ_=>True.intro;refine vb (n:=(n:Int).toNat) (λi σ H'=>∃(lo:Nat) (b:Nb.Book) (cs:List (Option Addr)) (ri:Text) (v3 v4:Option V),σ=[some (.ref ra),some (.ref g.ba),some (.int (lo:Int)),v3,v4]/\KB ra g H H'/\c9 C H' ra wa t ri/\Rep C H' {g with cs:=cs} b .ak 0 0/\LI b lo/\(∀x,some x∈cs->H x=none)/\eJ n 0 Nb.empty r1=eJ (n-i) lo b ri)
    ⟨0,Nb.empty,g.cs,r1,none,none,rfl,k1.kb,R1,RP.reader T R k1,LI.empty,(λx hx=>by rw[Ce] at hx;cases(List.mem_replicate.mp hx).2),by rw[C9]⟩ ?_ ?_
   ·rintro i σ H2 hi ⟨lo,b,cs,ri,v3,v4,rfl,kb,R2,Cf,L2,fr,hc⟩;rw[ja] at hi;obtain⟨m,em⟩:∃m,n-i=m+1:=⟨n-i-1,by omega⟩;rw[em] at hc;refine⟨_,rfl,ra,wa,t,ri,rfl,R2,hl,?_⟩;have fail:eJ (m+1) lo b ri=none->∀H',KB ra g H H'->E (.ref C.bD) none H':=λhn H' k'=>by rw[hc,hn] at q;exact q H' k'
    cases e2:gY ri with
    |none=>exact λH' k'=>fail (by simp only[eJ,e2]) H' (kb.trans k'.kb)
    |some x=>
     obtain⟨⟨it,p⟩,r2⟩:=x;have xQ:eJ (m+1) lo b ri=if p<lo\/(b.find it.name).isSome=true then none else eJ m (p+1) (b.set p (some it)) r2:=by simp only[eJ,e2]
     obtain⟨VR,J8⟩:=J5 e2;rintro H3 v k3 R3 ⟨a,rfl,aU,mW⟩;have aU:bt C H3 a p it:=aU;have mX:=Cf.reader T R2 k3;have xR:KB ra g H H3:=kb.trans k3.kb;obtain⟨dx,na,ta,la,lv,h1,h2,h3,h4,h5⟩:=id aU;obtain⟨kvs,q1,q2,q3,q4⟩:=id mX.named;refine⟨_,rfl,a,C.cell,dx,_,_,rfl,h1,T.aH,T.eG,fh ..,_,rfl,_,_,rfl,rfl,_,rfl,?_⟩;refine aT (λhh=>?_) (λhh=>?_)
     ·have aL:p<lo:=by have:=bw hh;omega
      refine bF ⟨bE,fail (by rw[xQ,if_pos (.inl aL)]) H3 xR⟩
     ·have c6:¬p<lo:=λz=>hh (bp (by omega));refine⟨_,rfl,a,C.cell,dx,_,_,rfl,h1,T.aH,T.jy,ke ..,_,rfl,g.ba,C.book,g.bd,_,_,rfl,mX.book,T.bx,T.gO,iS ..,g.da,_,rfl,b5.t q1 (ay.key h2),_,rfl,?_⟩;rw[q3];cases es:src {g with cs:=cs} b it.name with
      |some a'=>obtain⟨p',i',f1,_⟩:=mX.gQ es;refine bF ⟨bE,fail (by rw[xQ,if_pos (.inr (by rw[f1];rfl))]) H3 xR⟩
      |none=>
       have fn:=(mX.iT es).1;refine bJ ?_;rw[if_neg (by rintro(z | z);exact c6 z;rw[fn] at z;cases z)] at xQ;have Cg:=L2.xP (by omega:lo<=p) J8;refine⟨_,rfl,_,rfl,{g with cs:=cs},b,.ak,0,0,a,p,it,rfl,mX,L2.wb.nd,aU,Cg,fn,λH4 jG R4=>?_⟩;have ne4:∀{x:Addr} {o:HO},H3 x=some o->(∀xs,o≠.lst xs)->(∀xs,o≠.dT xs)->H4 x=some o:=λ{x o} e n1 n2=>jG _ _ e λz=>by
        rcases z with z | z
        ·rw[z] at e;have:=mX.cells;have e':H3 g.ca=some o:=e;rw[this] at e';exact n1 _ (a4 e').symm
        ·rw[z] at e;have e':H3 g.da=some o:=e;rw[q1] at e';exact n2 _ (a4 e').symm
       have xr:∀x,H4 x=none->H3 x=none:=λx hx=>jG.free hx λz=>R4.jD (z.elim (λz=>.inr (.inl z)) λz=>.inr (.inr (.inl z))) hx;have VS:KB ra g H H4:=⟨xR.keep.trans (jG.mono λx h=>.inr h),λx h=>xR.live x (xr x h)⟩;obtain⟨qH,kk,d1,d2,d3,d4⟩:=R3.ex;have VT:c9 C H4 ra wa t r2:=⟨qH,kk,ne4 d1 (λ_ z=>nomatch z) (λ_ z=>nomatch z),ne4 d2 (λ_ z=>nomatch z) (λ_ z=>nomatch z),d3,d4⟩;refine⟨_,rfl,a,C.cell,dx,_,_,rfl,ne4 h1 (λ_ z=>nomatch z) (λ_ z=>nomatch z),T.aH,T.eG,fh ..,_,_,rfl,rfl,?_⟩;have pn:(p:Int)+1=((p+1:Nat):Int):=by omega
       refine⟨p+1,b.set p (some it),cs.set p (some a),r2,_,_,by rw[<-pn];rfl,VS,VT,R4,L2.step (by omega) J8 fn VR,λx hx=>?_,?_⟩
       ·rcases Lv hx with z | z
        ·exact fr x z
        ·cases z;exact kb.live a mW
       ·rw[hc,xQ,show n-(i+1)=m by omega]
   ·rintro σ H2 ⟨lo,b,cs,ri,v3,v4,rfl,kb,R2,Cf,L2,fr,hc⟩;rw[ja,yu] at hc;have hc:eJ n 0 Nb.empty r1=some (b,ri):=hc;rw[hc] at q;exact q H2 cs kb R2 Cf L2.wb fr
end
noncomputable def jJ(s:Text):Option Nb.Book:=match Nb.takeR 4 s with
 |none=>none
 |some (m,r)=>if m≠Nb.MARK then none else match qI r with
  |none=>none
  |some (b,r')=>if r'=[]/\b.ok=true then some b else none
section
variable {P:Program}{w:World}{K:PySem.W.Frag}{mg:Str->Option Value}{base:Heap}{C:Cs}
noncomputable abbrev J9:Stmt:=top 74
noncomputable def VU(C:Cs)(H:Hp)(o:Option Nb.Book)(Q:VK)(E:XK):Prop:=match o with
 |none=>∀H',ai H H'->E (.ref C.bD) none H'
 |some b=>∀H' g,ai H H'->Rep C H' g b .ak 0 0->(∀x,g.foot x->H x=none)->Q (.ref g.ba) H'
noncomputable def Ka(C:Cs):Sp:=λvs H Q E=>∃(wa:Addr) (s:Text),vs=[.ref wa]/\ay H wa s/\s.length<=1000000/\VU C H (jJ s) Q E
theorem VV(T:Tx K mg C)(F:aR K mg "read_book" J9 ["written"])(D1:fj P w K mg base 1 "Reader" C.reader ["self","written"] (gR C.reader 1 tF))(D2:fj P w K mg base 1 "Book" C.book ["self"] (AX C))(D3:Ok P w K mg base (bC P w C.bD) 1 "take" ["reader","length"] (xJ C))(D4:Ok P w K mg base (bC P w C.bD) 9 "take_cells" ["reader","book"] (J7 C))(D5:Ok P w K mg base aq 4 "is_sound" ["book"] (JG C)) :
 Ok P w K mg base (bC P w C.bD) 10 "read_book" ["written"] (Ka C):=by
 have sc:=sk (P:=["written"]) (st:=J9) ["written","reader","book"];obtain⟨ma,BJ,t8⟩:=T.mark;refine F.iQ sc (λvs H Q E h=>?_) (λf aD A outer s H vs Q E hr h fc=>?_)
 ·obtain⟨wa,s,rfl,_⟩:=h;rfl
 ·obtain⟨wa,t,rfl,Ci,hl,q⟩:=h;refine⟨_,af (aN (i:=1) sc.nd rfl (Or.inl rfl) (ly D1 (hr.mono (by decide)) rfl (aa (pv 0) ae)))
   (af (aN (i:=2) sc.nd rfl (Or.inl rfl) (Ho D2 (hr.mono (by decide)) rfl))
   (af (aO (bo (El hr.units) (az D3 (hr.mono (by decide)) rfl fc.passes (aa (pv 1) (aa (aM T.Ri) ae))) (yD (v:=.ref ma) rfl BJ rfl) (aY _)) (ah (mx fc rfl T.k9 rfl T.lj (aa lW ae))) aP)
   (af (cb (az D4 hr rfl fc.passes (aa (pv 1) (aa (pv 2) ae))))
   (af (aO (bo lZ (aj (pv 1) rfl) (dv dE rfl T.dA dN (aa (pv 0) ae)) (aY _)) (ah (mx fc rfl T.k9 rfl T.lj (aa lW ae))) aP)
   (af (aO (gp (dU (az D5 (hr.mono (by decide)) rfl aE (aa (pv 2) ae)))) (ah (mx fc rfl T.k9 rfl T.lj (aa lW ae))) aP)
   (ah (aC (pv 2)))))))),?_⟩
  refine⟨_,rfl,λra lJ Kb VW bG=>?_⟩;refine⟨ra,lJ,[.ref wa],rfl,rfl,ag,rfl,?_⟩;rw[bc];have s1:ai H (upd (upd H lJ (.own ra)) ra (.ins C.reader lJ (tF [.ref wa]))):=(aG VW).trans (aG (by rw[aw bG.symm];exact Kb));have a1:(upd (upd H lJ (.own ra)) ra (.ins C.reader lJ (tF [.ref wa]))) ra=some (.ins C.reader lJ (df wa 0)):=ag;generalize upd (upd H lJ (.own ra)) ra (.ins C.reader lJ (tF [.ref wa]))=H1 at s1 a1;have R1:c9 C H1 ra wa t t:=⟨lJ,0,a1,s1 _ _ Ci,bY _,rfl⟩;intro ba oX oY Cj Ck;refine⟨ba,oX,rfl,ag,λH2 g fg Cm RP VX aU VY=>⟨rfl,?_⟩⟩;have sB:ai H1 (upd (upd H1 oX (.own ba)) ba (.ins C.book oX [])):=(aG Cj).trans (aG (by rw[aw Ck.symm];exact oY));have s2:ai H1 H2:=λc o e=>VX _ _ (sB _ _ e) (bj e oY);have R2:=R1.same s2;have qJ:=s1.trans s2;have Kc:H1 g.ca=none:=sB.free aU;have Kd:H1 g.da=none:=sB.free VY;have fresh:∀{H':Hp},KB ra g H2 H'->ai H H':=λ{H'} k c o e=>k.keep _ _ (qJ _ _ e) λz=>by
   rcases z with z | z | z
   ·rw[z,Kb] at e;cases e
   ·rw[z,s1.free Kc] at e;cases e
   ·rw[z,s1.free Kd] at e;cases e
  refine⟨_,rfl,ra,wa,t,t,4,rfl,R2,hl,?_⟩;unfold jJ at q;cases e1:Nb.takeR 4 t with
  |none=>simp only[e1] at q;exact λH' k'=>q H' (fresh k'.kb)
  |some x=>
   obtain⟨mk,r1⟩:=x;simp only[e1] at q;rintro H3 v k3 R3 ⟨Z4,rfl,VZ⟩;have mX:=RP.reader T R2 k3;have V0:Dp K H3 (.ref ma) (tD Nb.MARK):=.tup (t8 H3) (Ao Nb.MARK);refine⟨_,_,VZ.dp,V0,wA mk,wA Nb.MARK,_,rfl,?_⟩;rw[wz];refine aT (λhh=>?_) (λhh=>?_)
   ·have V1:mk≠Nb.MARK:=λz=>CW (nt hh) z;rw[if_pos V1] at q;exact⟨bE,q H3 (fresh k3.kb)⟩
   ·have heq:mk=Nb.MARK:=bw (nf hh);rw[if_neg (λz=>z heq)] at q;refine⟨_,rfl,_,rfl,ra,wa,g,t,r1,by rw[fg];rfl,R3,hl,mX,Cm,?_⟩;cases e2:qI r1 with
    |none=>simp only[e2] at q;exact λH' k'=>q H' (fresh (KB.trans k3.kb k'))
    |some x=>
     obtain⟨b,r2⟩:=x;simp only[e2] at q;intro H4 cs k4 R4 Ke W4 V2;have Kf:KB ra g H2 H4:=KB.trans k3.kb k4;obtain⟨qH,kk,d1,d2,d3,d4⟩:=R4.ex;refine⟨_,rfl,ra,C.reader,qH,_,_,rfl,d1,T.mH,T.sV,BY ..,_,rfl,wa,_,rfl,.inr (aQ.of d2),_,_,rfl,rfl,_,rfl,?_⟩;rw[bH];refine aT (λhh=>?_) (λhh=>?_)
     ·have aL:kk<t.length:=by have:=bw hh;omega
      have gU:¬r2=[]:=λz=>by have:=eW List.length z;rw[d4,lP] at this;simp at this;omega
      rw[if_neg (λz=>gU z.1)] at q;exact⟨bE,q H4 (fresh Kf)⟩
     ·have c6:¬kk<t.length:=λz=>hh (bp (by omega));have gU:r2=[]:=by rw[d4];exact LA (by omega)
      refine⟨_,rfl,{g with cs:=cs},b,.ak,0,0,by rw[<-fg];rfl,Ke,W4,λH5 s5=>⟨_,rfl,?_⟩⟩;have f5:ai H H5:=(fresh Kf).trans s5;refine aT (λhh=>?_) (λhh=>?_)
      ·rw[if_neg (λz=>by rw[nt hh] at z;cases z.2)] at q;exact⟨bE,q H5 f5⟩
      ·rw[if_pos ⟨gU,nf hh⟩] at q;refine⟨_,rfl,?_⟩;have:=q H5 {g with cs:=cs} f5 (Ke.same s5) λx hx=>?_
       ·rw[<-fg];exact this
       ·rcases hx with z | z | z | z
        ·have z:x=g.ba:=z;rw[z,fg];exact s1.free oY
        ·have z:x=g.ca:=z;rw[z];exact s1.free Kc
        ·have z:x=g.da:=z;rw[z];exact s1.free Kd
        ·exact qJ.free (k3.live x (V2 x z))
end
theorem Kg:∀u:Text,Nb.low u.length (ee u)=u
 |[]=>rfl
 |c::t=>by have hc:c.toNat<256:=c.toNat_lt;show UInt8.ofNat ((c.toNat+256*ee t) % 256)::Nb.low t.length ((c.toNat+256*ee t) / 256)=c::t;rw[show(c.toNat+256*ee t) / 256=ee t by omega,show(c.toNat+256*ee t) % 256=c.toNat by omega,Kg t];congr 1;exact LM.mp (by rw[qU];omega)
theorem Cn{n:Nat}{s t r:Text}(h:Nb.takeR n s=some (t,r)):s=t++r/\t.length=n:=by
 unfold Nb.takeR at h;split at h
 ·cases h
 ·cases h;exact⟨(List.take_append_drop n s).symm,by rw[eU];omega⟩
theorem xS{w n:Nat}{s r:Text}(h:Nb.numR w s=some (n,r)):s=Nb.low w n++r:=by
 rw[ug] at h;cases e:Nb.takeR w s with
 |none=>rw[e] at h;cases h
 |some x=>rw[e] at h;cases h;obtain⟨h1,h2⟩:=Cn (t:=x.1) (r:=x.2) e;rw[<-h2,Kg];exact h1
theorem xT{w most n:Nat}{s r:Text}(h:dc w most s=some (n,r)):s=Nb.low w n++r:=xS (oW h).2
theorem ur{w most:Nat}{s t r:Text}(h:Nb.lenR w most s=some (t,r)):s=(Nb.low w t.length++t)++r:=by
 rw[B1] at h;cases e:dc w most s with
 |none=>rw[e] at h;cases h
 |some x=>rw[e] at h;have h:Nb.takeR x.1 x.2=some (t,r):=h;obtain⟨h1,h2⟩:=Cn h;rw[xT (n:=x.1) (r:=x.2) e,h1,h2,cK]
theorem Co{α:Type}{f:Nb.R α}{g:α->Text}(hf:∀s x r,f s=some (x,r)->s=g x++r):∀(n:Nat) (s:Text) (xs:List α) (r:Text),Nb.timesR f n s=some (xs,r)->s=xs.flatMap g++r
 |0,s,xs,r,h=>by cases h;rfl
 |m+1,s,xs,r,h=>by
  cases e:f s with
  |none=>rw[uk e] at h;cases h
  |some x=>
   rw[mU (x:=x.1) (r:=x.2) e] at h;cases e2:Nb.timesR f m x.2 with
   |none=>rw[e2] at h;cases h
   |some y=>rw[e2] at h;cases h;have h1:=hf _ _ _ (show f s=some (x.1,x.2) from e);rw[h1,Co hf m _ _ _ (show Nb.timesR f m x.2=some (y.1,y.2) from e2),kz,cK]
theorem Kh{s t r:Text}(h:dB s=some (t,r)):s=Nb.shortBytes t++r:=by rw[xy];exact ur (uq h).2
theorem Ki{s r:Text}{ns:List Text}(h:dM s=some (ns,r)):s=Nb.namesBytes ns++r:=by
 unfold dM at h;cases e:dc 1 8 s with
 |none=>rw[e] at h;cases h
 |some x=>rw[e] at h;have h:Nb.timesR dB x.1 x.2=some (ns,r):=h;obtain⟨h1,_⟩:=xO _ _ _ _ h;rw[xT (n:=x.1) (r:=x.2) e,Co (g:=Nb.shortBytes) (λs x r=>Kh) _ _ _ _ h,xA,h1,cK]
noncomputable def mB(b:Bool):UInt8:=if b=true then 1 else 0
theorem oZ{s r:Text}{b:Bool}(h:dJ s=some (b,r)):s=mB b::r:=by
 unfold dJ at h;cases e:dc 1 1 s with
 |none=>rw[e] at h;cases h
 |some x=>
  obtain⟨n,r1⟩:=x;rw[e] at h;have h:some (n==1,r1)=some (b,r):=h;cases h;have hn:=(oW e).1;rw[xT e,mR]
  match n,hn with
  |0,_=>rfl
  |1,_=>rfl
theorem V3{s r:Text}{c:Came}(h:gX s=some (c,r)):s=Nb.cameBytes c++r:=by
 unfold gX at h;cases e:dJ s with
 |none=>simp only[e] at h;cases h
 |some x=>
  obtain⟨m,r1⟩:=x;simp only[e] at h;cases m with
  |true=>
   simp only[eM] at h;cases e2:Nb.numR 4 r1 with
   |none=>simp only[e2] at h;cases h
   |some y=>
    obtain⟨n,r2⟩:=y;simp only[e2] at h;split at h
    ·cases h
    ·cases h;rw[oZ e,xS e2];rfl
  |false=>
   simp only[gi,dS] at h;cases e2:Nb.lenR 4 Nb.VALUE r1 with
   |none=>simp only[e2] at h;cases h
   |some y=>obtain⟨v,r2⟩:=y;simp only[e2] at h;cases h;rw[oZ e,ur e2];rfl
theorem V4{s r:Text}{o:Option Last}(h:fL s=some (o,r)):s=Nb.lastBytes o++r:=by
 unfold fL at h;cases e:dJ s with
 |none=>simp only[e] at h;cases h
 |some x=>
  obtain⟨m,r1⟩:=x;simp only[e] at h;cases m with
  |false=>simp only[gi,dS] at h;cases h;rw[oZ e];rfl
  |true=>
   simp only[eM] at h;cases e2:Nb.lenR 4 Nb.TEXT r1 with
   |none=>simp only[e2] at h;cases h
   |some y=>
    obtain⟨t,r2⟩:=y;simp only[e2] at h;cases e3:dM r2 with
    |none=>simp only[e3] at h;cases h
    |some y=>
     obtain⟨ns,r3⟩:=y;simp only[e3] at h;cases e4:Nb.timesR (Nb.lenR 4 Nb.VALUE) ns.length r3 with
     |none=>simp only[e4] at h;cases h
     |some y=>
      obtain⟨vs,r4⟩:=y;simp only[e4] at h;cases e5:gX r4 with
      |none=>simp only[e5] at h;cases h
      |some y=>obtain⟨c,r5⟩:=y;simp only[e5] at h;cases h;rw[oZ e,ur e2,Ki e3,Co (g:=Nb.longBytes) (λs x r h=>ur h) _ _ _ _ e4,V3 e5];show _=(1::(Nb.longBytes t++(Nb.namesBytes ns++(vs.flatMap Nb.longBytes++Nb.cameBytes c))))++r;unfold Nb.longBytes;simp only[qY,cK];rfl
theorem V5{s r:Text}{x:Item×Nat}(h:gY s=some (x,r)):s=Nb.itemBytes x++r:=by
 unfold gY at h;cases e1:Nb.numR 1 s with
 |none=>simp only[e1] at h;cases h
 |some y=>
  obtain⟨p',r1⟩:=y;simp only[e1] at h;cases e2:dB r1 with
  |none=>simp only[e2] at h;cases h
  |some y=>
   obtain⟨n,r2⟩:=y;simp only[e2] at h;cases e3:Nb.lenR 4 Nb.TEXT r2 with
   |none=>simp only[e3] at h;cases h
   |some y=>
    obtain⟨t,r3⟩:=y;simp only[e3] at h;cases e4:dM r3 with
    |none=>simp only[e4] at h;cases h
    |some y=>
     obtain⟨ls,r4⟩:=y;simp only[e4] at h;cases e5:dc 1 3 r4 with
     |none=>simp only[e5] at h;cases h
     |some y=>
      obtain⟨k,r5⟩:=y;simp only[e5] at h;cases e6:dJ r5 with
      |none=>simp only[e6] at h;cases h
      |some y=>
       obtain⟨b,r6⟩:=y;simp only[e6] at h;cases e7:fL r6 with
       |none=>simp only[e7] at h;cases h
       |some y=>obtain⟨la,r7⟩:=y;simp only[e7] at h;cases h;rw[xS e1,Kh e2,ur e3,Ki e4,xT e5,oZ e6,V4 e7,mR,mR];show _=(UInt8.ofNat p'::(Nb.shortBytes n++(Nb.longBytes t++(Nb.namesBytes ls++(UInt8.ofNat (stN k).num::(mB b::Nb.lastBytes la))))))++r;rw[JX (oW e5).1];unfold Nb.longBytes;simp only[qY,cK,yp]
theorem Kj:∀(w n:Nat),n<256 ^ w->ee (Nb.low w n)=n
 |0,n,h=>by have h:n<1:=h;show 0=n;omega
 |w+1,n,h=>by rw[Dc] at h;show(UInt8.ofNat (n % 256)).toNat+256*ee (Nb.low w (n / 256))=n;rw[Kj w (n / 256) (by omega),qU];omega
theorem Cp(t r:Text):Nb.takeR t.length (t++r)=some (t,r):=by unfold Nb.takeR;rw[if_neg (by rw[aX];omega),List.take_left' rfl,List.drop_left' rfl]
theorem xU{w n:Nat}(h:n<256 ^ w)(r:Text):Nb.numR w (Nb.low w n++r)=some (n,r):=by rw[ug];have e:=Cp (Nb.low w n) r;rw[f9] at e;rw[e];show some (ee (Nb.low w n),r)=_;rw[Kj w n h]
theorem xV{w most n:Nat}(h:n<256 ^ w)(hm:n<=most)(r:Text):dc w most (Nb.low w n++r)=some (n,r):=by unfold dc;rw[xU h r];show(if most<n then none else some (n,r))=_;rw[if_neg (by omega)]
theorem uu{w most:Nat}{t:Text}(h:t.length<256 ^ w)(hm:t.length<=most)(r:Text):Nb.lenR w most ((Nb.low w t.length++t)++r)=some (t,r):=by rw[B1,cK,xV h hm];exact Cp t r
theorem xW{α:Type}{f:Nb.R α}{g:α->Text}:∀(xs:List α) (r:Text),(∀x∈xs,∀r,f (g x++r)=some (x,r))->Nb.timesR f xs.length (xs.flatMap g++r)=some (xs,r)
 |[],r,_=>rfl
 |x::xs,r,h=>by rw[kz,cK];show Nb.timesR f (xs.length+1) _=_;rw[mU (h x (bP ..) _),xW xs r λy hy=>h y (bO _ hy)];rfl
theorem Kk{t:Text}(h:Nb.nameOk t=true)(r:Text):dB (Nb.shortBytes t++r)=some (t,r):=by obtain⟨h1,h2⟩:=NB.n6 h;unfold dB;rw[xy,uu (by show t.length<256;omega) h2 r];show(if Nb.nameOk t=true then some (t,r) else none)=_;rw[if_pos h]
theorem Kl{ns:List Text}(h:Nb.leansOk ns=true)(r:Text):dM (Nb.namesBytes ns++r)=some (ns,r):=by obtain⟨h1,h2⟩:=NB.kY h;unfold dM;rw[xA,cK,xV (by show ns.length<256;omega) h1];exact xW ns r λx hx r=>Kk (h2 x hx) r
theorem uv(b:Bool)(r:Text):dJ (mB b::r)=some (b,r):=by
 unfold dJ;have e:mB b::r=Nb.low 1 (if b=true then 1 else 0)++r:=by rw[mR];cases b<;>rfl
 rw[e,xV (by show _<256;split<;>omega) (by split<;>omega)];cases b<;>rfl
theorem V6{c:Came}(h:Nb.cameOk c=true)(r:Text):gX (Nb.cameBytes c++r)=some (c,r):=by
 cases c with
 |value v=>have hv:v.length<=16384:=bw h;have e:Nb.cameBytes (.value v)++r=mB false::((Nb.low 4 v.length++v)++r):=rfl;unfold gX;rw[e,uv];simp only[gi,dS];rw[uu (by show _<4294967296;omega) (by show _<=16384;omega)]
 |bad n=>have h:(decide (n≠0)&&decide (n<Nb.W32))=true:=h;rw[bq] at h;have h0:=bw h.1;have h1:n<4294967296:=bw h.2;have e:Nb.cameBytes (.bad n)++r=mB true::(Nb.low 4 n++r):=rfl;unfold gX;rw[e,uv];simp only[eM];rw[xU (by show _<4294967296;omega)];simp only[h0,dS]
theorem V7{o:Option Last}(h:∀l,o=some l->Nb.lastOk l=true)(r:Text):fL (Nb.lastBytes o++r)=some (o,r):=by
 cases o with
 |none=>have e:Nb.lastBytes none++r=mB false::r:=rfl;unfold fL;rw[e,uv];simp only[gi,dS]
 |some l=>
  obtain⟨h1,h2,h3,h4,h5⟩:=NB.p7 (h l rfl);have e:Nb.lastBytes (some l)++r=mB true::((Nb.low 4 l.text.length++l.text)++(Nb.namesBytes l.names++(l.values.flatMap Nb.longBytes++(Nb.cameBytes l.came++r)))):=by show(1::(Nb.longBytes l.text++(Nb.namesBytes l.names++(l.values.flatMap Nb.longBytes++Nb.cameBytes l.came))))++r=_;unfold Nb.longBytes;simp only[qY,cK];rfl
  unfold fL;rw[e,uv];simp only[eM];rw[uu (by show _<4294967296;omega) (by show _<=65536;omega)];simp only;rw[Kl h2];simp only;rw[<-h3,xW (g:=Nb.longBytes) l.values _ λx hx r=>uu (by have:=h4 x hx;show _<4294967296;omega) (by have:=h4 x hx;show _<=16384;omega) r];simp only;rw[V6 h5]
theorem Km{i:Item}{p:Nat}(h:NB.Parts i)(hp:p<256)(r:Text):gY (Nb.itemBytes (i,p)++r)=some ((i,p),r):=by
 obtain⟨h1,h2,h3,h4⟩:=h;have e:Nb.itemBytes (i,p)++r=Nb.low 1 p++(Nb.shortBytes i.name++((Nb.low 4 i.text.length++i.text)++(Nb.namesBytes i.leans++(Nb.low 1 i.stands.num++(mB i.touched::(Nb.lastBytes i.last++r)))))):=by rw[mR,mR];show(UInt8.ofNat p::(Nb.shortBytes i.name++(Nb.longBytes i.text++(Nb.namesBytes i.leans++(UInt8.ofNat i.stands.num::(mB i.touched::Nb.lastBytes i.last))))))++r=_;unfold Nb.longBytes;simp only[qY,cK,yp]
 have hs:i.stands.num<=3:=by cases i.stands<;>decide
 have bS:stN i.stands.num=i.stands:=by cases i.stands<;>rfl
 unfold gY;rw[e,xU (by show p<256;omega)];simp only;rw[Kk h1];simp only;rw[uu (by show _<4294967296;omega) (by show _<=65536;omega)];simp only;rw[Kl h3];simp only;rw[xV (by show _<256;omega) hs];simp only;rw[uv];simp only;rw[V7 h4,bS]
theorem Kn{α:Type}{f g:Nb.R α}(h:∀s x r,f s=some (x,r)->g s=some (x,r)):∀(n:Nat) (s:Text) (y:List α×Text),Nb.timesR f n s=some y->Nb.timesR g n s=some y
 |0,s,y,e=>e
 |m+1,s,y,e=>by
  cases e1:f s with
  |none=>rw[uk e1] at e;cases e
  |some x=>
   rw[mU (x:=x.1) (r:=x.2) e1] at e;rw[mU (h s x.1 x.2 e1)];cases e2:Nb.timesR f m x.2 with
   |none=>rw[e2] at e;cases e
   |some z=>rw[e2] at e;rw[Kn h m _ z e2];exact e
theorem Ko{s r:Text}{ns:List Text}(h:dM s=some (ns,r)):Nb.namesR s=some (ns,r):=by
 unfold dM at h;cases e:dc 1 8 s with
 |none=>rw[e] at h;cases h
 |some x=>rw[e] at h;have h:Nb.timesR dB x.1 x.2=some (ns,r):=h;obtain⟨h1,h2⟩:=oW (n:=x.1) (r:=x.2) e;unfold Nb.namesR;rw[h2];show(if Nb.LEANS<x.1 then none else Nb.timesR (Nb.lenR 1 32) x.1 x.2)=_;rw[if_neg (show ¬Nb.LEANS<x.1 from by show ¬8<x.1;omega)];exact Kn (λs x r hh=>(uq hh).2) _ _ _ h
theorem V8{s r:Text}{c:Came}(h:gX s=some (c,r)):Nb.cameR s=some (c,r):=by
 unfold gX at h;cases e:dJ s with
 |none=>simp only[e] at h;cases h
 |some x=>
  obtain⟨m,r1⟩:=x;simp only[e] at h;have es:=oZ e;subst es;cases m with
  |true=>
   simp only[eM] at h;cases e2:Nb.numR 4 r1 with
   |none=>simp only[e2] at h;cases h
   |some y=>
    obtain⟨n,r2⟩:=y;simp only[e2] at h;split at h
    ·cases h
    ·cases h;show(Nb.numR 4 r1).map _=_;rw[e2];rfl
  |false=>
   simp only[gi,dS] at h;cases e2:Nb.lenR 4 Nb.VALUE r1 with
   |none=>simp only[e2] at h;cases h
   |some y=>obtain⟨v,r2⟩:=y;simp only[e2] at h;cases h;show(Nb.lenR 4 Nb.VALUE r1).map _=_;rw[e2];rfl
theorem V9{s r:Text}{o:Option Last}(h:fL s=some (o,r)):Nb.lastR s=some (o,r):=by
 unfold fL at h;cases e:dJ s with
 |none=>simp only[e] at h;cases h
 |some x=>
  obtain⟨m,r1⟩:=x;simp only[e] at h;have es:=oZ e;subst es;cases m with
  |false=>simp only[gi,dS] at h;cases h;rfl
  |true=>
   simp only[eM] at h;cases e2:Nb.lenR 4 Nb.TEXT r1 with
   |none=>simp only[e2] at h;cases h
   |some y=>
    obtain⟨t,r2⟩:=y;simp only[e2] at h;cases e3:dM r2 with
    |none=>simp only[e3] at h;cases h
    |some y=>
     obtain⟨ns,r3⟩:=y;simp only[e3] at h;cases e4:Nb.timesR (Nb.lenR 4 Nb.VALUE) ns.length r3 with
     |none=>simp only[e4] at h;cases h
     |some y=>
      obtain⟨vs,r4⟩:=y;simp only[e4] at h;cases e5:gX r4 with
      |none=>simp only[e5] at h;cases h
      |some y=>obtain⟨c,r5⟩:=y;simp only[e5] at h;cases h;show((Nb.lenR 4 Nb.TEXT r1).bind λ(x:Text×Text)=>(Nb.namesR x.2).bind λ(y:List Text×Text)=>(Nb.timesR (Nb.lenR 4 Nb.VALUE) y.1.length y.2).bind λ(z:List Text×Text)=>(Nb.cameR z.2).bind λ(v:Came×Text)=>some (some (⟨x.1,y.1,z.1,v.1⟩:Last),v.2))=some (some (⟨t,ns,vs,c⟩:Last),r);rw[e2,kD,Ko e3,kD,e4,kD,V8 e5];rfl
theorem Kp{s r:Text}{x:Item×Nat}(h:gY s=some (x,r)):Nb.itemR s=some (x,r):=by
 unfold gY at h;cases e1:Nb.numR 1 s with
 |none=>simp only[e1] at h;cases h
 |some y=>
  obtain⟨p',r1⟩:=y;simp only[e1] at h;cases e2:dB r1 with
  |none=>simp only[e2] at h;cases h
  |some y=>
   obtain⟨n,r2⟩:=y;simp only[e2] at h;cases e3:Nb.lenR 4 Nb.TEXT r2 with
   |none=>simp only[e3] at h;cases h
   |some y=>
    obtain⟨t,r3⟩:=y;simp only[e3] at h;cases e4:dM r3 with
    |none=>simp only[e4] at h;cases h
    |some y=>
     obtain⟨ls,r4⟩:=y;simp only[e4] at h;cases e5:dc 1 3 r4 with
     |none=>simp only[e5] at h;cases h
     |some y=>
      obtain⟨k,r5⟩:=y;simp only[e5] at h;cases e6:dJ r5 with
      |none=>simp only[e6] at h;cases h
      |some y=>
       obtain⟨b,r6⟩:=y;simp only[e6] at h;cases e7:fL r6 with
       |none=>simp only[e7] at h;cases h
       |some y=>
        obtain⟨la,r7⟩:=y;simp only[e7] at h;cases h;obtain⟨k3,ek⟩:=oW e5;have BH:Nb.standsOf k=some (stN k):=by
         match k,k3 with
         |0,_=>rfl
         |1,_=>rfl
         |2,_=>rfl
         |3,_=>rfl
        obtain⟨tn,et,Z5,Wa⟩:∃tn,Nb.numR 1 r5=some (tn,r6)/\tn<=1/\(tn==1)=b:=by
         unfold dJ at e6;cases e8:dc 1 1 r5 with
         |none=>rw[e8] at e6;cases e6
         |some z=>rw[e8] at e6;have e6:some (z.1==1,z.2)=some (b,r6):=e6;obtain⟨g1,g2⟩:=oW (n:=z.1) (r:=z.2) e8;cases e6;exact⟨z.1,g2,g1,rfl⟩
        show((Nb.numR 1 s).bind λ(x:Nat×Text)=>(Nb.lenR 1 32 x.2).bind λ(y:Text×Text)=>(Nb.lenR 4 Nb.TEXT y.2).bind λ(z:Text×Text)=>(Nb.namesR z.2).bind λ(l:List Text×Text)=>(Nb.numR 1 l.2).bind λ(k:Nat×Text)=>(Nb.standsOf k.1).bind λ(st:Stands)=>
         (Nb.numR 1 k.2).bind λ(t:Nat×Text)=>(Nb.lastR t.2).bind λ(la:Option Last×Text)=>if 1<t.1 then none else some (((⟨y.1,z.1,l.1,st,t.1==1,la.1⟩:Item),x.1),la.2))=some (((⟨n,t,ls,stN k,b,la⟩:Item),p'),r)
        rw[e1,kD,(uq e2).2,kD,e3,kD,Ko e4,kD,ek,kD,BH,kD,et,kD,V9 e7,kD];show(if 1<tn then none else some (((⟨n,t,ls,stN k,tn==1,la⟩:Item),p'),r))=_;rw[if_neg (by omega),Wa]
theorem Wb{b:Nb.Book}{p:Nat}{i:Item}(h:b.items[p]?=some none)(hf:∀q,p<q->∀j,b.items[q]?≠some (some j)):Nb.placed (b.set p (some i))=Nb.placed b++[(i,p)]:=by
 have key:∀(l:List (Option Item)) (p k:Nat),l[p]?=some none->(∀q,p<q->∀j,l[q]?≠some (some j))->((l.set p (some i)).zipIdx k).filterMap (λx=>x.1.map λi=>(i,x.2))=((l.zipIdx k).filterMap λx=>x.1.map λi=>(i,x.2))++[(i,k+p)]:=λl=>by
  induction l with
  |nil=>intro p k h;simp at h
  |cons a r ih=>
   intro p k h hf;cases p with
   |zero=>
    have h:a=none:=by simpa using h
    subst h;have nil:∀(m:List (Option Item)) (k:Nat),(∀(q:Nat) (j:Item),m[q]?≠some (some j))->((m.zipIdx k).filterMap λx=>x.1.map λi=>(i,x.2))=[]:=λm=>by
     induction m with
     |nil=>intro k _;rfl
     |cons c m Wc=>
      intro k hm;cases c with
      |some j=>exact absurd rfl (hm 0 j)
      |none=>exact Wc (k+1) λq j e=>hm (q+1) j e
    rw[List.set_cons_zero,qW,qW];show(i,k)::((r.zipIdx (k+1)).filterMap λx=>x.1.map λi=>(i,x.2))=((r.zipIdx (k+1)).filterMap λx=>x.1.map λi=>(i,x.2))++[(i,k+0)];rw[nil r (k+1) λq j e=>hf (q+1) (by omega) j e];rfl
   |succ p=>
    have Kq:=ih p (k+1) (by simpa using h) λq hq j e=>hf (q+1) (by omega) j e;rw[List.set_cons_succ,qW,qW];cases a with
    |none=>show((r.set p (some i)).zipIdx (k+1)).filterMap _=_++_;rw[Kq,show k+1+p=k+(p+1) by omega];rfl
    |some j=>show(j,k)::((r.set p (some i)).zipIdx (k+1)).filterMap _=(j,k)::_++_;rw[Kq,show k+1+p=k+(p+1) by omega];rfl
 have:=key b.items p 0 h hf;rw[yt] at this;exact this
noncomputable def mY(b:Nb.Book)(l:List (Item×Nat)):Nb.Book:=l.foldl (λb x=>b.set x.2 (some x.1)) b
theorem Cq:∀(l:List (Item×Nat)) (b:Nb.Book),(mY b l).items=l.foldl (λa x=>a.set x.2 (some x.1)) b.items/\(mY b l).runs=b.runs
 |[],b=>⟨rfl,rfl⟩
 |x::l,b=>Cq l (b.set x.2 (some x.1))
theorem Cr:∀(n lo:Nat) (b b':Nb.Book) (s r:Text),LI b lo->eJ n lo b s=some (b',r)->∃l,Nb.timesR Nb.itemR n s=some (l,r)/\b'=mY b l/\Nb.placed b'=Nb.placed b++l/\s=l.flatMap Nb.itemBytes++r/\l.length=n
 |0,lo,b,b',s,r,_,h=>by cases h;exact⟨[],rfl,rfl,by rw[ez],rfl,rfl⟩
 |n+1,lo,b,b',s,r,L,h=>by
  cases e:gY s with
  |none=>simp only[eJ,e] at h;cases h
  |some x=>
   obtain⟨⟨i,p⟩,r1⟩:=x;have h:(if p<lo\/(b.find i.name).isSome=true then none else eJ n (p+1) (b.set p (some i)) r1)=some (b',r):=by simp only[eJ,e] at h;exact h
   split at h
   ·cases h
   ·rename_i hc;have c6:lo<=p:=Nat.le_of_not_lt λz=>hc (.inl z);have rA:b.find i.name=none:=by
     cases ef:b.find i.name with
     |none=>rfl
     |some q=>exact absurd (.inr (by rw[ef];rfl)) hc
    obtain⟨hp,iH⟩:=J5 e;have hn:=L.xP c6 iH;obtain⟨l,h1,h2,h3,h4,h5⟩:=Cr n (p+1) _ b' r1 r (L.step c6 iH rA hp) h;refine⟨(i,p)::l,?_,h2,?_,?_,by rw[cu,h5]⟩
    ·rw[mU (Kp e),h1];rfl
    ·rw[h3,Wb hn λq hq j=>L.free q (by omega) j,cK];rfl
    ·rw[V5 e,h4,kz,cK]
theorem Kr:Nb.placed Nb.empty=[]:=by decide +kernel
theorem Wd{s:Text}{b:Nb.Book}(h:jJ s=some b):Nb.readBook s=some b:=by
 unfold jJ at h;cases e1:Nb.takeR 4 s with
 |none=>simp only[e1] at h;cases h
 |some x=>
  obtain⟨m,r⟩:=x;simp only[e1] at h;split at h
  ·cases h
  ·rename_i hm;have hm:m=Nb.MARK:=Zm λz=>hm z;unfold qI at h;cases e2:Nb.numR 2 r with
   |none=>simp only[e2] at h;cases h
   |some x=>
    obtain⟨n,r1⟩:=x;simp only[e2] at h;cases e3:eJ n 0 Nb.empty r1 with
    |none=>simp only[e3] at h;cases h
    |some x=>
     obtain⟨b',r2⟩:=x;simp only[e3] at h;split at h
     ·rename_i hc;obtain⟨qo,qr⟩:=hc;cases h;obtain⟨l,h1,h2,h3,h4,h5⟩:=Cr n 0 Nb.empty b r1 r2 LI.empty e3;rw[Kr,yp] at h3;have Z6:n<=256:=by have g1:=NB.fV b;have g2:=(NB.BI.of_ok qr).len;rw[h3,h5,g2] at g1;exact g1
      obtain⟨i1,i2⟩:=Cq l Nb.empty;have hb:(⟨l.foldl (λa x=>a.set x.2 (some x.1)) (List.replicate Nb.PLACES none),0⟩:Nb.Book)=b:=by rw[h2];refine NB.z8 (λq=>?_) i2.symm;rw[i1];rfl
      have Ct:b.bytes=s:=by unfold Nb.Book.bytes;rw[h3,h5,(Cn e1).1,hm,xS e2,h4,qo,ez]
      unfold Nb.readBook;rw[e1];show(if m≠Nb.MARK then none else match Nb.numR 2 r with | none=>none | some (n,r)=>if Nb.PLACES<n then none else match Nb.timesR Nb.itemR n r with | none=>none | some (l,r)=>let b:Nb.Book:=⟨l.foldl (λa x=>a.set x.2 (some x.1)) (List.replicate Nb.PLACES none),0⟩;if r=[]/\b.ok=true/\b.bytes=s then some b else none)=_;rw[if_neg (λz=>z hm),e2];show(if Nb.PLACES<n then none else match Nb.timesR Nb.itemR n r1 with | none=>none | some (l,r)=>let b:Nb.Book:=⟨l.foldl (λa x=>a.set x.2 (some x.1)) (List.replicate Nb.PLACES none),0⟩;if r=[]/\b.ok=true/\b.bytes=s then some b else none)=_;rw[if_neg (show ¬Nb.PLACES<n from by show ¬256<n;omega),h1];show(if r2=[]/\(⟨l.foldl (λa x=>a.set x.2 (some x.1)) (List.replicate Nb.PLACES none),0⟩:Nb.Book).ok=true/\(⟨l.foldl (λa x=>a.set x.2 (some x.1)) (List.replicate Nb.PLACES none),0⟩:Nb.Book).bytes=s then some (⟨l.foldl (λa x=>a.set x.2 (some x.1)) (List.replicate Nb.PLACES none),0⟩:Nb.Book) else none)=_;rw[hb,if_pos ⟨qo,qr,Ct⟩]
     ·cases h
theorem Ks{s:Text}{b:Nb.Book}(h:Nb.readBook s=some b):b.ok=true/\b.bytes=s/\b.runs=0:=by
 unfold Nb.readBook at h;cases e1:Nb.takeR 4 s with
 |none=>rw[e1] at h;cases h
 |some x=>
  obtain⟨m,r⟩:=x;rw[e1] at h;simp only at h;split at h
  ·cases h
  ·split at h
   ·cases h
   ·split at h
    ·cases h
    ·split at h
     ·cases h
     ·split at h
      ·rename_i hc;have hb:=a4 h;rw[<-hb];exact⟨hc.2.1,hc.2.2,rfl⟩
      ·cases h
inductive lK:Nat->List (Item×Nat)->Prop
 |nil {lo:Nat}:lK lo []
 |cons {lo:Nat} {x:Item×Nat} {l:List (Item×Nat)} (h:lo<=x.2) (t:lK (x.2+1) l):lK lo (x::l)
theorem lK.mono{lo Kt:Nat}{l:List (Item×Nat)}(h:lK lo l)(hl:Kt<=lo):lK Kt l:=by
 cases h with
 |nil=>exact .nil
 |cons h t=>exact .cons (aS hl h) t
theorem We(b:Nb.Book):lK 0 (Nb.placed b):=by
 have:∀(l:List (Option Item)) (k:Nat),lK k ((l.zipIdx k).filterMap λx=>x.1.map λi=>(i,x.2)):=λl=>by
  induction l with
  |nil=>intro k;exact .nil
  |cons a r ih=>
   intro k;rw[qW];cases a with
   |none=>exact(ih (k+1)).mono (Nat.le_succ k)
   |some i=>exact .cons (bB k) (ih (k+1))
 exact this b.items 0
theorem Ku:∀(l:List (Item×Nat)) (lo:Nat) (b:Nb.Book) (r:Text),LI b lo->lK lo l->(∀x∈l,NB.Parts x.1/\x.2<256)->(l.map λx=>x.1.name).Nodup->(∀x∈l,b.find x.1.name=none)->eJ l.length lo b (l.flatMap Nb.itemBytes++r)=some (mY b l,r)
 |[],lo,b,r,_,_,_,_,_=>rfl
 |x::l,lo,b,r,L,hr,hp,hn,hf=>by
  cases hr with
  |cons c6 hr=>
  obtain⟨Kv,iH⟩:=hp x (bP ..);have Cu:=hf x (bP ..);rw[bX] at hn;obtain⟨n1,n2⟩:=eL.mp hn;have Cg:=L.xP c6 iH;rw[kz,cK];have e:=Km Kv iH (l.flatMap Nb.itemBytes++r);show eJ (l.length+1) lo b _=_;have e:gY (Nb.itemBytes x++(l.flatMap Nb.itemBytes++r))=some (x,l.flatMap Nb.itemBytes++r):=e;have es:eJ (l.length+1) lo b (Nb.itemBytes x++(l.flatMap Nb.itemBytes++r))=if x.2<lo\/(b.find x.1.name).isSome=true then none else eJ l.length (x.2+1) (b.set x.2 (some x.1)) (l.flatMap Nb.itemBytes++r):=by simp only[eJ,e]
  rw[es,if_neg (by rintro(z | z);omega;rw[Cu] at z;cases z)];refine Ku l (x.2+1) _ r (L.step c6 iH Cu Kv) hr (λy hy=>hp y (bO _ hy)) n2 λy hy=>?_;rw[NB.su L.wb.nd Cg Cu,if_neg λz=>n1 (by rw[<-z];exact cU.mpr ⟨y,hy,rfl⟩)];exact hf y (bO _ hy)
theorem Wf{a b:Nb.Book}(h1:a.items.length=256)(h2:b.items.length=256)(h:Nb.placed a=Nb.placed b)(hr:a.runs=b.runs):a=b:=by
 refine NB.z8 (λq=>?_) hr;by_cases hq:q<256
 ·obtain⟨o,ho⟩:∃o,a.items[q]?=some o:=⟨_,fm (by rw[h1];exact hq)⟩;obtain⟨o',cX⟩:∃o,b.items[q]?=some o:=⟨_,fm (by rw[h2];exact hq)⟩;rw[ho,cX];cases o with
  |some i=>
   have:(i,q)∈Nb.placed b:=by rw[<-h];exact NB.b7.mpr ho
   have:=NB.b7.mp this;rw[cX] at this;exact this.symm
  |none=>
   cases o' with
   |none=>rfl
   |some i=>
    have:(i,q)∈Nb.placed a:=by rw[h];exact NB.b7.mpr cX
    have:=NB.b7.mp this;rw[ho] at this;cases this
 ·rw[lN (by omega),lN (by omega)]
theorem Wg(l:List (Item×Nat)):∀b:Nb.Book,(mY b l).items.length=b.items.length:=by
 induction l with
 |nil=>intro b;rfl
 |cons x l ih=>intro b;show(mY (b.set x.2 (some x.1)) l).items.length=_;rw[ih,NB.fE]
theorem Wh{s:Text}{b:Nb.Book}(h:Nb.readBook s=some b):jJ s=some b:=by
 obtain⟨ao,Ct,Wi⟩:=Ks h;have BI:=NB.BI.of_ok ao;have nl:=NB.fV b;rw[BI.len] at nl;have Wj:∀t:Text,Nb.empty.find t=none:=λt=>by
  cases e:Nb.empty.find t with
  |none=>rfl
  |some q=>obtain⟨i,e1,_⟩:=NB.find_some e;exact absurd e1 (LI.empty.free q (bY _) i)
 have ec:=Ku (Nb.placed b) 0 Nb.empty [] LI.empty (We b) (λx hx=>by
  have hi:=NB.b7.mp hx;obtain⟨o1,o2,o3,o4,_⟩:=NB.d8 (BI.ok _ _ hi).1;exact⟨⟨o1,o2,o3,o4⟩,by rw[<-BI.len];exact(bh.mp hi).1⟩) (NB.wu b BI.nd) (λx _=>Wj _)
 obtain⟨l,h1,h2,h3,h4,h5⟩:=Cr _ _ _ _ _ _ LI.empty ec;have eQ:Nb.placed (mY Nb.empty (Nb.placed b))=Nb.placed b:=by
  rw[h3,Kr,yp];have e1:=xW (f:=Nb.itemR) (g:=Nb.itemBytes) (Nb.placed b) [] λx hx r=>by have hi:=NB.b7.mp hx;obtain⟨o1,o2,o3,o4,_⟩:=NB.d8 (BI.ok _ _ hi).1;exact Kp (Km ⟨o1,o2,o3,o4⟩ (by rw[<-BI.len];exact(bh.mp hi).1) r)
  rw[h1] at e1;cases e1;rfl
 have hb:mY Nb.empty (Nb.placed b)=b:=Wf (by rw[Wg];exact LI.empty.wb.len) BI.len eQ (by rw[(Cq _ _).2,Wi];rfl);have es:s=Nb.MARK++(Nb.low 2 (Nb.placed b).length++((Nb.placed b).flatMap Nb.itemBytes++[])):=by rw[<-Ct,ez];rfl
 have t4:Nb.takeR 4 s=some (Nb.MARK,Nb.low 2 (Nb.placed b).length++((Nb.placed b).flatMap Nb.itemBytes++[])):=by rw[es];exact Cp Nb.MARK _
 unfold jJ;rw[t4];simp only;rw[if_neg (λz=>z rfl)];unfold qI;rw[xU (by show _<65536;omega)];simp only;rw[ec,hb];simp only;rw[if_pos ⟨trivial,ao⟩]
theorem Kw(s:Text):jJ s=Nb.readBook s:=by
 cases e:jJ s with
 |some b=>rw[Wd e]
 |none=>
  cases e2:Nb.readBook s with
  |none=>rfl
  |some b=>rw[Wh e2] at e;cases e
section
variable {P:Program}{w:World}{K:PySem.W.Frag}{mg:Str->Option Value}{base:Heap}{C:Cs}
noncomputable abbrev Kx:Stmt:=top 75
noncomputable def Ky(C:Cs):Sp:=λvs H Q _=>∃(g:Gh) (s:Nb.State) (wa:Addr) (t:Text),vs=[.ref g.ba,.ref wa]/\dg C H g s/\NB.SI s/\ay H wa t/\t.length<=1000000/\dI C H g (Nb.step s (.load t)) Q
theorem Wk(T:Tx K mg C)(F:aR K mg "load" Kx ["book","written"])(D1:Ok P w K mg base (bC P w C.bD) 10 "read_book" ["written"] (Ka C)):Ok P w K mg base aq 11 "load" ["book","written"] (Ky C):=by
 have sc:=sk (P:=["book","written"]) (st:=Kx) ["book","written","loaded"];refine F.ok sc (λvs H Q E h=>?_) (λf aD A outer s H vs Q E hr h=>?_)
 ·obtain⟨g,st,wa,t,rfl,_⟩:=h;rfl
 ·obtain⟨g,st,wa,t,rfl,SR,S,Ci,hl,k⟩:=h;obtain⟨wv,m,al,R,W⟩:=id SR;refine⟨_,af (aO (cw (ft (aj (pv 0) rfl))) (ah (aC (br (aa (aM T.qe) ae)))) aP)
   (af (Pl (E:=λ_ _ H'=>ai H H'/\jJ t=none) rfl rfl rfl T.k9 rfl T.lj
    (λpn xe hp=>ah (aN (i:=2) sc.nd rfl (Or.inl rfl) (az D1 hr rfl hp (aa (pv 1) ae))))
    (λpn ea=>ah (aC (br (aa (aM T.Rb) ae)))))
   (af (bI (pv 0) (aj (pv 2) rfl) rfl) (af (bI (pv 0) (aj (pv 2) rfl) rfl) (af (bI (pv 0) aK rfl) (ah (aC (br (aa aK ae)))))))),?_⟩
  have aJ:Nb.step st (.load t)=match st.wait with
   |some _=>(st,.refused (-8))
   |none=>(⟨(Nb.changed st.book (.load t)).1,none⟩,(Nb.changed st.book (.load t)).2):=by
   unfold Nb.step;cases st.wait<;>rfl
  refine⟨_,rfl,g.ba,C.book,g.bd,_,_,rfl,R.book,T.bx,T.j9,oo ..,_,rfl,?_⟩;rcases oE W with ⟨rfl,ew⟩ | ⟨a,w',rfl,ew,aZ,iX⟩
  ·rw[ew] at aJ;have cg:Nb.changed st.book (.load t)=match jJ t with | some c=>(c,.nums [0]) | none=>(st.book,.refused (-2)):=by rw[Kw];rfl
   rw[cg] at aJ;refine bJ ⟨?_,λσ' H' hlen hE=>?_⟩
   ·refine⟨_,rfl,wa,t,rfl,Ci,hl,?_⟩;cases e:jJ t with
    |none=>exact λH' s'=>⟨s',rfl⟩
    |some c=>
     rw[e] at aJ;have aJ:Nb.step st (.load t)=(⟨c,none⟩,.nums [0]):=aJ;rw[aJ] at k;intro H1 g1 s1 R1 o7;have b1:=s1 _ _ R.book;have nb:g1.ba≠g.ba:=λz=>by have:=o7 g1.ba (.inl rfl);rw[z,R.book] at this;cases this
     refine⟨_,rfl,g1.ba,C.book,g1.bd,_,_,rfl,R1.book,T.bx,T.fZ,gP ..,_,rfl,g.ba,C.book,g.bd,_,rfl,b1,T.bx,T.fZ,(by show 6<1000;decide),?_⟩;refine⟨_,rfl,g1.ba,C.book,g1.bd,_,_,rfl,by rw[aw nb];exact R1.book,T.bx,T.gO,iS ..,_,rfl,g.ba,C.book,g.bd,_,rfl,ag,T.bx,T.gO,(cH (bg (by show 6<=19;decide))),?_⟩;refine⟨_,rfl,g.ba,C.book,g.bd,_,rfl,ag,T.bx,T.wD,(cH (bg (bg (by show 6<=18;decide)))),?_⟩;rw[bc,bc];have ep:bM "runs" (.int 0) (bM "named" (.ref g1.da) (bM "cells" (.ref g1.ca) (bf g.ca g.da st.book.runs .ak m al)))=bf g1.ca g1.da 0 .ak m al:=by kernel_rfl
     rw[ep];have Wl:c.runs=0:=by rw[Kw] at e;exact(Ks e).2.2
     have kp:aW (·=g.ba) H1 (upd H1 g.ba (.ins C.book g.bd (bf g1.ca g1.da 0 .ak m al))):=dF rfl;have aB:cq C H1 (upd H1 g.ba (.ins C.book g.bd (bf g1.ca g1.da 0 .ak m al))):=Au λo' e'=>by
      rw[b1] at e';cases e';rintro(⟨xs,z⟩ | ⟨cG,fs,z⟩)
      ·cases z
      ·exact kh T.Gz z
     have ne1:∀x,g1.foot x->x≠g.ba:=λx hx z=>by have:=o7 x hx;rw[z,R.book] at this;cases this
     obtain⟨kvs,q1,q2,q3,q4⟩:=R1.named;have R2:Rep C (upd H1 g.ba (.ins C.book g.bd (bf g1.ca g1.da 0 .ak m al))) ⟨g.ba,g.bd,g1.ca,g1.da,g1.cs⟩ c .ak m al:=by
      refine⟨by rw[Wl];exact ag,kp _ _ R1.cells (ne1 _ (.inr (.inl rfl))),R1.len,mM (by rw[R1.len];exact R1.dG.symm) λq cc o Kz Wm=>?_,kvs,kp _ _ q1 (ne1 _ (.inr (.inr (.inl rfl)))),q2,q3,q4⟩;have h3:=R1.oz Kz Wm;cases cc with
      |none=>cases o<;>exact h3
      |some a'=>
       cases o with
       |none=>exact h3
       |some j=>exact bt.aB h3 aB λu eu=>kp _ _ eu (ne1 _ (.inr (.inr (.inr (cE Kz)))))
     have po:bA g H (upd H1 g.ba (.ins C.book g.bd (bf g1.ca g1.da 0 .ak m al))) ⟨g.ba,g.bd,g1.ca,g1.da,g1.cs⟩:=by
      refine⟨rfl,(ai.keep s1).trans (kp.mono λx h=>.inl h),λx hx=>?_,λx hx=>s1.free (kp.free hx λz=>by rw[z,ag] at hx;cases hx)⟩;rcases hx with z | z | z | z
      ·exact .inl (.inl z)
      ·exact .inr (o7 x (.inr (.inl z)))
      ·exact .inr (o7 x (.inr (.inr (.inl z))))
      ·exact .inr (o7 x (.inr (.inr (.inr z))))
     exact⟨bE,λl du=>k.tell po ⟨_,m,al,R2,rfl⟩ du rfl⟩
   ·obtain⟨s1,en⟩:=hE;rw[en] at aJ;have aJ:Nb.step st (.load t)=(⟨st.book,none⟩,.refused (-2)):=aJ;rw[aJ] at k;exact⟨bE,λl du=>k.tell (bA.same s1) ⟨_,m,al,R.same s1,rfl⟩ du rfl⟩
  ·rw[ew] at aJ;have aJ:Nb.step st (.load t)=(st,.refused (-8)):=aJ;rw[aJ] at k;exact bF ⟨bE,λl du=>k.dh SR du rfl⟩
end
noncomputable def iv(l:List Int):List V:=l.map V.int
theorem qK(l:List Int):(iv l).length=l.length:=aF ..
theorem xX{l:List Int}{i:Nat}{x:Int}(h:l[i]?=some x):(iv l)[i]?=some (.int x):=by unfold iv;rw[cJ,h];rfl
noncomputable def lf(p:Int)(na ta:Addr)(b:Nat):List (Str×V):=[("number",.int p),("numbers",.ref na),("texts",.ref ta),("behind",.int (b:Int))]
theorem KA(p:Int)(na ta:Addr)(b:Nat):(lf p na ta b).lookup ("number":Str)=some (.int p):=by kernel_rfl
theorem ku(p:Int)(na ta:Addr)(b:Nat):(lf p na ta b).lookup ("numbers":Str)=some (.ref na):=by kernel_rfl
theorem mZ(p:Int)(na ta:Addr)(b:Nat):(lf p na ta b).lookup ("texts":Str)=some (.ref ta):=by kernel_rfl
theorem Wn(p:Int)(na ta:Addr)(b:Nat):(lf p na ta b).lookup ("behind":Str)=some (.int (b:Int)):=by kernel_rfl
noncomputable def o8(H:Hp)(a:Addr)(x:List Int):Prop:=H a=some (.tup (iv x))
structure Cv(C:Cs)(H:Hp)(a:Addr)(p:Int)(ns:List Int)(xs:List (List Int))(b:Nat):Prop where
 ex:∃dx na ta as,H a=some (.ins C.call dx (lf p na ta b))/\H na=some (.lst (iv ns))/\H ta=some (.lst (as.map V.ref))/\Paired (λa x=>o8 H a x) as xs
theorem xY{r x s:List Int}(h:PyFlat.row r=some (x,s)):∃n:Nat,∃r',r=(n:Int)::r'/\n<=r'.length/\x=r'.take n/\s=r'.drop n:=by
 cases r with
 |nil=>cases h
 |cons m r'=>
  have h:(if 0<=m/\m.toNat<=r'.length then some (r'.take m.toNat,r'.drop m.toNat) else none)=some (x,s):=h;split at h
  ·rename_i hc;cases h;refine⟨m.toNat,r',by rw[lO hc.1],hc.2,rfl,rfl⟩
  ·cases h
theorem Cw{k:Nat}{r:List Int}(h:PyFlat.row r=none):PyFlat.rows (k+1) r=none:=by unfold PyFlat.rows;rw[h]
theorem Cy{k:Nat}{r x s:List Int}(h:PyFlat.row r=some (x,s)):PyFlat.rows (k+1) r=(PyFlat.rows k s).map λy=>(x::y.1,y.2):=by
 conv=>lhs;unfold PyFlat.rows
 rw[h];show(match PyFlat.rows k s with | none=>none | some (xs,t)=>some (x::xs,t))=_;cases PyFlat.rows k s<;>rfl
noncomputable def uw(k:Nat)(r:List Int)(i:Nat)(xs:List (List Int))(ri:List Int):Prop:=PyFlat.rows k r=(PyFlat.rows (k-i) ri).map λy=>(xs++y.1,y.2)
theorem drop_cons{L:List Int}{k:Nat}{x:Int}{r:List Int}(h:L.drop k=x::r):L[k]?=some x/\L.drop (k+1)=r:=by
 constructor
 ·have:(L.drop k)[0]?=some x:=by rw[h];rfl
  rw[List.getElem?_drop,Nat.add_zero] at this;exact this
 ·have:(L.drop k).drop 1=r:=by rw[h];rfl
  rw[C8] at this;exact this
theorem KC{L:List Int}{a n:Nat}(h:a+n<=L.length):gJ (iv L) (some (a:Int)) (some ((a+n:Nat):Int))=iv ((L.drop a).take n):=by unfold gJ;rw[HT.rL,HT.rL,qK,show min a L.length=a by omega,show min (a+n) L.length=a+n by omega,Zp];unfold iv;rw[LQ,List.map_drop]
theorem KD:∀(k:Nat) (r:List Int) (xs:List (List Int)) (s:List Int),PyFlat.rows k r=some (xs,s)->k<=r.length
 |0,_,_,_,_=>bY _
 |k+1,r,xs,s,h=>by
  cases e:PyFlat.row r with
  |none=>rw[Cw e] at h;cases h
  |some x=>
   rw[Cy (x:=x.1) (s:=x.2) e] at h;cases e2:PyFlat.rows k x.2 with
   |none=>rw[e2] at h;cases h
   |some y=>have:=KD k x.2 y.1 y.2 e2;obtain⟨n,r',h1,h2,h3,h4⟩:=xY (x:=x.1) (s:=x.2) e;rw[h4,lP] at this;rw[h1,cu];omega
section
variable {P:Program}{w:World}{K:PySem.W.Frag}{mg:Str->Option Value}{base:Heap}{C:Cs}
noncomputable abbrev KG:Stmt:=top 2
noncomputable def KH(K:PySem.W.Frag)(C:Cs):Sp:=λvs H Q _=>∃(ca:Addr) (L:List Int) (s:Nat) (p:Int) (ns:List Int) (xs:List (List Int)) (u:List Int),vs=[.ref ca,.int (s:Int)]/\ax K H ca (iv L)/\L.length<=1000000/\(∀H',ai H H'->ax K H' ca (iv L))/\PyWide.call (L.drop s)=some ((p::ns)::xs,u)/\
 ∀H' a b,ai H H'->H a=none->Cv C H' a p ns xs b->L.drop b=u->b<=L.length->s<b->Q (.ref a) H'
theorem Wo(T:Tx K mg C)(F:aR K mg "read_call" KG ["calls","start"])(D1:fj P w K mg base 1 "Call" C.call ["self","number","numbers","texts","behind"] (gR C.call 4 AV)):Ok P w K mg base aq 3 "read_call" ["calls","start"] (KH K C):=by
 have sc:=sk (P:=["calls","start"]) (st:=KG) ["calls","start","numbers_begin","numbers_end","numbers","texts","at","count","end"];refine F.ok sc (λvs H Q E h=>?_) (λf aD A outer s H vs Q E hr h=>?_)
 ·obtain⟨ca,L,s,p,ns,xs,u,rfl,_⟩:=h;rfl
 ·obtain⟨ca,L,st,p,ns,xs,u,rfl,aU,hL,xZ,b6,k⟩:=h;refine⟨_,af (aN (i:=2) sc.nd rfl (Or.inl rfl) (cB jZ (pv 1) aK))
   (af (aN (i:=3) sc.nd rfl (Or.inl rfl) (cB jZ (pv 2) (cx cC (pv 0) (cB jZ (pv 1) aK) (λ_ _=>rfl))))
   (af (aN (i:=4) sc.nd rfl (Or.inl rfl) (vk yZ (pv 0) (nE (pv 2)) (nE (pv 3))))
   (af (aN (i:=5) sc.nd rfl (Or.inl rfl) (br ae))
   (af (aN (i:=6) sc.nd rfl (Or.inl rfl) (cB jZ (pv 3) aK))
   (af (cR PassesOwn.never rfl (pG rfl T.qd (aa (cx cC (pv 0) (pv 3) (λ_ _=>rfl)) ae)) (bQ (i:=7) sc.nd rfl (Or.inl rfl))
    (af (aN (i:=8) sc.nd rfl (Or.inl rfl) (cB jZ (cB jZ (pv 6) aK) (cx cC (pv 0) (pv 6) (λ_ _=>rfl))))
    (af (cb (cZ di gC gB fT (pv 5) (aa (kM rN rfl T.sW yk (aa (vk yZ (pv 0) (nE (cB jZ (pv 6) aK)) (nE (pv 8))) ae)) ae)))
    (ah (aN (i:=6) sc.nd rfl (Or.inl rfl) (pv 8))))))
   (ah (aC (ly D1 (hr.mono (by decide)) rfl (aa (cx cC (pv 0) (pv 1) (λ_ _=>rfl)) (aa (pv 4) (aa (pv 5) (aa (pv 6) ae)))))))))))),?_⟩
  obtain⟨r0,Wq,n,r1,kk,t,e1,hn,e2,e3,e4⟩:∃(r0:List Int) (_:L.drop st=p::r0) (n:Nat) (r1:List Int) (kk:Nat) (t:List Int),r0=(n:Int)::r1/\n<=r1.length/\ns=r1.take n/\r1.drop n=(kk:Int)::t/\PyFlat.rows kk t=some (xs,u):=by
   cases el:L.drop st with
   |nil=>rw[el] at b6;cases b6
   |cons p' r0=>
    rw[el] at b6;unfold PyWide.call at b6;cases er:PyFlat.row r0 with
    |none=>simp only[er] at b6;cases b6
    |some y=>
     obtain⟨Z7,y2⟩:=y;simp only[er] at b6;obtain⟨n,r1,g1,g2,g3,g4⟩:=xY er;cases y2 with
     |nil=>simp only at b6;cases b6
     |cons k' t=>
      simp only at b6;split at b6
      ·rename_i hk;cases o9:PyFlat.rows k'.toNat t with
       |none=>simp only[o9] at b6;cases b6
       |some z=>obtain⟨ic,u'⟩:=z;simp only[o9] at b6;cases b6;exact⟨r0,rfl,n,r1,k'.toNat,t,g1,g2,g3,by rw[lO hk];exact g4.symm,o9⟩
      ·cases b6
  obtain⟨a0,d1⟩:=drop_cons Wq;rw[e1] at d1;obtain⟨a1,d2⟩:=drop_cons d1;have d3:L.drop (st+1+1+n)=(kk:Int)::t:=by rw[<-C8,d2,e3]
  obtain⟨a2,d4⟩:=drop_cons d3;have Z8:st+1+1+n<L.length:=(bh.mp a2).1;have Wr:kk<=L.length:=by have:=KD _ _ _ _ e4;rw[<-d4,lP] at this;omega
  have KJ:gJ (iv L) (some ((st:Int)+2)) (some ((st:Int)+2+(n:Int)))=iv ns:=by rw[show(st:Int)+2=((st+1+1:Nat):Int) by omega,show((st+1+1:Nat):Int)+(n:Int)=((st+1+1+n:Nat):Int) by omega,KC (by omega),d2,<-e2]
  refine⟨_,rfl,_,_,rfl,rfl,?_⟩;refine⟨_,rfl,_,rfl,_,rfl,_,_,rfl,rfl,ca,_,_,.int (n:Int),rfl,rfl,aU,at_of (j:=st+1) (by omega) (xX a1),_,_,rfl,rfl,?_⟩;refine⟨_,rfl,_,rfl,_,rfl,_,rfl,_,rfl,ca,_,rfl,aU,λna tJ=>?_⟩;have Z9:gJ (iv L) (some ((λi j=>i+j) (st:Int) 2)) (some ((λi j=>i+j) ((λi j=>i+j) (st:Int) 2) (n:Int)))=iv ns:=KJ;have s1:ai H (upd H na (.lst (iv ns))):=aG tJ;have Cz:(upd H na (.lst (iv ns))) na=some (.lst (iv ns)):=ag;rw[KJ];generalize upd H na (.lst (iv ns))=H1 at s1 Cz;refine⟨bY _,λtx x8=>?_⟩;have s2:ai H1 (upd H1 tx (.lst [])):=aG x8;have KL:(upd H1 tx (.lst [])) tx=some (.lst []):=ag;have KN:H tx=none:=s1.free x8;generalize upd H1 tx (.lst [])=H2 at s2 KL;have qJ:=s1.trans s2;refine⟨_,rfl,_,_,rfl,rfl,?_⟩;refine⟨_,rfl,_,rfl,ca,_,_,.int (kk:Int),rfl,rfl,xZ H2 qJ,at_of (j:=st+1+1+n) (by omega) (xX a2),(kk:Int),rfl,by omega,by omega,?_⟩;refine vb (n:=(kk:Int).toNat) (λi σ H'=>∃(at':Nat) (ic:List (List Int)) (as:List Addr) (v7 v8:Option V),σ=[some (.ref ca),some (.int (st:Int)),some (.int ((st:Int)+2)),some (.int ((st:Int)+2+(n:Int))),some (.ref na),some (.ref tx),some (.int (at':Int)),v7,v8]/\aW (·=tx) H2 H'/\H' tx=some (.lst (as.map V.ref))/\Paired (λa x=>o8 H' a x) as ic/\ic.length=i/\uw kk t i ic (L.drop at')/\at'<=L.length/\st<at')
   ⟨st+1+1+n+1,[],[],none,none,?_,aW.refl,KL,.nil,rfl,?_,by omega,by omega⟩ ?_ ?_
  ·show _=[_,_,_,_,_,_,some (V.int ((st+1+1+n+1:Nat):Int)),none,none];rw[show((st+1+1+n+1:Nat):Int)=(st:Int)+2+(n:Int)+1 by omega];rfl
  ·unfold uw;rw[C9,d4];cases PyFlat.rows kk t<;>rfl
  ·rintro i σ H3 hi ⟨at',ic,as,v7,v8,rfl,kp,x9,hp,hlen,iy,KO,bS⟩;rw[ja] at hi;have S3:ai H H3:=λc o e=>kp _ _ (qJ _ _ e) λz=>by rw[z,KN] at e;cases e
   obtain⟨m,em⟩:∃m,kk-i=m+1:=⟨kk-i-1,by omega⟩;unfold uw at iy;rw[em,e4] at iy;cases er:PyFlat.row (L.drop at') with
   |none=>rw[Cw er] at iy;cases iy
   |some y=>
    obtain⟨x,rest⟩:=y;obtain⟨q,r2,g1,g2,g3,g4⟩:=xY er;obtain⟨b0,b1⟩:=drop_cons g1;have l2:r2.length=L.length-(at'+1):=by rw[<-b1,lP]
    have ltA:at'<L.length:=(bh.mp b0).1;have Ws:gJ (iv L) (some ((at':Int)+1)) (some ((at':Int)+1+(q:Int)))=iv x:=by rw[show(at':Int)+1=((at'+1:Nat):Int) by omega,show((at'+1:Nat):Int)+(q:Int)=((at'+1+q:Nat):Int) by omega,KC (by omega),b1,<-g3]
    refine⟨_,rfl,_,_,rfl,rfl,_,rfl,_,rfl,ca,_,_,.int (q:Int),rfl,rfl,xZ H3 S3,at_of (j:=at') rfl (xX b0),_,_,rfl,rfl,?_⟩;refine⟨_,rfl,.inl ⟨rfl,_,ax.of x9⟩,_,rfl,_,rfl,_,_,rfl,rfl,_,rfl,_,rfl,_,rfl,ca,_,rfl,xZ H3 S3,λl1 cO=>?_⟩;rw[Ws];have s4:ai H3 (upd H3 l1 (.lst (iv x))):=aG cO;refine⟨l1,_,rfl,.inl ⟨ax.of ag,λqL fU=>?_⟩⟩;have s5:ai (upd H3 l1 (.lst (iv x))) (upd (upd H3 l1 (.lst (iv x))) qL (.tup (iv x))):=aG fU;have ya:=s4.trans s5;have x5:o8 (upd (upd H3 l1 (.lst (iv x))) qL (.tup (iv x))) qL x:=ag;generalize upd (upd H3 l1 (.lst (iv x))) qL (.tup (iv x))=H5 at ya x5;have KP:=ya _ _ x9;refine⟨tx,_,_,rfl,rfl,KP,?_,?_⟩
    ·rw[aF,Paired.len hp,hlen];exact eh hi (aS Wr (aS hL (by decide)))
    ·have up:∀{a:Addr} {z:List Int},o8 H5 a z->o8 (upd H5 tx (.lst (as.map V.ref++[.ref qL]))) a z:=λ{a z} e=>by show(upd H5 tx _) a=_;rw[aw (b9 e KP (λz=>nomatch z))];exact e
     refine⟨_,rfl,at'+1+q,ic++[x],as++[qL],some (.int ((0:Int)+(i:Int))),some (.int ((at':Int)+1+(q:Int))),?_,(kp.trans (ai.keep ya)).trans (dF rfl),by rw[ag,bW];rfl,Paired.append (Paired.cW hp λ_ _ e=>up (ya _ _ e)) (.cons (up x5) .nil),by rw[aX,hlen];rfl,?_,by omega,by omega⟩
     ·show _=[_,_,_,_,_,_,some (V.int ((at'+1+q:Nat):Int)),_,_];rw[show((at'+1+q:Nat):Int)=(at':Int)+1+(q:Int) by omega];rfl
     ·unfold uw;rw[e4,iy,show kk-(i+1)=m by omega,Cy er,<-C8,b1,<-g4];cases PyFlat.rows m rest with
      |none=>rfl
      |some y=>show some (ic++x::y.1,y.2)=some ((ic++[x])++y.1,y.2);rw[cK];rfl
  ·rintro σ H3 ⟨at',ic,as,v7,v8,rfl,kp,x9,hp,hlen,iy,KO,bS⟩;rw[ja] at hlen iy;unfold uw at iy;rw[yu,e4] at iy;have iy:some (xs,u)=some (ic++[],L.drop at'):=iy;rw[ez] at iy;cases iy;have S3:ai H H3:=λc o e=>kp _ _ (qJ _ _ e) λz=>by rw[z,KN] at e;cases e
   have qu:H3 na=some (.lst (iv ns)):=kp _ _ (s2 _ _ Cz) λz=>by rw[<-z,Cz] at x8;cases x8
   refine⟨_,rfl,_,rfl,ca,_,_,.int p,rfl,rfl,xZ H3 S3,at_of (j:=st) rfl (xX a0),_,rfl,_,rfl,_,rfl,λx dx hx ir bG=>?_⟩;refine⟨x,dx,[.int p,.ref na,.ref tx,.int (at':Int)],rfl,rfl,ag,rfl,?_⟩;rw[bc];have s6:ai H3 (upd (upd H3 dx (.own x)) x (.ins C.call dx (AV [.int p,.ref na,.ref tx,.int (at':Int)]))):=(aG ir).trans (aG (by rw[aw bG.symm];exact hx));exact k _ x at' (S3.trans s6) (S3.free hx) ⟨dx,na,tx,as,ag,s6 _ _ qu,s6 _ _ x9,Paired.cW hp λ_ _ e=>s6 _ _ e⟩ rfl KO bS
end
theorem m3{H:Hp}{a:Addr}{x:List Int}(h:o8 H a x)(hb:NeutralIO.bytes x=true):ay H a (NbNeutral.text x):=by
 show H a=_;rw[show H a=some (.tup (iv x)) from h];congr 2;unfold iv bv NbNeutral.text NbNeutral.nats;rw[pz,pz];refine qT λi hi=>?_;have hb:=eV.mp hb i hi;have hr:0<=i/\i<=255:=by simpa using hb
 show V.int i=V.int ((UInt8.ofNat i.toNat).toNat:Int);rw[qU];congr 1;omega
theorem Wt{H:Hp}{as:List Addr}{xs:List (List Int)}(h:Paired (λa x=>o8 H a x) as xs)(hb:∀x∈xs,NeutralIO.bytes x=true):Paired (λa t=>ay H a t) as (xs.map NbNeutral.text):=by
 induction h with
 |nil=>exact .nil
 |cons r t ih=>exact .cons (m3 r (hb _ (bP ..))) (ih λx hx=>hb x (bO _ hx))
theorem dI.same{C:Cs}{H H1:Hp}{g:Gh}{r:Nb.State×Nb.Answer}{Q:VK}(k:dI C H g r Q)(s:ai H H1):dI C H1 g r Q:=λH' g' l po SR L hl=>k H' g' l ((bA.same s).trans po) SR L (s.free hl)
theorem text_len(x:List Int):(NbNeutral.text x).length=x.length:=by unfold NbNeutral.text NbNeutral.nats;rw[aF,aF]
section
variable {P:Program}{w:World}{K:PySem.W.Frag}{mg:Str->Option Value}{base:Heap}{C:Cs}
theorem gg(T:Tx K mg C){H:Hp}{a dx na ta:Addr}{b:Nat}{p m:Int}{v:Option V}{t u:TS}{D:Ends}(h1:H a=some (.ins C.call dx (lf p na ta b)))(hp:p≠m)(k:u D [v,some (.ref a)] H):u0 (l9 (iF ny (dO K (bU 1) "number") (tC (.int m)))) t u D [v,some (.ref a)] H:=
 ⟨_,rfl,a,C.call,dx,_,_,rfl,h1,T.dz,T.Av,KA ..,rfl,_,rfl,Bu (eo λz=>hp (V.int.inj z)) k⟩
theorem fM(T:Tx K mg C){H:Hp}{a dx na ta:Addr}{b:Nat}{p:Int}{v:Option V}{t u:TS}{D:Ends}(h1:H a=some (.ins C.call dx (lf p na ta b)))(k:t D [v,some (.ref a)] H):u0 (l9 (iF ny (dO K (bU 1) "number") (tC (.int p)))) t u D [v,some (.ref a)] H:=
 ⟨_,rfl,a,C.call,dx,_,_,rfl,h1,T.dz,T.Av,KA ..,rfl,_,rfl,Hy (bp rfl) k⟩
inductive CO:NbNeutral.Call->Nb.Call->Prop
 |c1 n t l:CO ([1]::n::t::l) (.put (NbNeutral.text n) (NbNeutral.text t) (l.map NbNeutral.text))
 |c2 n:CO [[2],n] (.drop (NbNeutral.text n))
 |c3 n:CO [[3],n] (.touch (NbNeutral.text n))
 |c4 m:CO [[4,m]] (.settle m.toNat)
 |c5 t:CO [[5,0],t] (.came (.value (NbNeutral.text t)))
 |c5b n:CO [[5,1,n]] (.came (.bad n.toNat))
 |c6:CO [[6]] .next
 |c7 n:CO [[7],n] (.find (NbNeutral.text n))
 |c8 p:CO [[8,p]] (.state p.toNat)
 |c9 p:CO [[9,p]] (.value p.toNat)
 |c10 p:CO [[10,p]] (.text p.toNat)
 |c11 p:CO [[11,p]] (.leans p.toNat)
 |c12 p:CO [[12,p]] (.users p.toNat)
 |c13 p:CO [[13,p]] (.why p.toNat)
 |c14:CO [[14]] .counts
 |c15:CO [[15]] .save
 |c16 b:CO [[16],b] (.load (NbNeutral.text b))
theorem no_{c:NbNeutral.Call}{x:Nb.Call}(e:NbNeutral.callOf c=none)(h:NbNeutral.callOf c=some x):CO c x:=by rw[e] at h;cases h
theorem so_{c:NbNeutral.Call}{x y:Nb.Call}(e:NbNeutral.callOf c=some y)(k:CO c y)(h:NbNeutral.callOf c=some x):CO c x:=by rw[e] at h;cases h;exact k
theorem aam{c:NbNeutral.Call}{x:Nb.Call}(h:NbNeutral.callOf c=some x):CO c x:=by
 rcases c with _ | ⟨_ | ⟨n | n,f⟩,r⟩
 ·exact no_ rfl h
 ·exact no_ rfl h
 ·rcases n with _|_|_|_|_|_|_|_|_|_|_|_|_|_|_|_|_|n<;>first
   |exact no_ rfl h
   |(rcases f with _ | ⟨b,_ | ⟨b2,f⟩⟩<;>first
    |exact no_ rfl h
    |(rcases r with _ | ⟨n,_ | ⟨t,l⟩⟩<;>first|exact no_ rfl h | exact so_ rfl (by constructor) h)
    |(rcases b with (_ | _ | b) | b<;>first
     |exact no_ rfl h
     |(rcases r with _ | ⟨n,_ | ⟨t,l⟩⟩<;>first|exact no_ rfl h | exact so_ rfl (by constructor) h | (rcases f with _ | ⟨b3,f⟩<;>first|exact no_ rfl h | exact so_ rfl (by constructor) h))))
 ·exact no_ rfl h
noncomputable abbrev Wu:Stmt:=top 126
noncomputable def KQ(p:Int)(ns:List Int)(xs:List (List Int)):Prop:=(∀i∈ns,0<=i)/\∀x∈xs,NeutralIO.bytes x=true/\x.length<=1000000
noncomputable def KS(C:Cs):Sp:=λvs H Q _=>∃(g:Gh) (s:Nb.State) (a:Addr) (p:Int) (ns:List Int) (xs:List (List Int)) (b:Nat) (x:Nb.Call),vs=[.ref g.ba,.ref a]/\dg C H g s/\NB.SI s/\Cv C H a p ns xs b/\NbNeutral.callOf ((p::ns)::xs)=some x/\KQ p ns xs/\(x=.save->s.book.bytes.length<=10000000)/\dI C H g (Nb.step s x) Q
noncomputable def KU(C:Cs):Sp:=λvs H Q _=>∃(g:Gh) (s:Nb.State) (a:Addr) (p:Int) (ns:List Int) (xs:List (List Int)) (b:Nat) (c:Came),vs=[.ref g.ba,.ref a]/\dg C H g s/\NB.SI s/\Cv C H a p ns xs b/\((∃t,ns=[0]/\xs=[t]/\NeutralIO.bytes t=true/\c=.value (NbNeutral.text t))\/∃n:Int,ns=[1,n]/\0<=n/\c=.bad n.toNat)/\dI C H g (Nb.step s (.came c)) Q
theorem Wv(T:Tx K mg C)(F:aR K mg "answer_came" Wu ["book","call"])(D1:Ok P w K mg base aq 6 "came" ["book","value"] (Iq C))(D2:Ok P w K mg base aq 6 "came_failed" ["book","number"] (Ir C)):Ok P w K mg base aq 7 "answer_came" ["book","call"] (KU C):=by
 refine F.ok (sk ["book","call"]) (λvs H Q E h=>?_) (λf aD A outer s H vs Q E hr h=>?_)
 ·obtain⟨g,st,a,p,ns,xs,b,c,rfl,_⟩:=h;rfl
 ·obtain⟨g,st,a,p,ns,xs,b,c,rfl,SR,S,⟨dx,na,ta,as,h1,h2,h3,h4⟩,hc,k⟩:=h;refine⟨_,af (aO (bo b3 (cx cC (aj (pv 1) rfl) aK (λ_ _=>rfl)) (aM T.Ru) (aY _)) (ah (aC (az D1 hr rfl aE (aa (pv 0) (aa (cx cC (aj (pv 1) rfl) aK (λ_ _=>rfl)) ae))))) aP)
   (ah (aC (az D2 hr rfl aE (aa (pv 0) (aa (cx cC (aj (pv 1) rfl) aK (λ_ _=>rfl)) ae))))),?_⟩
  rcases hc with ⟨t,rfl,rfl,hb,rfl⟩ | ⟨n,rfl,hn,rfl⟩
  ·cases h4 with
   |cons hx h5=>
   cases h5;refine⟨_,rfl,a,C.call,dx,_,_,rfl,h1,T.dz,T.jx,ku ..,na,_,0,.int 0,rfl,rfl,ax.of h2,rfl,rfl,_,rfl,bF ?_⟩;exact⟨_,rfl,_,rfl,a,C.call,dx,_,_,rfl,h1,T.dz,T.lg,mZ ..,ta,_,0,.ref _,rfl,rfl,ax.of h3,rfl,g,st,_,_,rfl,SR,S,m3 hx hb,k⟩
  ·refine⟨_,rfl,a,C.call,dx,_,_,rfl,h1,T.dz,T.jx,ku ..,na,_,0,.int 1,rfl,rfl,ax.of h2,rfl,rfl,_,rfl,bJ ?_⟩;refine⟨_,rfl,_,rfl,a,C.call,dx,_,_,rfl,h1,T.dz,T.jx,ku ..,na,_,1,.int n,rfl,rfl,ax.of h2,rfl,g,st,n.toNat,?_,SR,S,k⟩;rw[lO hn];rfl
noncomputable abbrev Ww:Stmt:=top 127
theorem Wx(T:Tx K mg C)(F:aR K mg "answer_call" Ww ["book","call"])(D1:Ok P w K mg base aq 5 "put" ["book","name","text","leans"] (HC C))(D2:Ok P w K mg base aq 5 "drop" ["book","name"] (qt C .drop))(D3:Ok P w K mg base aq 5 "touch" ["book","name"] (qt C .touch))(D4:Ok P w K mg base aq 5 "settle" ["book","most"] (Ik C))(D5:Ok P w K mg base aq 7 "answer_came" ["book","call"] (KU C))(D6:Ok P w K mg base aq 4 "tell_next" ["book"] (Iw C))(D7:Ok P w K mg base aq 3 "find_place" ["book","name"] (qt C .find))(D8:Ok P w K mg base aq 2 "tell_state" ["book","place"] (i4 C .state))(D9:Ok P w K mg base aq 2 "tell_value" ["book","place"] (i4 C .value))(Wy:Ok P w K mg base aq 2 "tell_text" ["book","place"] (i4 C .text))(Wz:Ok P w K mg base aq 2 "tell_leans" ["book","place"] (i4 C .leans))(WA:Ok P w K mg base aq 2 "tell_users" ["book","place"] (i4 C .users))(WC:Ok P w K mg base aq 5 "tell_why" ["book","place"] (i4 C .why))(WD:Ok P w K mg base aq 2 "tell_counts" ["book"] (IK C .counts))(WE:Ok P w K mg base aq 6 "save" ["book"] (Jn C))(WG:Ok P w K mg base aq 11 "load" ["book","written"] (Ky C)):Ok P w K mg base aq 12 "answer_call" ["book","call"] (KS C):=by
 refine F.ok (sk ["book","call"]) (λvs H Q E h=>?_) (λf aD A outer s H vs Q E hr h=>?_)
 ·obtain⟨g,st,a,p,ns,xs,b,x,rfl,_⟩:=h;rfl
 ·obtain⟨g,st,a,p,ns,xs,b,x,rfl,SR,S,hC,b6,⟨iV,gU⟩,CA,k⟩:=h;obtain⟨dx,na,ta,as,h1,h2,h3,h4⟩:=hC.ex;refine⟨_,af (aO (bo b3 (aj (pv 1) rfl) aK (aY _)) (ah (aC (az D1 (hr.mono (by decide)) rfl aE (aa (pv 0) (aa (cx cC (aj (pv 1) rfl) aK (λ_ _=>rfl)) (aa (cx cC (aj (pv 1) rfl) aK (λ_ _=>rfl)) (aa (kM rN rfl T.sW yk (aa (vk yZ (aj (pv 1) rfl) (nE aK) Nr) ae)) ae))))))) aP)
   (af (aO (bo b3 (aj (pv 1) rfl) aK (aY _)) (ah (aC (az D2 (hr.mono (by decide)) rfl aE (aa (pv 0) (aa (cx cC (aj (pv 1) rfl) aK (λ_ _=>rfl)) ae))))) aP)
   (af (aO (bo b3 (aj (pv 1) rfl) aK (aY _)) (ah (aC (az D3 (hr.mono (by decide)) rfl aE (aa (pv 0) (aa (cx cC (aj (pv 1) rfl) aK (λ_ _=>rfl)) ae))))) aP)
   (af (aO (bo b3 (aj (pv 1) rfl) aK (aY _)) (ah (aC (az D4 (hr.mono (by decide)) rfl aE (aa (pv 0) (aa (cx cC (aj (pv 1) rfl) aK (λ_ _=>rfl)) ae))))) aP)
   (af (aO (bo b3 (aj (pv 1) rfl) aK (aY _)) (ah (aC (az D5 (hr.mono (by decide)) rfl aE (aa (pv 0) (aa (pv 1) ae))))) aP)
   (af (aO (bo b3 (aj (pv 1) rfl) aK (aY _)) (ah (aC (az D6 (hr.mono (by decide)) rfl aE (aa (pv 0) ae)))) aP)
   (af (aO (bo b3 (aj (pv 1) rfl) aK (aY _)) (ah (aC (az D7 (hr.mono (by decide)) rfl aE (aa (pv 0) (aa (cx cC (aj (pv 1) rfl) aK (λ_ _=>rfl)) ae))))) aP)
   (af (aO (bo b3 (aj (pv 1) rfl) aK (aY _)) (ah (aC (az D8 (hr.mono (by decide)) rfl aE (aa (pv 0) (aa (cx cC (aj (pv 1) rfl) aK (λ_ _=>rfl)) ae))))) aP)
   (af (aO (bo b3 (aj (pv 1) rfl) aK (aY _)) (ah (aC (az D9 (hr.mono (by decide)) rfl aE (aa (pv 0) (aa (cx cC (aj (pv 1) rfl) aK (λ_ _=>rfl)) ae))))) aP)
   (af (aO (bo b3 (aj (pv 1) rfl) aK (aY _)) (ah (aC (az Wy (hr.mono (by decide)) rfl aE (aa (pv 0) (aa (cx cC (aj (pv 1) rfl) aK (λ_ _=>rfl)) ae))))) aP)
   (af (aO (bo b3 (aj (pv 1) rfl) aK (aY _)) (ah (aC (az Wz (hr.mono (by decide)) rfl aE (aa (pv 0) (aa (cx cC (aj (pv 1) rfl) aK (λ_ _=>rfl)) ae))))) aP)
   (af (aO (bo b3 (aj (pv 1) rfl) aK (aY _)) (ah (aC (az WA (hr.mono (by decide)) rfl aE (aa (pv 0) (aa (cx cC (aj (pv 1) rfl) aK (λ_ _=>rfl)) ae))))) aP)
   (af (aO (bo b3 (aj (pv 1) rfl) aK (aY _)) (ah (aC (az WC (hr.mono (by decide)) rfl aE (aa (pv 0) (aa (cx cC (aj (pv 1) rfl) aK (λ_ _=>rfl)) ae))))) aP)
   (af (aO (bo b3 (aj (pv 1) rfl) aK (aY _)) (ah (aC (az WD (hr.mono (by decide)) rfl aE (aa (pv 0) ae)))) aP)
   (af (aO (bo b3 (aj (pv 1) rfl) aK (aY _)) (ah (aC (az WE (hr.mono (by decide)) rfl aE (aa (pv 0) ae)))) aP)
   (af (aO (bo b3 (aj (pv 1) rfl) aK (aY _)) (ah (aC (az WG hr rfl aE (aa (pv 0) (aa (cx cC (aj (pv 1) rfl) aK (λ_ _=>rfl)) ae))))) aP)
   (ah Mv)))))))))))))))),?_⟩
  cases aam b6
  ·cases h4 with
   | @cons a1 x1 aab xs1 AS h5=>
   cases h5 with
   | @cons a2 x2 kx xs2 WH h6=>
   refine fM T h1 ?_;obtain⟨b1,b2⟩:=gU _ (bP ..);obtain⟨c1,c2⟩:=gU _ (bO _ (bP ..));refine⟨_,rfl,_,rfl,a,C.call,dx,_,_,rfl,h1,T.dz,T.lg,mZ ..,ta,_,0,.ref a1,rfl,rfl,ax.of h3,at_of (j:=0) rfl rfl,_,rfl,a,C.call,dx,_,_,rfl,h1,T.dz,T.lg,mZ ..,ta,_,1,.ref a2,rfl,rfl,ax.of h3,at_of (j:=1) rfl rfl,_,rfl,a,C.call,dx,_,_,rfl,h1,T.dz,T.lg,mZ ..,2,rfl,ta,_,rfl,ax.of h3,λl1 cO=>?_⟩;have WI:gJ ((a1::a2::kx).map V.ref) (some 2) none=kx.map V.ref:=by unfold gJ;rw[show(2:Int)=((2:Nat):Int) from rfl,HT.rL,HT.Ni];show List.take _ (List.drop (min 2 (kx.map V.ref).length.succ.succ) (V.ref a1::V.ref a2::kx.map V.ref))=_;rw[show min 2 (kx.map V.ref).length.succ.succ=2 by omega];exact List.take_of_length_le (by simp)
   rw[WI];have s1:ai H (upd H l1 (.lst (kx.map V.ref))):=aG cO;refine⟨l1,_,rfl,.inl ⟨ax.of ag,λl2 fU=>?_⟩⟩;have s2:ai (upd H l1 (.lst (kx.map V.ref))) (upd (upd H l1 (.lst (kx.map V.ref))) l2 (.tup (kx.map V.ref))):=aG fU;have kq:=s1.trans s2;refine⟨g,st,a1,a2,l2,_,_,_,rfl,SR.same kq,S.bi,kq _ _ (m3 AS b1),kq _ _ (m3 WH c1),⟨kx,ag,Paired.cW (Wt h6 λx hx=>(gU x (bO _ (bO _ hx))).1) λ_ _ z=>kq _ _ z⟩,by rw[text_len];exact b2,λt ht=>?_,k.same kq⟩;obtain⟨y,hy,rfl⟩:=cU.mp ht;rw[text_len];exact(gU y (bO _ (bO _ hy))).2
  ·cases h4 with
   |cons hx h5=>
   cases h5
   repeat refine gg T h1 (by decide) ?_
   refine fM T h1 ?_;obtain⟨b1,b2⟩:=gU _ (bP ..);exact⟨_,rfl,_,rfl,a,C.call,dx,_,_,rfl,h1,T.dz,T.lg,mZ ..,ta,_,0,.ref _,rfl,rfl,ax.of h3,rfl,g,st,_,_,rfl,SR,S.bi,m3 hx b1,by rw[text_len];exact b2,k⟩
  ·cases h4 with
   |cons hx h5=>
   cases h5
   repeat refine gg T h1 (by decide) ?_
   refine fM T h1 ?_;obtain⟨b1,b2⟩:=gU _ (bP ..);exact⟨_,rfl,_,rfl,a,C.call,dx,_,_,rfl,h1,T.dz,T.lg,mZ ..,ta,_,0,.ref _,rfl,rfl,ax.of h3,rfl,g,st,_,_,rfl,SR,S.bi,m3 hx b1,by rw[text_len];exact b2,k⟩
  ·repeat refine gg T h1 (by decide) ?_
   refine fM T h1 ?_;have hz:=iV _ (bP ..);refine⟨_,rfl,_,rfl,a,C.call,dx,_,_,rfl,h1,T.dz,T.jx,ku ..,na,_,0,.int _,rfl,rfl,ax.of h2,rfl,g,st,_,?_,SR,S,k⟩;rw[lO hz];rfl
  ·repeat refine gg T h1 (by decide) ?_
   refine fM T h1 ?_;obtain⟨b1,b2⟩:=gU _ (bP ..);exact⟨_,rfl,_,rfl,g,st,a,5,_,_,b,_,rfl,SR,S,hC,.inl ⟨_,rfl,rfl,b1,rfl⟩,k⟩
  ·repeat refine gg T h1 (by decide) ?_
   refine fM T h1 ?_;have hz:=iV _ (bO _ (bP ..));exact⟨_,rfl,_,rfl,g,st,a,5,_,_,b,_,rfl,SR,S,hC,.inr ⟨_,rfl,hz,rfl⟩,k⟩
  ·repeat refine gg T h1 (by decide) ?_
   refine fM T h1 ?_;exact⟨_,rfl,g,st,rfl,SR,S,k⟩
  ·cases h4 with
   |cons hx h5=>
   cases h5
   repeat refine gg T h1 (by decide) ?_
   refine fM T h1 ?_;obtain⟨b1,b2⟩:=gU _ (bP ..);exact⟨_,rfl,_,rfl,a,C.call,dx,_,_,rfl,h1,T.dz,T.lg,mZ ..,ta,_,0,.ref _,rfl,rfl,ax.of h3,rfl,g,st,_,_,rfl,SR,S.bi,m3 hx b1,by rw[text_len];exact b2,k⟩
  ·repeat refine gg T h1 (by decide) ?_
   refine fM T h1 ?_;have hz:=iV _ (bP ..);refine⟨_,rfl,_,rfl,a,C.call,dx,_,_,rfl,h1,T.dz,T.jx,ku ..,na,_,0,.int _,rfl,rfl,ax.of h2,rfl,g,st,_,?_,SR,S,k⟩;rw[lO hz];rfl
  ·repeat refine gg T h1 (by decide) ?_
   refine fM T h1 ?_;have hz:=iV _ (bP ..);refine⟨_,rfl,_,rfl,a,C.call,dx,_,_,rfl,h1,T.dz,T.jx,ku ..,na,_,0,.int _,rfl,rfl,ax.of h2,rfl,g,st,_,?_,SR,S,k⟩;rw[lO hz];rfl
  ·repeat refine gg T h1 (by decide) ?_
   refine fM T h1 ?_;have hz:=iV _ (bP ..);refine⟨_,rfl,_,rfl,a,C.call,dx,_,_,rfl,h1,T.dz,T.jx,ku ..,na,_,0,.int _,rfl,rfl,ax.of h2,rfl,g,st,_,?_,SR,S,k⟩;rw[lO hz];rfl
  ·repeat refine gg T h1 (by decide) ?_
   refine fM T h1 ?_;have hz:=iV _ (bP ..);refine⟨_,rfl,_,rfl,a,C.call,dx,_,_,rfl,h1,T.dz,T.jx,ku ..,na,_,0,.int _,rfl,rfl,ax.of h2,rfl,g,st,_,?_,SR,S,k⟩;rw[lO hz];rfl
  ·repeat refine gg T h1 (by decide) ?_
   refine fM T h1 ?_;have hz:=iV _ (bP ..);refine⟨_,rfl,_,rfl,a,C.call,dx,_,_,rfl,h1,T.dz,T.jx,ku ..,na,_,0,.int _,rfl,rfl,ax.of h2,rfl,g,st,_,?_,SR,S,k⟩;rw[lO hz];rfl
  ·repeat refine gg T h1 (by decide) ?_
   refine fM T h1 ?_;have hz:=iV _ (bP ..);refine⟨_,rfl,_,rfl,a,C.call,dx,_,_,rfl,h1,T.dz,T.jx,ku ..,na,_,0,.int _,rfl,rfl,ax.of h2,rfl,g,st,_,?_,SR,S,k⟩;rw[lO hz];rfl
  ·repeat refine gg T h1 (by decide) ?_
   refine fM T h1 ?_;exact⟨_,rfl,g,st,rfl,SR,S,k⟩
  ·repeat refine gg T h1 (by decide) ?_
   refine fM T h1 ?_;exact⟨_,rfl,g,st,rfl,SR,S,CA rfl,k⟩
  ·cases h4 with
   |cons hx h5=>
   cases h5
   repeat refine gg T h1 (by decide) ?_
   refine fM T h1 ?_;obtain⟨b1,b2⟩:=gU _ (bP ..);exact⟨_,rfl,_,rfl,a,C.call,dx,_,_,rfl,h1,T.dz,T.lg,mZ ..,ta,_,0,.ref _,rfl,rfl,ax.of h3,rfl,g,st,_,_,rfl,SR,S,m3 hx b1,by rw[text_len];exact b2,k⟩
end
theorem KY{r x s:List Int}(h:PyFlat.row r=some (x,s)):x.length<=r.length/\s.length<=r.length:=by obtain⟨n,r',h1,h2,h3,h4⟩:=xY h;rw[h1,h3,h4,eU,lP,cu];omega
theorem KZ:∀(k:Nat) (r:List Int) (xs:List (List Int)) (s:List Int),PyFlat.rows k r=some (xs,s)->∀x∈xs,x.length<=r.length
 |0,r,xs,s,h=>by cases h;exact λx hx=>nomatch hx
 |k+1,r,xs,s,h=>by
  cases e:PyFlat.row r with
  |none=>rw[Cw e] at h;cases h
  |some y=>
   rw[Cy (x:=y.1) (s:=y.2) e] at h;cases e2:PyFlat.rows k y.2 with
   |none=>rw[e2] at h;cases h
   |some z=>
    rw[e2] at h;cases h;obtain⟨l1,l2⟩:=KY (x:=y.1) (s:=y.2) e;intro x hx;rcases bL.mp hx with q | q
    ·rw[q];exact l1
    ·exact aS (KZ k y.2 z.1 z.2 e2 x q) l2
theorem WJ{l:List Int}{c:List (List Int)}{u:List Int}(h:PyWide.call l=some (c,u)):∃(p:Int) (ns:List Int) (xs:List (List Int)),c=(p::ns)::xs/\∀x∈xs,x.length<=l.length:=by
 cases l with
 |nil=>cases h
 |cons p r=>
  unfold PyWide.call at h;cases er:PyFlat.row r with
  |none=>simp only[er] at h;cases h
  |some y=>
   obtain⟨ns,y2⟩:=y;simp only[er] at h;cases y2 with
   |nil=>simp only at h;cases h
   |cons k t=>
    simp only at h;split at h
    ·cases o9:PyFlat.rows k.toNat t with
     |none=>simp only[o9] at h;cases h
     |some z=>obtain⟨xs,u'⟩:=z;simp only[o9] at h;cases h;have l2:=(KY er).2;refine⟨p,ns,xs,rfl,λx hx=>?_⟩;have:=KZ _ _ _ _ o9 x hx;rw[cu] at l2 ⊢;omega
    ·cases h
theorem dg.out{C:Cs}{H H':Hp}{g:Gh}{s:Nb.State}{l:Addr}{xs:List V}(R:dg C H g s)(hl:H l=some (.lst xs))(hf:¬g.foot l)(kp:aW (·=l) H H'):dg C H' g s:=by obtain⟨wv,m,al,R,W⟩:=R;exact⟨wv,m,al,R.out hl hf kp,W⟩
theorem dg.jD{C:Cs}{H:Hp}{g:Gh}{s:Nb.State}(R:dg C H g s){x:Addr}(h:g.foot x):H x≠none:=by obtain⟨wv,m,al,R,W⟩:=R;exact R.jD h
section
variable {P:Program}{w:World}{K:PySem.W.Frag}{mg:Str->Option Value}{base:Heap}{C:Cs}
noncomputable abbrev qM:Stmt:=top 128
noncomputable def CB(K:PySem.W.Frag):Sp:=λvs H Q _=>∃(ca:Addr) (L:List Int),vs=[.ref ca]/\ax K H ca (iv L)/\L.length<=30000/\PyYqmwce.answers_asked L=true/\∀H' l,H' l=some (.lst (iv (PyYqmwce.answers L)))->Q (.ref l) H'
theorem WK{f:Addr}{fd:FuncData}(T:Tx K mg C)(F:j5 K "answers" "answers" qM f fd)(D1:fj P w K mg base 1 "Book" C.book ["self"] (AX C))(D2:Ok P w K mg base aq 3 "read_call" ["calls","start"] (KH K C))(D3:Ok P w K mg base aq 12 "answer_call" ["book","call"] (KS C)):dZ P w K mg base aq 13 f fd ["calls"] (CB K):=by
 have sc:=sk (P:=["calls"]) (st:=qM) ["calls","book","told","at","call","answer"];refine F.ok sc (λvs H Q E h=>?_) (λaD A outer s H vs Q E hr h=>?_)
 ·obtain⟨ca,L,rfl,_⟩:=h;rfl
 ·obtain⟨ca,L,rfl,aU,hL,lL,k⟩:=h;refine⟨_,af (aN (i:=1) sc.nd rfl (Or.inl rfl) (Ho D1 (hr.mono (by decide)) rfl))
   (af (aN (i:=2) sc.nd rfl (Or.inl rfl) (br ae))
   (af (aN (i:=3) sc.nd rfl (Or.inl rfl) aK)
   (af (u6 PassesOwn.never (bo lZ (pv 3) (dv dE rfl T.dA dN (aa (pv 0) ae)) (aY _))
    (af (aN (i:=4) sc.nd rfl (Or.inl rfl) (az D2 (hr.mono (by decide)) rfl aE (aa (pv 0) (aa (pv 3) ae))))
    (af (aN (i:=5) sc.nd rfl (Or.inl rfl) (az D3 hr rfl aE (aa (pv 1) (aa (pv 4) ae))))
    (af (cb (cZ di gC gB fT (pv 2) (aa (dv dE rfl T.dA dN (aa (pv 5) ae)) ae)))
    (af (cb (cZ di m4 ph pO (pv 2) (aa (pv 5) ae)))
    (ah (aN (i:=3) sc.nd rfl (Or.inl rfl) (aj (pv 4) rfl))))))))
   (ah (aC (pv 2)))))),?_⟩
  obtain⟨cs,aZ,WL,aae⟩:∃cs,PyWide.calls L.length L=some cs/\NbNeutral.asked cs=true/\(PyYqmwce.answers L).length<=10000000:=by
   unfold PyYqmwce.answers_asked PyYqmwce.calls at lL;cases e:PyWide.calls L.length L with
   |none=>rw[e] at lL;cases lL
   |some cs=>rw[e] at lL;have lL:(PyFlat.atMost 300 cs&&NbNeutral.asked cs&&PyFlat.short 10000000 (PyYqmwce.answers L))=true:=lL;rw[bq,bq] at lL;exact⟨cs,rfl,lL.1.2,bw lL.2⟩
  have WM:PyYqmwce.answers L=PyFlat.told (PyFlat.played NbNeutral.step NbNeutral.start cs):=by unfold PyYqmwce.answers PyYqmwce.calls;rw[aZ]
  intro ba oX oY Cj Ck;refine⟨ba,oX,rfl,ag,λH1 g fg Cm RP WN WO WQ=>⟨rfl,?_⟩⟩;have sB:ai H (upd (upd H oX (.own ba)) ba (.ins C.book oX [])):=(aG Cj).trans (aG (by rw[aw Ck.symm];exact oY));have s1:ai H H1:=λc o e=>WN _ _ (sB _ _ e) (bj e oY);have o7:∀x,g.foot x->H x=none:=λx hx=>by
   rcases hx with z | z | z | z
   ·rw[z,fg];exact oY
   ·rw[z];exact sB.free WO
   ·rw[z];exact sB.free WQ
   ·rw[Cm] at z;cases(List.mem_replicate.mp z).2
  refine⟨bY _,λtd oN=>?_⟩;have s2:ai H1 (upd H1 td (.lst [])):=aG oN;have K1:(upd H1 td (.lst [])) td=some (.lst []):=ag;have WR:H td=none:=s1.free oN;have WS:¬g.foot td:=λz=>RP.jD z oN;generalize upd H1 td (.lst [])=H2 at s2 K1;refine yM (λσ H'=>∃(kk:Nat) (qN:List (List (List Int))) (fu:Nat) (st:Nb.State) (done:List Int) (g':Gh) (v4 v5:Option V),σ=[some (.ref ca),some (.ref g.ba),some (.ref td),some (.int (kk:Int)),v4,v5]/\g'.ba=g.ba/\dg C H' g' st/\NB.SI st/\H' td=some (.lst (iv done))/\¬g'.foot td/\(∀x,g'.foot x->H x=none)/\ai H H'/\done++PyFlat.told (PyFlat.played NbNeutral.step st qN)=PyYqmwce.answers L/\NbNeutral.asked qN=true/\PyWide.calls fu (L.drop kk)=some qN/\kk<=L.length)
   (λ(σ:L2.St) (_:Hp)=>match σ[3]? with | some (some (V.int j))=>30001-j.toNat | _=>0) ?_ ?_ ?_
  ·refine⟨0,cs,L.length,Nb.start,[],g,none,none,by rw[fg];rfl,rfl,⟨.ak,0,0,RP.same s2,rfl⟩,NB.QN,K1,WS,o7,s1.trans s2,by rw[yp,WM];rfl,WL,aZ,bY _⟩
  ·rintro σ H3 ⟨kk,qN,fu,st,done,g3,v4,v5,rfl,K2,SR,S,CC,K3,rG,sm,pb,CD,gA,hkk⟩;refine⟨_,rfl,_,rfl,ca,_,rfl,.inl (sm.seq aU),_,_,rfl,rfl,_,rfl,?_⟩;rw[qK];refine aT (λaL=>?_) (λc6=>?_)
   ·have aL:kk<L.length:=by have:=bw aL;omega
    obtain⟨p,ns,xs,u,ky,qO,b6,rfl,WT,WU⟩:∃(p:Int) (ns:List Int) (xs:List (List Int)) (u:List Int) (ky:List (List (List Int))) (qO:Nat),PyWide.call (L.drop kk)=some ((p::ns)::xs,u)/\qN=((p::ns)::xs)::ky/\PyWide.calls qO u=some ky/\∀x∈xs,x.length<=30000:=by
     cases el:L.drop kk with
     |nil=>have:=eW List.length el;rw[lP] at this;simp at this;omega
     |cons p0 r0=>
      rw[el] at gA;cases fu with
      |zero=>cases gA
      |succ qO=>
       unfold PyWide.calls at gA;cases ec:PyWide.call (p0::r0) with
       |none=>simp only[ec] at gA;cases gA
       |some y=>
        obtain⟨c,u⟩:=y;simp only[ec] at gA;cases CF:PyWide.calls qO u with
        |none=>simp only[CF] at gA;cases gA
        |some ky=>simp only[CF] at gA;cases gA;obtain⟨p,ns,xs,rfl,hx⟩:=WJ ec;refine⟨p,ns,xs,u,ky,qO,rfl,rfl,CF,λx WW=>?_⟩;have h1:=hx x WW;rw[<-el,lP] at h1;omega
    have WX:(NbNeutral.rowsMay ((p::ns)::xs)&&(NbNeutral.callOf ((p::ns)::xs)).isSome)=true/\NbNeutral.asked ky=true:=by unfold NbNeutral.asked at CD;rw[uN,bq] at CD;exact CD
    obtain⟨K4,WY⟩:=WX;rw[bq] at K4;obtain⟨ux,aZ⟩:=K4;obtain⟨x,hx⟩:=uB.mp aZ;have ux:(NbNeutral.fromZero (p::ns)&&xs.all NeutralIO.bytes)=true:=ux;rw[bq] at ux;have WZ:KQ p ns xs:=⟨λi hi=>bw (eV.mp ux.1 i (bO _ hi)),λy hy=>⟨eV.mp ux.2 y hy,aS (WU y hy) (by decide)⟩⟩;have aJ:NbNeutral.step st ((p::ns)::xs)=((Nb.step st x).1,NbNeutral.told (Nb.step st x).2):=by unfold NbNeutral.step;rw[hx]
    have W0:PyFlat.told (PyFlat.played NbNeutral.step st (((p::ns)::xs)::ky))=((NbNeutral.told (Nb.step st x).2).length:Int)::(NbNeutral.told (Nb.step st x).2++PyFlat.told (PyFlat.played NbNeutral.step (Nb.step st x).1 ky)):=by show PyFlat.told ((NbNeutral.step st ((p::ns)::xs)).2::PyFlat.played NbNeutral.step (NbNeutral.step st ((p::ns)::xs)).1 ky)=_;rw[aJ];unfold PyFlat.told;rw[kz];rfl
    rw[W0] at pb;have hlen:done.length+(1+(NbNeutral.told (Nb.step st x).2).length)<=10000000:=by have:=eW List.length pb;rw[aX,cu,aX] at this;omega
    refine⟨_,rfl,_,rfl,ca,L,kk,p,ns,xs,u,rfl,sm.seq aU,aS hL (by decide),λH' s'=>(sm.trans s').seq aU,b6,λH4 a b s4 mW hC W2 xg hb3=>?_⟩;have W3:=SR.same s4;have CA:x=.save->st.book.bytes.length<=10000000:=λe=>by
     subst e;have:(NbNeutral.told (Nb.step st .save).2).length=st.book.bytes.length+1:=by show((0:Int)::NbNeutral.bytesOf st.book.bytes).length=_;unfold NbNeutral.bytesOf;rw[cu,aF]
     omega
    refine⟨_,rfl,_,rfl,g3,st,a,p,ns,xs,b,x,by rw[K2];rfl,W3,S,hC,hx,WZ,CA,λH5 g5 l po W5 yb ox=>?_⟩;obtain⟨gy,na,ta,as,c1,_⟩:=hC.ex;have CG:H4 td=some (.lst (iv done)):=s4 _ _ CC;have CH:H5 td=some (.lst (iv done)):=po.keep _ _ CG K3;have qu:¬g3.foot a:=λz=>SR.jD z mW;have c5:H5 a=_:=po.keep _ _ c1 qu;have K9:¬g5.foot td:=λz=>by
     rcases po.foot td z with q | q
     ·exact K3 q
     ·rw[CG] at q;cases q
    have W6:l≠td:=λz=>by rw[z,CG] at ox;cases ox
    have W7:a≠td:=λz=>by rw[z,CC] at mW;cases mW
    have S5:ai H H5:=λc o e=>po.keep _ _ (s4 _ _ (sm _ _ e)) λz=>by rw[rG c z] at e;cases e
    have yb:H5 l=some (.lst (iv (NbNeutral.told (Nb.step st x).2))):=yb;refine⟨_,rfl,.inl ⟨rfl,_,ax.of CH⟩,_,rfl,l,_,rfl,.inl (ax.of yb),td,_,_,rfl,rfl,CH,by rw[qK];exact dC (by omega:_<=10000000) (by decide),?_⟩;rw[qK];refine⟨_,rfl,.inl ⟨rfl,_,ax.of ag⟩,_,rfl,td,l,_,_,rfl,rfl,ag,by rw[aw W6];exact yb,?_,?_⟩
    ·rw[aX,qK,qK];show _+1+_<=sizeLine;exact aS (by omega:_<=10000000) (by decide)
    ·rw[bc];have e6:(iv done++[V.int ((NbNeutral.told (Nb.step st x).2).length:Int)])++iv (NbNeutral.told (Nb.step st x).2)=iv ((done++[((NbNeutral.told (Nb.step st x).2).length:Int)])++NbNeutral.told (Nb.step st x).2):=by unfold iv;rw[bW,bW];rfl
     rw[e6];refine⟨_,rfl,a,C.call,gy,_,_,rfl,by rw[aw W7];exact c5,T.dz,T.Gy,Wn ..,?_⟩;refine⟨⟨b,ky,qO,(Nb.step st x).1,(done++[((NbNeutral.told (Nb.step st x).2).length:Int)])++NbNeutral.told (Nb.step st x).2,g5,_,_,rfl,po.ba.trans K2,W5.out CH K9 (dF rfl),NB.QQ S x,ag,K9,λy hy=>?_,λc o e=>?_,?_,WY,by rw[W2];exact WT,xg⟩,?_⟩
     ·rcases po.foot y hy with q | q
      ·exact rG y q
      ·exact(sm.trans s4).free q
     ·rw[aw (λz=>by rw[z,WR] at e;cases e)];exact S5 _ _ e
     ·rw[<-pb,cK,cK];rfl
     ·show 30001-((b:Int)).toNat<30001-((kk:Int)).toNat;omega
   ·have c6:¬kk<L.length:=λz=>c6 (bp (by omega));have W8:L.drop kk=[]:=LA (by omega);rw[W8] at gA;have Ce:qN=[]:=by
     cases fu with
     |zero=>unfold PyWide.calls at gA;cases gA;rfl
     |succ n=>unfold PyWide.calls at gA;cases gA;rfl
    subst Ce;have pb:done++[]=PyYqmwce.answers L:=pb;rw[ez] at pb;refine⟨_,rfl,k H3 td ?_⟩;rw[CC,pb]
  ·intro σ H Q Q' hq h;obtain⟨v,h1,v2,h2,p,ys,e,hs,i,j,e1,e2,c,e3,h3⟩:=h;exact⟨v,h1,v2,h2,p,ys,e,hs,i,j,e1,e2,c,e3,hq _ _ h3⟩
end
open PySem.W (nsIn findIn codeIn keepIn makesIn isFn plainGet hasDictIn plainOver excIn ktsIn fnOf)
noncomputable def La(x qual:Str)(st:Stmt)(ps:List Str):Prop:=∀(kV doc pm:Value) (an:Option Addr) (aD ct:Value) (us:List Value),us.length=ps.length->bindArgs (fnOf x qual (nR st) (jr st) (dX st) .none kV doc pm an aD ct) ⟨us,[]⟩=pure (ps.zip us)
noncomputable def FB(x q:Str)(st:Stmt)(us:List Value)(zs:List (Str×Value)):Prop:=∀(kV doc pm:Value) (an:Option Addr) (aD ct:Value),bindArgs (fnOf x q (nR st) (jr st) (dX st) .none kV doc pm an aD ct) ⟨us,[]⟩=pure zs
noncomputable def Cur:Nat->(List Value->Prop)->Prop
 |0,P=>P []
 |n+1,P=>∀u,Cur n λus=>P (u::us)
theorem cur{n:Nat}{us:List Value}:∀{P:List Value->Prop},Cur n P->us.length=n->P us:=by
 induction n generalizing us with
 |zero=>intro P h e;rw[List.eq_nil_of_length_eq_zero e];exact h
 |succ n ih=>
  intro P h e;cases us with
  |nil=>cases e
  |cons u us=>exact @ih us (λus=>P (u::us)) (h u) (Nat.succ.inj e)
theorem bk{x q:Str}{st:Stmt}{ps:List Str}(h:Cur ps.length λus=>FB x q st us (ps.zip us)):La x q st ps:=λa b c d e f us hl=>cur h hl a b c d e f
structure qP(K:PySem.W.Frag)(x qual:Str)(f:Addr)(st:Stmt):Prop where
 ex:∃(oc:Value) (od an:Option Addr) (fA:Array (Option Value)) (kV doc pm aD ct:Value),K.lookup f=some ⟨oc,od,.func (fnOf x qual (nR st) (jr st) (dX st) .none kV doc pm an aD ct),fA⟩/\codeIn K aD qual=true/\keepIn K (.ref f)=true
theorem qP.of{K:PySem.W.Frag}{x qual:Str}{st:Stmt}{f:Addr}{oc:Value}{od an:Option Addr}{fA:Array (Option Value)}{kV doc pm aD ct:Value}(l:K.lookup f=some ⟨oc,od,.func (fnOf x qual (nR st) (jr st) (dX st) .none kV doc pm an aD ct),fA⟩)(c:codeIn K aD qual=true)(k:keepIn K (.ref f)=true):qP K x qual f st:=⟨oc,od,an,fA,kV,doc,pm,aD,ct,l,c,k⟩
noncomputable def TopD(K:PySem.W.Frag)(x:Str)(st:Stmt):Prop:=∃f,nsIn K mainGlobals x=some (some (.ref f))/\qP K x x f st
theorem TopD.of{K:PySem.W.Frag}{x:Str}{st:Stmt}{f:Addr}(a:nsIn K mainGlobals x=some (some (.ref f)))(d:qP K x x f st):TopD K x st:=⟨f,a,d⟩
noncomputable def TopC(K:PySem.W.Frag)(x qual:Str)(C:Addr)(st:Stmt):Prop:=nsIn K mainGlobals x=some (some (.ref C))/\∃f,Mk K C f/\qP K "__init__" qual f st
theorem TopC.of{K:PySem.W.Frag}{x qual:Str}{C f:Addr}{st:Stmt}(a:nsIn K mainGlobals x=some (some (.ref C)))(m:makesIn K C=true)(i:findIn K (.ref C) "__init__"=some (some (.ref f)))(n:isFn K (.ref f)=true)(kc:keepIn K (.ref C)=true)(d:qP K "__init__" qual f st):TopC K x qual C st:=⟨a,f,⟨m,i,n,kc⟩,d⟩
section
variable {P:Program}{w:World}{K:PySem.W.Frag}{h:Heap}{mg:Str->Option Value}
theorem aah{x:Str}{v:Value}{i:Int}{t:Tok}(X:K.In h)(G:h.Ns mainGlobals mg)(e:nsIn K mainGlobals x=some (some v))(hv:v=.int i t):GI mg x i:=⟨t,by rw[<-hv];exact yr X G e⟩
theorem aai{C:Addr}{x:Str}(e:findIn K (.ref C) x=some none):ck K C x:=e
theorem aaj{x:Str}{a:Addr}{xs:List V}{o:Obj}{au:Array Value}{n:Nat}(X:K.In h)(G:h.Ns mainGlobals mg)(h1:nsIn K mainGlobals x=some (some (.ref a)))(h2:K.lookup a=some o)(h3:o.cls=.type "tuple"/\o.data=.seq au n/\au.size<=sizeLine/\Vals xs au.toList):∃a,mg x=some (.ref a)/\∀H:Hp,aQ K H a xs:=⟨a,yr X G h1,λH=>.inr ⟨o,au,n,h2,h3⟩⟩
theorem TopD.fn{x:Str}{st:Stmt}{ps:List Str}(X:K.In h)(G:h.Ns mainGlobals mg)(D:TopD K x st)(hb:La x x st ps:=by first|exact bk λ_ _ _ _ _ _ _=>rfl | exact bk λ_ _ _ _ _ _ _ _=>rfl | exact bk λ_ _ _ _ _ _ _ _ _=>rfl | exact bk λ_ _ _ _ _ _ _ _ _ _=>rfl | exact bk λ_ _ _ _ _ _ _ _ _ _ _=>rfl | exact bk λ_ _ _ _ _ _ _ _ _ _ _ _=>rfl):aR K mg x st ps:=by obtain⟨f,a,oc,od,an,fA,kV,doc,pm,aD,ct,l,c,k⟩:=D;have F:=zG (st:=st) l c k;exact⟨f,_,yr X G a,F,F.binds hb⟩
theorem TopC.cl{x qual:Str}{C:Addr}{st:Stmt}{ps:List Str}(X:K.In h)(G:h.Ns mainGlobals mg)(D:TopC K x qual C st)(hb:La "__init__" qual st ps:=by first|exact bk λ_ _ _ _ _ _ _=>rfl | exact bk λ_ _ _ _ _ _ _ _=>rfl | exact bk λ_ _ _ _ _ _ _ _ _=>rfl | exact bk λ_ _ _ _ _ _ _ _ _ _=>rfl | exact bk λ_ _ _ _ _ _ _ _ _ _ _=>rfl | exact bk λ_ _ _ _ _ _ _ _ _ _ _ _=>rfl):lx K mg x qual C st ps:=by obtain⟨a,f,m,oc,od,an,fA,kV,doc,pm,aD,ct,l,c,k⟩:=D;have F:=zG (st:=st) l c k;exact⟨f,_,yr X G a,m,F,F.binds hb⟩
theorem aak{fa:Addr}(X:K.In h)(G:h.Ns mainGlobals mg)(W9:mg "answers"=some (.ref fa))(D:TopD K "answers" qM)(O:∀(base:Heap) (fd:FuncData),j5 K "answers" "answers" qM fa fd->dZ P w K mg base aq 13 fa fd ["calls"] (CB K)) :
 ∃fd:FuncData,(∀(s:Shared) (us:List Value),us.length=(["calls"]:List Str).length->BindsTo s fd ⟨us,[]⟩ ((["calls"]:List Str).zip us))/\∀base:Heap,K.In base->base.Ns mainGlobals mg->dZ P w K mg base aq 13 fa fd ["calls"] (CB K):=by
 obtain⟨f,a,oc,od,an,fA,kV,doc,pm,aD,ct,l,c,k⟩:=D;have e:=W9.symm.trans (yr X G a);cases e;exact⟨_,λs us hu=>match us,hu with | [_],_=>.of_eq rfl,λbase _ _=>O _ _ (zG (st:=qM) l c k)⟩
noncomputable def aal{call run cell book reader step bD fa:Addr}(X:K.In h)(G:h.Ns mainGlobals mg):=λ(Xa:TopC K "Call" "Call.__init__" call Hs) (Xb:TopC K "Run" "Run.__init__" run Hr) (Xc:TopC K "Cell" "Cell.__init__" cell Hq) (Xd:TopC K "Book" "Book.__init__" book AW) (Xe:TopC K "Reader" "Reader.__init__" reader Ht) (Xf:TopC K "Step" "Step.__init__" step Hu) (T:Gx K mg call run cell book reader step bD) Xg Xh Xi Xj Xk Xl Xm Xn Xo Xp Xq Xr Xs Xt Xu Xv Xw Xx Xy Xz XA XB XC XD XE XF XG XH XI XJ XM XN XO XQ XR XS XT XU XW XX XY XZ X0 X1 X2 X3 X4 X5 X6 X7 X8 X9 Ya Yb Yc Yd Ye Yf Yg Yh Yi Yj Yk Yl Ym Yn Yo Yp Yq Yr Ys Yt (base:Heap) (fd:FuncData) (F:j5 K "answers" "answers" qM fa fd)=>
 have T:Tx K mg ⟨call,run,cell,book,reader,step,bD⟩:=T;have Lb:=@Si P w _ _ base _ T (TopC.cl X G Xc);have Lc:=@Sj P w _ _ base _ T (TopC.cl X G Xb);have Yu:=@Sk P w _ _ base _ T (TopC.cl X G Xa);have Yv:=@Sl P w _ _ base _ T (TopC.cl X G Xe);have Yw:=@Sm P w _ _ base _ T (TopC.cl X G Xf);have Ld:=@So P w _ _ base _ T (TopC.cl X G Xd);have Yx:=@Rx P w _ _ base (TopD.fn X G Xs);have Yy:=@Ry P w _ _ base (TopD.fn X G Xt);have uz:=@Rz P w _ _ base _ T (TopD.fn X G Xu) Yx Yy;have Yz:=@RB P w _ _ base _ T (TopD.fn X G Xv) uz;have lM:=@RE P w _ _ base _ T (TopD.fn X G Xh);have YA:=@RG P w _ _ base _ T (TopD.fn X G Xi);have yc:=@RI P w _ _ base _ T (TopD.fn X G Xl);have Le:=@RJ P w _ _ base _ T (TopD.fn X G Xm);have CI:=@RK P w _ _ base _ T (TopD.fn X G Xn);have Lf:=@RL P w _ _ base _ T (TopD.fn X G Xp);have CJ:=@RN P w _ _ base _ T (TopD.fn X G Xo);have Lg:=@RV P w _ _ base _ T (TopD.fn X G Xq) lM;have Lh:=@Sd P w _ _ base _ T (TopD.fn X G Xr) Lg;have Li:=@Su P w _ _ base _ T (TopD.fn X G Xj);have YB:=@Sx P w _ _ base _ T (TopD.fn X G Xk);have CK:=@Sy P w _ _ base _ T (TopD.fn X G Xw) Lh;have YC:=@SF P w _ _ base _ T (TopD.fn X G Xx) uz Yz;have YD:=@SG P w _ _ base _ T (TopD.fn X G Xy) YC YA Lb Li CK;have Lj:=@SK P w _ _ base _ T (TopD.fn X G Xz) uz;have YE:=@SM P w _ _ base _ T (TopD.fn X G XA) Lj YB CK;have YF:=@SN P w _ _ base _ T (TopD.fn X G XB) Lj CK;have Lk:=@SQ P w _ _ base _ T (TopD.fn X G Ye) lM yc;have YG:=@SW P w _ _ base _ T (TopD.fn X G Yf) CI Lf CJ;have Ll:=@SX P w _ _ base _ T (TopD.fn X G Yg) Le YG Yw;have Lm:=@S6 P w _ _ base _ T (TopD.fn X G Yh);have YH:=@S9 P w _ _ base _ T (TopD.fn X G Yi) CI Lm;have YI:=@Tc P w _ _ base _ T (TopD.fn X G Yj) lM;have YJ:=@Td P w _ _ base _ T (TopD.fn X G Yk);have YK:=@Te P w _ _ base _ T (TopD.fn X G Yl);have Ln:=@Tt P w _ _ base _ T (TopD.fn X G Ym) Lk Ll YJ YK YH YI;have YL:=@TU P w _ _ base _ T (TopD.fn X G Yn) Ln;have Lo:=@TV P w _ _ base _ T (TopD.fn X G Yo) yc CJ Lc Lm Ln;have YM:=@Ua P w _ _ base _ T (TopD.fn X G Yp) Lo;have YN:=@Ub P w _ _ base _ T (TopD.fn X G Yq) Lo;have YO:=@Ud P w _ _ base _ T (TopD.fn X G Yr) Lk Ll;have YQ:=@Uh P w _ _ base _ T (TopD.fn X G XX) uz;have qQ:=@Uj P w _ _ base _ T (TopD.fn X G XY);have YR:=@Uk P w _ _ base _ T (TopD.fn X G XZ) qQ;have YS:=@Ul P w _ _ base _ T (TopD.fn X G X0) qQ;have YT:=@Um P w _ _ base _ T (TopD.fn X G X1) qQ;have YU:=@Uo P w _ _ base _ T (TopD.fn X G X2) qQ;have YV:=@Uq P w _ _ base _ T (TopD.fn X G X3) qQ lM;have YW:=@Ur P w _ _ base _ T (TopD.fn X G X4) lM;have YX:=@Uv P w _ _ base _ T (TopD.fn X G X5) lM Lh;have YY:=@Uz P w _ _ base _ T (TopD.fn X G X6) qQ yc YX;have yd:=@UG P w _ _ base _ T (TopD.fn X G X7);have ye:=@UI P w _ _ base _ T (TopD.fn X G X8) yd;have Lp:=@UJ P w _ _ base _ T (TopD.fn X G X9) yd ye;have YZ:=@UL P w _ _ base _ T (TopD.fn X G Ya) yd ye;have Y0:=@UO P w _ _ base _ T (TopD.fn X G Yb) ye Lp YZ;have Y1:=@UR P w _ _ base _ T (TopD.fn X G Yc) ye Lp Y0;have Y2:=@UY P w _ _ base _ T (TopD.fn X G Yd) lM yd Y1;have Y3:=@U4 P w _ _ base _ T (TopD.fn X G XC) Lf;have Y4:=@U5 P w _ _ base _ T (TopD.fn X G XD) yc Le CI CJ;have Y5:=@U6 P w _ _ base _ T (TopD.fn X G XE) lM Lg;have Y6:=@Vp P w _ _ base _ T (TopD.fn X G XF) lM Y3 Y4 Y5;have CL:=@Vq P w _ _ base _ T (TopD.fn X G XG);have yf:=@Vt P w _ _ base _ T (TopD.fn X G XH) CL;have yg:=@Vv P w _ _ base _ T (TopD.fn X G XI) yf;have Lq:=@Vw P w _ _ base _ T (TopD.fn X G XJ) yg;have yh:=@Vz P w _ _ base _ T (TopD.fn X G XM) CL yg;have Y7:=@VA P w _ _ base _ T (TopD.fn X G XQ) yh;have Lr:=@VB P w _ _ base _ T (TopD.fn X G XN) yh uz;have Ls:=@VD P w _ _ base _ T (TopD.fn X G XO) yg Lr;have Y8:=@VE P w _ _ base _ T (TopD.fn X G XR) Lq yh Ls Y7 yf Lc;have Y9:=@VH P w _ _ base _ T (TopD.fn X G XS) yf Lr yh Ls Lb yg Lq Y8;have Za:=@VQ P w _ _ base _ T (TopD.fn X G XT) yf Y9 Li;have Zb:=@VV P w _ _ base _ T (TopD.fn X G XU) Yv Ld CL Za Y6;have Zc:=@Wk P w _ _ base _ T (TopD.fn X G XW) Zb;have Zd:=@Wo P w _ _ base _ T (TopD.fn X G Xg) Yu;have Ze:=@Wv P w _ _ base _ T (TopD.fn X G Ys) YM YN;have Zf:=@Wx P w _ _ base _ T (TopD.fn X G Yt) YD YE YF YL Ze YO YQ YR YS YT YU YV YY YW Y2 Zc
 @WK P w _ _ base _ _ _ T F Ld Zd Zf
end
end Rr
namespace PySem.W.Fast
def tw8499377168751871948:=trivial
def tw11457053730038757074:=trivial
def tw2200895578317424657:=trivial
def tw15398799377686073438:=trivial
def tw15679816505003808670:=trivial
def tw2910352346794351736:=trivial
def tw174186557680911420:=trivial
def tw160569467387250483:=trivial
def tw4431148322384283861:=trivial
def tw9099774118521452410:=trivial
def tw12423810475191912446:=trivial
def tw8912228050191607850:=trivial
def tw17470370060370953016:=trivial
def tw16329337116262104867:=trivial
def tw5031600215808977497:=trivial
def tw2703131696722087171:=trivial
def tw9220288628952841877:=trivial
def tw15396514409904706421:=trivial
def tw566575359712431881:=trivial
def tw9642948105443170659:=trivial
def tw995447585562049883:=trivial
def tw882123229169441861:=trivial
def tw1116046608245231421:=trivial
def tw4216769551610453133:=trivial
def tw17500649165948050762:=trivial
def tw16013320647398656637:=trivial
def tw8234244348473556974:=trivial
def tw15149836925145392700:=trivial
def tw15031610918522218363:=trivial
def tw2285985011091618630:=trivial
def tw16254146121568094518:=trivial
def tw11457470535168850126:=trivial
def tw17484134600112014117:=trivial
def tw4050430963456952735:=trivial
def tw7534908152667804926:=trivial
def tw6160623866475791512:=trivial
def tw11673010112142169848:=trivial
def tw3325870892399743298:=trivial
def tw15405011002545472815:=trivial
def tw1457742648089356151:=trivial
def tw13393607711125330142:=trivial
def tw8223082200628239164:=trivial
def tw4456926471062641172:=trivial
def tw14158393513079350031:=trivial
def tw1758395820407565028:=trivial
def tw2183885626656192954:=trivial
def tw17092850507335378213:=trivial
def tw3607139452719437598:=trivial
def tw6755971504320154540:=trivial
def tw12358813512806672718:=trivial
def tw10532952736765386404:=trivial
def tw9399859402226199821:=trivial
def tw4281500689962401691:=trivial
def tw14803529754108958621:=trivial
def tw7253650104836065739:=trivial
def tw17185376070432520601:=trivial
def tw9136976217314634098:=trivial
def tw1781452923660381129:=trivial
def tw1152071586654181714:=trivial
def tw16088027096405098015:=trivial
def tw17506971022181682478:=trivial
def tw14634984144591033409:=trivial
def tw17032499613238198636:=trivial
def tw11309377590373963244:=trivial
def tw10306581951449716328:=trivial
def tw8749896223992456295:=trivial
def tw6680073460940182568:=trivial
def tw1592892084628116312:=trivial
def tw10925340119723971268:=trivial
def tw17246566769964835123:=trivial
def tw13274613286829495288:=trivial
def tw2906933233399961731:=trivial
def tw16393622925451327193:=trivial
def tw16654543096953005770:=trivial
def tw7795116251794743033:=trivial
def tw14878015827138425666:=trivial
def tw5075970284813451864:=trivial
def tw1718364971521820959:=trivial
def tw183072108554314509:=trivial
def tw9177562715381304257:=trivial
def tw10652041144751573314:=trivial
def tw4917458578294693003:=trivial
def tw6539192197074627387:=trivial
def tw9455655315886315658:=trivial
def tw1309432129976849163:=trivial
def tw11660156285440840711:=trivial
def tw8419140457811199840:=trivial
def tw2682391410171378201:=trivial
def tw4182574554760591193:=trivial
def tw18201685356777548991:=trivial
def tw18353828377108755600:=trivial
def tw668837148740530055:=trivial
def tw3733445181873631678:=trivial
def tw10437164356512781550:=trivial
def tw14164461210381771405:=trivial
def tw11334801138802224293:=trivial
def tw7272056884091431134:=trivial
def tw17116397007565196036:=trivial
def tw17210744252203640897:=trivial
def tw703873874253723048:=trivial
def tw12650406667478706140:=trivial
def tw14111935443578804685:=trivial
def tw8870547159326167166:=trivial
def tw1453837343684731590:=trivial
def tw4628689203447018119:=trivial
def tw17790644039152348772:=trivial
def tw17090885973088495345:=trivial
def tw4154726373846244146:=trivial
def tw17738116032797488347:=trivial
def tw6631136255984545580:=trivial
def tw17713683926196952032:=trivial
def tw6733088215520279429:=trivial
def tw2732930759221700291:=trivial
def tw13314313728309676691:=trivial
def tw3457883481503430596:=trivial
def tw13915630812789879507:=trivial
def tw6750121456061688045:=trivial
def tw3118096539299871393:=trivial
def tw12112176589553292786:=trivial
def tw6665376554836915254:=trivial
def tw3437994045091559660:=trivial
def tw11179939182044101655:=trivial
def tw6917904184825805576:=trivial
def tw8806851589060994174:=trivial
def tw1883600500438466215:=trivial
def tw4759568821218191193:=trivial
def tw17492204077550385719:=trivial
def tw13480775258215883207:=trivial
def tw13944290799986543615:=trivial
def tw3925423481738850145:=trivial
def tw3198950122995345471:=trivial
def tw16130768135645197000:=trivial
def tw8734839449787077718:=trivial
def tw4062958794124553963:=trivial
def tw10579171691864588519:=trivial
def tw12426752977740217832:=trivial
def tw3128444811709326347:=trivial
def tw15933954509167371987:=trivial
def tw17046264606831762260:=trivial
def tw5763974045110841204:=trivial
def tw11594105147033862421:=trivial
def tw10374537545019124877:=trivial
def tw3104356210494696368:=trivial
def tw10058094586307214332:=trivial
def tw13482252555139484039:=trivial
def tw13733545283697752667:=trivial
def tw7272756367531619084:=trivial
def tw11916340344665896238:=trivial
def tw979427411361452071:=trivial
def tw13101562590301401846:=trivial
def tw7323704645483737587:=trivial
def tw2282894200165686931:=trivial
def tw9181782569096930754:=trivial
def tw99326212495535554:=trivial
def tw14981171025622072095:=trivial
def tw10594459215581429384:=trivial
def tw4539011898702824412:=trivial
def tw14944568497658348508:=trivial
def tw13664520285904381602:=trivial
def tw482799717380756130:=trivial
def tw10760727159385153051:=trivial
def tw483475395271967982:=trivial
def tw5031997160121964315:=trivial
def tw1066896572059656805:=trivial
def tw4904044746607889809:=trivial
def tw15408279938655977180:=trivial
def tw7265359344926263446:=trivial
def tw15152251810778144403:=trivial
def tw3327649398410850938:=trivial
def tw1482340768920002803:=trivial
def tw18078855095623333923:=trivial
def tw13262178869415887494:=trivial
def tw11532748279489234367:=trivial
def tw9225219549969114610:=trivial
def tw10473554817149182240:=trivial
def tw14218148603753043578:=trivial
def tw9192339457227726854:=trivial
def tw114406785316689600:=trivial
def tw6752968078309416289:=trivial
def tw18345271525479898717:=trivial
def tw8752937390923081158:=trivial
def tw8116039539722068720:=trivial
def tw3737922304271830570:=trivial
def tw8862237663663370951:=trivial
def tw9658117916591368654:=trivial
def tw9217453763287443137:=trivial
def tw15098898870379687804:=trivial
def tw1583332425785061034:=trivial
def tw6370130039048235585:=trivial
def tw4658072167586698926:=trivial
def tw1047189741546102444:=trivial
def tw4232156638612361465:=trivial
def tw6794871713364305615:=trivial
def tw5793339545208843056:=trivial
def tw5603614246658411796:=trivial
def tw13741849413796059702:=trivial
def tw13507587409523543125:=trivial
def tw4444981796702006259:=trivial
def tw1122512821073394303:=trivial
def tw17336222217480210036:=trivial
def tw1638159213639176352:=trivial
def tw4688550028603779504:=trivial
def tw4646857936193864764:=trivial
def tw15181000407291438480:=trivial
def tw8073657945727773457:=trivial
def tw7107542438764484607:=trivial
def tw13427371565885000946:=trivial
def tw7694060640068145812:=trivial
def tw615964630863580011:=trivial
def tw16918197489389711561:=trivial
def tw10093439538399738779:=trivial
def tw5962481548443994089:=trivial
def tw7164295397213251749:=trivial
def tw17070772401282003550:=trivial
def tw2816638993724957694:=trivial
def tw14892013898931657281:=trivial
def tw13500748089914154927:=trivial
def tw9541014084411397386:=trivial
def tw7927058910808560571:=trivial
def tw7696282405495849177:=trivial
def tw547481911426560947:=trivial
def tw9445650106887791232:=trivial
def tw8316855423200937483:=trivial
def tw15401058784156909109:=trivial
def tw7985125450378546450:=trivial
def tw2295348886958801449:=trivial
def tw8413059704876541333:=trivial
def tw10145499238121006566:=trivial
def tw14206783952750299669:=trivial
def tw443418171975009606:=trivial
def tw1216895847447286308:=trivial
def tw3221392513444668368:=trivial
def tw4484575425309232103:=trivial
def tw9923524283714323230:=trivial
def tw9951491254484443257:=trivial
def tw2203063871377419690:=trivial
def tw4592611953887250396:=trivial
def tw16532483117403541309:=trivial
def tw1066081680523690899:=trivial
def tw415240476015059763:=trivial
def tw9797601096951408145:=trivial
def tw9939984689948452397:=trivial
def tw8210425046680411816:=trivial
def tw4995508864363314539:=trivial
def tw5252660527403635326:=trivial
def tw11945248145151245110:=trivial
def tw8485746603507526456:=trivial
def tw4305091532902080400:=trivial
def tw11406424550953668155:=trivial
def tw8581665665739784984:=trivial
def tw16531159532318713007:=trivial
def tw14150119765502968279:=trivial
def tw14638720616902129258:=trivial
def tw4955873714835108356:=trivial
def tw12781162099933812478:=trivial
def tw11647109737811170002:=trivial
def tw11555093026133669576:=trivial
def tw15785052586993553424:=trivial
def tw7770297913837929585:=trivial
def tw13820638418083768663:=trivial
def tw5996028316075566162:=trivial
def tw14075074106617123151:=trivial
def tw9340791022258650008:=trivial
def tw4343648063706364336:=trivial
def tw1571956218550355492:=trivial
def tw10760686778140288669:=trivial
def tw10743126492898332114:=trivial
def tw5159736735906404034:=trivial
def tw17861545730592204109:=trivial
def tw10935820673556706650:=trivial
def tw8445646969831859806:=trivial
def tw5538897658312208777:=trivial
def tw5254590763536060188:=trivial
def tw6913929463005459819:=trivial
def tw12061463743892437759:=trivial
def tw8017588821811950846:=trivial
def tw607475733741846638:=trivial
def tw5607209883391688079:=trivial
def tw6695809287987129121:=trivial
def tw14690858565896345506:=trivial
def tw9023450406678678895:=trivial
def tw15945345613938876304:=trivial
def tw10331613045338631141:=trivial
def tw2109702778401367581:=trivial
def tw8412092278910071355:=trivial
def tw9812626978568978059:=trivial
def tw105529181423808969:=trivial
def tw3211887807028415692:=trivial
def tw8127060369072759333:=trivial
def tw3995874453959830059:=trivial
def tw4919286740965258751:=trivial
def tw16820363084197054163:=trivial
def tw373412155056176516:=trivial
def tw7857315472374310807:=trivial
def tw40969084408641817:=trivial
def tw5984911715609973595:=trivial
def tw17091902565835450954:=trivial
def tw4719690283473869481:=trivial
def tw5607485269030591011:=trivial
def tw12095646435436006751:=trivial
def tw17315280874555444538:=trivial
def tw15453431943933814508:=trivial
def tw13770167347484594023:=trivial
def tw18412304526665442560:=trivial
def tw6534731749252515813:=trivial
def tw4852098708263052432:=trivial
def tw7004584190524472354:=trivial
def tw8279508695330606046:=trivial
def tw2823870720229352644:=trivial
def tw15327688572971116436:=trivial
def tw6426435215130856426:=trivial
def tw17313796780204186379:=trivial
def tw16146781776764934802:=trivial
def tw14473426466129736555:=trivial
def tw11496526059291656469:=trivial
def tw1149453699017467116:=trivial
def tw13657667809907319013:=trivial
def tw12321174860894823527:=trivial
def tw13170214974614446654:=trivial
def tw7113763745904054211:=trivial
def tw52031282625749933:=trivial
def tw1395817101476164922:=trivial
def tw4708392363300995034:=trivial
def tw8131476568948869313:=trivial
def tw8950646317918479969:=trivial
def tw10867195178139174619:=trivial
def tw12390522336820773505:=trivial
def tw15483507940853076296:=trivial
def tw16353876350629155775:=trivial
def tw2048317205738740453:=trivial
def tw16885053952977227703:=trivial
def tw410286370843161005:=trivial
def tw4472009362293981938:=trivial
def tw1713520129614179816:=trivial
def tw16916012461517325410:=trivial
def tw13409041794850508047:=trivial
def tw9459769194894412088:=trivial
def tw17230197248549385924:=trivial
def tw17410238988626444574:=trivial
def tw2303176388791216967:=trivial
def tw5168322140519029517:=trivial
def tw1067855220542983519:=trivial
def tw9380541531326172083:=trivial
def tw16055338297708036288:=trivial
def tw5135896218787290251:=trivial
def tw2613288681998598010:=trivial
def tw16474527523905190730:=trivial
def tw6191812480865122176:=trivial
def tw9666667713558117492:=trivial
def tw13020546433458908480:=trivial
def tw4760138707713735694:=trivial
def tw16289743358258001457:=trivial
def tw10507334966540016044:=trivial
def tw6455175492559017685:=trivial
def tw10595698284784663352:=trivial
def tw10341264218261109742:=trivial
def tw2496875532011301340:=trivial
def tw3070816409780337998:=trivial
def tw6622750751880987551:=trivial
def tw3010073587159449017:=trivial
def tw1602315530957783061:=trivial
def tw13918328663434404973:=trivial
def tw6419812581010206051:=trivial
def tw6594432497572486546:=trivial
def tw9229017345252136622:=trivial
def tw12212789729943637733:=trivial
def tw13753671659516456090:=trivial
def tw16328312042224834735:=trivial
def tw13298592611263499417:=trivial
def tw8695813364751047155:=trivial
def tw17152664108043352358:=trivial
def tw10099790700222566861:=trivial
def tw5877611749160266464:=trivial
def tw10613337898231921171:=trivial
def tw17902657061392250485:=trivial
def tw2928844445676709219:=trivial
def tw4250800223903779174:=trivial
def tw14954807510979022083:=trivial
def tw12498291823766837280:=trivial
def tw17400658909489487123:=trivial
def tw8150036528665602441:=trivial
def tw10887544493808921:=trivial
def tw6872524398102875470:=trivial
def tw3358888645835519593:=trivial
def tw1685078515600091820:=trivial
def tw2509130254966966174:=trivial
def tw18314653050591399694:=trivial
def tw3870359257882920481:=trivial
def tw12552074389894199106:=trivial
def tw16693221265514410363:=trivial
def tw7300808715120028416:=trivial
def tw11005213392659038446:=trivial
def tw10004091476094295431:=trivial
def tw10788417477824968519:=trivial
def tw6306608449938453638:=trivial
def tw17555851561439898566:=trivial
def tw18249787216693241365:=trivial
def tw14787591290747007966:=trivial
def tw821478644763746114:=trivial
def tw4153240682264174563:=trivial
def tw6381751421019722580:=trivial
def tw224092647541753612:=trivial
def tw10605292541826240406:=trivial
def tw5748999835387461641:=trivial
def tw9006365516709932033:=trivial
def tw4803101655780212886:=trivial
def tw13968550783055109766:=trivial
def tw626555225240693501:=trivial
def tw10184041834340919550:=trivial
def tw11829486572233086458:=trivial
def tw17449113426173961916:=trivial
def tw9758488868983024781:=trivial
def tw11068154475189689083:=trivial
def tw3169157857824109349:=trivial
def tw8441782366173398989:=trivial
def tw16815371190780061133:=trivial
def tw14508582637896327710:=trivial
def tw4170480886259701872:=trivial
def tw6565519825781346405:=trivial
def tw1086738438950002715:=trivial
def tw6017644936814143882:=trivial
def tw566027612170058066:=trivial
def tw17455476745873324900:=trivial
def tw5675730610768113535:=trivial
def tw7022306871139463284:=trivial
def tw13222447496786256444:=trivial
def tw5758780420360540490:=trivial
def tw6592573359843138103:=trivial
def tw14500036349403787334:=trivial
def tw7056505455310383249:=trivial
def tw9612775287528594363:=trivial
def tw15681763596087527490:=trivial
def tw13204722326700733198:=trivial
def tw8553746486239575037:=trivial
def tw7204787394865396897:=trivial
def tw2246971428843890725:=trivial
def tw14626231234587192083:=trivial
def tw14365837083201872163:=trivial
def tw9827048174162412102:=trivial
def tw6692580426750562653:=trivial
def tw2916123166566423027:=trivial
def tw5701006467226554208:=trivial
def tw17254156762136228692:=trivial
def tw2775219511704140712:=trivial
def tw892114776418113872:=trivial
def tw5364274065704742776:=trivial
def tw13997396517745282736:=trivial
def tw7856638528572898799:=trivial
def tw12266318698081647813:=trivial
def tw14841429455096543857:=trivial
def tw11641046506914281867:=trivial
def tw180077573666570000:=trivial
def tw6322386811421603742:=trivial
def tw12731067191321324739:=trivial
def tw1593589918807861596:=trivial
def tw12958732225582682158:=trivial
def tw3313758891863954233:=trivial
def tw5225802173426928122:=trivial
def tw6757389663865541284:=trivial
def tw3619997893030967526:=trivial
def tw17897494130626393688:=trivial
def tw3121525924160584481:=trivial
def tw5295278230393820306:=trivial
def tw3972129043642178581:=trivial
def tw2740258190972318323:=trivial
def tw11913920297083169518:=trivial
def tw9415996714396443020:=trivial
def tw16621917169604714590:=trivial
def tw16491424895074973535:=trivial
def tw13168463755063498901:=trivial
def tw5989197865935198054:=trivial
def tw15923288223074345346:=trivial
def tw6380777853689695936:=trivial
def tw10183807145932562737:=trivial
def tw11652281059536307559:=trivial
def tw15410887547747818539:=trivial
def tw2044324179973908798:=trivial
def tw2343578473433266345:=trivial
def tw7987324298402851582:=trivial
def tw16791985276713981118:=trivial
def tw14133920550050967046:=trivial
def tw12684265077570776984:=trivial
def tw5495256983701098348:=trivial
def tw2798493444521438885:=trivial
def tw14396566870066635671:=trivial
def tw5495962671847123091:=trivial
def tw14371197334264441359:=trivial
def tw13919049288159440164:=trivial
def tw10231784189196837374:=trivial
def tw9212630121607289366:=trivial
def tw15404783304580853267:=trivial
def tw17977239729528168827:=trivial
def tw11757329817149419216:=trivial
def tw1224937697006830144:=trivial
def tw5218510483972221490:=trivial
def tw8224000101635429490:=trivial
def tw5962399676961926264:=trivial
def tw17524512934253215395:=trivial
def tw12077085382769501322:=trivial
def tw8218728147025538803:=trivial
def tw462519499337549069:=trivial
def tw12145390379802155758:=trivial
def tw12789713440488314940:=trivial
def tw16652401957407015487:=trivial
def tw11259786892645732266:=trivial
def tw4810074173139696615:=trivial
def tw15834576399834068730:=trivial
def tw15965222219067311336:=trivial
def tw17470169439097528800:=trivial
def tw12570146375638567150:=trivial
def tw8217519451273258152:=trivial
def tw4415349856401833814:=trivial
def tw17801170222111920293:=trivial
def tw12613921693746763263:=trivial
def tw2042851122110856890:=trivial
def tw11900927091185290490:=trivial
def tw10725719649531637493:=trivial
def tw5024020602022048531:=trivial
def tw3170579121462533617:=trivial
def tw10666464937341540416:=trivial
def tw3787458717847041957:=trivial
def tw1740947685135308204:=trivial
def tw12752108169800289919:=trivial
def tw14256620528454639461:=trivial
def tw12346969793296264645:=trivial
def tw14448508050918986296:=trivial
def tw9250052263073256329:=trivial
def tw17523587051204233770:=trivial
def tw15836245992241781429:=trivial
def tw637926858375666138:=trivial
def tw15512565867319215603:=trivial
def tw3657629455746750576:=trivial
def tw12927450269451874970:=trivial
def tw6912816547861735960:=trivial
def tw12592944755500749274:=trivial
def tw9027244694325354020:=trivial
def tw8855580863669343204:=trivial
def tw12385170436533715061:=trivial
def tw5705189837799503378:=trivial
def tw874832783592027407:=trivial
def tw10041940151097022788:=trivial
def tw18386973665644340238:=trivial
def tw16811327478454322884:=trivial
def tw6950542750011384294:=trivial
def tw3269643775661390314:=trivial
def tw1659578300690082704:=trivial
def tw12686284147646320736:=trivial
def tw11239118927132670456:=trivial
def tw13957308903142142416:=trivial
def tw6349688093326401014:=trivial
def tw12100907714645916072:=trivial
def tw12849959523395458551:=trivial
def tw9008453375515171591:=trivial
def tw4568134362741467888:=trivial
def tw18383727482829636805:=trivial
def tw12897805912149046123:=trivial
def tw8704074033078871532:=trivial
def tw7979940146506654261:=trivial
def tw16986924582108536445:=trivial
def tw14702487752636240470:=trivial
def tw1610734122860044123:=trivial
def tw569401449497591567:=trivial
def tw9731039634138515869:=trivial
def tw7083222919553804386:=trivial
def tw7163088825031341404:=trivial
def tw17800850638688406873:=trivial
def tw5407300841496297883:=trivial
def tw12591312925302004987:=trivial
def tw9553189389536585911:=trivial
def tw6769043253234360335:=trivial
def tw4624029969024692996:=trivial
def tw1414451787627176860:=trivial
def tw12088032558905652060:=trivial
def tw12229453178623070180:=trivial
def tw6280382071364056579:=trivial
def tw834096132294983007:=trivial
def tw7058997503925306753:=trivial
def tw9252538359726768361:=trivial
def tw8683666610168797835:=trivial
def tw12980935748152043136:=trivial
def tw1056265284126369188:=trivial
def tw16720174601862178105:=trivial
def tw16096598686804607324:=trivial
def tw12627359599053021269:=trivial
def tw6339301670096918503:=trivial
def tw4947446190547385589:=trivial
def tw4698319066779110108:=trivial
def tw12712206315814817222:=trivial
def tw3038505197866680321:=trivial
def tw10449031104847652279:=trivial
def tw12919585866117796522:=trivial
def tw771988920503814953:=trivial
def tw11366027471740677263:=trivial
def tw11052749091260747590:=trivial
def tw17392408263375074441:=trivial
def tw14661024920920326495:=trivial
def tw1213999478660075811:=trivial
def tw16453303354551023216:=trivial
def tw16528442832831962175:=trivial
def tw3006268935094460837:=trivial
def tw6590031408396679851:=trivial
def tw5831754093090502110:=trivial
def tw2364011880465193457:=trivial
def tw2564076258832345469:=trivial
end PySem.W.Fast
open PySem PySem.W PyProof.Rows
set_option maxRecDepth 100000 in
set_option maxHeartbeats 0 in
theorem PySem.Challenge.cw_rerun_s01_answers_holds : PySem.Challenge.rw_rerun_s01_answers.Holds := by
  w_on; k_headS; (case hw => exact ⟨[.list []], by decide +kernel, by decide +kernel⟩)
  k_fillS
  refine L2.ZA (r := PySem.Challenge.rw_rerun_s01_answers) (k := 13) (CX := L2.aq) (ps := ["calls"]) (sp := Rr.CB) (by decide +kernel) rfl rfl ⟨rfl, by decide, by decide⟩ (fun w h Y => PySem.W.kIn_of Y) ?F ?S (fun _ _ _ _ z => z)
  case F =>
    intro w mg fa h Y KX G hmg
    refine' Rr.aak KX G hmg ?_ (Rr.aal KX G ?_ ?_ ?_ ?_ ?_ ?_ (.mk ?_ ?_ ?_ ?_ ?_ ?_ ?_ ?_ ?_ ?_ ?_ ?_ ?_ ?_ ?_ ?_ ?_ ?_ ?_ ?_ ?_ ?_ ?_ ?_ ?_ ?_ ?_ ?_ ?_ ?_ ?_ ?_ ?_ ?_ ?_ ?_ ?_ ?_ ?_ ?_ ?_ ?_ ?_ ?_ ?_ ?_ ?_ ?_ ?_ ?_ ?_ ?_ ?_ ?_ ?_ ?_ ?_ ?_ ?_ ?_ ?_ ?_ ?_ ?_ ?_ ?_ ?_ ?_ ?_ ?_ ?_ ?_ ?_ ?_ ?_ ?_ ?_ ?_ ?_ ?_ ?_ ?_ ?_) ?_ ?_ ?_ ?_ ?_ ?_ ?_ ?_ ?_ ?_ ?_ ?_ ?_ ?_ ?_ ?_ ?_ ?_ ?_ ?_ ?_ ?_ ?_ ?_ ?_ ?_ ?_ ?_ ?_ ?_ ?_ ?_ ?_ ?_ ?_ ?_ ?_ ?_ ?_ ?_ ?_ ?_ ?_ ?_ ?_ ?_ ?_ ?_ ?_ ?_ ?_ ?_ ?_ ?_ ?_ ?_ ?_ ?_ ?_ ?_ ?_ ?_ ?_ ?_ ?_ ?_ ?_ ?_ ?_ ?_ ?_ ?_)
    all_goals first | k_is | (refine' Rr.TopD.of ?_ ?_ <;> first | k_is | (refine' Rr.qP.of ?_ ?_ ?_ <;> first | k_is | skip) | skip) | (refine' Rr.aai ?_ <;> k_is) | (refine' Rr.aah KX G ?_ ?_ <;> first | k_is | exact rfl | skip) | (refine' mg_none_of KX G ?_ <;> k_is) | (refine' mg_of KX G ?_ <;> k_is) | (refine' L2.hJ.mk ?_ ?_ ?_ ?_ <;> k_is) | (refine' Rr.TopC.of ?_ ?_ ?_ ?_ ?_ ?_ <;> first | k_is | (refine' Rr.qP.of ?_ ?_ ?_ <;> first | k_is | skip) | skip) | (refine' Rr.aaj KX G ?_ ?_ ⟨?_, ?_, ?_, ?_⟩ <;> first | k_is | exact rfl | decide | exact .cons ⟨_, rfl⟩ (.cons ⟨_, rfl⟩ (.cons ⟨_, rfl⟩ (.cons ⟨_, rfl⟩ .nil))) | skip) | decide | skip
    all_goals (refine' L2.zO.mk ?_ ?_ <;> first | k_exc | kts_isx | kernel_rfl)
  case S =>
    intro K H xs a hO hwi hask hx
    cases hx with
    | cons h1 h2 =>
      cases h2
      cases h1 with
      | lst hs ha =>
        have e := L2.OU a.1 _ ha
        subst e
        have q : ((Codec.inLen 0 30000 a.1 && a.1.all (Codec.inInt 0 8589934591)) && true) = true := hwi
        rw [Bool.and_eq_true, Bool.and_eq_true] at q
        exact ⟨_, a.1, rfl, hs, (Codec.inNat_iff.mp q.1.1).2, hask, fun H' p hp => .lst (L2.ax.of hp) (L2.OT _)⟩
