import PyProof.Rows.All
import Wide.All
import OpenK.AllK
import Wide.FinOn
import Lean
import PyProof.EqAt
import PyProof.EqKinds
import PyProof.TupleCall
import PySem.Challenge.RW_wordscales_k10_what_rows_show
abbrev LPd:=List PySem.PyData
abbrev LAd:=List PySem.Addr
abbrev LNt:=List Nat
abbrev LZr:=List (Nat->Int)
abbrev LQr:=List (Nat->Rat)
abbrev LSr:=List PySem.Str
abbrev LVl:=List PySem.Value
abbrev LSA:=List (PySem.Str×PySem.Addr)
abbrev ShX:=PySem.Shared
abbrev AdX:=PySem.Addr
abbrev PdX:=PySem.PyData
local macro_rules| `(tactic|trivial)=>`(tactic|first |exact .inl rfl|exact .inr rfl|assumption)
local macro_rules|`(tactic|trivial)=>`(tactic|first |exact Or.inl rfl|exact Or.inr (Or.inl rfl)|exact Or.inr (Or.inr rfl))
noncomputable section
abbrev NDx(x:PySem.Str):Prop:=(x==("__debug__":PySem.Str))=false
abbrev NCx(x:PySem.Str):Prop:=(x==("__classdict__":PySem.Str))=false
abbrev VSx:=PySem.Value->PySem.Shared->Prop
abbrev PNx:=List (PySem.Addr×PySem.Obj)
abbrev FRx:=PySem.W.Frag
abbrev Q1x:=Nat->Rat
abbrev Q2x:=Nat->Nat->Rat
abbrev Q3x:=Nat->Nat->Nat->Rat
abbrev Z1x:=Nat->Int
set_option Elab.async false
set_option linter.all false
set_option maxRecDepth 100000
def qe:=@List.length_map
def qf:=@if_pos
def qg:=@List.mem_append
def qj:=@PySem.Heap.get?_push_of_some
def qk:=@Option.bind_some
def qm:=@List.getElem?_eq_some_iff
def qo:=@List.getElem?_map
def qp:=@List.getElem?_eq_getElem
def qq:=@if_neg
def qr:=@Nat.le_refl
def qt:=@PySem.wpAny_bind
def qu:=@List.mem_cons
def qw:=@Nat.le_trans
def qx:=@List.getElem?_append_right
def qy:=@List.length_append
def qz:=@List.mem_cons_of_mem
def qA:=@List.length_range
def qB:=@decide_eq_true
def qD:=@List.size_toArray
def qE:=@List.mem_singleton
def qF:=@Bool.false_ne_true
def qG:=@List.getElem?_set_ne
def qH:=@PySem.Heap.get?_push_size
def qI:=@decide_eq_false
def qJ:=@List.getElem?_append_left
def qK:=@PySem.Heap.lt_size
def qL:=@List.mem_range
def qM:=@congrArg
def qN:=@Nat.lt_of_le_of_lt
def qO:=@List.mem_filter
def qP:=@List.mem_of_getElem?
def qQ:=@List.mem_append_right
def qR:=@List.map_append
def qS:=@List.length_cons
def qT:=@PySem.wpAny_pure
def qU:=@PySem.PassesOwn.never
def qW:=@Nat.le_of_not_lt
def qX:=@Option.some.inj
def qY:=@Nat.lt_of_lt_of_le
def qZ:=@List.mem_cons_self
def q9:=@Int.natAbs_mul
def ka:=@Nat.mul_le_mul
def kb:=@Int.toNat_natCast
def ke:=@List.getElem?_range
def kf:=@Rat.intCast_mul
def kg:=@List.append_nil
def kh:=@List.getElem?_replicate
def kj:=@List.lookup_cons
def km:=@List.nodup_cons
def kn:=@List.getElem?_set_self
def kq:=@Nat.pow_le_pow_right
def ku:=@List.getElem?_of_mem
def kv:=@List.getD_eq_getElem?_getD
def kx:=@PySem.F.plainAttrs_list
def ky:=@List.mem_map
def kz:=@Rat.intCast_natCast
def kA:=@Nat.pow_lt_pow_right
def kB:=@decide_eq_decide
def kC:=@Rat.zero_mul
def kD:=@Option.map_some
def kE:=@Nat.zero_le
def kG:=@PySem.mem_of_lookup
def kH:=@Rat.mul_eq_zero
def kI:=@Nat.lt_succ_self
def kJ:=@List.length_set
def kK:=@beq_eq_false_iff_ne
def kM:=@List.length_singleton
def kN:=@List.getElem?_eq_none
def kO:=@Nat.ne_of_lt
def kP:=@Int.natAbs_natCast
def kQ:=@List.not_mem_nil
def kR:=@List.length_take
def kS:=@PySem.wpAny_loadPart'
def kT:=@List.ext_getElem?
def kU:=@List.append_assoc
def kW:=@Nat.lt_irrefl
def kX:=@Nat.not_lt_zero
def kY:=@List.getElem?_cons_succ
def kZ:=@PySem.intBits_le_of_natAbs
def k5:=@List.nodup_append
def k6:=@List.map_map
def k7:=@List.map_congr_left
def k8:=@Option.isNone_iff_eq_none
def k9:=@PySem.wpAny_mono
def gc:=@PySem.Heap.size_push
def gh:=@List.mem_reverse
def gp:=@Rat.mul_zero
def gq:=@List.mem_of_mem_eraseIdx
def gr:=@List.map_cons
def gu:=@Ne.symm
def gw:=@List.replicate_succ
def gx:=@Rat.mul_comm
def gy:=@PyProof.Rows.callWith_type1
def gA:=@Nat.sub_self
def gB:=@List.length_eraseIdx_of_lt
def gC:=@List.length_replicate
def gD:=@PySem.wpAny_field
def gE:=@List.pairwise_iff_getElem
def gG:=@List.drop_eq_getElem_cons
def gH:=@Nat.succ_mul
def gI:=@Nat.pow_add
def gJ:=@Nat.mul_le_mul_right
def gK:=@List.getElem?_set
def gL:=@beq_iff_eq
def gM:=@Nat.le_of_dvd
def gN:=@Nat.pow_le_pow_left
def gO:=@List.getElem_mem
def gP:=@PySem.wpAny_seqItems
def gQ:=@List.range_succ
def gR:=@PySem.F.type_list_pop
def gS:=@PySem.F.slot_list_pop
def gT:=@List.flatten_cons
def gU:=@Int.fdiv_eq_of_eq_mul_right
def gV:=@Int.ediv_eq_of_eq_mul_right
def gW:=@PySem.wpAny_setField_rec
def gX:=@PySem.call_meets
def gY:=@PySem.wpAny_passesOwn
def gZ:=@List.length_eraseIdx
def g0:=@Nat.mul_comm
def g6:=@Nat.le_of_lt
def g9:=@Nat.le_add_right
def hJ:=@List.take_length
def hU:=@Int.mul_zero
def hV:=@Bool.and_eq_true
def hZ:=@PySem.wpAny_truthy_bool
def h9:=@List.length_reverse
def ma:=@PySem.intBits_le_iff
def me:=@PySem.F.type_list_append
def mf:=@PySem.F.slot_tuple_iterator_next
def mh:=@PySem.F.slot_list_append
def mi:=@Int.mul_ne_zero
def mj:=@Rat.div_mul_cancel
def mr:=@List.length_eq_zero_iff
def mv:=@PySem.F.slot_tuple_mul
def mw:=@or_false
def mz:=@of_decide_eq_true
def mB:=@PySem.wpAny_comprehension_free
def mC:=@Nat.lt_succ_of_lt
def mD:=@List.take_add_one
def mE:=@Int.fmod_nonneg_of_pos
def mG:=@PySem.wpAny_callSpecial?_slot
def mI:=@Nat.succ_le_succ
def mJ:=@List.drop_length
def mM:=@Bool.true_and
def mN:=@Rat.num_eq_zero
def mP:=@Rat.natCast_mul
def mQ:=@List.forIn_cons
def mR:=@Int.natCast_mul
def mS:=@PySem.AutoSeq1.idx_int
def mU:=@Nat.zero_add
def mV:=@Nat.ne_of_gt
def mW:=@Bool.false_and
def mX:=@Bool.and_false
def mY:=@Classical.byContradiction
def mZ:=@PySem.F.args_tuple_add_2
def m9:=@Int.mul_fdiv_cancel_left
def nc:=@PySem.wpAny_Call_Name_kw
def ng:=@PySem.intBits_mul_le
def ni:=@PySem.F.entry_tuple_add
def nj:=@Nat.le_mul_of_pos_right
def nk:=@List.length_drop
def nr:=@List.all_eq_true
def nt:=@PySem.F.slot_tuple_add
def nv:=@Nat.le_of_eq
def ny:=@List.take_of_length_le
def nD:=@PySem.wpAny_pyIter_list
def nE:=@PySem.wpAny_newObj_type
def nG:=@Nat.min_eq_left
def nH:=@PySem.wpAny_standAt
def nI:=@PySem.wpAny_call_entry
def nJ:=@Nat.one_mul
def nK:=@Nat.mul_add
def nL:=@Nat.log2_lt
def nM:=@Nat.le_succ
def nN:=@List.mem_append_left
def nO:=@List.getElem?_mapIdx
def nQ:=@List.forIn_nil
def nU:=@Int.natAbs_neg
def nV:=@Nat.mul_le_mul_left
def nX:=@List.flatMap_append
def nY:=@List.filterMap_cons
def nZ:=@Array.length_toList
def n8:=@PySem.wpAny_execs_nil
def pd:=@PySem.F.slot_zip_next
def pf:=@PySem.F.slot_int_rmul
def pj:=@of_decide_eq_false
def pk:=@decide_eq_true_iff
def pq:=@Rat.num_divInt_den
def pw:=@List.length_mapIdx
def px:=@Int.fmod_lt_of_pos
def pz:=@List.eraseIdx_append_of_length_le
def pC:=@if_true
def pD:=@Rat.divInt_eq_div
def pE:=@PySem.wpAny_updateSeq_pair
def pF:=@Nat.dvd_refl
def pG:=@Nat.add_comm
def pH:=@List.map_nil
def pI:=@List.any_eq_false
def pJ:=@Bool.eq_false_iff
def pK:=@Option.getD_some
def pL:=@List.mem_flatMap
def pM:=@PySem.wpAny_onRaise
def pN:=@Nat.pow_mul
def pO:=@Nat.mul_pos
def pP:=@Rat.intCast_neg
def pQ:=@PySem.typeIs_int
def pR:=@PySem.F.args_tuple_mul_2
def pS:=@List.of_mem_zip
def pU:=@List.nil_append
def pV:=@Int.natCast_add
def pW:=@PySem.wpAny_assign_Name
def pX:=@PySem.concat_meets
def pY:=@PySem.codeAny_mono
def pZ:=@PySem.F.entry_tuple_mul
def p3:=@Int.fdiv_eq_ediv_of_nonneg
def p4:=@List.extract_eq_take_drop
def p5:=@PySem.noFill_tuple_add
def p6:=@List.set_eq_of_length_le
def p7:=@PySem.F.slot_tuple_rmul
def p9:=@Nat.exists_eq_add_of_le
def ba:=@Nat.add_sub_cancel_left
namespace L2
open PySem PySem.Spec PyProof.Rows
abbrev Key:=Sum Int Str
noncomputable def zkw:Key->Value->Bool
 | .inl k,v=>Value.isInt k v
 | .inr x,v=>Value.isStrOf x v
noncomputable def zni(w:World):Key->Int
 | .inl k=>hashInt k
 | .inr x=>hashStr w x
theorem xD:∀{k:Key} {v:Value},zkw k v=true->(∃i t,k=Sum.inl i/\v=Value.int i t)\/(∃x t,k=Sum.inr x/\v=Value.str x t)
 | .inl i,v,h=>by
  obtain⟨t,e⟩:=Value.isInt_shape (k:=i) (v:=v) h;exact .inl ⟨i,t,rfl,e⟩
 | .inr x,v,h=>by
  obtain⟨t,e⟩:=Value.isStrOf_shape (x:=x) (v:=v) h;exact .inr ⟨x,t,rfl,e⟩
def zkF(a b:Int):decide ((Sum.inl a:Key)=Sum.inl b)=(a==b):=by
 by_cases e:a=b
 ·subst e;simp
 ·have h:¬(Sum.inl a:Key)=Sum.inl b:=λq=>e (Sum.inl.inj q)
  rw[qI h];exact(kK.mpr e).symm
def zkC(a b:Str):decide ((Sum.inr a:Key)=Sum.inr b)=decide (a=b):=by
 by_cases e:a=b
 ·subst e;simp
 ·have h:¬(Sum.inr a:Key)=Sum.inr b:=λq=>e (Sum.inr.inj q)
  rw[qI h,qI e]
def zk7(a:Int)(b:Str):decide ((Sum.inl a:Key)=Sum.inr b)=false:=qI (λq=>nomatch q)
def zlo(a:Str)(b:Int):decide ((Sum.inr a:Key)=Sum.inl b)=false:=qI (λq=>nomatch q)
def zfn(prog:Program)(w:World):PySem.KeyKind prog w Key where
 is:=zkw
 hash:=zni w
 inj:=λv a b ha hb=>by
  rcases xD ha with⟨i,t,rfl,rfl⟩|⟨x,t,rfl,rfl⟩
  ·rcases xD hb with⟨j,u,rfl,e⟩|⟨y,u,rfl,e⟩
   ·injection e with e1 _;rw[e1]
   ·exact nomatch e
  ·rcases xD hb with⟨j,u,rfl,e⟩|⟨y,u,rfl,e⟩
   ·exact nomatch e
   ·injection e with e1 _;rw[e1]
 byValue:=λk v h=>by
  rcases xD h with⟨i,t,rfl,rfl⟩|⟨x,t,rfl,rfl⟩<;>rfl
 pyHash:=λhv h=>by
  rcases xD hv with⟨i,t,rfl,rfl⟩|⟨x,t,rfl,rfl⟩
  ·exact wpAny_pyHash_int h
  ·exact wpAny_pyHash_str h
 eqBool:=λhu hv h=>by
  rcases xD hu with⟨i,t,rfl,rfl⟩|⟨x,t,rfl,rfl⟩
  ·rcases xD hv with⟨j,u,rfl,rfl⟩|⟨y,u,rfl,rfl⟩
   ·rw[zkF] at h;exact wpAny_eqBool_int h
   ·rw[zk7] at h;exact SeqAt.EqAt.int_str i t y u _ _ _ _ h
  ·rcases xD hv with⟨j,u,rfl,rfl⟩|⟨y,u,rfl,rfl⟩
   ·rw[zlo] at h;exact SeqAt.EqAt.str_int x t j u _ _ _ _ h
   ·rw[zkC] at h;exact wpAny_eqBool_str h
 «strs»:=λk x t v h=>by
  rcases xD h with⟨i,u,rfl,e⟩|⟨y,u,rfl,e⟩
  ·exact nomatch e
  ·injection e with e1 _
   subst e1;cases v<;>rfl
inductive V where
 |non|bl (b:Bool)|int (i:Int)|str (x:Str)|byt (b:Array UInt8)|flt (b:UInt64)|ref (a:AdX)|ty (n:String)
 deriving DecidableEq
def RelV:V->Value->Prop
 | .non,u=>u=Value.none
 | .bl b,u=>u=Value.bool b
 | .int i,u=>∃t,u=Value.int i t
 | .str x,u=>∃t,u=Value.str x t
 | .byt b,u=>∃t,u=Value.bytes b t
 | .flt b,u=>∃t,u=Value.float b t
 | .ref a,u=>u=Value.ref a
 | .ty n,u=>u=Value.type n
abbrev Vals:List V->List Value->Prop:=Paired RelV
def Vals.length{xs:List V}{us:LVl}(r:Vals xs us):xs.length=us.length:=Paired.length r
theorem Vals.get:∀{xs:List V} {us:LVl} {i:Nat} {x:V},Vals xs us->xs[i]?=some x->∃u,us[i]?=some u/\RelV x u
 |_,_,_,_,.nil,e=>by simp at e
 |_,_,0,_,.cons r _,e=>by simp at e;subst e;exact⟨_,rfl,r⟩
 |_,_,i+1,x,.cons _ t,e=>by
  obtain⟨u,h1,h2⟩:=Vals.get (i:=i) (x:=x) t (by simpa using e);exact⟨u,by simpa using h1,h2⟩
theorem Vals.set{x:V}{u:Value}(r:RelV x u):∀{xs:List V} {us:LVl} (i:Nat),Vals xs us->Vals (xs.set i x) (us.set i u)
 |_,_,_,.nil=>.nil
 |_,_,0,.cons _ t=>.cons r t
 |_,_,i+1,.cons q t=>.cons q (Vals.set r i t)
theorem Vals.append:∀{xs ys:List V} {us ws:LVl},Vals xs us->Vals ys ws->Vals (xs++ys) (us++ws)
 |_,_,_,_,.nil,s=>s
 |_,_,_,_,.cons r t,s=>.cons r (Vals.append t s)
theorem Vals.take:∀{xs:List V} {us:LVl} (n:Nat),Vals xs us->Vals (xs.take n) (us.take n)
 |_,_,0,_=>.nil
 |_,_,_+1,.nil=>.nil
 |_,_,n+1,.cons r t=>.cons r (Vals.take n t)
theorem Vals.drop:∀{xs:List V} {us:LVl} (n:Nat),Vals xs us->Vals (xs.drop n) (us.drop n)
 |_,_,0,r=>r
 |_,_,_+1,.nil=>.nil
 |_,_,n+1,.cons _ t=>Vals.drop n t
def vL:Option V->Option Value->Prop
 |some v,some u=>RelV v u
 |none,none=>True
 |_,_=>False
def KV{κ:Type}:List (κ×V)->List (κ×Value)->Prop:=Paired λ(p:κ×V) (q:κ×Value)=>p.1=q.1/\RelV p.2 q.2
noncomputable def kV:Key->V
 | .inl i=>.int i
 | .inr x=>.str x
inductive HO where
  |lst (xs:List V)
  |tup (xs:List V)
  |dK (kvs:List (Key×V))|dT (kvs:List (List Key×V))
  |set (S:Int->Bool) (n:Nat)
  |ins (C dx:AdX) (fs:List (Str×V))
  |own (x:AdX)
  |xd (fs:List (Str×V))
  |met (f x:AdX)
  |rng (lo hi:Int)
  |frz (o:Obj) (u:HO)
  |tbl (ps:Array Value)
  |ext (φ:Heap->Prop)
abbrev Hp:=Addr->Option HO
noncomputable def upd(H:Hp)(a:AdX)(o:HO):Hp:=λb=>if b=a then some o else H b
def zJ{H:Hp}{a:AdX}{o:HO}:upd H a o a=some o:=by unfold upd;rw[qf rfl]
def zN{H:Hp}{a b:AdX}{o:HO}(h:b≠a):upd H a o b=H b:=by unfold upd;rw[qq h]
def jJ{H:Hp}{a b:AdX}{o:HO}(h:H a=some o)(h':H b=none):a≠b:=by
 intro e;subst e;rw[h] at h';cases h'
section
variable(P:Program)(w:World)
def vC(H:Hp)(h:Heap)(a:AdX):HO->Prop
 | .lst xs=>xs.length<=sizeLine/\∃(its:LVl)(n:Nat),Vals xs its/\h.get? a=some { cls:=.type "list",data:=.seq its.toArray n }
 | .tup xs=>xs.length<=sizeLine/\∃its:List Value,Vals xs its/\IsTup h a its.toArray
 | .dK kvs=>kvs.length<=sizeLine/\(a==sysModules)=false/\∃vs,KV kvs vs/\h.DictOf (zfn P w) a vs
 | .dT kvs=>kvs.length<=sizeLine/\(a==sysModules)=false/\∃xs:List (List Key×Addr×Value),
   Paired (λ(p:List Key×V) (q:List Key×Addr×Value)=>p.1=q.1/\H q.2.1=some (.tup (p.1.map kV))/\RelV p.2 q.2.2) kvs xs/\
   ∃o es ep,h.get? a=some o/\o.ExactDict/\o.data=.dict es ep/\es.toList=xs.map (entryOfKey (tupleKind (zfn P w)))/\(xs.map (·.1)).Nodup
 | .set S n=>h.SetOf (intKind P w) a S n
 | .ins C dx fs=>H dx=some (.own a)/\fs.length<=1000/\dx≠a/\h.get? a=some (W.instObj C dx)/\
   ∃mA,h.Ns1 dx mA/\(∀f,vL (fs.lookup f) (mA f))/\PySem.Within mA (fs.map (·.1))
 | .own _=>∃o,h.get? a=some o
 | .xd fs=>∃mA,h.Ns1 a mA/\∀f,vL (fs.lookup f) (mA f)
 | .rng lo hi=>∃t u v,h.get? a=some { cls:=.type "range",data:=.fields #[.int lo t,.int hi u,.int 1 v] }
 | .frz o u=>h.get? a=some o/\vC H h a u
 | .tbl ps=>h.get? a=some { cls:=.none,data:=.fields ps }
 | .met f x=>h.get? a=some (W.methodObj (.ref f) (.ref x))
 | .ext φ=>φ h/\(∃o,h.get? a=some o)/\∀h1 h2:Heap,φ h1->(∀o,h1.get? a=some o->h2.get? a=some o)->φ h2
def HOk(H:Hp)(h:Heap):Prop:=∀a o,H a=some o->vC P w H h a o
end
section
variable{P:Program}{w:World}{H H':Hp}{h h':Heap}{a:AdX}{o:HO}
def vC.lt(x:vC P w H h a o):a<h.objs.size:=by
 cases o with
 |lst xs=>have⟨_,_,_,_,e⟩:=x;exact qK e
 |tup xs=>have⟨_,_,_,p⟩:=x;exact p.lt
 |dK kvs=>have⟨_,_,_,_,o,_,_,e,_⟩:=x;exact qK e
 |dT kvs=>have⟨_,_,_,_,o,_,_,e,_⟩:=x;exact qK e
 |set S n=>have⟨o,_,_,_,e,_⟩:=x;exact qK e
 |ins C dx fs=>have⟨_,_,_,e,_⟩:=x;exact qK e
 |own y=>have⟨_,e⟩:=x;exact qK e
 |xd fs=>have⟨_,⟨_,_,_,e,_⟩,_⟩:=x;exact qK e
 |rng lo hi=>have⟨_,_,_,e⟩:=x;exact qK e
 |frz ob u=>have⟨e,_⟩:=x;exact qK e
 |tbl ps=>exact qK (show h.get? a=some _ from x)
 |met f y=>exact qK (show h.get? a=some _ from x)
 |ext φ=>have⟨_,⟨_,e⟩,_⟩:=x;exact qK e
theorem Paired.zmz{α β:Type}{F G:α->β->Prop}:∀{l₁:List α} {l₂:List β},Paired F l₁ l₂->(∀a b,F a b->G a b)->Paired G l₁ l₂
 |_,_,.nil,_=>.nil
 |_,_,.cons r t,f=>.cons (f _ _ r) (Paired.zmz t f)
def vC.stay(x:vC P w H h a o)(k:∀b u,(b=a\/H b=some (.own a))->h.get? b=some u->h'.get? b=some u)(ho:∀b,H b=some (.own a)->H' b=some (.own a))(ht:∀b xs,H b=some (.tup xs)->H' b=some (.tup xs)):vC P w H' h' a o:=by
 induction o with
 |lst xs=>have⟨z,its,n,r,e⟩:=x;exact⟨z,its,n,r,k _ _ (.inl rfl) e⟩
 |tup xs=>have⟨z,its,r,ob,e,c⟩:=x;exact⟨z,its,r,ob,k _ _ (.inl rfl) e,c⟩
 |dK kvs=>have⟨z,y,vs,r,ob,es,ep,e,c⟩:=x;exact⟨z,y,vs,r,ob,es,ep,k _ _ (.inl rfl) e,c⟩
 |dT kvs=>
  have⟨z,y,xs,r,ob,es,ep,e,c⟩:=x;exact⟨z,y,xs,Paired.zmz r λp q z=>⟨z.1,ht _ _ z.2.1,z.2.2⟩,ob,es,ep,k _ _ (.inl rfl) e,c⟩
 |set S n=>have⟨ob,es,ep,t,e,c⟩:=x;exact⟨ob,es,ep,t,k _ _ (.inl rfl) e,c⟩
 |ins C dx fs=>
  have⟨d,z,ne,e,mA,⟨od,es,ep,e2,c⟩,r⟩:=x;exact⟨ho _ d,z,ne,k _ _ (.inl rfl) e,mA,⟨od,es,ep,k _ _ (.inr d) e2,c⟩,r⟩
 |own y=>have⟨ob,e⟩:=x;exact⟨ob,k _ _ (.inl rfl) e⟩
 |xd fs=>have⟨mA,⟨od,es,ep,e,c⟩,r⟩:=x;exact⟨mA,⟨od,es,ep,k _ _ (.inl rfl) e,c⟩,r⟩
 |rng lo hi=>have⟨t,u,v,e⟩:=x;exact⟨t,u,v,k _ _ (.inl rfl) e⟩
 |frz ob u ih=>have⟨e,q⟩:=x;exact⟨k _ _ (.inl rfl) e,ih q⟩
 |tbl ps=>
  have e:h.get? a=some { cls:=.none,data:=.fields ps }:=x;show h'.get? a=some { cls:=.none,data:=.fields ps }
  exact k a _ (.inl rfl) e
 |met f y=>
  have e:h.get? a=some (W.methodObj (.ref f) (.ref y)):=x;show h'.get? a=some (W.methodObj (.ref f) (.ref y))
  exact k a _ (.inl rfl) e
 |ext φ=>have⟨p,⟨o,e⟩,st⟩:=x;exact⟨st _ _ p λo q=>k _ _ (.inl rfl) q,⟨o,k _ _ (.inl rfl) e⟩,st⟩
def HOk.lt(x:HOk P w H h)(e:H a=some o):a<h.objs.size:=(x a o e).lt
def HOk.fresh(x:HOk P w H h)(e:h.objs.size<=a):H a=none:=by
 cases q:H a with
 |none=>rfl
 |some u=>exact absurd (qY (x.lt q) e) (kW _)
def HOk.kept(x:HOk P w H h)(k:∀b u,h.get? b=some u->h'.get? b=some u):HOk P w H h':=λa o e=>
 (x a o e).stay (λb u _ q=>k b u q) (λ_ q=>q) λ_ _ q=>q
def HOk.laid(x:HOk P w H h)(k:∀b u,h.get? b=some u->h'.get? b=some u)(hp:h.objs.size<=a)(new:vC P w (upd H a o) h' a o):HOk P w (upd H a o) h':=λb u e=>by
 have hn:=x.fresh hp;by_cases hb:b=a
 ·subst hb;rw[zJ] at e;cases e;exact new
 ·rw[zN hb] at e;exact(x b u e).stay (λc v _ q=>k c v q) (λc q=>by rw[zN (jJ q hn)];exact q) λc xs q=>by rw[zN (jJ q hn)];exact q
end
def Rd(H:Hp)(a:AdX)(u:HO):Prop:=H a=some u\/∃o,H a=some (.frz o u)
def Rd.ok{P:Program}{w:World}{H:Hp}{h:Heap}{a:AdX}{u:HO}(r:Rd H a u)(x:HOk P w H h):vC P w H h a u:=by
 rcases r with r|⟨o,r⟩
 ·exact x a u r
 ·have⟨_,q⟩:=x a _ r;exact q
def Mut:Option HO->Prop
 |some (.lst _)=>True
 |some (.dK _)=>True
 |some (.dT _)=>True
 |some (.set _ _)=>True
 |some (.ins _ _ _)=>True
 |some (.ext _)=>True
 |_=>False
section
variable{P:Program}{w:World}{H:Hp}{h h':Heap}{x e:AdX}{o':HO}
def HOk.write(ok:HOk P w H h)(mu:Mut (H x))(he:e=x\/H e=some (.own x))(k:∀b u,b≠e->h.get? b=some u->h'.get? b=some u)(heo:∃u,h'.get? e=some u)(new:vC P w (upd H x o') h' x o'):HOk P w (upd H x o') h':=λb u q=>by
 have nown:∀c y,H c=some (.own y)->c≠x:=λc y r z=>by subst z;rw[r] at mu;exact mu
 have ntup:∀c xs,H c=some (.tup xs)->c≠x:=λc xs r z=>by subst z;rw[r] at mu;exact mu
 by_cases hb:b=x
 ·subst hb;rw[zJ] at q;cases q;exact new
 ·rw[zN hb] at q;by_cases hbe:b=e
  ·have q':H b=some (.own x):=by
    rcases he with z|z
    ·exact absurd (hbe.trans z) hb
    ·rw[hbe];exact z
   rw[q] at q';cases q';have⟨v,hv⟩:=heo;exact⟨v,by rw[hbe];exact hv⟩
  ·refine(ok b u q).stay (λc v hc r=>k c v ?_ r) (λc r=>by rw[zN (nown c b r)];exact r) λc xs r=>by rw[zN (ntup c xs r)];exact r
   rcases hc with rfl|hc
   ·exact hbe
   ·rintro rfl;rcases he with z|z
    ·exact nown c b hc z
    ·rw[hc] at z;cases z;exact hb rfl
end
structure Un(fs ex:LAd)(H H':Hp)(h h':Heap):Prop where
 keep:∀b o,h.get? b=some o->H b=none->b∉fs->b∉ex->h'.get? b=some o
 slot:∀b o,h.get? b=some o->H b=none->b∈fs->b∉ex->∃sl,h'.get? b=some { o with slots:=sl }
 free:∀b o,h.get? b=some o->H b=none->b∉ex->H' b=none
 there:∀b o,h.get? b=some o->b∉ex->∃o',h'.get? b=some o'
 tups:∀b xs,H b=some (.tup xs)->H' b=some (.tup xs)
 frzs:∀b o u,H b=some (.frz o u)->H' b=some (.frz o u)
 tbls:∀b ps,H b=some (.tbl ps)->∃more,H' b=some (.tbl (ps++more))
section
variable{fs fs' ex ex':LAd}{H H1 H2:Hp}{h h1 h2 h':Heap}{a x e:AdX}{o:HO}
def Un.any(u:Un fs ex H H1 h h1){b:AdX}{ob:Obj}(q:h.get? b=some ob)(n:H b=none)(hx:b∉ex):∃sl,h1.get? b=some { ob with slots:=sl }:=by
 by_cases hb:b∈fs
 ·exact u.slot b ob q n hb hx
 ·exact⟨ob.slots,u.keep b ob q n hb hx⟩
def Un.kept(k:∀b u,h.get? b=some u->h'.get? b=some u):Un fs ex H H h h':=⟨λb ob q _ _ _=>k b ob q,λb ob q _ _ _=>⟨ob.slots,k b ob q⟩,λ_ _ _ n _=>n,λb ob q _=>⟨ob,k b ob q⟩,λ_ _ q=>q,λ_ _ _ q=>q,λ_ ps q=>⟨#[],by rw[q];simp⟩⟩
def Un.refl:Un fs ex H H h h:=Un.kept λ_ _ q=>q
def Un.laid(k:∀b u,h.get? b=some u->h'.get? b=some u)(hp:h.objs.size<=a)(hn:H a=none):Un fs ex H (upd H a o) h h' where
 keep:=λb u q _ _ _=>k b u q
 slot:=λb u q _ _ _=>⟨u.slots,k b u q⟩
 free:=λb u q n _=>by rw[zN (kO (qY (qK q) hp))];exact n
 there:=λb u q _=>⟨u,k b u q⟩
 tups:=λb xs q=>by rw[zN (jJ q hn)];exact q
 frzs:=λb u xs q=>by rw[zN (jJ q hn)];exact q
 tbls:=λb ps q=>⟨#[],by rw[zN (jJ q hn),q];simp⟩
def Un.write(mu:Mut (H x))(he:e=x\/H e=some (.own x))(k:∀b u,b≠e->h.get? b=some u->h'.get? b=some u)(heo:∃u,h'.get? e=some u):Un fs ex H (upd H x o) h h':=by
 have hx:∀b,H b=none->b≠x:=λb n z=>by subst z;rw[n] at mu;exact mu
 have hb:∀b,H b=none->b≠e:=λb n z=>by
  subst z;rcases he with r|r
  ·exact hx b n r
  ·rw[n] at r;cases r
 have hm:∀b u,H b=some u->¬Mut (some u)->b≠x:=λb u q nm z=>by subst z;rw[q] at mu;exact nm mu
 refine⟨λb u q n _ _=>k b u (hb b n) q,λb u q n _ _=>⟨u.slots,k b u (hb b n) q⟩,λb u q n _=>by rw[zN (hx b n)];exact n,λb u q _=>?_,
  λb xs q=>by rw[zN (hm b _ q λz=>z)];exact q,λb u xs q=>by rw[zN (hm b _ q λz=>z)];exact q,λb ps q=>⟨#[],by rw[zN (hm b _ q λz=>z),q];simp⟩⟩
 by_cases hbe:b=e
 ·subst hbe;exact heo
 ·exact⟨u,k b u hbe q⟩
end
noncomputable def trk(h:Heap)(H:Hp):List Addr:=(List.range h.objs.size).filter λa=>(H a).isSome
def za3(h:Heap)(H:Hp):Heap:=W.hideAll h (trk h H)
def zfs(h:Heap)(H:Hp):(za3 h H).objs.size=h.objs.size:=W.hideAll_size _ _
def zh5{h:Heap}{H:Hp}{b:AdX}{o:Obj}(e:h.get? b=some o)(n:H b=none):(za3 h H).get? b=some o:=W.hideAll_get _ e λhm=>by
  have q:(H b).isSome=true:=(qO.mp hm).2;rw[n] at q;simp at q
def zjO{h:Heap}{H:Hp}{b:AdX}{o:Obj}(e:(za3 h H).get? b=some o):h.get? b=some o/\H b=none:=by
 have e':h.get? b=some o:=W.of_hideAll (trk h H) e;refine⟨e',?_⟩;cases q:H b with
 |none=>rfl
 |some x=>
  have hm:b∈trk h H:=qO.mpr ⟨qL.mpr (qK e'),by simp[q]⟩;have z:(za3 h H).get? b=none:=W.hideAll_none (trk h H) hm
  rw[z] at e;cases e
structure Mod(K:FRx)(mg:Str->Option Value)(base:Heap):Prop where
 kin:K.In base
 glob:base.Ns mainGlobals mg
 blt:∃mb,base.Ns builtinsNs mb/\∀x:Str,x≠"__name__"->mb x=bootBuiltins x
 nolimit:base.NoLimit
structure Cx where
 prog:Program
 w:World
 K:W.Frag
 mg:Str->Option Value
 base:Heap
 A:Around
 N:List Str
 s₀:Shared
 H₀:Hp
 env:Env
 outer:List Env
 stack:List Env
 ex:List Addr
 fn:Str->Bool
 calm:Bool
 pn:List (Addr×Obj)
 xe:Value->Shared->Prop
abbrev SEx(X:Cx)(e:Expr)(es:List Expr):Prop:=starEach (e::es) X.env=(false,eval e X.env)::starEach es X.env
abbrev ABx(X:Cx)(e:Expr)(f:Str):Prop:=attributeBase e f X.env (eval e X.env)=eval e X.env
abbrev FNx(X:Cx)(x:Str):Prop:=X.fn x=true\/X.env.scope.names.lookup x=some .local
abbrev FWx(X:Cx)(cpos:Pos)(es:List Expr):Prop:=((backTo cpos (starEach es X.env)).all (λx=>!x.1)&&(backToKw cpos (keywordEach [] X.env)).all (λx=>x.1.isSome)&&decide (es.length+([]:List Keyword).length+(if ([]:List Keyword).isEmpty then 0 else 1)<30))=true
abbrev PLx(X:Cx)(pos:Pos)(es:List Expr):Prop:=(backTo pos (starEach es X.env)).any (·.1)=false
abbrev FSx(X:Cx)(iter:Expr):Prop:=∀x,foldedSetIterable iter X.env x=pure x
noncomputable def frs(l:List Env):List Addr:=l.filterMap (·.frame)
abbrev Cx.fs(X:Cx):List Addr:=frs X.outer
def Vis(sc:Scope)(x:Str):Prop:=sc.names.lookup x=some .local\/sc.names.lookup x=some .cell\/sc.names.lookup x=some .free
def Loc(sc:Scope)(x:Str):Prop:=sc.names.lookup x=some .local\/sc.names.lookup x=some .cell
def Look(env:Env)(h:Heap)(m:Str->Option Value)(x:Str)(u:Value):Prop:=(env.kindOf x=some .local/\m x=some u)\/((env.kindOf x=some .cell\/env.kindOf x=some .free)/\∃c,env.cells.lookup x=some c/\h.IsCell c (some u))
structure Cx.Ok(X:Cx):Prop where
 mod:Mod X.K X.mg X.base
 kind:X.env.scope.kind=.function
 glob:X.env.globals=mainGlobals
 blt:X.env.builtins=builtinsNs
 above:X.s₀.heap.objs.size<=X.env.locals
 inj:∀x y c,X.env.cells.lookup x=some c->X.env.cells.lookup y=some c->x=y
 has:∀x,(X.env.kindOf x=some .cell\/X.env.kindOf x=some .free)->∃c,X.env.cells.lookup x=some c
 cab:∀x c,X.fn x=true->X.env.cells.lookup x=some c->X.s₀.heap.objs.size<=c
 hd:X.calm=true->X.A.handled=none
 frames:X.A.frames=some X.stack
 stk:X.stack=X.outer\/(X.stack=X.env::X.outer/\X.env.frame=some X.env.locals)
 exf:∀b∈X.ex,b≠X.env.locals/\∀x c,X.env.cells.lookup x=some c->c≠b
 bs:∀b o,X.base.get? b=some o->X.s₀.heap.get? b=some o/\X.H₀ b=none
 bsz:X.base.objs.size<=X.s₀.heap.objs.size
 noex:∀b o,X.base.get? b=some o->b∉X.ex
 exfs:∀b∈X.ex,b∉X.fs
 funs:X.s₀.heap.FunFrames X.base X.outer
 frf:∀b∈X.fs,X.H₀ b=none
structure Inv(X:Cx)(pins:PNx)(σ:List (Option V))(H:Hp)(s:ShX):Prop where
 ok:X.Ok
 os:s.os=X.s₀.os
 bare:AllBare s.gens
 base:Un X.fs X.ex X.H₀ H X.s₀.heap s.heap
 loc:∃m,s.heap.Ns X.env.locals m/\∀(i:Nat)(x:Str)(v:V),X.N[i]?=some x->σ[i]?=some (some v)->Vis X.env.scope x->∃u,RelV v u/\Look X.env s.heap m x u
 cell:∀x c,X.env.cells.lookup x=some c->∃v,s.heap.IsCell c v
 free:H X.env.locals=none
 freeC:∀x c,X.env.cells.lookup x=some c->H c=none
 pin:∀p∈X.pn++pins,s.heap.get? p.1=some p.2/\H p.1=none/\p.1≠X.env.locals/\p.1∉X.fs/\∀v,p.2.data≠ .cell v
 hok:HOk X.prog X.w H s.heap
 len:σ.length=X.N.length
section
variable{X:Cx}{pins:PNx}{σ:List (Option V)}{H H':Hp}{s:ShX}{h':Heap}
def Cx.Ok.nofr(ok:X.Ok){b:AdX}{o:Obj}(e:X.base.get? b=some o):b∉X.fs:=λhb=>by
 have:=(ok.funs.mem hb).1;rw[e] at this;cases this
def Inv.bs(I:Inv X pins σ H s):∀b o,X.base.get? b=some o->s.heap.get? b=some o/\H b=none:=λb o e=>
 ⟨I.base.keep b o (I.ok.bs b o e).1 (I.ok.bs b o e).2 (I.ok.nofr e) (I.ok.noex b o e),I.base.free b o (I.ok.bs b o e).1 (I.ok.bs b o e).2 (I.ok.noex b o e)⟩
def Inv.bk(I:Inv X pins σ H s):∀b o,X.base.get? b=some o->s.heap.get? b=some o:=λb o e=>(I.bs b o e).1
def Inv.mod(I:Inv X pins σ H s):Mod X.K X.mg X.base:=I.ok.mod
def Inv.kIn(I:Inv X pins σ H s):X.K.In s.heap:=I.ok.mod.kin.keeps I.bk
def Inv.nolimit(I:Inv X pins σ H s):s.heap.NoLimit:=I.ok.mod.nolimit.keeps I.bk
def Inv.lt(I:Inv X pins σ H s):X.env.locals<s.heap.objs.size:=let ⟨_,hn,_⟩:=I.loc;hn.lt
def Inv.sz(I:Inv X pins σ H s):X.s₀.heap.objs.size<=s.heap.objs.size:=qw I.ok.above (g6 I.lt)
def Inv.nofs(I:Inv X pins σ H s){a:AdX}(h:s.heap.objs.size<=a):a∉X.fs:=λhb=>by
 have⟨_,o,ho,_⟩:=I.ok.funs.mem hb;exact absurd (qY (qK ho) (qw I.sz h)) (kW _)
def Inv.cne(I:Inv X pins σ H s):∀x c,X.env.cells.lookup x=some c->c≠X.env.locals:=λx c e z=>by
 have⟨v,o,ho,hd⟩:=I.cell x c e;have⟨m,⟨o',es,ep,ho',hd',_⟩,_⟩:=I.loc;rw[z,ho'] at ho;cases ho;rw[hd'] at hd;cases hd
def Inv.funs(I:Inv X pins σ H s):s.heap.FunFrames X.base X.outer:=by
 have all:∀(l:List Env),(∀b∈frs l,b∈X.fs)->X.s₀.heap.FunFrames X.base l->s.heap.FunFrames X.base l:=by
  intro l;induction l with
  |nil=>intro _ _;trivial
  |cons env r ih=>
   intro hs hl;have⟨hk,⟨L,o,hf,hn,ho,hd⟩,hr⟩:=hl;have hL:L∈X.fs:=hs L (by unfold frs;rw[nY,hf];exact qZ);obtain⟨sl,e⟩:=I.base.slot L o ho (I.ok.frf L hL) hL λz=>I.ok.exfs L z hL
   exact⟨hk,⟨L,_,hf,hn,e,hd⟩,ih (λb hb=>hs b (by unfold frs;rw[nY,hf];exact qz _ hb)) hr⟩
 exact all X.outer (λ_ hb=>hb) I.ok.funs
def Inv.stack(I:Inv X pins σ H s):s.heap.FunFrames X.base X.stack:=by
 rcases I.ok.stk with e|⟨e,hf⟩
 ·rw[e];exact I.funs
 ·rw[e];have⟨m,hn,_⟩:=I.loc;refine .cons (by rw[I.ok.kind];decide) hf hn ?_ I.funs;exact Heap.get?_none_of_le (qw I.ok.bsz I.ok.above)
def Inv.zdk(I:Inv X pins σ H s):∀b∈frs X.stack,b∈X.env.locals::X.fs:=λb hb=>by
 rcases I.ok.stk with e|⟨e,hf⟩
 ·rw[e] at hb;exact qz _ hb
 ·rw[e] at hb;unfold frs at hb;rw[nY,hf] at hb;exact hb
def Inv.zfe(I:Inv X pins σ H s):∀b∈frs X.stack,H b=none:=λb hb=>by
 rcases qu.mp (I.zdk b hb) with e|hb
 ·rw[e];exact I.free
 ·have⟨_,o,ho,_⟩:=I.ok.funs.mem hb;exact I.base.free b o ho (I.ok.frf b hb) λz=>I.ok.exfs b z hb
def Inv.step{g':Array GenState}{t':Nat}{d':Drawn}{ch:LAd}(I:Inv X pins σ H s)(hch:∀b∈ch,(b∈X.ex\/X.s₀.heap.objs.size<=b)/\b≠X.env.locals/\(∀x c,X.env.cells.lookup x=some c->c≠b)/\∀p∈X.pn++pins,p.1≠b)(keep:∀b o,b≠X.env.locals->b∉X.fs->b∉ch->s.heap.get? b=some o->H b=none->h'.get? b=some o)(slot:∀b o,b≠X.env.locals->b∈X.fs->b∉ch->s.heap.get? b=some o->H b=none->∃sl,h'.get? b=some { o with slots:=sl })(free:∀b o,b∉ch->s.heap.get? b=some o->H b=none->H' b=none)(there:∀b o,b∉ch->s.heap.get? b=some o->∃o',h'.get? b=some o')(tups:∀b xs,H b=some (.tup xs)->H' b=some (.tup xs))(frzs:∀b o u,H b=some (.frz o u)->H' b=some (.frz o u))(tbls:∀b ps,H b=some (.tbl ps)->∃more,H' b=some (.tbl (ps++more)))(ns:∀m,s.heap.Ns X.env.locals m->h'.Ns X.env.locals m)(hok:HOk X.prog X.w H' h')(hg:AllBare g'):Inv X pins σ H' { s with heap:=h',gens:=g',drawn:=d',toks:=t' }:=by
 have neL:∀b o,X.s₀.heap.get? b=some o->b≠X.env.locals:=λb o e=>kO (qY (qK e) I.ok.above)
 have neC:∀b o,X.s₀.heap.get? b=some o->b∉X.ex->b∉ch:=λb o e hx hb=>by
  rcases(hch b hb).1 with z|z
  ·exact hx z
  ·exact absurd (qY (qK e) z) (kW _)
 have cellK:∀x c,X.env.cells.lookup x=some c->∀v,s.heap.IsCell c v->h'.IsCell c v:=λx c e v ⟨o,ho,hd⟩=>by
  have nch:c∉ch:=λz=>(hch c z).2.2.1 x c e rfl
  by_cases hc:c∈X.fs
  ·obtain⟨sl,q⟩:=slot c o (I.cne x c e) hc nch ho (I.freeC x c e);exact⟨_,q,hd⟩
  ·exact⟨o,keep c o (I.cne x c e) hc nch ho (I.freeC x c e),hd⟩
 refine⟨I.ok,I.os,hg,⟨λb o e n hb hx=>?_,λb o e n hb hx=>?_,λb o e n hx=>?_,λb o e hx=>?_,λb xs e=>tups b xs (I.base.tups b xs e),λb o xs e=>frzs b o xs (I.base.frzs b o xs e),λb ps e=>?_⟩,?_,λx c e=>?_,?_,λx c e=>?_,λp hp=>?_,hok,I.len⟩
 ·exact keep b o (neL b o e) hb (neC b o e hx) (I.base.keep b o e n hb hx) (I.base.free b o e n hx)
 ·have⟨sl,e1⟩:=I.base.slot b o e n hb hx;obtain⟨sl',e2⟩:=slot b _ (neL b o e) hb (neC b o e hx) e1 (I.base.free b o e n hx);exact⟨sl',e2⟩
 ·have⟨o',e1⟩:=I.base.there b o e hx;exact free b o' (neC b o e hx) e1 (I.base.free b o e n hx)
 ·have⟨o',e1⟩:=I.base.there b o e hx;exact there b o' (neC b o e hx) e1
 ·have⟨m1,e1⟩:=I.base.tbls b ps e;have⟨m2,e2⟩:=tbls b _ e1;exact⟨m1++m2,by rw[e2,Array.append_assoc]⟩
 ·have⟨m,hn,hl⟩:=I.loc;refine⟨m,ns m hn,λi x v e1 e2 e3=>?_⟩;have⟨u,r,l⟩:=hl i x v e1 e2 e3;refine⟨u,r,?_⟩;rcases l with l|⟨k,c,e,z⟩
  ·exact .inl l
  ·exact .inr ⟨k,c,e,cellK x c e _ z⟩
 ·have⟨v,z⟩:=I.cell x c e;exact⟨v,cellK x c e v z⟩
 ·have⟨m,⟨o,_,_,ho,_⟩,_⟩:=I.loc;exact free _ o (λz=>(hch _ z).2.1 rfl) ho I.free
 ·have⟨v,o,ho,hd⟩:=I.cell x c e;exact free c o (λz=>(hch c z).2.2.1 x c e rfl) ho (I.freeC x c e)
 ·have⟨e,n,ne,nf,d⟩:=I.pin p hp;have nch:p.1∉ch:=λz=>(hch p.1 z).2.2.2 p hp rfl
  exact⟨keep p.1 p.2 ne nf nch e n,free p.1 p.2 nch e n,ne,nf,d⟩
def Inv.un{t':Nat}(I:Inv X pins σ H s)(u:Un X.fs [] H H' s.heap h')(hok:HOk X.prog X.w H' h'):Inv X pins σ H' { s with heap:=h',toks:=t' }:=by
 have⟨m,⟨o,es,ep,ho,r⟩,_⟩:=id I.loc;obtain⟨sl,hL⟩:=u.any ho I.free (by simp);exact I.step (g':=s.gens) (d':=s.drawn) (ch:=[]) (λ_ z=>nomatch z) (λb o _ hb _ e n=>u.keep b o e n hb (by simp)) (λb o _ hb _ e n=>u.slot b o e n hb (by simp)) (λb o _ e n=>u.free b o e n (by simp)) (λb o _ e=>u.there b o e (by simp)) u.tups u.frzs u.tbls (λm' hm=>by
  have⟨o',es',ep',ho',r'⟩:=hm;rw[ho] at ho';cases ho';exact⟨_,es',ep',hL,r'⟩) hok I.bare
def Inv.call{g':Array GenState}{t':Nat}{d':Drawn}{ch:LAd}(I:Inv X pins σ H s)(u:Un (frs X.stack) ch H H' s.heap h')(hok:HOk X.prog X.w H' h')(hg:AllBare g')(hch:∀b∈ch,(b∈X.ex\/X.s₀.heap.objs.size<=b)/\b≠X.env.locals/\(∀x c,X.env.cells.lookup x=some c->c≠b)/\∀p∈X.pn++pins,p.1≠b):Inv X pins σ H' { s with heap:=h',gens:=g',drawn:=d',toks:=t' }:=by
 have⟨m,⟨o,es,ep,ho,r⟩,_⟩:=id I.loc;obtain⟨sl,hL⟩:=u.any ho I.free λz=>(hch _ z).2.1 rfl
 exact I.step (ch:=ch) hch (λb o hL hb hc e n=>u.keep b o e n (λz=>(qu.mp (I.zdk b z)).elim hL hb) hc) (λb o _ _ hc e n=>u.any e n hc) (λb o hc e n=>u.free b o e n hc) (λb o hc e=>u.there b o e hc) u.tups u.frzs u.tbls (λm' hm=>by
  have⟨o',es',ep',ho',r'⟩:=hm;rw[ho] at ho';cases ho';exact⟨_,es',ep',hL,r'⟩) hok hg
def Inv.turned{t':Nat}{it:AdX}(I:Inv X pins σ H s)(k:∀b o,b≠it->s.heap.get? b=some o->h'.get? b=some o)(hn:H it=none)(hL:it≠X.env.locals)(h1:it∈X.ex\/X.s₀.heap.objs.size<=it)(h2:∀x c,X.env.cells.lookup x=some c->c≠it)(h3:∀p∈X.pn++pins,p.1≠it):Inv X pins σ H { s with heap:=h',toks:=t' }:=by
 have nit:∀b u,H b=some u->b≠it:=λb u e z=>by rw[z,hn] at e;cases e
 refine I.step (g':=s.gens) (d':=s.drawn) (ch:=[it]) (λb hb=>?_) (λb o _ _ hc e _=>k b o (λz=>hc (by simp[z])) e) (λb o _ _ hc e _=>⟨o.slots,k b o (λz=>hc (by simp[z])) e⟩) (λ_ _ _ _ n=>n)
  (λb o hc e=>⟨o,k b o (λz=>hc (by simp[z])) e⟩) (λ_ _ e=>e) (λ_ _ _ e=>e) (λb ps e=>⟨#[],by rw[e];simp⟩) (λm hm=>?_) (λb u e=>?_) I.bare
 ·have e:b=it:=by simpa using hb
  subst e;exact⟨h1,hL,h2,h3⟩
 ·have⟨o,es,ep,ho,r⟩:=hm;exact⟨o,es,ep,k _ o (gu hL) ho,r⟩
 ·refine(I.hok b u e).stay (λc v hc q=>k c v ?_ q) (λ_ q=>q) λ_ _ q=>q
  rcases hc with z|z
  ·rw[z];exact nit b u e
  ·exact nit c _ z
def Inv.tok(I:Inv X pins σ H s)(t:Nat):Inv X pins σ H { s with toks:=t }:=I.un (h':=s.heap) (t':=t) Un.refl I.hok
def Inv.kept{t':Nat}(I:Inv X pins σ H s)(k:∀b u,s.heap.get? b=some u->h'.get? b=some u):Inv X pins σ H { s with heap:=h',toks:=t' }:=I.un (Un.kept k) (I.hok.kept k)
def Inv.laid{a:AdX}{o:HO}{t':Nat}(I:Inv X pins σ H s)(k:∀b u,s.heap.get? b=some u->h'.get? b=some u)(hp:s.heap.objs.size<=a)(new:vC X.prog X.w (upd H a o) h' a o):Inv X pins σ (upd H a o) { s with heap:=h',toks:=t' }:=I.un (Un.laid k hp (I.hok.fresh hp)) (I.hok.laid k hp new)
def Inv.write{x e:AdX}{o:HO}{t':Nat}(I:Inv X pins σ H s)(mu:Mut (H x))(he:e=x\/H e=some (.own x))(k:∀b u,b≠e->s.heap.get? b=some u->h'.get? b=some u)(heo:∃u,h'.get? e=some u)(new:vC X.prog X.w (upd H x o) h' x o):Inv X pins σ (upd H x o) { s with heap:=h',toks:=t' }:=I.un (Un.write mu he k heo) (I.hok.write mu he k heo new)
def Inv.zeF{pins':PNx}(I:Inv X pins σ H s)(h:∀p∈pins',s.heap.get? p.1=some p.2/\H p.1=none/\p.1≠X.env.locals/\p.1∉X.fs/\∀v,p.2.data≠ .cell v):Inv X pins' σ H s:=⟨I.ok,I.os,I.bare,I.base,I.loc,I.cell,I.free,I.freeC,λp hp=>(qg.mp hp).elim (λz=>I.pin p (nN _ z)) (h p),I.hok,I.len⟩
def zbD{N:LSr}(hN:N.Nodup){i j:Nat}{x:Str}(a:N[i]?=some x)(b:N[j]?=some x):i=j:=by
 obtain⟨h1,e1⟩:=qm.mp a;obtain⟨h2,e2⟩:=qm.mp b;exact(List.getElem_inj hN).mp (e1.trans e2.symm)
def VB{M:Model}{A:Around}{E:VSx}{i:Nat}{x:Str}{v:V}{u:Value}{Q:Unit->Shared->Prop}(I:Inv X pins σ H s)(hN:X.N.Nodup)(hi:X.N[i]?=some x)(hx:Loc X.env.scope x)(r:RelV v u)(h:∀s',Inv X pins (σ.set i (some v)) H s'->(∃a,Heap.SameBut a s.heap s'.heap/\(a=X.env.locals\/X.env.cells.lookup x=some a))->Q () s')(hf:FNx X x:=by trivial):wpAny M A (storeName X.env x u) Q E s:=by
 have⟨m,hn,hl⟩:=id I.loc;have hcls:(X.env.scope.kind== .class || (X.env.scope.kind== .module&&X.env.locals != X.env.globals))=false:=by rw[I.ok.kind];rfl
 have hiσ:i<σ.length:=by rw[I.len];exact(qm.mp hi).1
 have cne:=I.cne;have tracked:∀{a:AdX} {h':Heap},(∃o,s.heap.get? a=some o/\H a=none)->Heap.SameBut a s.heap h'->HOk X.prog X.w H h':=λ{a h'} ha hs b ob e=>by
  have⟨_,_,hfree⟩:=ha;refine(I.hok b ob e).stay (λc w' hc q=>(hs.2 c ?_).trans q) (λ_ q=>q) λ_ _ q=>q
  rintro rfl;rcases hc with rfl|hc
  ·rw[hfree] at e;cases e
  ·rw[hfree] at hc;cases hc
 rcases hx with hk|hk
 ·refine wpAny_storeName_local hk hn (λh' hn' hs=>?_) hcls;have⟨oL,_,_,hoL,_⟩:=id hn;refine h _ ⟨I.ok,I.os,I.bare,⟨λb o e n hb hx=>?_,λb o e n hb hx=>?_,I.base.free,λb o e hx=>?_,I.base.tups,I.base.frzs,I.base.tbls⟩,⟨_,hn',λj y v' e1 e2 e3=>?_⟩,λy c e=>?_,I.free,I.freeC,λp hp=>?_,tracked ⟨oL,hoL,I.free⟩ hs,by simpa using I.len⟩ ⟨_,hs,.inl rfl⟩
  ·exact(hs.2 b (kO (qY (qK e) I.ok.above))).trans (I.base.keep b o e n hb hx)
  ·have⟨sl,e1⟩:=I.base.slot b o e n hb hx;exact⟨sl,(hs.2 b (kO (qY (qK e) I.ok.above))).trans e1⟩
  ·have⟨o',e1⟩:=I.base.there b o e hx;exact⟨o',(hs.2 b (kO (qY (qK e) I.ok.above))).trans e1⟩
  ·by_cases hj:j=i
   ·subst hj;rw[hi] at e1;cases e1;rw[kn hiσ] at e2;cases e2;exact⟨u,r,.inl ⟨hk,by simp⟩⟩
   ·rw[qG (gu hj)] at e2;have⟨u',r',q⟩:=hl j y v' e1 e2 e3;refine⟨u',r',?_⟩;rcases q with⟨k,e⟩|⟨k,c,e,z⟩
    ·refine .inl ⟨k,?_⟩
     have:y≠x:=λe=>hj (zbD hN e1 (e▸hi))
     simp[this,e]
    ·exact .inr ⟨k,c,e,z.sameBut hs (cne y c e)⟩
  ·have⟨w',z⟩:=I.cell y c e;exact⟨w',z.sameBut hs (cne y c e)⟩
  ·have⟨e,n,ne,nf,d⟩:=I.pin p hp;exact⟨(hs.2 p.1 ne).trans e,n,ne,nf,d⟩
 ·have hfn:X.fn x=true:=by
   rcases hf with z|z
   ·exact z
   ·rw[z] at hk;cases hk
  obtain⟨c,hc⟩:=I.ok.has x (.inl hk);have⟨w',z⟩:=I.cell x c hc;refine wpAny_storeName_cell I.ok.kind hk hc z (λh' hc' hs=>?_);have⟨oc,hoc,hocd⟩:=id z;refine h { s with heap:=h' } ⟨I.ok,I.os,I.bare,⟨λb o e n hb hx=>?_,λb o e n hb hx=>?_,I.base.free,λb o e hx=>?_,I.base.tups,I.base.frzs,I.base.tbls⟩,⟨m,hn.sameBut hs (gu (cne x c hc)),λj y v' e1 e2 e3=>?_⟩,λy c' e=>?_,I.free,I.freeC,λp hp=>?_,tracked ⟨oc,hoc,I.freeC x c hc⟩ hs,by simpa using I.len⟩ ⟨c,hs,.inr hc⟩
  ·exact(hs.2 b (kO (qY (qK e) (I.ok.cab x c hfn hc)))).trans (I.base.keep b o e n hb hx)
  ·have⟨sl,e1⟩:=I.base.slot b o e n hb hx;exact⟨sl,(hs.2 b (kO (qY (qK e) (I.ok.cab x c hfn hc)))).trans e1⟩
  ·have⟨o',e1⟩:=I.base.there b o e hx;exact⟨o',(hs.2 b (kO (qY (qK e) (I.ok.cab x c hfn hc)))).trans e1⟩
  ·by_cases hj:j=i
   ·subst hj;rw[hi] at e1;cases e1;rw[kn hiσ] at e2;cases e2;exact⟨u,r,.inr ⟨.inl hk,c,hc,hc'⟩⟩
   ·rw[qG (gu hj)] at e2;have⟨u',r',q⟩:=hl j y v' e1 e2 e3;refine⟨u',r',?_⟩;rcases q with q|⟨k,c',e,z'⟩
    ·exact .inl q
    ·refine .inr ⟨k,c',e,z'.sameBut hs ?_⟩;rintro rfl;exact hj (zbD hN e1 (I.ok.inj _ _ _ e hc▸hi))
  ·by_cases hcc:c'=c
   ·subst hcc;exact⟨_,hc'⟩
   ·have⟨w2,z2⟩:=I.cell y c' e;exact⟨w2,z2.sameBut hs hcc⟩
  ·have⟨e,n,ne,nf,d⟩:=I.pin p hp;refine⟨(hs.2 p.1 ?_).trans e,n,ne,nf,d⟩;intro q;rw[q,hoc] at e;have q':oc=p.2:=qX e;exact d w' (by rw[<-q'];exact hocd)
def zb5{M:Model}{A:Around}{E:VSx}{i:Nat}{x:Str}{v:V}{u:Value}{Q:Unit->Shared->Prop}(I:Inv X pins σ H s)(hN:X.N.Nodup)(hi:X.N[i]?=some x)(hx:Loc X.env.scope x)(r:RelV v u)(h:∀s',Inv X pins (σ.set i (some v)) H s'->Q () s')(hf:FNx X x:=by trivial):wpAny M A (storeName X.env x u) Q E s:=VB I hN hi hx r (λs' I' _=>h s' I') hf
end
abbrev XK:=Value->Option Addr->Hp->Prop
abbrev St:=List (Option V)
abbrev VK:=V->Hp->Prop
abbrev TE:=St->Hp->VK->Prop
abbrev TT:=St->Hp->(Bool->Hp->Prop)->Prop
abbrev TA:=St->Hp->(List V->Hp->Prop)->Prop
structure Ends where
 nx:St->Hp->Prop
 rt:VK
 bk:St->Hp->Prop:=λ_ _=>False
 ct:St->Hp->Prop:=λ_ _=>False
abbrev TS:=Ends->St->Hp->Prop
def EP(X:Cx)(pins:PNx)(σ:St)(Q:VK)(u:Value)(s':ShX):Prop:=∃v H',Inv X pins σ H' s'/\RelV v u/\Q v H'
def TP(X:Cx)(pins:PNx)(σ:St)(Q:Bool->Hp->Prop)(b:Bool)(s':ShX):Prop:=∃H',Inv X pins σ H' s'/\Q b H'
def AP(X:Cx)(pins:PNx)(σ:St)(Q:List V->Hp->Prop)(us:LVl)(s':ShX):Prop:=∃vs H',Inv X pins σ H' s'/\Vals vs us/\Q vs H'
def SP(X:Cx)(pins:PNx)(D:Ends)(f:Flow)(s':ShX):Prop:=match f with
 | .next=>∃σ' H',Inv X pins σ' H' s'/\D.nx σ' H'
 | .brk=>∃σ' H',Inv X pins σ' H' s'/\D.bk σ' H'
 | .cont=>∃σ' H',Inv X pins σ' H' s'/\D.ct σ' H'
 | .ret u=>∃v σ' H',Inv X pins σ' H' s'/\RelV v u/\D.rt v H'
def PE(X:Cx)(e:Expr)(t:TE):Prop:=∀(pins:PNx)(s:ShX)(σ:St)(H:Hp)(Q:VK),Inv X pins σ H s->t σ H Q->wpAny (model X.prog X.w) X.A (eval e X.env) (EP X pins σ Q) X.xe s
def PT(X:Cx)(e:Expr)(t:TT):Prop:=∀(pins:PNx)(s:ShX)(σ:St)(H:Hp)(Q:Bool->Hp->Prop),Inv X pins σ H s->t σ H Q->wpAny (model X.prog X.w) X.A (isTrue e X.env (eval e X.env)) (TP X pins σ Q) X.xe s
def PW(X:Cx)(e:Expr)(t:TT):Prop:=∀(whole:Sem Value)(pins:PNx)(s:ShX)(σ:St)(H:Hp)(Q:Bool->Hp->Prop),Inv X pins σ H s->t σ H Q->wpAny (model X.prog X.w) X.A (isTrue e X.env whole) (TP X pins σ Q) X.xe s
def PW.pt{X:Cx}{e:Expr}{t:TT}(h:PW X e t):PT X e t:=h _
def PA(X:Cx)(es:List Expr)(t:TA):Prop:=∀(pos:Pos)(pins:PNx)(s:ShX)(σ:St)(H:Hp)(Q:List V->Hp->Prop),Inv X pins σ H s->t σ H Q->wpAny (model X.prog X.w) X.A (spliced (backTo pos (starEach es X.env))) (AP X pins σ Q) X.xe s
def PS(X:Cx)(st:Stmt)(t:TS):Prop:=∀(pins:PNx)(s:ShX)(σ:St)(H:Hp)(D:Ends),Inv X pins σ H s->t D σ H->wpAny (model X.prog X.w) X.A (exec st X.env) (SP X pins D) X.xe s
def PSs(X:Cx)(st:List Stmt)(t:TS):Prop:=∀(pins:PNx)(s:ShX)(σ:St)(H:Hp)(D:Ends),Inv X pins σ H s->t D σ H->wpAny (model X.prog X.w) X.A (execs st X.env) (SP X pins D) X.xe s
def thn{α:Type}{t:Sem α}{Q Q':α->Shared->Prop}{M:Model}{A:Around}{E:VSx}{s:ShX}(h:wpAny M A t Q E s)(hQ:∀a s,Q a s->Q' a s):wpAny M A t Q' E s:=k9 h hQ λ_ _ x=>x
section
variable{X:Cx}
def bin{a b:Expr}{ta tb:TE}(ha:PE X a ta)(hb:PE X b tb){pins:PNx}{s:ShX}{σ:St}{H:Hp}{R:V->V->Hp->Prop}(I:Inv X pins σ H s)(h:ta σ H λx H1=>tb σ H1 λy H2=>R x y H2){α:Type}{Q:α->Shared->Prop}{f:Value->Value->Sem α}(hf:∀v u s2 x y H2,Inv X pins σ H2 s2->RelV x v->RelV y u->R x y H2->wpAny (model X.prog X.w) X.A (f v u) Q X.xe s2):wpAny (model X.prog X.w) X.A (eval a X.env) (λv s₁=>wpAny (model X.prog X.w) X.A (eval b X.env) (λu s₂=>wpAny (model X.prog X.w) X.A (f v u) Q X.xe s₂) X.xe s₁) X.xe s:=by
 refine thn (ha pins s σ H _ I h) λv s1 ⟨x,H1,I1,r1,q1⟩=>?_
 refine thn (hb pins s1 σ H1 _ I1 q1) λu s2 ⟨y,H2,I2,r2,q2⟩=>?_
 exact hf v u s2 x y H2 I2 r1 r2 q2
def zm9(i:Nat):TE:=λσ H Q=>∃v,σ[i]?=some (some v)/\Q v H
def tC(v:V):TE:=λ_ H Q=>Q v H
def yu{i:Nat}{x:Str}{pos:Pos}(hN:X.N[i]?=some x)(hv:Vis X.env.scope x)(hd:NDx x:=by decide)(hcd:NCx x:=by decide):PE X (.Name x pos) (zm9 i):=by
 intro pins s σ H Q I h;obtain⟨v,e,h⟩:=h;have⟨m,hn,hl⟩:=I.loc;have⟨u,r,l⟩:=hl i x v hN e hv;have fin:EP X pins σ Q u s:=⟨v,H,I,r,h⟩;rcases l with⟨hk,hm⟩|⟨hk,c,hc,hcell⟩
 ·exact wpAny_Name (wpAny_loadName_local I.ok.kind hk hn hm fin) hd
 ·rcases hk with hk|hk
  ·exact wpAny_Name (wpAny_loadName_cell I.ok.kind hk hc hcell fin) hd
  ·exact wpAny_Name (wpAny_loadName_free I.ok.kind hk hc hcell fin hcd) hd
def zlZ{i j pos}:PE X (.Constant (.int i) j pos) (tC (.int i)):=λ_ _ _ H _ I h=>wpAny_Constant_int ⟨.int i,H,I.tok _,⟨_,rfl⟩,h⟩
def zmK{b j pos}:PE X (.Constant (.bool b) j pos) (tC (.bl b)):=λ_ _ _ H _ I h=>Constant_bool ⟨.bl b,H,I,rfl,h⟩
def zlC{j pos}:PE X (.Constant .none j pos) (tC .non):=λ_ _ _ H _ I h=>Constant_none ⟨.non,H,I,rfl,h⟩
def Gl(X:Cx)(x:Str):Prop:=X.env.kindOf x=some .globalImplicit
def zbe{E:VSx}{pins:PNx}{s:ShX}{σ:St}{H:Hp}{x:Str}{u:Value}{pos:Pos}{Q:VSx}(I:Inv X pins σ H s)(hg:Gl X x)(hm:X.mg x=some u)(h:Q u s)(hd:NDx x:=by decide):wpAny (model X.prog X.w) X.A (eval (.Name x pos) X.env) Q E s:=Calls.Name_function_global I.ok.kind hg (Calls.loadGlobal_global (by rw[I.ok.glob];exact I.mod.glob.keeps I.bk) hm h) hd
def UJ{E:VSx}{pins:PNx}{s:ShX}{σ:St}{H:Hp}{x:Str}{u:Value}{pos:Pos}{Q:VSx}(I:Inv X pins σ H s)(hg:Gl X x)(hm:X.mg x=none)(hv:bootBuiltins x=some u)(h:Q u s)(hn:x≠"__name__":=by decide)(hd:NDx x:=by decide):wpAny (model X.prog X.w) X.A (eval (.Name x pos) X.env) Q E s:=by
 have⟨mb,h1,h2⟩:=I.mod.blt;exact Calls.Name_function_global I.ok.kind hg (Calls.loadGlobal_builtin (by rw[I.ok.glob];exact I.mod.glob.keeps I.bk) hm (by rw[I.ok.blt];exact h1.keeps I.bk) ((h2 x hn).trans hv) h) hd
def zi0{x:Str}{v:V}{u:Value}{pos:Pos}(hg:Gl X x)(hm:X.mg x=some u)(r:RelV v u)(hd:NDx x:=by decide):PE X (.Name x pos) (tC v):=λ_ _ _ H _ I h=>zbe I hg hm ⟨v,H,I,r,h⟩ hd
def ziu{x:Str}{v:V}{u:Value}{pos:Pos}(hg:Gl X x)(hm:X.mg x=none)(hv:bootBuiltins x=some u)(r:RelV v u)(hn:x≠"__name__":=by decide)(hd:NDx x:=by decide):PE X (.Name x pos) (tC v):=λ_ _ _ H _ I h=>UJ I hg hm hv ⟨v,H,I,r,h⟩ hn hd
variable{a b:Expr}{ta tb:TE}{pos:Pos}
def PC(X:Cx)(op:CmpOp)(a b:Expr)(t:TE):Prop:=∀(pins:PNx)(s:ShX)(σ:St)(H:Hp)(Q:VK),Inv X pins σ H s->t σ H Q->
  wpAny (model X.prog X.w) X.A (eval a X.env) (λv s₁=>wpAny (model X.prog X.w) X.A (eval b X.env) (λu s₂=>wpAny (model X.prog X.w) X.A (compareOp op v u) (EP X pins σ Q) X.xe s₂) X.xe s₁) X.xe s
def zhr(b:Expr){op:CmpOp}(h:op≠ .In)(h2:op≠ .NotIn):behindInMarks op b=false:=by
 have e1:(op==CmpOp.In)=false:=by cases op<;>first |rfl|exact absurd rfl h
 have e2:(op==CmpOp.NotIn)=false:=by cases op<;>first |rfl|exact absurd rfl h2
 cases b<;>simp[behindInMarks,e1,e2]
def tB(t:TE):TT:=λσ H Q=>t σ H λx H1=>∃c,x=.bl c/\Q c H1
def zm0{op:CmpOp}{t:TE}(h:PC X op a b t)(h1:behindInMarks op b=false:=by first |exact zhr _ (by decide) (by decide)|rfl):PT X (.Compare a [op] [b] pos) (tB t):=by
 intro pins s σ H Q I hw;refine wpAny_isTrue_Compare1 (thn (h pins s σ H _ I hw) λv s1 h1=>thn h1 λu s2 h2=>thn h2 λc s3 ⟨x,H1,I1,r1,q1⟩=>?_) h1;obtain⟨d,rfl,q⟩:=q1;cases r1;exact hZ ⟨H1,I1,q⟩
def zid{e:Expr}{t:TE}(h:PE X e t)(he:∀whole,isTrue e X.env whole=(do let v <-whole;standAt e.pos;holding [v] (truthy v)):=by intro _;rfl):PT X e (tB t):=by
 intro pins s σ H Q I hw;refine isTrue_plain (thn (h pins s σ H _ I hw) λv s1 ⟨x,H1,I1,r1,q1⟩=>?_) (he _);obtain⟨d,rfl,q⟩:=q1;cases r1;exact hZ ⟨H1,I1,q⟩
variable{tA tB':TT}{rest:List Expr}
def zm2(t u:TT):TT:=λσ H Q=>t σ H λc H1=>if c=true then u σ H1 Q else Q false H1
def tOr(t u:TT):TT:=λσ H Q=>t σ H λc H1=>if c=true then Q true H1 else u σ H1 Q
def znh(t:TT):TT:=λσ H Q=>t σ H λc H1=>Q (!c) H1
def pw_and1(ha:PT X a tA):PW X (.BoolOp .And [a] pos) tA:=by
 intro wh pins s σ H Q I h;refine isTrue_and (thn (ha pins s σ H Q I h) λc s1 e=>?_);cases c with
 |true=>exact isTrue_and_nil e
 |false=>exact e
def pw_or1(ha:PT X a tA):PW X (.BoolOp .Or [a] pos) tA:=by
 intro wh pins s σ H Q I h;refine isTrue_or (thn (ha pins s σ H Q I h) λc s1 e=>?_);cases c with
 |false=>exact isTrue_or_nil e
 |true=>exact e
def pw_and(ha:PT X a tA)(hb:PW X (.BoolOp .And (b::rest) pos) tB'):PW X (.BoolOp .And (a::b::rest) pos) (zm2 tA tB'):=by
 intro wh pins s σ H Q I h;refine isTrue_and (thn (ha pins s σ H _ I h) λc s1 ⟨H1,I1,q1⟩=>?_);cases c with
 |true=>exact hb wh pins s1 σ H1 Q I1 q1
 |false=>exact⟨H1,I1,q1⟩
def pw_or(ha:PT X a tA)(hb:PW X (.BoolOp .Or (b::rest) pos) tB'):PW X (.BoolOp .Or (a::b::rest) pos) (tOr tA tB'):=by
 intro wh pins s σ H Q I h;refine isTrue_or (thn (ha pins s σ H _ I h) λc s1 ⟨H1,I1,q1⟩=>?_);cases c with
 |true=>exact⟨H1,I1,q1⟩
 |false=>exact hb wh pins s1 σ H1 Q I1 q1
def zhB(ha:PT X a tA):PT X (.UnaryOp .Not a pos) (znh tA):=by
 intro pins s σ H Q I h;exact isTrue_not (ha pins s σ H (λc H1=>Q (!c) H1) I h)
def zmI(ta tb:TE):TE:=λσ H Q=>ta σ H λx H1=>∃c,x=.bl c/\if c=true then tb σ H1 Q else Q (.bl false) H1
def zgI{op}{t:TE}(h:PE X a t):PE X (.BoolOp op [a] pos) t:=λpins s σ H Q I hw=>BoolOp_one (h pins s σ H Q I hw)
def zhO(ha:PE X a ta)(hb:PE X (.BoolOp .And (b::rest) pos) tb):PE X (.BoolOp .And (a::b::rest) pos) (zmI ta tb):=by
 intro pins s σ H Q I h;refine BoolOp_and (thn (ha pins s σ H _ I h) λv s1 ⟨x,H1,I1,r1,q1⟩=>?_);obtain⟨c,rfl,q1⟩:=q1;cases r1;refine hZ ?_;cases c with
 |true=>exact hb pins s1 σ H1 Q I1 q1
 |false=>exact⟨.bl false,H1,I1,rfl,q1⟩
def tIf(t:TT)(ta tb:TE):TE:=λσ H Q=>t σ H λc H1=>if c=true then ta σ H1 Q else tb σ H1 Q
def zhc{c:Expr}(hc:PT X c tA)(ha:PE X a ta)(hb:PE X b tb):PE X (.IfExp c a b pos) (tIf tA ta tb):=by
 intro pins s σ H Q I h;refine wpAny_IfExp (thn (hc pins s σ H _ I h) λd s1 ⟨H1,I1,q1⟩=>?_);cases d with
 |true=>exact ha pins s1 σ H1 Q I1 q1
 |false=>exact hb pins s1 σ H1 Q I1 q1
end
def SqL(K:FRx)(H:Hp)(a:AdX)(xs:List V):Prop:=Rd H a (.lst xs)\/
  ∃(o:Obj)(its:Array Value)(n:Nat),K.lookup a=some o/\o.cls=.type "list"/\o.dict=none/\o.data=.seq its n/\its.size<=sizeLine/\Vals xs its.toList
def SqT(K:FRx)(H:Hp)(a:AdX)(xs:List V):Prop:=Rd H a (.tup xs)\/
  ∃(o:Obj)(its:Array Value)(n:Nat),K.lookup a=some o/\o.cls=.type "tuple"/\o.data=.seq its n/\its.size<=sizeLine/\Vals xs its.toList
noncomputable def zm4:Value->Option V
 | .none=>some .non
 | .bool b=>some (.bl b)
 | .int i _=>some (.int i)
 | .str x _=>some (.str x)
 | .bytes b _=>some (.byt b)
 | .float b _=>some (.flt b)
 | .ref a=>some (.ref a)
 | .type n=>some (.ty n)
 |_=>none
def RelV.abs{x:V}{u:Value}(r:RelV x u):zm4 u=some x:=by
 cases x with
 |non=>cases r;rfl
 |bl _=>cases r;rfl
 |int _=>obtain⟨t,rfl⟩:=r;rfl
 |str _=>obtain⟨t,rfl⟩:=r;rfl
 |byt _=>obtain⟨t,rfl⟩:=r;rfl
 |flt _=>obtain⟨t,rfl⟩:=r;rfl
 |ref _=>cases r;rfl
 |ty _=>cases r;rfl
def RelV.inj{x y:V}{u:Value}(r:RelV x u)(q:RelV y u):x=y:=qX (r.abs.symm.trans q.abs)
theorem Vals.inj:∀{xs ys:List V} {us:LVl},Vals xs us->Vals ys us->xs=ys
 |_,_,_,.nil,.nil=>rfl
 |_,_,_,.cons r t,.cons r' t'=>by rw[r.inj r',Vals.inj t t']
section
variable{X:Cx}{pins:PNx}{σ:St}{H:Hp}{s:ShX}{a:AdX}{xs ys:List V}
def SqL.of{K:FRx}(h:H a=some (.lst xs)):SqL K H a xs:=.inl (.inl h)
def SqT.of{K:FRx}(h:H a=some (.tup xs)):SqT K H a xs:=.inl (.inl h)
def Inv.list(I:Inv X pins σ H s)(h:SqL X.K H a xs):∃its:List Value,Vals xs its/\PlainL s.heap a its.toArray/\xs.length<=sizeLine:=by
 rcases h with h|⟨o,its,n,hk,hc,hd,hs,hz,r⟩
 ·have⟨z,its,n,r,e⟩:=h.ok I.hok;exact⟨its,r,⟨_,n,e,rfl,rfl,rfl⟩,z⟩
 ·refine⟨its.toList,r,⟨o,n,I.kIn a o hk,hc,hd,by simpa using hs⟩,?_⟩;have e:=r.length;simp only [nZ] at e;omega
def Inv.tuple(I:Inv X pins σ H s)(h:SqT X.K H a xs):∃its:List Value,Vals xs its/\IsTup s.heap a its.toArray/\xs.length<=sizeLine:=by
 rcases h with h|⟨o,its,n,hk,hc,hs,hz,r⟩
 ·have⟨z,its,r,p⟩:=h.ok I.hok;exact⟨its,r,p,z⟩
 ·refine⟨its.toList,r,⟨o,I.kIn a o hk,hc,n,by simpa using hs⟩,?_⟩;have e:=r.length;simp only [nZ] at e;omega
def Inv.zco(I:Inv X pins σ H s)(h:SqL X.K H a xs)(h':SqL X.K H a ys):xs=ys:=by
 have⟨its,r,⟨o,n,e,_,_,d⟩,_⟩:=I.list h;have⟨its',r',⟨o',n',e',_,_,d'⟩,_⟩:=I.list h';rw[e] at e';cases e';rw[d] at d';injection d' with d1 _
 have:its=its':=by simpa using qM Array.toList d1
 subst this;exact r.inj r'
def Inv.ZZ(I:Inv X pins σ H s)(h:SqT X.K H a xs)(h':SqT X.K H a ys):xs=ys:=by
 have⟨its,r,⟨o,e,_,n,d⟩,_⟩:=I.tuple h;have⟨its',r',⟨o',e',_,n',d'⟩,_⟩:=I.tuple h';rw[e] at e';cases e';rw[d] at d';injection d' with d1 _
 have:its=its':=by simpa using qM Array.toList d1
 subst this;exact r.inj r'
end
noncomputable abbrev Cx.wish(X:Cx)(E:VSx):Cx:={ X with xe:=E }
abbrev Cx.nox(X:Cx):Cx:=X.wish λ_ _=>False
def Cx.Ok.wish{X:Cx}(ok:X.Ok)(E:VSx):(X.wish E).Ok:=⟨ok.mod,ok.kind,ok.glob,ok.blt,ok.above,ok.inj,ok.has,ok.cab,ok.hd,ok.frames,ok.stk,ok.exf,ok.bs,ok.bsz,ok.noex,ok.exfs,ok.funs,ok.frf⟩
def Cx.Ok.unwish{X:Cx}{E:VSx}(ok:(X.wish E).Ok):X.Ok:=⟨ok.mod,ok.kind,ok.glob,ok.blt,ok.above,ok.inj,ok.has,ok.cab,ok.hd,ok.frames,ok.stk,ok.exf,ok.bs,ok.bsz,ok.noex,ok.exfs,ok.funs,ok.frf⟩
section
variable{X:Cx}{pins:PNx}{σ:St}{H:Hp}{s:ShX}{E:VSx}
def Inv.wish(I:Inv X pins σ H s)(E:VSx):Inv (X.wish E) pins σ H s:=⟨I.ok.wish E,I.os,I.bare,I.base,I.loc,I.cell,I.free,I.freeC,I.pin,I.hok,I.len⟩
def Inv.unwish(I:Inv (X.wish E) pins σ H s):Inv X pins σ H s:=⟨I.ok.unwish,I.os,I.bare,I.base,I.loc,I.cell,I.free,I.freeC,I.pin,I.hok,I.len⟩
def SP.unwish{D:Ends}{f:Flow}{s':ShX}(h:SP (X.wish E) pins D f s'):SP X pins D f s':=by
 cases f with
 |next=>have⟨σ',H',I,q⟩:=h;exact⟨σ',H',I.unwish,q⟩
 |brk=>have⟨σ',H',I,q⟩:=h;exact⟨σ',H',I.unwish,q⟩
 |cont=>have⟨σ',H',I,q⟩:=h;exact⟨σ',H',I.unwish,q⟩
 |ret u=>have⟨v,σ',H',I,r,q⟩:=h;exact⟨v,σ',H',I.unwish,r,q⟩
def PSs.nox{st:List Stmt}{t:TS}(h:PSs X.nox st t):PSs X st t:=λpins s σ H D I hw=>
 k9 (h pins s σ H D (I.wish _) hw) (λ_ _ q=>q.unwish) λ_ _ z=>False.elim z
end
section
variable{X:Cx}{st:Stmt}{rest:List Stmt}{t u:TS}{e:Expr}{te:TE}{pos:Pos}
def zmQ:TS:=λD σ H=>D.nx σ H
def zmW(t u:TS):TS:=λD σ H=>t { D with nx:=u D } σ H
def ze1:PSs X [] zmQ:=λ_ _ σ H _ I h=>n8 ⟨σ,H,I,h⟩
def uw(h1:PS X st t)(h2:PSs X rest u):PSs X (st::rest) (zmW t u):=by
 intro pins s σ H D I h;refine wpAny_execs_cons (thn (h1 pins s σ H { D with nx:=u D } I h) λf s1 q=>?_);cases f with
 |next=>
  obtain⟨σ',H',I',q⟩:=q;exact h2 pins s1 σ' H' D I' q
 |ret v=>exact q
 |brk=>exact q
 |cont=>exact q
def zaK(h1:PS X st t):PSs X [st] t:=by
 intro pins s σ H D I h;refine wpAny_execs_cons (thn (h1 pins s σ H D I h) λf s1 q=>?_);cases f with
 |next=>exact n8 q
 |ret v=>exact q
 |brk=>exact q
 |cont=>exact q
def Inv.quiet{pins:PNx}{σ:St}{H:Hp}{s:ShX}(I:Inv X pins σ H s):interactive X.env=false:=by simp[interactive,I.ok.kind]
def zmo(te:TE):TS:=λD σ H=>te σ H λ_ H1=>D.nx σ H1
def vW(he:PE X e te)(hs:swapsWith e none pos.line X.env=pure false:=by rfl):PS X (.Expr e pos) (zmo te):=by
 intro pins s σ H D I h;exact wpAny_Expr_any (thn (he pins s σ H _ I h) λv s1 ⟨x,H1,I1,r1,q1⟩=>⟨σ,H1,I1,q1⟩) I.quiet hs
def zmX(te:TE):TS:=λD σ H=>te σ H D.rt
def Jy(he:PE X e te):PS X (.Return (some e) pos) (zmX te):=by
 intro pins s σ H D I h;exact wpAny_Return_some (thn (he pins s σ H _ I h) λv s1 ⟨x,H1,I1,r1,q1⟩=>⟨x,σ,H1,I1,r1,q1⟩)
def zna(c:TT)(t u:TS):TS:=λD σ H=>c σ H λb H1=>if b=true then t D σ H1 else u D σ H1
def zez{c:Expr}{a b:List Stmt}{tc:TT}(hc:PT X c tc)(ha:PSs X a t)(hb:PSs X b u):PS X (.If c a b pos) (zna tc t u):=by
 intro pins s σ H D I h;refine wpAny_If (thn (hc pins s σ H _ I h) λd s1 ⟨H1,I1,q1⟩=>?_);cases d with
 |true=>exact ha pins s1 σ H1 D I1 q1
 |false=>exact hb pins s1 σ H1 D I1 q1
def zla:TS:=λ_ _ _=>False
def zgE:PS X st zla:=λ_ _ _ _ _ _ h=>h.elim
end
abbrev TG:=V->St->Hp->(St->Hp->Prop)->Prop
abbrev TGs:=List V->St->Hp->(St->Hp->Prop)->Prop
def PG(X:Cx)(target:Expr)(t:TG):Prop:=∀(pins:PNx)(s:ShX)(σ:St)(H:Hp)(v:V)(u:Value)(Q:St->Hp->Prop),Inv X pins σ H s->RelV v u->t v σ H Q->
  wpAny (model X.prog X.w) X.A (assign target X.env u) (λ_ s'=>∃σ' H',Inv X pins σ' H' s'/\Q σ' H') X.xe s
def PGs(X:Cx)(ts:List Expr)(t:TGs):Prop:=∀(pins:PNx)(s:ShX)(σ:St)(H:Hp)(vs:List V)(us:LVl)(Q:St->Hp->Prop),Inv X pins σ H s->Vals vs us->t vs σ H Q->
  wpAny (model X.prog X.w) X.A (assignInOrder ((assignEach ts X.env).map (·.2)) us) (λ_ s'=>∃σ' H',Inv X pins σ' H' s'/\Q σ' H') X.xe s
abbrev zkQ:=V->V->V->Hp->(Hp->Prop)->Prop
def zms(X:Cx)(t:zkQ):Prop:=∀(pins:PNx)(s:ShX)(σ:St)(H:Hp)(o i v:V)(ov iv u:Value)(Q:Hp->Prop),Inv X pins σ H s->RelV o ov->RelV i iv->RelV v u->t o i v H Q->
  wpAny (model X.prog X.w) X.A (setItem ov iv u) (λ_ s'=>∃H',Inv X pins σ H' s'/\Q H') X.xe s
section
variable{X:Cx}{pos:Pos}
def zkj(i:Nat):TG:=λv σ H Q=>Q (σ.set i (some v)) H
def zjg{i:Nat}{x:Str}(hN:X.N.Nodup)(hi:X.N[i]?=some x)(hx:Loc X.env.scope x)(hf:FNx X x:=by trivial):PG X (.Name x pos) (zkj i):=by
 intro pins s σ H v u Q I r h;exact pW (zb5 I hN hi hx r (λs' I'=>⟨_,H,I',h⟩) hf)
def zmY:TGs:=λvs σ H Q=>vs=[]/\Q σ H
def zl9(t:TG)(u:TGs):TGs:=λvs σ H Q=>∃v r,vs=v::r/\t v σ H λσ' H'=>u r σ' H' Q
def zjt:PGs X [] zmY:=by
 intro pins s σ H vs us Q I r h;obtain⟨e,h⟩:=h;subst e;cases r;exact assignInOrder_nil ⟨σ,H,I,h⟩
def zcT{e:Expr}{es:List Expr}{t:TG}{u:TGs}(h1:PG X e t)(h2:PGs X es u)(hs:(assignEach (e::es) X.env).map (·.2)=assign e X.env::(assignEach es X.env).map (·.2):=by rfl):PGs X (e::es) (zl9 t u):=by
 intro pins s σ H vs us Q I r h;obtain⟨v,vr,e1,h⟩:=h;subst e1;cases r with
 |cons r rr=>
  rw[hs];refine assignInOrder_cons (thn (h1 pins s σ H _ _ _ I r h) λ_ s1 ⟨σ1,H1,I1,q1⟩=>?_);exact h2 pins s1 σ1 H1 _ _ Q I1 rr q1
def zmZ(K:FRx)(n:Nat)(t:TGs):TG:=λv σ H Q=>∃a xs,v=.ref a/\SqT K H a xs/\xs.length=n/\t xs σ H Q
def zkH{es:List Expr}{k:Nat}{t:TGs}{n:Nat}(hc:X.calm=true)(h:PGs X es t)(hn:(assignEach es X.env).length=n:=by rfl)(hst:(assignEach es X.env).findIdx? (·.1)=none:=by rfl):PG X (.Tuple es k pos) (zmZ X.K n t):=by
 intro pins s σ H v u Q I r hw;obtain⟨a,xs,e1,hq,hl,hw⟩:=hw;subst e1;cases r;have⟨its,rv,ht,hz⟩:=I.tuple hq;refine assign_Tuple_tuple (I.ok.hd hc) ht (by simp[hn,<-hl,rv.length]) hst λh' hx=>?_
 have I1:Inv X pins σ H { s with heap:=h' }:=I.kept (t':=s.toks) λb o e=>hx b o (kO (qK e)) e
 exact h pins _ σ H xs _ Q I1 (by simpa using rv) hw
def zmV(to ti:TE)(t:zkQ):TG:=λv σ H Q=>to σ H λo H1=>ti σ H1 λi H2=>t o i v H2 λH3=>Q σ H3
def zhV{o i:Expr}{to ti:TE}{t:zkQ}(ho:PE X o to)(hi:PE X i ti)(hs:zms X t)(ha:∀v,assign (.Subscript o i pos) X.env v=(do
   let ov <-holding [v] (eval o X.env)
   let iv <-holding [v,ov] (eval i X.env)
   standAt pos
   holding [v,ov,iv] (setItem ov iv v)
   release [v,ov,iv] []):=by intro _;rfl):PG X (.Subscript o i pos) (zmV to ti t):=by
 intro pins s σ H v u Q I r h;rw[ha];refine qt (wpAny_holding (thn (ho pins s σ H _ I h) λov s1 ⟨x,H1,I1,r1,q1⟩=>?_));refine qt (wpAny_holding (thn (hi pins s1 σ H1 _ I1 q1) λiv s2 ⟨y,H2,I2,r2,q2⟩=>?_));refine qt (nH (qt (wpAny_holding (thn (hs pins s2 σ H2 x y v ov iv u _ I2 r1 r2 r q2) λ_ s3 ⟨H3,I3,q3⟩=>?_))));exact wpAny_release ⟨σ,H3,I3,q3⟩
def zmp(te:TE)(g:TG):TS:=λD σ H=>te σ H λx H1=>g x σ H1 D.nx
def zhp{tg e:Expr}{te:TE}{g:TG}(he:PE X e te)(hg:PG X tg g)(hs:swapsWithSole [tg] e pos.line X.env=pure false:=by rfl)(hw:swappedStores [tg] e X.env=pure none:=by rfl)(h1:(assignEach [tg] X.env).map (·.2)=[assign tg X.env]:=by rfl):PS X (.Assign [tg] e pos) (zmp te g):=by
 intro pins s σ H D I h;refine wpAny_Assign_stores (thn (he pins s σ H _ I h) λv s1 ⟨x,H1,I1,r1,q1⟩=>?_) hs hw;rw[h1];exact thn (hg pins s1 σ H1 x v _ I1 r1 q1) λ_ s2 q=>q
def wA{i:Nat}{x:Str}{e:Expr}{te:TE}{pos':Pos}(hN:X.N.Nodup)(hi:X.N[i]?=some x)(hx:Loc X.env.scope x)(he:PE X e te)(hs:swapsWith e (some (.Name x pos')) pos.line X.env=pure false:=by rfl)(hf:FNx X x:=by trivial):PS X (.Assign [.Name x pos'] e pos) (zmp te (zkj i)):=by
 intro pins s σ H D I h;refine wpAny_Assign_Name (thn (he pins s σ H _ I h) λv s1 ⟨y,H1,I1,r1,q1⟩=>?_) hs;exact zb5 I1 hN hi hx r1 (λs2 I2=>⟨_,H1,I2,q1⟩) hf
end
section
variable{X:Cx}{pos:Pos}
def zl0(c:TT)(tb:TS):TS:=λD σ H=>∃W:Nat->St->Hp->Prop,(∃m,W m σ H)/\∀m σ H,W m σ H->
 c σ H λb H1=>if b=true then ∃N:St->Hp->Prop,(∀σ' H',N σ' H'->∃m',m'<m/\W m' σ' H')/\tb { D with nx:=N,ct:=N,bk:=D.nx } σ H1 else D.nx σ H1
def zc5{c:Expr}{body:List Stmt}{tc:TT}{tb:TS}(hp:PassesOwn (model X.prog X.w) X.A X.env X.xe)(hc:PT X c tc)(hb:PSs X body tb):PS X (.While c body [] pos) (zl0 tc tb):=by
 intro pins s σ H D I h;have⟨W,⟨m0,w0⟩,turn⟩:=h;refine wpAny_While (codeAny_whileLoop (λn s'=>∃σ' H',Inv X pins σ' H' s'/\W n σ' H') ?_ m0 ⟨σ,H,I,w0⟩);rintro n s1 ⟨σ1,H1,I1,w1⟩;refine gY hp (thn (hc pins s1 σ1 H1 _ I1 (turn n σ1 H1 w1)) λb s2 ⟨H2,I2,q2⟩=>?_);cases b with
 |true=>
  obtain⟨N,hN,q2⟩:=q2;rw[qf rfl];refine gY hp (thn (hb pins s2 σ1 H2 _ I2 q2) λf s3 q3=>?_);cases f with
  |next=>
   have⟨σ3,H3,I3,n3⟩:=q3;have⟨m',hm,w3⟩:=hN σ3 H3 n3;exact⟨m',hm,σ3,H3,I3,w3⟩
  |cont=>
   have⟨σ3,H3,I3,n3⟩:=q3;have⟨m',hm,w3⟩:=hN σ3 H3 n3;exact⟨m',hm,σ3,H3,I3,w3⟩
  |brk=>exact q3
  |ret v=>exact q3
 |false=>
  rw[qq qF];exact n8 ⟨σ1,H2,I2,q2⟩
end
structure It where
 go:Nat->Hp->Prop
 yld:Nat->Hp->V->Hp->Prop
 stop:Nat->Hp->Prop
def uC(X:Cx)(pins:PNx)(H:Hp)(b:AdX):Prop:=H b=none/\b≠X.env.locals/\b∉X.fs/\(b∈X.ex\/X.s₀.heap.objs.size<=b)/\(∀x c,X.env.cells.lookup x=some c->c≠b)/\∀p∈X.pn++pins,p.1≠b
def Inv.zaB{X:Cx}{pins:PNx}{σ:St}{H H':Hp}{s:ShX}{b:AdX}(I:Inv X pins σ H s)(hb:s.heap.objs.size<=b)(hn:H' b=none):uC X pins H' b:=by
 refine⟨hn,mV (qY I.lt hb),I.nofs hb,.inr (qw I.sz hb),λx c e z=>?_,λp hp z=>?_⟩
 ·have⟨v,q⟩:=I.cell x c e;exact absurd (qY q.lt (by rw[z];exact hb)) (kW _)
 ·exact absurd (qY (qK (I.pin p hp).1) (by rw[z];exact hb)) (kW _)
structure Turn(P:Program)(w:World)(K:FRx)(tg:Expr)(J:It)(fp:LAd)(it:AdX)(tn:Nat->Heap->Prop):Prop where
 mem:it∈fp
 obj:∀i h,tn i h->∀b∈fp,∃o,h.get? b=some o/\∀v,o.data≠ .cell v
 keep:∀i h h',tn i h->(∀b∈fp,∀o,h.get? b=some o->h'.get? b=some o)->tn i h'
 item:∀(X:Cx),X.prog=P->X.w=w->X.K=K->X.calm=true->∀(i:Nat)(pins:PNx)(s:ShX)(σ:St)(H:Hp)(E:VSx),Inv X pins σ H s->(∀b∈fp,uC X pins H b)->tn i s.heap->J.go i H->
  wpAny (model P w) X.A (pyNext (.ref it)) (λr s1=>∃u,r=some u/\
   wpAny (model P w) X.A (letOwnedTupleGo tg (.ref it) u) (λ_ s2=>∃x H',Inv X pins σ H' s2/\RelV x u/\J.yld i H x H'/\tn (i+1) s2.heap/\∀b∈fp,H' b=none) E s1) E s
 done:∀(X:Cx),X.prog=P->X.w=w->X.K=K->X.calm=true->∀(i:Nat)(pins:PNx)(s:ShX)(σ:St)(H:Hp)(E:VSx),Inv X pins σ H s->(∀b∈fp,uC X pins H b)->tn i s.heap->J.stop i H->
  wpAny (model P w) X.A (pyNext (.ref it)) (λr s1=>r=none/\Inv X pins σ H s1) E s
 self:∀(A:Around)(i:Nat)(s:ShX)(Q:VSx)(E:VSx),tn i s.heap->Q (.ref it) s->wpAny (model P w) A (pyIter (.ref it)) Q E s
abbrev TI:=St->Hp->(It->Hp->Prop)->Prop
def PIE(X:Cx)(pins:PNx)(σ:St)(tg:Expr)(R:It->Hp->Prop)(itv:Value)(s2:ShX):Prop:=∃(it:AdX)(fp:LAd)(tn:Nat->Heap->Prop)(J:It)(H':Hp),itv=.ref it/\Inv X pins σ H' s2/\Turn X.prog X.w X.K tg J fp it tn/\tn 0 s2.heap/\(∀b∈fp,uC X pins H' b)/\R J H'
def PI(X:Cx)(tg iter:Expr)(wi:TI):Prop:=∀(pins:PNx)(s:ShX)(σ:St)(H:Hp)(R:It->Hp->Prop),Inv X pins σ H s->wi σ H R->
  wpAny (model X.prog X.w) X.A (eval iter X.env) (λv s1=>wpAny (model X.prog X.w) X.A (pyIter v) (PIE X pins σ tg R) X.xe s1) X.xe s
def zhs{M:Model}{A:Around}{E:VSx}{s:ShX}{tg:Expr}{it:AdX}{u:Value}{o:Obj}{n:String}{vs:Array Value}{Q:Unit->Shared->Prop}(ho:s.heap.get? it=some o)(hc:o.cls=.type n)(hd:o.data=.fields vs)(hn:["enumerate","zip","dict_itemiterator","dict_reverseitemiterator","odict_iterator","itertools.zip_longest","itertools.pairwise"].contains n=false)(hQ:Q () s):wpAny M A (letOwnedTupleGo tg (.ref it) u) Q E s:=by
 unfold letOwnedTupleGo;cases tg<;>first
  |exact qT hQ
  |(cases u<;>first
    |exact qT hQ
    |(refine qt (wpAny_load ho ?_)
      rw[hc,hd];show wpAny M A (if (["enumerate","zip","dict_itemiterator","dict_reverseitemiterator","odict_iterator","itertools.zip_longest","itertools.pairwise"].contains n&&vs[0]?==some (rawInt _))=true then _ else _) Q E s
      rw[qq (by intro h;rw[hn,mW] at h;cases h)];exact qT hQ))
def Itl(K:FRx)(a:AdX):It:=⟨λi H=>∃xs x,SqL K H a xs/\xs[i]?=some x,λi H x H'=>H'=H/\∀xs,SqL K H a xs->xs[i]?=some x,λi H=>∃xs,SqL K H a xs/\xs.length<=i⟩
noncomputable def Itt(K:FRx)(a:AdX):It:=⟨λi H=>∃xs x,SqT K H a xs/\xs[i]?=some x,λi H x H'=>H'=H/\∀xs,SqT K H a xs->xs[i]?=some x,λi H=>∃xs,SqT K H a xs/\xs.length<=i⟩
def Itr(lo:Int)(n:Nat):It:=⟨λi _=>i<n,λi H x H'=>H'=H/\x=.int (lo+i),λi _=>n<=i⟩
def zft{P:Program}{w:World}{K:FRx}{tg:Expr}(a it:AdX):Turn P w K tg (Itl K a) [it] it (λi h=>h.IsListIter it a i) where
 mem:=by simp
 obj:=λi h st b hb=>by
  have e:b=it:=by simpa using hb
  subst e;have⟨o,e,c,d⟩:=st;exact⟨o,e,λv z=>by rw[d] at z;cases z⟩
 keep:=λi h h' st k=>st.at λo e=>k it (by simp) o e
 item:=by
  intro X hP hw hK hc i pins s σ H E I hf st hg;subst hP hw hK;have⟨xs,x,hq,hx⟩:=hg;have⟨its,rv,p,hz⟩:=I.list hq;have⟨u,hu,ru⟩:=rv.get hx;obtain⟨f0,f1,f2,f3,f4,f5⟩:=hf it (by simp);refine wpAny_pyNext_list_item st p.isList (x:=u) (by simpa using hu) λh' st' sb=>?_
  have I1:Inv X pins σ H { s with heap:=h' }:=I.turned (t':=s.toks) (λb o hb e=>(sb.2 b hb).trans e) f0 f1 f3 f4 f5;have⟨o,e,c,d⟩:=id st'
  exact⟨u,rfl,zhs (s:={ s with heap:=h' }) e c d (by decide) ⟨x,H,I1,ru,⟨rfl,λys hy=>by rw[I.zco hy hq];exact hx⟩,st',λb hb=>(hf b hb).1⟩⟩
 done:=by
  intro X hP hw hK hc i pins s σ H E I hf st hg;subst hP hw hK;have⟨xs,hq,hx⟩:=hg;have⟨its,rv,p,hz⟩:=I.list hq;obtain⟨f0,f1,f2,f3,f4,f5⟩:=hf it (by simp);have hl:=rv.length;exact wpAny_pyNext_list_end (I.ok.hd hc) st p.isList (by simp;omega) λh' eb=>⟨rfl,I.turned (t':=s.toks) (λb o hb e=>eb b o hb e) f0 f1 f3 f4 f5⟩
 self:=λ_ _ _ _ _ st h=>wpAny_pyIter_listiter st h
def zee{P:Program}{w:World}{K:FRx}{tg:Expr}(a it:AdX):Turn P w K tg (Itt K a) [it] it (λi h=>h.IsTupleIter it a i) where
 mem:=by simp
 obj:=λi h st b hb=>by
  have e:b=it:=by simpa using hb
  subst e;have⟨o,e,c,d⟩:=st;exact⟨o,e,λv z=>by rw[d] at z;cases z⟩
 keep:=λi h h' st k=>st.at λo e=>k it (by simp) o e
 item:=by
  intro X hP hw hK hc i pins s σ H E I hf st hg;subst hP hw hK;have⟨xs,x,hq,hx⟩:=hg;have⟨its,rv,p,hz⟩:=I.tuple hq;have⟨u,hu,ru⟩:=rv.get hx;obtain⟨f0,f1,f2,f3,f4,f5⟩:=hf it (by simp);refine wpAny_pyNext_tuple_item st (show s.heap.IsTuple a its.toArray from p) (x:=u) (by simpa using hu) λh' st' sb=>?_
  have I1:Inv X pins σ H { s with heap:=h' }:=I.turned (t':=s.toks) (λb o hb e=>(sb.2 b hb).trans e) f0 f1 f3 f4 f5;have⟨o,e,c,d⟩:=id st'
  exact⟨u,rfl,zhs (s:={ s with heap:=h' }) e c d (by decide) ⟨x,H,I1,ru,⟨rfl,λys hy=>by rw[I.ZZ hy hq];exact hx⟩,st',λb hb=>(hf b hb).1⟩⟩
 done:=by
  intro X hP hw hK hc i pins s σ H E I hf st hg;subst hP hw hK;have⟨xs,hq,hx⟩:=hg;have⟨its,rv,p,hz⟩:=I.tuple hq;obtain⟨f0,f1,f2,f3,f4,f5⟩:=hf it (by simp);have hl:=rv.length;exact wpAny_pyNext_tuple_end (I.ok.hd hc) st (show s.heap.IsTuple a its.toArray from p) (by simp;omega) λh' eb=>⟨rfl,I.turned (t':=s.toks) (λb o hb e=>eb b o hb e) f0 f1 f3 f4 f5⟩
 self:=λ_ _ _ _ _ st h=>wpAny_pyIter_tupleiter st h
def zdp{P:Program}{w:World}{K:FRx}{tg:Expr}(it:AdX)(lo:Int)(n:Nat):Turn P w K tg (Itr lo n) [it] it (λi h=>IsRangeIter h it (lo+(i:Nat)*1) ((n:Int) - (i:Nat)) 1) where
 mem:=by simp
 obj:=λi h st b hb=>by
  have e:b=it:=by simpa using hb
  subst e;exact⟨_,st,λv z=>by
   have z':Data.fields _=Data.cell v:=z;cases z'⟩
 keep:=λi h h' st k=>k it (by simp) _ st
 item:=by
  intro X hP hw hK hc i pins s σ H E I hf st hg;subst hP hw hK;obtain⟨f0,f1,f2,f3,f4,f5⟩:=hf it (by simp);have W:=Walks.range (prog:=X.prog) (w:=X.w) (I.ok.hd hc) it lo 1 n;refine W.item i s _ _ hg st λv h' tk hv st' kk=>?_
  obtain⟨t,rfl⟩:=hv;have I1:Inv X pins σ H { s with heap:=h',toks:=tk }:=I.turned (λb o hb e=>kk b o (by simpa using hb) e) f0 f1 f3 f4 f5;refine⟨_,rfl,zhs (s:={ s with heap:=h',toks:=tk }) (n:="range_iterator") st' rfl rfl (by decide) ⟨.int (lo+i),H,I1,⟨t,?_⟩,⟨rfl,rfl⟩,st',λb hb=>(hf b hb).1⟩⟩;rw[Int.mul_one]
 done:=by
  intro X hP hw hK hc i pins s σ H E I hf st hg;subst hP hw hK;obtain⟨f0,f1,f2,f3,f4,f5⟩:=hf it (by simp);exact wpAny_pyNext_range_end (I.ok.hd hc) st (by have:n<=i:=hg;omega) λh' eb=>⟨rfl,I.turned (t':=s.toks) (λb o hb e=>eb b o hb e) f0 f1 f3 f4 f5⟩
 self:=λ_ _ _ _ _ st h=>wpAny_pyIter_rangeiter st h
section
variable{X:Cx}{tg:Expr}
def zcn{pins:PNx}{σ:St}{H:Hp}{s:ShX}{R:It->Hp->Prop}{E:VSx}{lo hi:Int}{t u v:Tok}{tk:Nat}(I:Inv X pins σ H s)(h1:-(2 ^ 62)<=lo)(h2:lo<2 ^ 62)(h3:-(2 ^ 62)<=hi)(h4:hi<2 ^ 62)(q:R (Itr lo (hi - lo).toNat) H):wpAny (model X.prog X.w) X.A (pyIter (.ref s.heap.objs.size)) (PIE X pins σ tg R) E { s with heap:=s.heap.push { cls:=.type "range",data:=.fields #[.int lo t,.int hi u,.int 1 v] },toks:=tk }:=by
 refine wpAny_pyIter_range (IsRange.new ..) (small_one h1 h2 h3 h4) ?_;have I1:Inv X pins σ H { s with heap:=s.heap.push { cls:=.type "range",data:=.fields #[.int lo t,.int hi u,.int 1 v] },toks:=tk }:=I.kept λb o e=>qj _ e
 refine⟨(s.heap.push { cls:=.type "range",data:=.fields #[.int lo t,.int hi u,.int 1 v] }).objs.size,[(s.heap.push { cls:=.type "range",data:=.fields #[.int lo t,.int hi u,.int 1 v] }).objs.size],_,_,H,rfl,
  I1.kept (t':=tk) λb o e=>qj _ e,zdp _ lo (hi - lo).toNat,?_,λb hb=>?_,q⟩
 ·have e1:lo+((0:Nat):Int)*1=lo:=by simp
  have e2:(((hi - lo).toNat:Nat):Int) - ((0:Nat):Int)=Builtin.Range.rangeSize lo hi 1:=by rw[rangeSize_one];split<;>omega
  show IsRangeIter _ _ (lo+((0:Nat):Int)*1) ((((hi - lo).toNat:Nat):Int) - ((0:Nat):Int)) 1
  rw[e1,e2];exact qH _ rfl
 ·have e:b=(s.heap.push { cls:=.type "range",data:=.fields #[.int lo t,.int hi u,.int 1 v] }).objs.size:=by simpa using hb
  subst e;exact I1.zaB (qr _) (I1.hok.fresh (qr _))
def zmH(ta:TA):TI:=λσ H R=>ta σ H λvs H1=>∃j:Int,vs=[.int j]/\-(2 ^ 62)<=j/\j<2 ^ 62/\R (Itr 0 j.toNat) H1
def zmu(ta:TA):TI:=λσ H R=>ta σ H λvs H1=>∃i j:Int,vs=[.int i,.int j]/\(-(2 ^ 62)<=i/\i<2 ^ 62/\-(2 ^ 62)<=j/\j<2 ^ 62)/\R (Itr i (j - i).toNat) H1
def Z4{a:Expr}{ta:TA}{p pos:Pos}(hg:Gl X "range")(hm:X.mg "range"=none)(ha:PA X [a] ta)(hs:starEach [a] X.env=[(false,eval a X.env)]:=by rfl):PI X tg (.Call (.Name "range" p) [a] [] pos) (zmH ta):=by
 intro pins s σ H R I h;refine Call_ (UJ I hg hm boot_range (gy (thn (ha pos pins s σ H _ I h) λus s1 ⟨vs,H1,I1,r1,q1⟩=>?_) hs rfl));obtain⟨j,e,q1,q2,q⟩:=q1;subst e;cases r1 with
 |cons r rr=>
  cases rr;obtain⟨t,rfl⟩:=r;exact call_range_1 (zcn I1 (by omega) (by omega) q1 q2 (by simpa using q))
def zf1{a b:Expr}{ta:TA}{p pos:Pos}(hg:Gl X "range")(hm:X.mg "range"=none)(ha:PA X [a,b] ta)(hs:starEach [a,b] X.env=[(false,eval a X.env),(false,eval b X.env)]:=by rfl)(hs2:starEach [b] X.env=[(false,eval b X.env)]:=by rfl):PI X tg (.Call (.Name "range" p) [a,b] [] pos) (zmu ta):=by
 intro pins s σ H R I h;refine Call_ (UJ I hg hm boot_range (gy (thn (ha pos pins s σ H _ I h) λus s1 ⟨vs,H1,I1,r1,q1⟩=>?_) (by rw[hs,hs2]) (by rw[hs2];rfl)));obtain⟨i,j,e,⟨q1,q2,q3,q4⟩,q⟩:=q1;subst e;cases r1 with
 |cons r rr=>
  cases rr with
  |cons r' rr=>
   cases rr;obtain⟨t,rfl⟩:=r;obtain⟨t',rfl⟩:=r';exact call_range_2 (zcn I1 q1 q2 q3 q4 q)
def znc(wi:TI)(g:TG)(tb:TS):TS:=λD σ H=>wi σ H λJ H1=>∃W:Nat->Nat->St->Hp->Prop,(∃m,W 0 m σ H1)/\∀i m σ H,W i m σ H->
 (J.stop i H/\D.nx σ H)\/(J.go i H/\∃N:St->Hp->Prop,(∀σ' H',N σ' H'->∃m',m'<m/\W (i+1) m' σ' H')/\∀x H',J.yld i H x H'->g x σ H' λσ2 H2=>tb { D with nx:=N,ct:=N,bk:=D.nx } σ2 H2)
noncomputable def zbk(fp:LAd)(h:Heap):List (Addr×Obj):=fp.filterMap λb=>(h.get? b).map λo=>(b,o)
def je{fp:LAd}{h:Heap}{b:AdX}{o:Obj}(hb:b∈fp)(e:h.get? b=some o):(b,o)∈zbk fp h:=List.mem_filterMap.mpr ⟨b,hb,by rw[e];rfl⟩
def zfE{fp:LAd}{h:Heap}{p:Addr×Obj}(hp:p∈zbk fp h):p.1∈fp/\h.get? p.1=some p.2:=by
 have⟨b,hb,e⟩:=List.mem_filterMap.mp hp;cases q:h.get? b with
 |none=>rw[q] at e;cases e
 |some o=>
  rw[q] at e;have e':(b,o)=p:=qX e;subst e';exact⟨hb,q⟩
def Inv.pinned{pins:PNx}{σ:St}{H:Hp}{s:ShX}{fp:LAd}(I:Inv X pins σ H s)(hf:∀b∈fp,uC X pins H b)(ho:∀b∈fp,∃o,s.heap.get? b=some o/\∀v,o.data≠ .cell v):Inv X (pins++zbk fp s.heap) σ H s:=I.zeF λp hp=>(qg.mp hp).elim (λz=>I.pin p (qQ _ z)) λz=>by
  have⟨hb,e⟩:=zfE z;have⟨f0,f1,f2,_⟩:=hf p.1 hb;have⟨o,e',d⟩:=ho p.1 hb;rw[e] at e';cases e';exact⟨e,f0,f1,f2,d⟩
def Inv.ux{pins pl:PNx}{σ:St}{H:Hp}{s:ShX}(I:Inv X (pins++pl) σ H s):Inv X pins σ H s:=I.zeF λp hp=>I.pin p (qQ _ (nN _ hp))
def zeg{iter:Expr}{body:List Stmt}{wi:TI}{g:TG}{tb:TS}{pos:Pos}(hp:PassesOwn (model X.prog X.w) X.A X.env X.xe)(hc:X.calm=true)(hi:PI X tg iter wi)(hg:PG X tg g)(hb:PSs X body tb)(hs:FSx X iter:=by exact λ_=>rfl):PS X (.For tg iter body [] pos) (znc wi g tb):=by
 intro pins s σ H D I h;refine wpAny_For (thn (hi pins s σ H _ I h) λv s1 h1=>thn h1 λitv s2 h2=>?_) hs;have⟨it,fp,tn,J,H2,e,I2,T,st2,f2,W,⟨m0,w0⟩,turn⟩:=h2;subst e;have stat:∀{H':Hp},(∀b∈fp,H' b=none)->∀b∈fp,uC X pins H' b:=λhn b hb=>⟨hn b hb,(f2 b hb).2⟩
 refine codeAny_forLoop_any (λn s'=>∃i σ' H',Inv X pins σ' H' s'/\tn i s'.heap/\(∀b∈fp,H' b=none)/\W i n σ' H') ?_ m0 ⟨0,σ,H2,I2,st2,λb hb=>(f2 b hb).1,w0⟩;rintro n s3 ⟨i,σ3,H3,I3,st3,fr3,w3⟩;rcases turn i n σ3 H3 w3 with⟨stop,qn⟩|⟨go,N,hN,step⟩
 ·refine gY hp (thn (T.done X rfl rfl rfl hc i pins s3 σ3 H3 X.xe I3 (stat fr3) st3 stop) λr s4 ⟨hr,I4⟩=>?_);subst hr;exact n8 ⟨σ3,H3,I4,qn⟩
 ·refine gY hp (thn (T.item X rfl rfl rfl hc i pins s3 σ3 H3 X.xe I3 (stat fr3) st3 go) λr s4 ⟨u,hr,h4⟩=>?_);subst hr;refine gY hp (thn h4 λ_ s5 ⟨x,H5,I5,r5,y5,st5,fr5⟩=>?_);have I5':=I5.pinned (stat fr5) (T.obj _ _ st5);refine gY hp (thn (hg _ s5 σ3 H5 x u _ I5' r5 (step x H5 y5)) λ_ s6 ⟨σ6,H6,I6,q6⟩=>?_);refine gY hp (thn (hb _ s6 σ6 H6 _ I6 q6) λf s7 q7=>?_);have again:∀{σ7:St} {H7:Hp},Inv X (pins++zbk fp s5.heap) σ7 H7 s7->N σ7 H7->∃m,m<n/\∃i σ' H',Inv X pins σ' H' s7/\tn i s7.heap/\(∀b∈fp,H' b=none)/\W i m σ' H':=λ{σ7 H7} I7 n7=>by
   have⟨m',hm,w7⟩:=hN σ7 H7 n7;refine⟨m',hm,i+1,σ7,H7,I7.ux,T.keep _ _ _ st5 λb hb o e=>(I7.pin (b,o) (qQ _ (qQ _ (je hb e)))).1,λb hb=>?_,w7⟩;have⟨o,e,d⟩:=T.obj _ _ st5 b hb;exact(I7.pin (b,o) (qQ _ (qQ _ (je hb e)))).2.1
  cases f with
  |next=>have⟨σ7,H7,I7,n7⟩:=q7;exact again I7 n7
  |cont=>have⟨σ7,H7,I7,n7⟩:=q7;exact again I7 n7
  |brk=>obtain⟨σ7,H7,I7,q7⟩:=q7;exact⟨σ7,H7,I7.ux,q7⟩
  |ret v=>obtain⟨x7,σ7,H7,I7,r7,q7⟩:=q7;exact⟨x7,σ7,H7,I7.ux,r7,q7⟩
end
abbrev R2:=V->V->Hp->VK->Prop
def OpR(X:Cx)(f:Value->Value->Sem Value)(r:R2):Prop:=∀(pins:PNx)(s:ShX)(σ:St)(H:Hp)(x y:V)(v u:Value)(Q:VK),Inv X pins σ H s->RelV x v->RelV y u->r x y H Q->
  wpAny (model X.prog X.w) X.A (f v u) (EP X pins σ Q) X.xe s
def UnR(X:Cx)(f:Value->Sem Value)(r:V->Hp->VK->Prop):Prop:=∀(pins:PNx)(s:ShX)(σ:St)(H:Hp)(x:V)(v:Value)(Q:VK),Inv X pins σ H s->RelV x v->r x H Q->
  wpAny (model X.prog X.w) X.A (f v) (EP X pins σ Q) X.xe s
def vh(X:Cx)(f:Value)(r:List V->Hp->VK->Prop):Prop:=∀(pins:PNx)(s:ShX)(σ:St)(H:Hp)(xs:List V)(us:LVl)(Q:VK),Inv X pins σ H s->Vals xs us->r xs H Q->
  wpAny (model X.prog X.w) X.A (call f us) (EP X pins σ Q) X.xe s
def tOp(r:R2)(ta tb:TE):TE:=λσ H Q=>ta σ H λx H1=>tb σ H1 λy H2=>r x y H2 Q
def tUn(r:V->Hp->VK->Prop)(ta:TE):TE:=λσ H Q=>ta σ H λx H1=>r x H1 Q
def rI(C:Int->Int->Prop)(g:Int->Int->V):R2:=λx y H Q=>∃i j,x=.int i/\y=.int j/\C i j/\Q (g i j) H
def rI0(g:Int->Int->V):R2:=λx y H Q=>∃i j,x=.int i/\y=.int j/\Q (g i j) H
def rU(g:Int->V):V->Hp->VK->Prop:=λx H Q=>∃i,x=.int i/\Q (g i) H
section
variable{X:Cx}{a b c:Expr}{ta tb tc:TE}{pos:Pos}
def zlS(ha:PE X a ta)(hb:PE X b tb){pins:PNx}{s:ShX}{σ:St}{H:Hp}{R:V->V->Hp->Prop}(I:Inv X pins σ H s)(h:ta σ H λx H1=>tb σ H1 λy H2=>R x y H2){Q:VSx}{f:Value->Value->Sem Value}(hf:∀v u s2 x y H2,Inv X pins σ H2 s2->RelV x v->RelV y u->R x y H2->wpAny (model X.prog X.w) X.A (f v u) Q X.xe s2):wpAny (model X.prog X.w) X.A (eval a X.env) (λv s₁=>wpAny (model X.prog X.w) X.A (eval b X.env) (λu s₂=>wpAny (model X.prog X.w) X.A (f v u) Q X.xe s₂) X.xe s₁) X.xe s:=by
 refine thn (ha pins s σ H _ I h) λv s1 ⟨x,H1,I1,r1,q1⟩=>?_
 refine thn (hb pins s1 σ H1 _ I1 q1) λu s2 ⟨y,H2,I2,r2,q2⟩=>?_
 exact hf v u s2 x y H2 I2 r1 r2 q2
def zby{op:Operator}{r:R2}(ho:OpR X (binaryOp op) r)(ha:PE X a ta)(hb:PE X b tb):PE X (.BinOp a op b pos) (tOp r ta tb):=by
 intro pins s σ H Q I h;exact wpAny_BinOp (zlS ha hb I h λv u s2 x y H2 I2 rx ry q=>ho pins s2 σ H2 x y v u Q I2 rx ry q)
def zmM{op:UnaryOp}{r:V->Hp->VK->Prop}(ho:UnR X (unaryOp op) r)(ha:PE X a ta):PE X (.UnaryOp op a pos) (tUn r ta):=by
 intro pins s σ H Q I h;exact UnaryOp_ (thn (ha pins s σ H _ I h) λv s1 ⟨x,H1,I1,r1,q1⟩=>ho pins s1 σ H1 x v Q I1 r1 q1)
def opI{f:Value->Value->Sem Value}{C:Int->Int->Prop}{g:Int->Int->Int}(rule:∀(i j:Int)(t u:Tok)(s:ShX)(Q:VSx)(E:VSx),C i j->Q (.int (g i j) s.toks) { s with toks:=s.toks+1 }->wpAny (model X.prog X.w) X.A (f (.int i t) (.int j u)) Q E s):OpR X f (rI C λi j=>.int (g i j)):=by
 intro pins s σ H x y v u Q I rx ry h;obtain⟨i,j,rfl,rfl,hc,q⟩:=h;obtain⟨t,rfl⟩:=rx;obtain⟨t',rfl⟩:=ry;exact rule i j t t' s _ _ hc ⟨.int (g i j),H,I.tok _,⟨_,rfl⟩,q⟩
def zmr{f:Value->Value->Sem Value}{g:Int->Int->Int}(rule:∀(i j:Int)(t u:Tok)(s:ShX)(Q:VSx)(E:VSx),Q (.int (g i j) s.toks) { s with toks:=s.toks+1 }->wpAny (model X.prog X.w) X.A (f (.int i t) (.int j u)) Q E s):OpR X f (rI0 λi j=>.int (g i j)):=by
 intro pins s σ H x y v u Q I rx ry h;obtain⟨i,j,rfl,rfl,q⟩:=h;obtain⟨t,rfl⟩:=rx;obtain⟨t',rfl⟩:=ry;exact rule i j t t' s _ _ ⟨.int (g i j),H,I.tok _,⟨_,rfl⟩,q⟩
def zmv{f:Value->Value->Sem Value}{g:Int->Int->Bool}(rule:∀(i j:Int)(t u:Tok)(s:ShX)(Q:VSx)(E:VSx),Q (.bool (g i j)) s->wpAny (model X.prog X.w) X.A (f (.int i t) (.int j u)) Q E s):OpR X f (rI0 λi j=>.bl (g i j)):=by
 intro pins s σ H x y v u Q I rx ry h;obtain⟨i,j,rfl,rfl,q⟩:=h;obtain⟨t,rfl⟩:=rx;obtain⟨t',rfl⟩:=ry;exact rule i j t t' s _ _ ⟨.bl (g i j),H,I,rfl,q⟩
def j4:OpR X (binaryOp .Add) (rI0 λi j=>.int (i+j)):=zmr λ_ _ _ _ _ _ _ q=>add_int q
def Jz:OpR X (binaryOp .Sub) (rI0 λi j=>.int (i - j)):=zmr λ_ _ _ _ _ _ _ q=>sub_int q
def yM:OpR X (binaryOp .Mod) (rI (λ_ j=>j≠0) λi j=>.int (i.fmod j)):=opI λ_ _ _ _ _ _ _ hc q=>mod_int' hc q
def unI{f:Value->Sem Value}{g:Int->Int}(rule:∀(i:Int)(t:Tok)(s:ShX)(Q:VSx)(E:VSx),Q (.int (g i) s.toks) { s with toks:=s.toks+1 }->wpAny (model X.prog X.w) X.A (f (.int i t)) Q E s):UnR X f (rU λi=>.int (g i)):=by
 intro pins s σ H x v Q I rx h;obtain⟨i,rfl,q⟩:=h;obtain⟨t,rfl⟩:=rx;exact rule i t s _ _ ⟨.int (g i),H,I.tok _,⟨_,rfl⟩,q⟩
def zlF:UnR X (unaryOp .USub) (rU λi=>.int (-i)):=unI λ_ _ _ _ _ q=>neg_int q
end
section
variable{X:Cx}{a b c:Expr}{ta tb tc:TE}{pos:Pos}
def zh7{pins:PNx}{σ:St}{H:Hp}{s:ShX}{Q:VK}{k k':Bool}(I:Inv X pins σ H s)(q:Q (.bl k) H)(e:k=k'):EP X pins σ Q (.bool k') s:=by
 subst e;exact⟨.bl k,H,I,rfl,q⟩
def zbA:OpR X (compareOp .Lt) (rI0 λi j=>.bl (decide (i<j))):=zmv λ_ _ _ _ _ _ _ q=>lt_int q
def zeP:OpR X (compareOp .Gt) (rI0 λi j=>.bl (decide (j<i))):=zmv λ_ _ _ _ _ _ _ q=>gt_int q
def zkZ:OpR X (compareOp .Is) (λx y H Q=>y=.non/\Q (.bl (decide (x=.non))) H):=by
 intro pins s σ H x y v u Q I rx ry h;obtain⟨rfl,q⟩:=h;cases ry;refine is_none_gen (zh7 I q ?_);cases x<;>first
  |(cases rx;rfl)
  |(obtain⟨t,rfl⟩:=rx;rfl)
def ze2:OpR X (compareOp .IsNot) (λx y H Q=>y=.non/\Q (.bl (!decide (x=.non))) H):=by
 intro pins s σ H x y v u Q I rx ry h;obtain⟨rfl,q⟩:=h;cases ry;refine isnot_none_gen (zh7 I q ?_);cases x<;>first
  |(cases rx;rfl)
  |(obtain⟨t,rfl⟩:=rx;rfl)
def nomark(b:Expr){op:CmpOp}(h:op≠ .In:=by decide)(h2:op≠ .NotIn:=by decide):behindInMarks op b=false:=by
 have e1:(op==CmpOp.In)=false:=by cases op<;>first |rfl|exact absurd rfl h
 have e2:(op==CmpOp.NotIn)=false:=by cases op<;>first |rfl|exact absurd rfl h2
 cases b<;>simp[behindInMarks,e1,e2]
def zeM{op:CmpOp}{r:R2}(ho:OpR X (compareOp op) r)(ha:PE X a ta)(hb:PE X b tb)(hm:behindInMarks op b=false):PE X (.Compare a [op] [b] pos) (tOp r ta tb):=by
 intro pins s σ H Q I h;exact wpAny_Compare1 (zlS ha hb I h λv u s2 x y H2 I2 rx ry q=>ho pins s2 σ H2 x y v u Q I2 rx ry q) hm
def zmC(t:TE):TT:=λσ H Q=>t σ H λx H'=>∃k,x=.bl k/\Q k H'
def zeA{op:CmpOp}{r:R2}(ho:OpR X (compareOp op) r)(ha:PE X a ta)(hb:PE X b tb)(hm:behindInMarks op b=false):PT X (.Compare a [op] [b] pos) (zmC (tOp r ta tb)):=by
 intro pins s σ H Q I h;refine wpAny_isTrue_Compare1 (thn (ha pins s σ H _ I h) λv s1 ⟨x,H1,I1,r1,q1⟩=>thn (hb pins s1 σ H1 _ I1 q1) λu s2 ⟨y,H2,I2,r2,q2⟩=>
  thn (ho pins s2 σ H2 x y v u _ I2 r1 r2 q2) λc s3 ⟨z,H3,I3,r3,k,e,q3⟩=>?_) hm
 subst e;cases r3;exact hZ ⟨H3,I3,q3⟩
def YX:(sizeLine:Nat)<2 ^ 63:=by rw[sizeLine_eq];decide
def vals1{x:V}{us:LVl}(r:Vals [x] us):∃u,us=[u]/\RelV x u:=by
 cases r with
 |cons r1 r2=>cases r2;exact⟨_,rfl,r1⟩
def vals2{x y:V}{us:LVl}(r:Vals [x,y] us):∃u w',us=[u,w']/\RelV x u/\RelV y w':=by
 cases r with
 |cons r1 r2=>
  cases r2 with
  |cons r3 r4=>cases r4;exact⟨_,_,rfl,r1,r3⟩
def zcv:vh X (.builtin "abs") (λxs H Q=>∃i,xs=[.int i]/\Q (.int (if i<0 then -i else i)) H):=by
 intro pins s σ H xs us Q I r h;obtain⟨i,rfl,q⟩:=h;obtain⟨u,rfl,t,rfl⟩:=vals1 r;exact call_abs_int λu tk=>⟨.int (if i<0 then -i else i),H,I.tok _,⟨_,rfl⟩,q⟩
def VJ(hc:X.calm=true):vh X (.builtin "max") (λxs H Q=>∃i j,xs=[.int i,.int j]/\Q (.int (if j>i then j else i)) H):=by
 intro pins s σ H xs us Q I r h;obtain⟨i,j,rfl,q⟩:=h;obtain⟨u,w',rfl,⟨t,rfl⟩,⟨t',rfl⟩⟩:=vals2 r;refine max_two_ints (I.ok.hd hc) λh' tk k=>⟨_,H,I.kept k,?_,q⟩
 by_cases hj:j>i
 ·rw[qf hj,qf hj];exact⟨_,rfl⟩
 ·rw[qq hj,qq hj];exact⟨_,rfl⟩
def zf3(hc:X.calm=true):vh X (.builtin "min") (λxs H Q=>∃i j,xs=[.int i,.int j]/\Q (.int (if j<i then j else i)) H):=by
 intro pins s σ H xs us Q I r h;obtain⟨i,j,rfl,q⟩:=h;obtain⟨u,w',rfl,⟨t,rfl⟩,⟨t',rfl⟩⟩:=vals2 r;refine min_two_ints (I.ok.hd hc) λh' tk k=>⟨_,H,I.kept k,?_,q⟩
 by_cases hj:j<i
 ·rw[qf hj,qf hj];exact⟨_,rfl⟩
 ·rw[qq hj,qq hj];exact⟨_,rfl⟩
end
structure zdm(h:Heap)(x dx C:AdX)(mA:Str->Option Value):Prop where
 obj:h.get? x=some (W.instObj C dx)
 ns:h.Ns1 dx mA
 ne:dx≠x
def zgi{h:Heap}{dx:AdX}{mA:Str->Option Value}(n:h.Ns1 dx mA):∃od,h.get? dx=some od/\∀name,W.lookIn name od=some (mA name):=by
 have⟨o,es,ep,ho,hd,hk,_,hm⟩:=n;refine⟨o,ho,λname=>?_⟩;have e:=hm name;unfold nsFind findBy at e;rw[<-Array.find?_toList] at e;unfold W.lookIn;rw[hd];dsimp only;split
 ·rename_i y q;rw[q] at e;exact qM some e
 ·rename_i q;rw[q] at e;have a:es.toList.any (·.refKey)=false:=by
   rw[pI];intro y hy;obtain⟨z,t,hkey⟩:=hk y (Array.mem_toList_iff.mp hy);simp[DictEntry.refKey,hkey]
  have a':¬es.toList.any (·.refKey)=true:=by rw[a];exact qF
  rw[qq a'];exact qM some e
def zdm.look{h:Heap}{x dx C:AdX}{mA:Str->Option Value}(I:zdm h x dx C mA):∃od,W.InstAt h x (W.instObj C dx) C (some od)/\∀name,W.lookIn name od=some (mA name):=let ⟨od,ho,hl⟩:=zgi I.ns
 ⟨od,⟨I.obj,rfl,rfl,ho⟩,hl⟩
section
variable{prog:Program}{w:World}{A:Around}{E:VSx}{s:ShX}{K:FRx}{x dx C f:AdX}{mA:Str->Option Value}{name:Str}{v:Value}
def get_map{expr:Bool}{Q:VSx}(X:K.In s.heap)(I:zdm s.heap x dx C mA)(hg:W.plainGet K C name=true)(hh:W.hasDictIn K C=true)(ha:W.findIn K (.ref C) name=some none)(hv:mA name=some v)(hv':W.handedIn v=true)(h:Q v { s with toks:=s.toks+1 }):wpAny (model prog w) A (getAttr (.ref x) name expr) Q E s:=by
 have⟨od,J,hl⟩:=I.look;exact W.get_value X J (W.plainGet_of hg).1 (W.findObj_own hh ha rfl (by rw[hl,hv])) hv' h
def zgy{pl:Sem Bool}{Q:Value×List Value->Shared->Prop}(X:K.In s.heap)(I:zdm s.heap x dx C mA)(hg:W.plainGet K C name=true)(hf:W.findIn K (.ref C) name=some (some (.ref f)))(ht:W.isFn K (.ref f)=true)(hv:mA name=none)(h:Q (.ref f,[.ref x]) s):wpAny (model prog w) A (getMethod (.ref x) name pl) Q E s:=by
 have⟨od,J,hl⟩:=I.look;exact W.method_fn X J (W.plainGet_of hg).1 (W.plainGet_of hg).2 hf (gL.mp ht) (by show(W.lookIn name od).map (·.isSome)=some false;rw[hl,hv];rfl) h
def zjT{ns:LSr}{Q:Unit->Shared->Prop}(X:K.In s.heap)(I:zdm s.heap x dx C mA)(hs:W.findIn K (.ref C) "__setattr__"=some (some (.builtin "object.__setattr__")))(hp:W.plainOver K C=true)(ht:W.takerIn K C name=some none)(hh:W.hasDictIn K C=true)(hw:PySem.Within mA ns)(hsz:ns.length<=sizeLine)(h:∀h',zdm h' x dx C (λy=>if y=name then some v else mA y)->Heap.SameBut dx s.heap h'->Q () { s with heap:=h',toks:=s.toks+2 }):wpAny (model prog w) A (setAttr (.ref x) name v) Q E s:=by
 have⟨od,J,hl⟩:=I.look;refine W.set_plain X J hs (W.osa_open (s:={ s with toks:=s.toks+1 }) (r:=none) X J hp ht λb=>?_);have⟨cd,hc,hd'⟩:=W.any_some hh;have hx:s.heap.get? x=some ⟨.ref C,some dx,.plain,#[]⟩:=I.obj;refine qt (qT (qt (qt (wpAny_loadPart hx (qt (W.Looks.here (s:={ s with toks:=s.toks+1 }) (W.looks_clsIn X hc) ?_))))));rw[hd'];refine qT (a:=some dx) (qt (qT (qt ?_)));refine wpAny_nsSet1 (s:={ s with toks:=s.toks+1 }) I.ns λh' hn2 hs2=>?_
 obtain⟨oD,esD,epD,hoD,hdD,hcD⟩:=hn2.count (PySem.Within.cons name v hw);refine qt (wpAny_lookBehind hoD (by rw[hdD];exact pastItsLine_dict (qw hcD (by rw[qS];omega))) ?_);exact qT (h _ ⟨(hs2.2 _ (gu I.ne)).trans I.obj,hn2,I.ne⟩ hs2)
def zhU{R:Result->Shared->Prop}{vs:LVl}{kw:List (Str×Value)}(X:K.In s.heap)(hm:W.makesIn K C=true)(hi:W.findIn K (.ref C) "__init__"=some (some (.ref f)))(hf:W.typeIn K (.ref f)=some (.type "function"))(h:codeAny (model prog w) (A.under (.builtin "type.__call__" ⟨.ref C::vs,kw⟩)) (.call (.ref f) ⟨.ref (s.heap.objs.size+1)::vs,kw⟩) (W.InitBack (s.heap.objs.size+1) R)
   { s with heap:=(s.heap.push W.emptyDict).push (W.instObj C s.heap.objs.size) }):codeAny (model prog w) A (.call (.ref C) ⟨vs,kw⟩) R s:=by
 have⟨hh,g,d,t,os⟩:=s;exact W.make_core (W.makes_of X hm) (W.looks_findIn X hi) (λself=>W.bind_fn X self hf) (.inl rfl) h
end
noncomputable def uW(f:Str)(v:V):List (Str×V)->List (Str×V)
 |[]=>[(f,v)]
 |(g,x)::r=>if g=f then (g,v)::r else (g,x)::uW f v r
theorem Wr(f g:Str)(v:V):∀fs:List (Str×V),(uW f v fs).lookup g=if g=f then some v else fs.lookup g
 |[]=>by
  show List.lookup g [(f,v)]=_
  by_cases h:g=f
  ·have hb:(g==f)=true:=gL.mpr h;simp only [List.lookup,hb,qf h]
  ·have hb:(g==f)=false:=kK.mpr h;simp only [List.lookup,hb,qq h]
 |(k,x)::r=>by
  have ih:=Wr f g v r;rw[show uW f v ((k,x)::r)=(if k=f then (k,v)::r else (k,x)::uW f v r) from rfl];by_cases hk:k=f
  ·rw[qf hk];by_cases h:g=k
   ·have hb:(g==k)=true:=gL.mpr h;simp only [List.lookup,hb,qf (h.trans hk)]
   ·have hb:(g==k)=false:=kK.mpr h;simp only [List.lookup,hb,qq (λe:g=f=>h (e.trans hk.symm))]
  ·rw[qq hk];by_cases h:g=k
   ·have hb:(g==k)=true:=gL.mpr h;simp only [List.lookup,hb,qq (λe:g=f=>hk (h.symm.trans e))]
   ·have hb:(g==k)=false:=kK.mpr h;simp only [List.lookup,hb];exact ih
theorem VU(f:Str)(v:V):∀fs:List (Str×V),f∈(uW f v fs).map (·.1)/\∀g,g∈fs.map (·.1)->g∈(uW f v fs).map (·.1)
 |[]=>⟨by simp[uW],λg h=>by simp at h⟩
 |(k,x)::r=>by
  have⟨i1,i2⟩:=VU f v r;rw[show uW f v ((k,x)::r)=(if k=f then (k,v)::r else (k,x)::uW f v r) from rfl];by_cases hk:k=f
  ·rw[qf hk];subst hk;exact⟨by simp,λg h=>by simpa using h⟩
  ·rw[qq hk];refine⟨?_,λg h=>?_⟩
   ·rw[gr];exact qz _ i1
   ·rw[gr] at h ⊢;rcases qu.mp h with e|e
    ·exact List.mem_cons.mpr (.inl e)
    ·exact qz _ (i2 g e)
theorem Wx(f:Str)(v:V):∀fs:List (Str×V),(uW f v fs).length<=fs.length+1
 |[]=>by simp[uW]
 |(k,x)::r=>by
  have ih:=Wx f v r;rw[show uW f v ((k,x)::r)=(if k=f then (k,v)::r else (k,x)::uW f v r) from rfl];by_cases hk:k=f
  ·rw[qf hk,qS,qS];omega
  ·rw[qq hk,qS,qS];omega
def vL.some_of{v:V}{o:Option Value}(r:vL (some v) o):∃u,o=some u/\RelV v u:=by
 cases o with
 |none=>exact(show False from r).elim
 |some u=>exact⟨u,rfl,r⟩
def vL.none_of{o:Option Value}(r:vL none o):o=none:=by
 cases o with
 |none=>rfl
 |some u=>exact(show False from r).elim
def zgh{v:V}{u:Value}(r:RelV v u):W.handedIn u=true:=by
 cases v with
 |non=>cases (show u=Value.none from r);rfl
 |bl b=>cases (show u=Value.bool b from r);rfl
 |int i=>obtain⟨t,e⟩:=(show ∃t,u=Value.int i t from r);cases e;rfl
 |str x=>obtain⟨t,e⟩:=(show ∃t,u=Value.str x t from r);cases e;rfl
 |byt b=>obtain⟨t,e⟩:=(show ∃t,u=Value.bytes b t from r);cases e;rfl
 |flt b=>obtain⟨t,e⟩:=(show ∃t,u=Value.float b t from r);cases e;rfl
 |ref a=>cases (show u=Value.ref a from r);rfl
 |ty n=>cases (show u=Value.type n from r);rfl
section
variable{P:Program}{w:World}{H H':Hp}{h h':Heap}{a C dx:AdX}{fs fs':List (Str×V)}
def zbn(hok:HOk P w H h)(e:H a=some (.ins C dx fs)):∃mA,zdm h a dx C mA/\(∀f,vL (fs.lookup f) (mA f))/\PySem.Within mA (fs.map (·.1))/\fs.length<=1000/\H dx=some (.own a):=by
 obtain⟨d,z,ne,ob,mA,n,r,q⟩:=(show vC P w H h a (.ins C dx fs) from hok a _ e);exact⟨mA,⟨ob,n,ne⟩,r,q,z,d⟩
end
structure Cls(K:FRx)(C:AdX):Prop where
 pg:W.plainGet K C Str.empty=true
 hd:W.hasDictIn K C=true
 po:W.plainOver K C=true
 sa:W.findIn K (.ref C) "__setattr__"=some (some (.builtin "object.__setattr__"))
def Cls.get{K:FRx}{C:AdX}(c:Cls K C)(f:Str):W.plainGet K C f=true:=c.pg
def zS(K:FRx)(C:AdX)(f:Str):Prop:=W.findIn K (.ref C) f=some none
def zS.taker{K:FRx}{C:AdX}{f:Str}(n:zS K C f):W.takerIn K C f=some none:=by
 unfold W.takerIn;rw[show W.findIn K (.ref C) f=some none from n];rfl
structure Meth(K:FRx)(C:AdX)(m:Str)(f:AdX):Prop where
 at_:W.findIn K (.ref C) m=some (some (.ref f))
 fn:W.isFn K (.ref f)=true
 kp:W.keepIn K (.ref f)=true
section
variable{X:Cx}{pins:PNx}{σ:St}{H:Hp}{s:ShX}{a C dx:AdX}{fs:List (Str×V)}{f:Str}{v:V}{A:Around}{E:VSx}
def zdZ{b:Bool}{Q:VSx}(I:Inv X pins σ H s)(e:H a=some (.ins C dx fs))(c:Cls X.K C)(n:zS X.K C f)(l:fs.lookup f=some v)(h:∀u s',Inv X pins σ H s'->RelV v u->Q u s'):wpAny (model X.prog X.w) A (getAttr (.ref a) f b) Q E s:=by
 have⟨mA,O,r,_,_,_⟩:=zbn I.hok e;obtain⟨u,hu,ru⟩:=vL.some_of (v:=v) (o:=mA f) (by rw[<-l];exact r f);exact get_map I.kIn O (c.get f) c.hd n hu (zgh ru) (h u _ (I.tok _) ru)
def UL{m:Str}{g:AdX}{pl:Sem Bool}{Q:Value×List Value->Shared->Prop}(I:Inv X pins σ H s)(e:H a=some (.ins C dx fs))(c:Cls X.K C)(k:Meth X.K C m g)(l:fs.lookup m=none)(h:Q (.ref g,[.ref a]) s):wpAny (model X.prog X.w) A (getMethod (.ref a) m pl) Q E s:=by
 have⟨mA,O,r,_,_,_⟩:=zbn I.hok e;have hn:mA m=none:=vL.none_of (by rw[<-l];exact r m);exact zgy I.kIn O (c.get m) k.at_ k.fn hn h
def zdF{y:V}{u:Value}{Q:Unit->Shared->Prop}(I:Inv X pins σ H s)(e:H a=some (.ins C dx fs))(c:Cls X.K C)(n:zS X.K C f)(hl:fs.length<1000)(ry:RelV y u)(h:∀s',Inv X pins σ (upd H a (.ins C dx (uW f y fs))) s'->Q () s'):wpAny (model X.prog X.w) A (setAttr (.ref a) f u) Q E s:=by
 have⟨mA,O,r,wi,_,ho⟩:=zbn I.hok e;have hz:(fs.map (·.1)).length<=sizeLine:=by rw[qe,sizeLine_eq];omega
 refine zjT I.kIn O c.sa c.po n.taker c.hd wi hz λh' O' sb=>h _ ?_
 have hd:∃o,h'.get? dx=some o:=let ⟨o,_,_,e',_⟩:=O'.ns;⟨o,e'⟩
 refine I.write (x:=a) (e:=dx) (by rw[e];exact True.intro) (.inr ho) (λb q hb z=>(sb.2 b hb).trans z) hd ?_;refine⟨by rw[zN O.ne];exact ho,?_,O.ne,O'.obj,_,O'.ns,λg=>?_,λg hg=>?_⟩
 ·have:=Wx f y fs;omega
 ·show vL ((uW f y fs).lookup g) (if g=f then some u else mA g)
  rw[Wr];by_cases q:g=f
  ·rw[qf q,qf q];exact ry
  ·rw[qq q,qq q];exact r g
 ·by_cases q:g=f
  ·rw[q];exact(VU f y fs).1
  ·refine(VU f y fs).2 g (wi g λz=>hg ?_);show(if g=f then some u else mA g)=none
   rw[qq q];exact z
def Inv.made(I:Inv X pins σ H s):Inv X pins σ (upd (upd H s.heap.objs.size (.own (s.heap.objs.size+1))) (s.heap.objs.size+1) (.ins C s.heap.objs.size []))
  { s with heap:=(s.heap.push W.emptyDict).push (W.instObj C s.heap.objs.size) }:=by
 have e1:(s.heap.push W.emptyDict).get? s.heap.objs.size=some W.emptyDict:=qH s.heap rfl;have e2:((s.heap.push W.emptyDict).push (W.instObj C s.heap.objs.size)).get? (s.heap.objs.size+1)=some (W.instObj C s.heap.objs.size):=by
  have:=qH (s.heap.push W.emptyDict) (o:=W.instObj C s.heap.objs.size) rfl;rwa [gc] at this
 have e3:(s.heap.push W.emptyDict).Ns s.heap.objs.size (λ_=>none):=⟨W.emptyDict,#[],_,e1,rfl,(λe he=>absurd he (by simp)),λ_=>rfl⟩;have I1:=I.laid (a:=s.heap.objs.size) (o:=.own (s.heap.objs.size+1)) (h':=s.heap.push W.emptyDict) (t':=s.toks) (λb u q=>qj _ q) (qr _) ⟨_,e1⟩
 refine I1.laid (a:=s.heap.objs.size+1) (o:=.ins C s.heap.objs.size []) (t':=s.toks) (λb u q=>qj _ q) (nv (gc _ _)) ?_;have ne:s.heap.objs.size≠s.heap.objs.size+1:=kO (kI _);refine⟨by rw[zN ne,zJ],kE _,ne,e2,λ_=>none,(Heap.Ns1.of_empty e3).at λo q=>qj _ q,λ_=>True.intro,λy hy=>absurd rfl hy⟩
def ziL{prog:Program}{w:World}{env:Env}{e:Expr}{f:Str}{pos:Pos}{s:ShX}{Q:VSx}(hb:attributeBase e f env (eval e env)=eval e env)(h:wpAny (model prog w) A (eval e env) (λo s₁=>wpAny (model prog w) A (getAttr o f true) Q E s₁) E s):wpAny (model prog w) A (eval (.Attribute e f pos) env) Q E s:=Attribute_any_ h (by rw[arm_eval_Attribute,hb])
end
def zm1(K:FRx)(ta:TE)(f:Str):TE:=λσ H Q=>ta σ H λx H1=>∃a C dx fs v,x=.ref a/\H1 a=some (.ins C dx fs)/\Cls K C/\zS K C f/\fs.lookup f=some v/\Q v H1
def zng(K:FRx)(ta tv:TE)(f:Str):TS:=λD σ H=>tv σ H λy H1=>ta σ H1 λx H2=>∃a C dx fs,x=.ref a/\H2 a=some (.ins C dx fs)/\Cls K C/\zS K C f/\fs.length<1000/\
 D.nx σ (upd H2 a (.ins C dx (uW f y fs)))
section
variable{X:Cx}{o e value:Expr}{f:Str}{pos pos' tpos:Pos}{ta tv:TE}
def wY(he:PE X e ta)(hb:attributeBase e f X.env (eval e X.env)=eval e X.env):PE X (.Attribute e f pos) (zm1 X.K ta f):=by
 intro pins s σ H Q I h;refine ziL hb (thn (he pins s σ H _ I h) λu s1 ⟨x,H1,I1,rx,a,C,dx,fs,v,ex,ea,c,n,l,q⟩=>?_);subst ex;obtain rfl:u=Value.ref a:=rx;exact zdZ I1 ea c n l λu' s2 I2 ru=>⟨v,H1,I2,ru,q⟩
def zbj(ha:PE X o ta)(hv:PE X value tv)(hs:swapsWith value (some (.Attribute o f pos')) pos.line X.env=pure false):PS X (.Assign [.Attribute o f pos'] value pos) (zng X.K ta tv f):=by
 intro pins s σ H D I h;refine plainObj_wpAny_Assign_Attribute (thn (hv pins s σ H _ I h) λu s1 ⟨y,H1,I1,ry,q⟩=>thn (ha pins s1 σ H1 _ I1 q) λov s2 ⟨x,H2,I2,rx,a,C,dx,fs,ex,ea,c,n,l,q2⟩=>?_) hs;subst ex;obtain rfl:ov=Value.ref a:=rx;exact zdF I2 ea c n l ry λs3 I3=>⟨σ,_,I3,q2⟩
def zkc{pl:Sem Bool}{m:Str}{apos:Pos}{args:List Expr}{pins:PNx}{s:ShX}{σ:St}{H:Hp}{Q:VSx}{te:TE}(he:PE X e te)(I:Inv X pins σ H s)(h:te σ H λx H1=>∃a C dx fs g,x=.ref a/\H1 a=some (.ins C dx fs)/\Cls X.K C/\Meth X.K C m g/\fs.lookup m=none/\
   ∀s1,Inv X pins σ H1 s1->wpAny (model X.prog X.w) X.A (callWith pos (.ref g) [.ref a] (backTo pos (starEach args X.env)) (backToKw pos (keywordEach [] X.env))) Q X.xe s1)(ht:eval (.Call (.Attribute e m apos) args [] pos) X.env=(do
   let ov <-eval e X.env
   standAt apos.atName
   let (f,first) <-holding [ov] (getMethod ov m pl)
   callWith pos f first (backTo pos (starEach args X.env)) (backToKw pos (keywordEach [] X.env)))):wpAny (model X.prog X.w) X.A (eval (.Call (.Attribute e m apos) args [] pos) X.env) Q X.xe s:=by
 refine W.methodCall_KW (pl:=pl) (thn (he pins s σ H _ I h) λu s1 ⟨x,H1,I1,rx,a,C,dx,fs,g,ex,ea,c,k,l,q⟩=>?_) ht;subst ex;obtain rfl:u=Value.ref a:=rx;exact UL I1 ea c k l (q s1 I1)
end
structure Room(k:Nat)(A:Around):Prop where
 hd:A.handled=none
 dp:A.depth+3*k+5<recursionLimit
 un:A.units+16*k+200<cLine
def Room.mono{j k:Nat}{A:Around}(r:Room k A)(h:j<=k):Room j A:=⟨r.hd,by have:=r.dp;omega,by have:=r.un;omega⟩
def Room.deeper{k:Nat}{A:Around}(r:Room (k+1) A)(env:Env):Room k (A.deeper env):=⟨r.hd,by have:=r.dp;show A.depth+1+3*k+5<_;omega,by have:=r.un;show A.units+3+16*k+200<_;omega⟩
def zdO{A:Around}{C:AdX}{us:LVl}{kw:List (Str×Value)}:(A.under (.builtin "type.__call__" ⟨.ref C::us,kw⟩)).depth=A.depth+1:=by
 first |rfl|simp[Around.under,Code.weight,Code.isCreation,Code.isGuard,Code.isCaller,Code.frames,Code.isFrame,guardIds]
def zdw{A:Around}{C:AdX}{us:LVl}{kw:List (Str×Value)}:(A.under (.builtin "type.__call__" ⟨.ref C::us,kw⟩)).units=A.units+1:=by
 first |rfl|simp[Around.under,Code.cUnits,Code.frames,Code.isFrame]
def Room.make{k:Nat}{A:Around}(r:Room (k+1) A)(C:AdX)(us:LVl)(kw:List (Str×Value)):Room k (A.under (.builtin "type.__call__" ⟨.ref C::us,kw⟩)):=⟨r.hd,by have:=r.dp;rw[zdO];omega,by have:=r.un;rw[zdw];omega⟩
def Room.depth{k:Nat}{A:Around}(r:Room k A):A.depth<recursionLimit:=by have:=r.dp;omega
def Room.units{k:Nat}{A:Around}(r:Room k A):A.units+64<cLine:=by have:=r.un;omega
def zmh:TA:=λ_ H Q=>Q [] H
def zmF(ta:TE)(tr:TA):TA:=λσ H Q=>ta σ H λx H1=>tr σ H1 λxs H2=>Q (x::xs) H2
section
variable{X:Cx}{e:Expr}{es:List Expr}{te:TE}{t:TA}{pos:Pos}
def xW:PA X [] zmh:=λ_ _ _ _ H Q I h=>Calls.spliced_nil ⟨[],H,I,.nil,h⟩
def yU(ha:PE X e te)(hr:PA X es t)(hs:SEx X e es:=by rfl):PA X (e::es) (zmF te t):=by
 intro pos pins s σ H Q I h;rw[hs];show wpAny _ _ (spliced ((false,eval e X.env)::backTo pos (starEach es X.env))) _ _ s
 refine Calls.spliced_cons (thn (ha pins s σ H _ I h) λu s1 ⟨x,H1,I1,r1,q1⟩=>?_);exact thn (hr pos pins s1 σ H1 _ I1 q1) λus s2 ⟨xs,H2,I2,r2,q2⟩=>⟨x::xs,H2,I2,.cons r1 r2,q2⟩
def znk(t:TA):TE:=λσ H Q=>t σ H λxs H1=>xs.length<=sizeLine/\∀p,H1 p=none->Q (.ref p) (upd H1 p (.tup xs))
def zm7(t:TA):TE:=λσ H Q=>t σ H λxs H1=>xs.length<=sizeLine/\∀p,H1 p=none->Q (.ref p) (upd H1 p (.lst xs))
def zdC{x1}(h:PA X es t):PE X (.Tuple es x1 pos) (znk t):=by
 intro pins s σ H Q I hq;refine wpAny_Tuple_spliced (thn (h pos pins s σ H _ I hq) λus s1 ⟨xs,H1,I1,r,z,q⟩=>⟨by rw[<-r.length];exact z,?_⟩);have hf:H1 s1.heap.objs.size=none:=I1.hok.fresh (qr _);refine⟨.ref s1.heap.objs.size,upd H1 s1.heap.objs.size (.tup xs),I1.laid (t':=s1.toks) (λb u e=>qj _ e) (qr _) ?_,rfl,q _ hf⟩;exact⟨z,us,r,⟨_,qH _ rfl,rfl,_,rfl⟩⟩
def zlq(h:PA X es t):PE X (.List es pos) (zm7 t):=by
 intro pins s σ H Q I hq;refine wpAny_List_spliced (thn (h pos pins s σ H _ I hq) λus s1 ⟨xs,H1,I1,r,z,q⟩=>⟨by rw[<-r.length];exact z,?_⟩);have hf:H1 s1.heap.objs.size=none:=I1.hok.fresh (qr _);refine⟨.ref s1.heap.objs.size,upd H1 s1.heap.objs.size (.lst xs),I1.laid (t':=s1.toks) (λb u e=>qj _ e) (qr _) ?_,rfl,q _ hf⟩;exact⟨z,us,0,r,qH _ rfl⟩
end
abbrev Sp:=List V->Hp->VK->XK->Prop
abbrev CXT:=List Env->Hp->Shared->XK->Value->Shared->Prop
structure zd6(P:Program)(w:World)(K:FRx)(mg:Str->Option Value)(base:Heap)(A:Around)(outer:List Env)(s:ShX)(H:Hp):Prop where
 frames:A.frames=some outer
 mod:Mod K mg base
 bs:∀b o,base.get? b=some o->s.heap.get? b=some o/\H b=none
 bsz:base.objs.size<=s.heap.objs.size
 funs:s.heap.FunFrames base outer
 frf:∀b∈frs outer,H b=none
 hok:HOk P w H s.heap
 bare:AllBare s.gens
def CE(outer:List Env)(P:Program)(w:World)(H:Hp)(s:ShX)(Q:VK)(u:Value)(s':ShX):Prop:=∃v H',s'.os=s.os/\AllBare s'.gens/\Un (frs outer) [] H H' s.heap s'.heap/\HOk P w H' s'.heap/\RelV v u/\Q v H'
def CR(CX:CXT)(outer:List Env)(P:Program)(w:World)(H:Hp)(s:ShX)(Q:VK)(E:XK)(r:Result)(s':ShX):Prop:=match r with
 | .ok (.ret u)=>CE outer P w H s Q u s'
 | .ok _=>False
 | .error e=>CX outer H s E e s'
structure wk(P:Program)(w:World)(K:FRx)(mg:Str->Option Value)(base:Heap)(CX:CXT)(k:Nat)(f:AdX)(fd:FuncData)(ps:LSr)(sp:Sp):Prop where
 len:∀vs H Q E,sp vs H Q E->vs.length=ps.length
 run:∀(A:Around)(outer:List Env)(s:ShX)(H:Hp)(args:Args)(us:LVl)(vs:List V)(Q:VK)(E:XK),Room k A->zd6 P w K mg base A outer s H->BindsTo s fd args (ps.zip us)->Vals vs us->sp vs H Q E->
  codeAny (model P w) A (.call (.ref f) args) (CR CX outer P w H s Q E) s
def wk.imp{P:Program}{w:World}{K:FRx}{mg:Str->Option Value}{base:Heap}{CX:CXT}{k:Nat}{f:AdX}{fd:FuncData}{ps:LSr}{sp sp':Sp}(F:wk P w K mg base CX k f fd ps sp)(h:∀vs H Q E,sp' vs H Q E->sp vs H Q E):wk P w K mg base CX k f fd ps sp':=⟨λvs H Q E q=>F.len vs H Q E (h _ _ _ _ q),λA outer s H args us vs Q E hr he hb hv hs=>F.run A outer s H args us vs Q E hr he hb hv (h _ _ _ _ hs)⟩
def zd6.make{P:Program}{w:World}{K:FRx}{mg:Str->Option Value}{base:Heap}{A:Around}{outer:List Env}{s:ShX}{H:Hp}(e:zd6 P w K mg base A outer s H)(C:AdX)(us:LVl)(kw:List (Str×Value)):zd6 P w K mg base (A.under (.builtin "type.__call__" ⟨.ref C::us,kw⟩)) outer s H:=⟨by first |exact e.frames|(simpa [Around.under,Code.envs,Code.isFrame,pushEnvs] using e.frames),e.mod,e.bs,e.bsz,e.funs,e.frf,e.hok,e.bare⟩
section
variable{X:Cx}{pins:PNx}{σ:St}{H:Hp}{s s':ShX}
def Inv.zmS(I:Inv X pins σ H s):zd6 X.prog X.w X.K X.mg X.base X.A X.stack s H:=⟨I.ok.frames,I.ok.mod,I.bs,qw I.ok.bsz I.sz,I.stack,I.zfe,I.hok,I.bare⟩
def Inv.after{Q:VK}{u:Value}(I:Inv X pins σ H s)(h:CE X.stack X.prog X.w H s Q u s'):EP X pins σ Q u s':=by
 have⟨v,H',os,bare,un,hok,r,q⟩:=h;have⟨hh,g,d,t,os'⟩:=s';obtain rfl:os'=s.os:=os;exact⟨v,H',I.call (h':=hh) (g':=g) (d':=d) (t':=t) (ch:=[]) un hok bare (λb z=>absurd z (by simp)),r,q⟩
end
def zka(sp:Sp)(dvs:List V)(E:XK)(t:TA):TE:=λσ H Q=>t σ H λvs H1=>sp (vs++dvs) H1 Q E
def zks(C:AdX)(m:Str)(sp:Sp)(dvs:List V)(E:XK)(ta:TE)(t:TA):TE:=λσ H Q=>ta σ H λx H1=>∃a dx fs,x=.ref a/\H1 a=some (.ins C dx fs)/\fs.lookup m=none/\
 t σ H1 λvs H2=>sp (x::(vs++dvs)) H2 Q E
def zmq(C:AdX)(sp:Sp)(dvs:List V)(E:XK)(t:TA):TE:=λσ H Q=>t σ H λvs H1=>∀x dx,H1 x=none->H1 dx=none->dx≠x->
 sp (.ref x::(vs++dvs)) (upd (upd H1 dx (.own x)) x (.ins C dx [])) (λv H2=>v=.non/\Q (.ref x) H2) E
def Binds(K:FRx)(fd:FuncData)(ps:LSr)(ds:LVl):Prop:=∀(s:ShX)(us:LVl),K.In s.heap->(us++ds).length=ps.length->BindsTo s fd ⟨us,[]⟩ (ps.zip (us++ds))
def Binds.all{K:FRx}{fd:FuncData}{ps:LSr}(h:∀us:List Value,us.length=ps.length->bindArgs fd ⟨us,[]⟩=pure (ps.zip us)):Binds K fd ps []:=λs us _ hl=>by
 rw[kg] at hl ⊢;exact .of_eq (h us hl)
def Passes(CX:CXT)(X:Cx)(E:XK):Prop:=∀(pins:PNx)(σ:St)(H:Hp)(s:ShX)(e:Value)(s':ShX),Inv X pins σ H s->CX X.stack H s E e s'->X.xe e s'
section
variable{X:Cx}{CX:CXT}{k:Nat}{f C:AdX}{fd:FuncData}{ps:LSr}{sp:Sp}{dvs:List V}{ds:LVl}{E:XK}{x m:Str}{p pos apos:Pos}{e o:Expr}{es:List Expr}{ta:TE}{t:TA}
def zdy{pins:PNx}{σ:St}{H:Hp}{s:ShX}{Q:VK}{us:LVl}{vs:List V}(F:wk X.prog X.w X.K X.mg X.base CX k f fd ps sp)(hr:Room k X.A)(hb:Binds X.K fd ps ds)(hd:Vals dvs ds)(hx:Passes CX X E)(I:Inv X pins σ H s)(r:Vals vs us)(h:sp (vs++dvs) H Q E):wpAny (model X.prog X.w) X.A (call (.ref f) us) (EP X pins σ Q) X.xe s:=by
 have r2:Vals (vs++dvs) (us++ds):=r.append hd;have hl:(us++ds).length=ps.length:=by rw[<-r2.length];exact F.len _ _ _ _ h
 refine wpAny_call (pY (F.run X.A X.stack s H ⟨us,[]⟩ (us++ds) (vs++dvs) Q E hr I.zmS (hb s us I.kIn hl) r2 h) λr s' hq=>?_);cases r with
 |error e=>exact hx pins σ H s e s' I hq
 |ok fl=>
  cases fl with
  |ret u=>exact I.after hq
  |next=>exact False.elim hq
  |brk=>exact False.elim hq
  |cont=>exact False.elim hq
def zi3(F:wk X.prog X.w X.K X.mg X.base CX k f fd ps sp)(hr:Room k X.A)(hg:Gl X x)(hm:X.mg x=some (.ref f))(hk:W.keepIn X.K (.ref f)=true)(hb:Binds X.K fd ps ds)(hd:Vals dvs ds)(hx:Passes CX X E)(ha:PA X (e::es) t)(hdb:NDx x:=by decide)(he:SEx X e es:=by rfl)(hpl:PLx X pos es:=by rfl):PE X (.Call (.Name x p) (e::es) [] pos) (zka sp dvs E t):=by
 intro pins s σ H Q I h;refine nc (zbe I hg hm ?_ hdb);refine W.callWith_K (h₀:=X.base) I.ok.mod.kin hk (thn (ha pos pins s σ H _ I h) λus s1 ⟨vs,H1,I1,r,q⟩=>⟨I1.kIn,?_⟩) he hpl;exact zdy F hr hb hd hx I1 r q
def W4{pl:Sem Bool}(he:PE X o ta)(c:Cls X.K C)(hm:Meth X.K C m f)(F:wk X.prog X.w X.K X.mg X.base CX k f fd ps sp)(hr:Room k X.A)(hb:Binds X.K fd ps ds)(hd:Vals dvs ds)(hx:Passes CX X E)(ha:PA X (e::es) t)(hst:SEx X e es:=by rfl)(hpl:PLx X pos es:=by rfl)(ht:eval (.Call (.Attribute o m apos) (e::es) [] pos) X.env=(do
   let ov <-eval o X.env
   standAt apos.atName
   let (f,first) <-holding [ov] (getMethod ov m pl)
   callWith pos f first (backTo pos (starEach (e::es) X.env)) (backToKw pos (keywordEach [] X.env))):=by rfl):PE X (.Call (.Attribute o m apos) (e::es) [] pos) (zks C m sp dvs E ta t):=by
 intro pins s σ H Q I h;refine W.methodCall_KW (pl:=pl) (thn (he pins s σ H _ I h) λu s1 ⟨x,H1,I1,rx,a,dx,fs,ex,ea,l,q⟩=>?_) ht;subst ex;obtain rfl:u=Value.ref a:=rx;refine UL I1 ea c hm l ?_;refine W.callWith_K (first:=[.ref a]) (h₀:=X.base) I.ok.mod.kin hm.kp (thn (ha pos pins s1 σ H1 _ I1 q) λus s2 ⟨vs,H2,I2,r,q2⟩=>⟨I2.kIn,?_⟩) hst hpl;exact zdy (us:=.ref a::us) (vs:=.ref a::vs) F hr hb hd hx I2 (.cons rfl r) q2
def zcE{pl:Sem Bool}(he:PE X o ta)(c:Cls X.K C)(hm:Meth X.K C m f)(F:wk X.prog X.w X.K X.mg X.base CX k f fd ps sp)(hr:Room k X.A)(hb:Binds X.K fd ps ds)(hd:Vals dvs ds)(hx:Passes CX X E)(ht:eval (.Call (.Attribute o m apos) [] [] pos) X.env=(do
   let ov <-eval o X.env
   standAt apos.atName
   let (f,first) <-holding [ov] (getMethod ov m pl)
   callWith pos f first (backTo pos (starEach [] X.env)) (backToKw pos (keywordEach [] X.env))):=by rfl):PE X (.Call (.Attribute o m apos) [] [] pos) (zks C m sp dvs E ta zmh):=by
 intro pins s σ H Q I h;refine W.methodCall_KW (pl:=pl) (thn (he pins s σ H _ I h) λu s1 ⟨x,H1,I1,rx,a,dx,fs,ex,ea,l,q⟩=>?_) ht;subst ex;obtain rfl:u=Value.ref a:=rx;refine UL I1 ea c hm l ?_;exact W.callWith_K0 (first:=[.ref a]) I1.kIn hm.kp (zdy (us:=[.ref a]) (vs:=[.ref a]) F hr hb hd hx I1 (.cons rfl .nil) q)
structure Mk(K:FRx)(C f:AdX):Prop where
 makes:W.makesIn K C=true
 init:W.findIn K (.ref C) "__init__"=some (some (.ref f))
 fn:W.isFn K (.ref f)=true
 kp:W.keepIn K (.ref C)=true
def zhx{pins:PNx}{σ:St}{H:Hp}{s:ShX}{Q:VK}{us:LVl}{vs:List V}(M:Mk X.K C f)(F:wk X.prog X.w X.K X.mg X.base CX k f fd ps sp)(hr:Room (k+1) X.A)(hb:Binds X.K fd ps ds)(hd:Vals dvs ds)(hx:Passes CX X E)(I:Inv X pins σ H s)(r:Vals vs us)(h:∀x dx,H x=none->H dx=none->dx≠x->sp (.ref x::(vs++dvs)) (upd (upd H dx (.own x)) x (.ins C dx [])) (λv H2=>v=.non/\Q (.ref x) H2) E):wpAny (model X.prog X.w) X.A (call (.ref C) us) (EP X pins σ Q) X.xe s:=by
 have hq:=h (s.heap.objs.size+1) s.heap.objs.size (I.hok.fresh (nM _)) (I.hok.fresh (qr _)) (kO (kI _));have I2:=Inv.made (C:=C) I
 have r2:Vals (V.ref (s.heap.objs.size+1)::(vs++dvs)) (Value.ref (s.heap.objs.size+1)::(us++ds)):=.cons rfl (r.append hd);have hl:(Value.ref (s.heap.objs.size+1)::us++ds).length=ps.length:=by
  have e:=r2.length;rw[F.len _ _ _ _ hq] at e;exact e.symm
 refine wpAny_call (zhU (f:=f) I.kIn M.makes M.init (gL.mp M.fn) (pY (F.run _ X.stack _ _ ⟨Value.ref (s.heap.objs.size+1)::us,[]⟩ (Value.ref (s.heap.objs.size+1)::(us++ds)) _ _ E (hr.make C us [])
  (I2.zmS.make C us []) (hb _ (Value.ref (s.heap.objs.size+1)::us) I2.kIn hl) r2 hq) λr s' hq'=>?_))
 cases r with
 |error e=>exact hx pins σ _ _ e s' I2 hq'
 |ok fl=>
  cases fl with
  |ret u=>
   have⟨v,H',I3,rv,ev,q3⟩:=I2.after hq';subst ev;exact⟨rv,⟨V.ref (s.heap.objs.size+1),H',I3,rfl,q3⟩⟩
  |next=>exact False.elim hq'
  |brk=>exact False.elim hq'
  |cont=>exact False.elim hq'
def zjA(M:Mk X.K C f)(F:wk X.prog X.w X.K X.mg X.base CX k f fd ps sp)(hr:Room (k+1) X.A)(hg:Gl X x)(hm:X.mg x=some (.ref C))(hb:Binds X.K fd ps ds)(hd:Vals dvs ds)(hx:Passes CX X E)(ha:PA X (e::es) t)(hdb:NDx x:=by decide)(he:SEx X e es:=by rfl)(hpl:PLx X pos es:=by rfl):PE X (.Call (.Name x p) (e::es) [] pos) (zmq C sp dvs E t):=by
 intro pins s σ H Q I h;refine nc (zbe I hg hm ?_ hdb);refine W.callWith_K (h₀:=X.base) I.ok.mod.kin M.kp (thn (ha pos pins s σ H _ I h) λus s1 ⟨vs,H1,I1,r,q⟩=>⟨I1.kIn,?_⟩) he hpl;exact zhx M F hr hb hd hx I1 r q
end
structure zD(N P:LSr)(sc:Scope):Prop where
 kind:sc.kind=.function
 co:sc.isCoroutine=false
 gen:sc.isGenerator=false
 nd:N.Nodup
 pre:N.take P.length=P
 par:∀x∈P,sc.names.lookup x=some .local\/sc.names.lookup x=some .cell
 nofree:∀y∈sc.names,y.2≠ .free
def scx{N P:LSr}{sc:Scope}(a:sc.kind=.function:=by rfl)(c:sc.isCoroutine=false:=by rfl)(g:sc.isGenerator=false:=by rfl)(p:N.take P.length=P:=by rfl)(h:N.Nodup/\(∀x∈P,sc.names.lookup x=some .local\/sc.names.lookup x=some .cell)/\∀y∈sc.names,y.2≠ .free:=by decide+kernel):zD N P sc:=⟨a,c,g,h.1,p,h.2.1,h.2.2⟩
theorem ZW{kindOf:Str->Option NameKind}{x:Str}:∀{binds:List (Str×Value)} {m:Str->Option Value},(∀v,(x,v)∉binds)->bindL kindOf binds m x=m x
 |[],_,_=>rfl
 |(n,v)::r,m,h=>by
  unfold bindL;rw[ZW λw hw=>h w (qz _ hw)];split
  ·have:x≠n:=by rintro rfl;exact h v qZ
   simp[this]
  ·rfl
theorem zaf{kindOf:Str->Option NameKind}{x:Str}:∀{binds:List (Str×Value)} {m:Str->Option Value},(∀v,(x,v)∉binds)->bindC kindOf binds m x=m x
 |[],_,_=>rfl
 |(n,v)::r,m,h=>by
  unfold bindC;rw[zaf λw hw=>h w (qz _ hw)];split
  ·rfl
  ·have:x≠n:=by rintro rfl;exact h v qZ
   simp[this]
theorem ZQ{kindOf:Str->Option NameKind}{x:Str}{v:Value}:∀{P:LSr} {vs:LVl} {i:Nat} {m:Str->Option Value},P.Nodup->P[i]?=some x->vs[i]?=some v->kindOf x=some .local->
  bindL kindOf (P.zip vs) m x=some v
 |[],_,_,_,_,h,_,_=>by simp at h
 |_::_,[],_,_,_,_,h,_=>by simp at h
 |p::P,w::vs,0,m,nd,h1,h2,hk=>by
  simp at h1 h2;subst h1;subst h2
  show bindL kindOf ((p,w)::P.zip vs) m p=_
  unfold bindL;rw[ZW λv hv=>(km.mp nd).1 (pS hv).1,qf hk];simp
 |p::P,w::vs,i+1,m,nd,h1,h2,hk=>by
  show bindL kindOf ((p,w)::P.zip vs) m x=_
  unfold bindL;exact ZQ (i:=i) (km.mp nd).2 (by simpa using h1) (by simpa using h2) hk
theorem ZS{kindOf:Str->Option NameKind}{x:Str}{v:Value}:∀{P:LSr} {vs:LVl} {i:Nat} {m:Str->Option Value},P.Nodup->P[i]?=some x->vs[i]?=some v->kindOf x≠some .local->
  bindC kindOf (P.zip vs) m x=some v
 |[],_,_,_,_,h,_,_=>by simp at h
 |_::_,[],_,_,_,_,h,_=>by simp at h
 |p::P,w::vs,0,m,nd,h1,h2,hk=>by
  simp at h1 h2;subst h1;subst h2
  show bindC kindOf ((p,w)::P.zip vs) m p=_
  unfold bindC;rw[zaf λv hv=>(km.mp nd).1 (pS hv).1,qq hk];simp
 |p::P,w::vs,i+1,m,nd,h1,h2,hk=>by
  show bindC kindOf ((p,w)::P.zip vs) m x=_
  unfold bindC;exact ZS (i:=i) (km.mp nd).2 (by simpa using h1) (by simpa using h2) hk
noncomputable def start(N:LSr)(vs:List V):St:=vs.map some++List.replicate (N.length - vs.length) none
noncomputable def Vr(CX:CXT)(P:Program)(w:World)(K:FRx)(mg:Str->Option Value)(base:Heap)(N:LSr)(qual:Str)(scope:Scope)(f:AdX)(cd:Value)(A:Around)(outer:List Env)(s:ShX)(H:Hp)(E:XK):Cx where
 prog:=P
 w:=w
 K:=K
 mg:=mg
 base:=base
 A:=A.deeper (envOfC qual scope s.heap.objs.size f cd)
 N:=N
 s₀:=s
 H₀:=H
 env:=envOfC qual scope s.heap.objs.size f cd
 outer:=outer
 stack:=envOfC qual scope s.heap.objs.size f cd::outer
 ex:=[]
 calm:=true
 fn:=λ_=>true
 pn:=[]
 xe:=λe s'=>wpAny (model P w) (A.deeper (envOfC qual scope s.heap.objs.size f cd)) (leaving (envOfC qual scope s.heap.objs.size f cd) e) (λ_ s''=>CX outer H s E e s'') (λe' s''=>CX outer H s E e' s'') s'
def zcP{sc:Scope}{n:Nat}{x:Str}(h:sc.names.lookup x=some .cell):∃c,(cellsFrom n sc.names []).lookup x=some c:=by
 have q:=W.cellsFrom_some sc.names n [] (.inl h);exact Option.isSome_iff_exists.mp q
def zgd{CX:CXT}{P:Program}{w:World}{K:FRx}{mg:Str->Option Value}{base:Heap}{N ps:LSr}{qual:Str}{scope:Scope}{f:AdX}{cd:Value}{A:Around}{outer:List Env}{s s1:ShX}{H:Hp}{E:XK}{us:LVl}{vs:List V}(S:zD N ps scope)(hd:A.handled=none)(e0:zd6 P w K mg base A outer s H)(hl:vs.length=ps.length)(r:Vals vs us)(x:InCallC s s.heap.objs.size (bindL (envOfC qual scope s.heap.objs.size f cd).kindOf (ps.zip us) λ_=>none) (cellsFrom (s.heap.objs.size+1) scope.names []) (bindC (envOfC qual scope s.heap.objs.size f cd).kindOf (ps.zip us) λ_=>none) s1):Inv (Vr CX P w K mg base N qual scope f cd A outer s H E) [] (start N vs) H s1:=by
 have hpl:ps.length<=N.length:=by have:=qM List.length S.pre;rw[kR] at this;omega
 obtain⟨h1,tk,rfl,hk⟩:=x.done;have noA:∀b:Addr,b∉(Vr CX P w K mg base N qual scope f cd A outer s H E).ex:=λb z=>absurd (show b∈([]:LAd) from z) (by simp)
 refine⟨⟨e0.mod,S.kind,rfl,rfl,qr _,λy z c h1 h2=>?_,λy hy=>?_,λy c _ h=>?_,λ_=>hd,Around.frames_deeper e0.frames,.inr ⟨rfl,rfl⟩,λb z=>absurd z (noA b),e0.bs,e0.bsz,λb _ _=>noA b,λb z=>absurd z (noA b),e0.funs,e0.frf⟩,
  rfl,e0.bare,Un.kept hk,⟨_,x.toInCall.ns,λi y v h1 h2 h3=>?_⟩,λy c h=>⟨_,x.cell y c h⟩,e0.hok.fresh (qr _),λy c h=>?_,λp hp=>absurd (show p∈([]:PNx) from hp) (by simp),e0.hok.kept hk,?_⟩
 ·exact name_of_addr x.apart (kG h1) (kG h2)
 ·have hy:scope.names.lookup y=some .cell\/scope.names.lookup y=some .free:=hy;rcases hy with hy|hy
  ·exact zcP hy
  ·exact absurd rfl (S.nofree _ (kG hy))
 ·exact g6 (x.above y c (kG h))
 ·have hi:i<vs.length:=by
   unfold start at h2;by_cases hi:i<vs.length
   ·exact hi
   ·rw[qx (by simpa using hi)] at h2;rw[kh] at h2;split at h2<;>cases h2
  have ha:vs[i]?=some v:=by
   unfold start at h2;rw[qJ (by simpa using hi),qo] at h2;cases e:vs[i]? with
   |none=>rw[e] at h2;cases h2
   |some a=>rw[e] at h2;cases h2;rfl
  have⟨u,hu,rv⟩:=r.get ha;have hp:ps[i]?=some y:=by
   rw[<-S.pre,List.getElem?_take_of_lt (by omega)];exact h1
  have ndP:ps.Nodup:=by rw[<-S.pre];exact S.nd.sublist (List.take_sublist _ _)
  refine⟨u,rv,?_⟩;rcases S.par y (qP hp) with k|k
  ·exact .inl ⟨k,ZQ ndP hp hu k⟩
  ·obtain⟨c,e⟩:=zcP (n:=s.heap.objs.size+1) k;refine .inr ⟨.inl k,c,e,?_⟩;have q:=x.cell y c e;rw[ZS ndP hp hu (by show scope.names.lookup y≠_;rw[k];decide)] at q;exact q
 ·exact e0.hok.fresh (g6 (x.above y c (kG h)))
 ·unfold start;show _=N.length
  rw[qy,qe,gC];omega
def zmN{CX:CXT}{P:Program}{w:World}{K:FRx}{mg:Str->Option Value}{base:Heap}{k:Nat}{f:AdX}{name qual:Str}{params:Arguments}{body:List Stmt}{scope:Scope}{dV kV doc pm cdv ct oc:Value}{an od:Option Addr}{osl:Array (Option Value)}{N ps:LSr}{sp:Sp}(lk:K.lookup f=some ⟨oc,od,.func (W.fnOf name qual params body scope dV kV doc pm an cdv ct),osl⟩)(hcd:W.codeIn K cdv qual=true)(S:zD N ps scope)(len:∀vs H Q E,sp vs H Q E->vs.length=ps.length)(hbody:∀(A:Around)(outer:List Env)(s:ShX)(H:Hp)(vs:List V)(Q:VK)(E:XK),Room k (A.deeper (envOfC qual scope s.heap.objs.size f cdv))->sp vs H Q E->
   ∃t,PSs (Vr CX P w K mg base N qual scope f cdv A outer s H E) body t/\t { nx:=λ_ H'=>Q .non H',rt:=Q } (start N vs) H):wk P w K mg base CX (k+1) f (W.fnOf name qual params body scope dV kV doc pm an cdv ct) ps sp:=by
 refine⟨len,λA outer s H args us vs Q E hr e0 hb r hsp=>?_⟩;have hl:=len _ _ _ _ hsp;have KX:K.In s.heap:=e0.mod.kin.keeps λb o e=>(e0.bs b o e).1
 have lim:s.heap.NoLimit:=e0.mod.nolimit.keeps λb o e=>(e0.bs b o e).1
 have hkind:∀y∈ps.zip us,scope.names.lookup y.1=some .local\/(scope.names.lookup y.1=some .cell/\((cellsFrom (s.heap.objs.size+1) scope.names []).lookup y.1).isSome=true):=λ⟨n,v⟩ hy=>by
  rcases S.par n (pS hy).1 with q|q
  ·exact .inl q
  ·exact .inr ⟨q,W.cellsFrom_some _ _ _ (.inl q)⟩
 refine codeAny_call_function hr.depth (KX _ _ lk) rfl S.co S.gen rfl (W.codeRec_of KX hcd) (hb _ _ _ _ ?_);refine wpAny_newFunctionEnv_cells S.kind hkind λenv he s1 x=>?_
 subst he;refine⟨lim.keeps x.toInCall.keep,codeAny_func ?_⟩;obtain⟨t,ht,hq⟩:=hbody A outer s H vs Q E (hr.deeper _) hsp;have I:Inv (Vr CX P w K mg base N qual scope f cdv A outer s H E) [] (start N vs) H s1:=zgd S hr.hd e0 hl r x;refine k9 (ht [] s1 (start N vs) H _ I hq) (λfl s' hs=>?_) λe s' hs=>hs
 have fin:∀{σ':St} {H':Hp} {v:V} {u:Value},Inv (Vr CX P w K mg base N qual scope f cdv A outer s H E) [] σ' H' s'->RelV v u->Q v H'->CE outer P w H s Q u s':=λ{σ' H' v u} J rv q=>⟨v,H',J.os,J.bare,J.base,J.hok,rv,q⟩
 cases fl with
 |ret u=>
  have⟨v,σ',H',J,rv,q⟩:=hs;exact fin J rv q
 |next=>
  have⟨σ',H',J,q⟩:=hs;exact fin (v:=V.non) (u:=Value.none) J rfl q
 |brk=>
  have⟨_,_,_,q⟩:=hs;exact False.elim q
 |cont=>
  have⟨_,_,_,q⟩:=hs;exact False.elim q
section
variable{X:Cx}{x:Str}{p pos:Pos}{e:Expr}{es:List Expr}{t:TA}{id T:String}{r:List V->Hp->VK->Prop}
def tCB(r:List V->Hp->VK->Prop)(t:TA):TE:=λσ H Q=>t σ H λvs H1=>r vs H1 Q
def Yt(hc:vh X (.builtin id) r)(hg:Gl X x)(hm:X.mg x=none)(hv:bootBuiltins x=some (.builtin id))(ha:PA X (e::es) t)(hn:x≠"__name__":=by decide)(hdb:NDx x:=by decide)(he:SEx X e es:=by rfl)(hpl:PLx X pos es:=by rfl):PE X (.Call (.Name x p) (e::es) [] pos) (tCB r t):=by
 intro pins s σ H Q I h;refine nc (UJ I hg hm hv ?_ hn hdb);exact PyProof.Rows.callWith_builtin1 (thn (ha pos pins s σ H _ I h) λus s1 ⟨vs,H1,I1,r1,q1⟩=>hc pins s1 σ H1 vs us Q I1 r1 q1) he hpl
def JP(hc:vh X (.type T) r)(hg:Gl X x)(hm:X.mg x=none)(hv:bootBuiltins x=some (.type T))(ha:PA X (e::es) t)(hn:x≠"__name__":=by decide)(hdb:NDx x:=by decide)(he:SEx X e es:=by rfl)(hpl:PLx X pos es:=by rfl):PE X (.Call (.Name x p) (e::es) [] pos) (tCB r t):=by
 intro pins s σ H Q I h;refine nc (UJ I hg hm hv ?_ hn hdb);exact gy (thn (ha pos pins s σ H _ I h) λus s1 ⟨vs,H1,I1,r1,q1⟩=>hc pins s1 σ H1 vs us Q I1 r1 q1) he hpl
end
end L2
namespace HT
open PySem PyProof.Rows
section
open PySem.SeqAt
open PySem.AutoSeq1 (wpAny_loadPart')
open PySem.MeetsSeq PySem.MeetsSeq2 PySem.MeetsSeq3
end
section
variable{prog:Program}{w:World}{A:Around}{E:VSx}{s:ShX}
def ziz{t b:AdX}{vs ws:LVl}{Q:VSx}(ht:IsTup s.heap t vs.toArray)(hb:IsTup s.heap b ws.toArray)(hv:vs≠[])(h1:ws=[]->Q (.ref t) s)(h2:ws≠[]->Q (.ref s.heap.objs.size) { s with heap:=s.heap.push { cls:=.type "tuple",data:=.seq (vs++ws).toArray } })(hsz:vs.length+ws.length<=sizeLine):wpAny (model prog w) A (binaryOp .Add (.ref t) (.ref b)) Q E s:=by
 have⟨⟨cls,dd,data,sl⟩,ho,hc,n,hd⟩:=id ht;have⟨⟨cls2,dd2,data2,sl2⟩,ho2,hc2,n2,hd2⟩:=id hb;simp only at hc hd hc2 hd2;subst hc hd hc2 hd2;have e:vs.toArray++ws.toArray=(vs++ws).toArray:=by simp
 by_cases hw:ws=[]
 ·exact pX ⟨_,ho,rfl⟩ ⟨_,ho2,rfl⟩ p5 seq_tuple_add nt ni (mZ _ _)
   (tuple_addW1 t b vs.toArray ws.toArray n n2 dd dd2 sl sl2 (by simpa using hv) (by simp[hw])) ⟨ho,ho2,h1 hw⟩
 ·refine pX ⟨_,ho,rfl⟩ ⟨_,ho2,rfl⟩ p5 seq_tuple_add nt ni (mZ _ _)
   (tuple_addW2 t b vs.toArray ws.toArray n n2 dd dd2 sl sl2 (by simpa using hv) (by simpa using hw) (by rw[qD,qD];exact hsz)) ⟨ho,ho2,?_⟩
  rw[e];exact h2 hw
noncomputable def sIx(n d:Nat):Option Int->Nat
 |none=>d
 |some v=>if v<0 then (v+(n:Int)).toNat else min v.toNat n
def zg1(n d:Nat):sIx n d none=d:=rfl
def zbg(n d k:Nat):sIx n d (some (k:Int))=min k n:=by
 show(if (k:Int)<0 then ((k:Int)+(n:Int)).toNat else min (k:Int).toNat n)=min k n
 rw[qq (by omega),kb]
end
end HT
namespace L2
open PySem PySem.Spec PyProof.Rows
abbrev TO:=St->Hp->(Option Int->Hp->Prop)->Prop
def PO(X:Cx)(e:Option Expr)(t:TO):Prop:=∀(pins:PNx)(s:ShX)(σ:St)(H:Hp)(Q:Option Int->Hp->Prop),Inv X pins σ H s->t σ H Q->
  wpAny (model X.prog X.w) X.A (evalPart e X.env) (λu s'=>∃o H',Inv X pins σ H' s'/\IsPart u o/\Q o H') X.xe s
def zjY:TO:=λ_ H Q=>Q none H
def zmg(t:TE):TO:=λσ H Q=>t σ H λx H1=>∃i,x=.int i/\Q (some i) H1
def intsAre_of{ns:List Int}:∀{us:LVl},Vals (ns.map V.int) us->IntsAre us ns:=by
 induction ns with
 |nil=>intro us r;rw[pH] at r;cases r;exact .nil
 |cons n ns ih=>
  intro us r;rw[gr] at r;cases r with
  |cons r1 r2=>
   have⟨t,e⟩:=r1;subst e;exact .cons n t (ih r2)
section
variable{X:Cx}{e:Expr}{te:TE}{lo hi:Option Expr}{tl th:TO}{pos p2:Pos}
def zjQ:PO X none zjY:=by
 intro pins s σ H Q I h;rw[evalPart_none];exact qT ⟨none,H,I,.none,h⟩
def ziF(h:PE X e te):PO X (some e) (zmg te):=by
 intro pins s σ H Q I hw;rw[evalPart_some];refine thn (h pins s σ H _ I hw) λu s1 ⟨x,H1,I1,r1,q1⟩=>?_
 obtain⟨i,rfl,q⟩:=q1;obtain⟨t,rfl⟩:=r1;exact⟨some i,H1,I1,.int i t,q⟩
def SlR(X:Cx)(r:V->Option Int->Option Int->Hp->VK->Prop):Prop:=∀(pins:PNx)(s:ShX)(σ:St)(H:Hp)(x:V)(v vl vu:Value)(lo hi:Option Int)(sl:AdX)(Q:VK),Inv X pins σ H s->RelV x v->s.heap.IsSliceOf sl vl vu .none->IsPart vl lo->IsPart vu hi->r x lo hi H Q->
  ∃T id,typeLookup (.type T) "__getitem__"=pure (some (.builtin id))/\s.TypeIs v T/\wpAny (model X.prog X.w) X.A (getItem v (.ref sl)) (EP X pins σ Q) X.xe s
def tSl(r:V->Option Int->Option Int->Hp->VK->Prop)(te:TE)(tl th:TO):TE:=λσ H Q=>te σ H λx H1=>tl σ H1 λl H2=>th σ H2 λu H3=>r x l u H3 Q
def zcw{r:V->Option Int->Option Int->Hp->VK->Prop}(hr:SlR X r)(he:PE X e te)(hl:PO X lo tl)(hu:PO X hi th):PE X (.Subscript e (.Slice lo hi none p2) pos) (tSl r te tl th):=by
 intro pins s σ H Q I h;refine Subscript_ (thn (he pins s σ H _ I h) λv s1 ⟨x,H1,I1,r1,q1⟩=>?_);refine wpAny_Slice (thn (hl pins s1 σ H1 _ I1 q1) λvl s2 ⟨l,H2,I2,pl,q2⟩=>thn (hu pins s2 σ H2 _ I2 q2) λvu s3 ⟨u,H3,I3,pu,q3⟩=>?_);rw[evalPart_none];refine qT ?_;have I4:Inv X pins σ H3 { s3 with heap:=s3.heap.push { cls:=.type "slice",data:=.fields #[vl,vu,.none] } }:=I3.kept (t':=s3.toks) λb ob q=>qj _ q
 obtain⟨T,id,hT,ht,hg⟩:=hr pins { s3 with heap:=s3.heap.push { cls:=.type "slice",data:=.fields #[vl,vu,.none] } } σ H3 x v vl vu l u s3.heap.objs.size Q I4 r1 (Heap.IsSliceOf.new ..) pl pu q3;show wpAny (model X.prog X.w) X.A (subscriptTail e (.Slice lo hi none p2) v (.ref s3.heap.objs.size)) (EP X pins σ Q) X.xe { s3 with heap:=s3.heap.push { cls:=.type "slice",data:=.fields #[vl,vu,.none] } }
 exact tail_any (ops:=[.ref s3.heap.objs.size,v]) ht hT hg (by with_unfolding_all rfl)
def zfr(xs:List V)(lo hi:Option Int):List V:=(xs.drop (HT.sIx xs.length 0 lo)).take (HT.sIx xs.length xs.length hi - HT.sIx xs.length 0 lo)
def zbB(xs:List V)(lo hi:Option Int):(zfr xs lo hi).length<=xs.length:=by
 unfold zfr;rw[kR,nk];omega
def Vals.WU{xs:List V}{us:LVl}(r:Vals xs us):us=[]↔xs=[]:=by
 cases r with
 |nil=>simp
 |cons _ _=>simp
end
noncomputable def ixN(n:Nat)(i:Int):Option Nat:=if 0<=i then (if i<n then some i.toNat else none) else if -(n:Int)<=i then some (i+n).toNat else none
def atI{α:Type}(xs:List α)(i:Int):Option α:=(ixN xs.length i).bind λj=>xs[j]?
def zfp{n:Nat}{i:Int}{j:Nat}(h:ixN n i=some j):seqIndex? i n=some j/\j<n/\-(n:Int)<=i/\i<n:=by
 unfold ixN at h;by_cases h0:0<=i
 ·rw[qf h0] at h;by_cases h1:i<n
  ·rw[qf h1] at h;have e:i.toNat=j:=qX h;exact⟨by rw[seqIndex_of h0 h1,e],by omega,by omega,h1⟩
  ·rw[qq h1] at h;cases h
 ·rw[qq h0] at h;by_cases h1:-(n:Int)<=i
  ·rw[qf h1] at h;have e:(i+n).toNat=j:=qX h;exact⟨by rw[seqIndex_neg (by omega) h1,e],by omega,h1,by omega⟩
  ·rw[qq h1] at h;cases h
def ze3{α:Type}{xs:List α}{i:Int}{v:α}(h:atI xs i=some v):∃j,seqIndex? i xs.length=some j/\xs[j]?=some v/\j<xs.length/\-(xs.length:Int)<=i/\i<xs.length:=by
 unfold atI at h;cases e:ixN xs.length i with
 |none=>rw[e] at h;cases h
 |some j=>
  rw[e] at h;have⟨h1,h2,h3,h4⟩:=zfp e;exact⟨j,h1,h,h2,h3,h4⟩
def U1{α:Type}{xs:List α}{j:Nat}{v:α}(h:xs[j]?=some v):atI xs (j:Int)=some v:=by
 have hj:j<xs.length:=(qm.mp h).1;have e:ixN xs.length (j:Int)=some j:=by
  unfold ixN;rw[qf (by omega),qf (by omega)];simp
 unfold atI;rw[e];exact h
def W2(b:Expr):Prop:=∀o i,subscripted b false o i=operate [o,i] (getItem o i)
def IxR(X:Cx)(r:R2):Prop:=∀(value slice:Expr)(pins:PNx)(s:ShX)(σ:St)(H:Hp)(x y:V)(v u:Value)(Q:VK),Inv X pins σ H s->RelV x v->RelV y u->r x y H Q->
  subscripted slice false v u=operate [v,u] (getItem v u)->wpAny (model X.prog X.w) X.A (subscriptTail value slice v u) (EP X pins σ Q) X.xe s
def MtR(X:Cx)(id:String)(r:V->List V->Hp->VK->Prop):Prop:=∀(pins:PNx)(s:ShX)(σ:St)(H:Hp)(x:V)(xs:List V)(v:Value)(us:LVl)(Q:VK),Inv X pins σ H s->RelV x v->Vals xs us->r x xs H Q->
  wpAny (model X.prog X.w) X.A (call (.builtin id) (v::us)) (EP X pins σ Q) X.xe s
section
variable{X:Cx}{a b:Expr}{ta tb:TE}{pos:Pos}
def IxR.or{r r':R2}(h:IxR X r)(h':IxR X r'):IxR X (λx y H Q=>r x y H Q\/r' x y H Q):=by
 intro value slice pins s σ H x y v u Q I rx ry q hs;rcases q with q|q
 ·exact h value slice pins s σ H x y v u Q I rx ry q hs
 ·exact h' value slice pins s σ H x y v u Q I rx ry q hs
def zh2{r:R2}(hr:IxR X r)(ha:PE X a ta)(hb:PE X b tb)(hs:W2 b):PE X (.Subscript a b pos) (tOp r ta tb):=by
 intro pins s σ H Q I h;exact Subscript_ (zlS ha hb I h λv u s2 x y H2 I2 rx ry q=>hr a b pins s2 σ H2 x y v u Q I2 rx ry q (hs _ _))
def zmL(K:FRx):R2:=λx y H Q=>∃p xs i v,x=.ref p/\y=.int i/\SqL K H p xs/\atI xs i=some v/\Q v H
def zma(K:FRx):R2:=λx y H Q=>∃p xs i v,x=.ref p/\y=.int i/\SqT K H p xs/\atI xs i=some v/\Q v H
def zil:IxR X (zmL X.K):=by
 intro value slice pins s σ H x y v u Q I rx ry h hs;obtain⟨p,xs,i,z,rfl,rfl,hq,he,q⟩:=h;cases rx;obtain⟨t,rfl⟩:=ry;have⟨its,r,pl,hz⟩:=I.list hq;have⟨j,h1,h2,h3,h4,h5⟩:=ze3 he;have⟨w,ew,rw'⟩:=r.get h2;have hl:=r.length;have hn:=YX
 have fin:EP X pins σ Q w s:=⟨z,H,I,rw',q⟩;by_cases h0:0<=i
 ·have hj:i.toNat=j:=by
   rw[seqIndex_of h0 h5] at h1;exact qX h1
  exact item_listR pl.isList h0 (by omega) (by rw[hj];simpa using ew) fin hs
 ·have hj:(i+(its.toArray.size:Int)).toNat=j:=by
   rw[seqIndex_neg (by omega) h4] at h1;rw[qD,<-hl];exact qX h1
  exact subscriptTail_builtinR (x:=w) pl.isList.typeIs slot_list_getitem.lookup
   (wpAny_getItem_list_neg (Q:=λr s'=>r=w/\EP X pins σ Q r s') pl.isList (by omega) (by rw[qD]<;>omega) (by omega) (by rw[hj];simpa using ew) ⟨rfl,fin⟩) hs
def zlc:IxR X (zma X.K):=by
 intro value slice pins s σ H x y v u Q I rx ry h hs;obtain⟨p,xs,i,z,rfl,rfl,hq,he,q⟩:=h;cases rx;obtain⟨t,rfl⟩:=ry;have⟨its,r,pl,hz⟩:=I.tuple hq;have⟨j,h1,h2,h3,h4,h5⟩:=ze3 he;have⟨w,ew,rw'⟩:=r.get h2;have hl:=r.length;have hn:=YX
 have fin:EP X pins σ Q w s:=⟨z,H,I,rw',q⟩;exact subscriptTail_builtinR (x:=w) pl.typeIs slot_tuple_getitem.lookup
  (getItem_tuple (j:=j) (Q:=λr s'=>r=w/\EP X pins σ Q r s') pl (by omega) (by omega) (by rw[qD,<-hl];exact h1) (by simpa using ew) ⟨rfl,fin⟩) hs
def zeb(its:LVl)(n j:Nat)(u:Value):Obj.mapSeq (·.setIfInBounds j u) { cls:=.type "list",data:=.seq its.toArray n }={ cls:=.type "list",data:=.seq (its.set j u).toArray n }:=by
 simp[Obj.mapSeq]
def Inv.lst{pins:PNx}{σ:St}{H:Hp}{s:ShX}{p:AdX}{xs:List V}(I:Inv X pins σ H s)(h:H p=some (.lst xs)):∃(its:LVl)(n:Nat),Vals xs its/\s.heap.get? p=some { cls:=.type "list",data:=.seq its.toArray n }/\xs.length<=sizeLine:=by
 have⟨z,its,n,r,e⟩:=I.hok p _ h;exact⟨its,n,r,e,z⟩
def Inv.zkB{pins:PNx}{σ:St}{H:Hp}{s:ShX}{p:AdX}{xs ys:List V}{its its':LVl}{n n':Nat}{f:Obj->Obj}(I:Inv X pins σ H s)(h:H p=some (.lst xs))(ho:s.heap.get? p=some { cls:=.type "list",data:=.seq its.toArray n })(hf:f { cls:=.type "list",data:=.seq its.toArray n }={ cls:=.type "list",data:=.seq its'.toArray n' })(r:Vals ys its')(hz:ys.length<=sizeLine)(t:Nat):Inv X pins σ (upd H p (.lst ys)) { s with heap:=s.heap.update p f,toks:=t }:=by
 have e:(s.heap.update p f).get? p=some { cls:=.type "list",data:=.seq its'.toArray n' }:=by
  rw[Heap.get?_update_self f ho (by rw[hf]<;>rfl),hf]
 refine I.write (x:=p) (e:=p) (by rw[h];trivial) (.inl rfl) (λb u hb q=>(Heap.get?_update_other _ _ (gu hb)).trans q) ⟨_,e⟩ ?_;exact⟨hz,its',n',r,e⟩
def zmw:V->V->V->Hp->(Hp->Prop)->Prop:=λo i v H Q=>∃p xs k j,o=.ref p/\i=.int k/\H p=some (.lst xs)/\ixN xs.length k=some j/\Q (upd H p (.lst (xs.set j v)))
def set_list:zms X zmw:=by
 intro pins s σ H o i v ov iv u Q I ro ri rv h;obtain⟨p,xs,k,j,rfl,rfl,hp,hj,q⟩:=h;cases ro;obtain⟨t,rfl⟩:=ri;have⟨its,n,r,ho,hz⟩:=I.lst hp;have⟨h1,h2,h3,h4⟩:=zfp hj;have hl:=r.length;have hn:=YX
 have I':Inv X pins σ (upd H p (.lst (xs.set j v))) { s with heap:=s.heap.update p (Obj.mapSeq (·.setIfInBounds j u)) }:=I.zkB hp ho (zeb its n j u) (r.set rv j) (by rw[kJ];exact hz) s.toks;by_cases h0:0<=k
 ·have hk:k.toNat=j:=by
   rw[seqIndex_of h0 h4] at h1;exact qX h1
  exact W.ki_setAt ho h0 (by omega) (by rw[qD,<-hl];exact h4) (by rw[hk];exact⟨_,I',q⟩)
 ·have hk:(k+(its.toArray.size:Int)).toNat=j:=by
   rw[seqIndex_neg (by omega) h3] at h1;rw[qD,<-hl];exact qX h1
  exact W.ki_setBack ho (by omega) (by rw[qD,<-hl];exact h3) (by omega) (by rw[hk];exact⟨_,I',q⟩)
def za0(lo hi:Option Int)(n:Nat):(sliceBounds lo hi none n).1=((HT.sIx n 0 lo:Nat):Int)/\(sliceBounds lo hi none n).2.1=((HT.sIx n n hi:Nat):Int)/\(sliceBounds lo hi none n).2.2=1:=by
 refine⟨?_,?_,rfl⟩
 ·cases lo with
  |none=>simp[sliceBounds,HT.sIx]
  |some i=>
   simp only [sliceBounds,HT.sIx,Option.getD_none,show(1:Int)>0 by decide,pC];by_cases h:i<0
   ·simp only [h,pC]<;>omega
   ·simp only [h,if_false]<;>omega
 ·cases hi with
  |none=>simp[sliceBounds,HT.sIx]
  |some i=>
   simp only [sliceBounds,HT.sIx,Option.getD_none,show(1:Int)>0 by decide,pC];by_cases h:i<0
   ·simp only [h,pC]<;>omega
   ·simp only [h,if_false]<;>omega
def ZN(its:LVl)(lo hi:Option Int):slicePick its.toArray lo hi none=((its.drop (HT.sIx its.length 0 lo)).take (HT.sIx its.length its.length hi - HT.sIx its.length 0 lo)).toArray:=by
 have⟨h1,h2,h3⟩:=za0 lo hi its.toArray.size;unfold slicePick;rw[h1,h2,h3];simp only [sliceRange_one,pick_run,qD]<;>rfl
def zm5(K:FRx):V->Option Int->Option Int->Hp->VK->Prop:=λx lo hi H Q=>∃a xs,x=.ref a/\SqL K H a xs/\∀p,H p=none->Q (.ref p) (upd H p (.lst (zfr xs lo hi)))
def zeh:SlR X (zm5 X.K):=by
 intro pins s σ H x v vl vu lo hi sl Q I rx hs pl pu h;obtain⟨a,xs,rfl,hx,q⟩:=h;cases rx;have⟨its,r,ht,hz⟩:=I.list hx;have hlen:=r.length;refine⟨"list",_,slot_list_getitem.lookup,ht.isList.typeIs,?_⟩;refine wpAny_getItem_list_slice ht.isList hs pl pu .none (by simp) ?_ (by rw[qD]<;>omega);rw[ZN,<-hlen];refine⟨.ref s.heap.objs.size,_,I.laid (t':=s.toks) (o:=.lst (zfr xs lo hi)) (λb ob q=>qj _ q) (qr _) ?_,rfl,q _ (I.hok.fresh (qr _))⟩;exact⟨qw (zbB xs lo hi) hz,_,0,(r.drop (HT.sIx xs.length 0 lo)).take (HT.sIx xs.length xs.length hi - HT.sIx xs.length 0 lo),qH _ rfl⟩
def zA:vh X (.builtin "len") (λxs H Q=>∃p ys,xs=[.ref p]/\(SqL X.K H p ys\/SqT X.K H p ys)/\Q (.int ys.length) H):=by
 intro pins s σ H xs us Q I r h;obtain⟨p,ys,rfl,hq,q⟩:=h;obtain⟨u,rfl,rx⟩:=vals1 r;cases rx;have hn:=YX;rcases hq with hq|hq
 ·have⟨its,r',pl,hz⟩:=I.list hq;have hlen:=r'.length;exact Calls.call_len_list pl.isList (by simp only [qD]<;>omega) ⟨.int ys.length,H,I.tok _,⟨s.toks+1,by rw[qD,hlen]⟩,q⟩
 ·have⟨its,r',pl,hz⟩:=I.tuple hq;have hlen:=r'.length;exact len_tuple pl (by simp only [qD]<;>omega) ⟨.int ys.length,H,I.tok _,⟨s.toks+1,by rw[qD,hlen]⟩,q⟩
def y3:vh X (.type "list") (λxs H Q=>∃p ys,xs=[.ref p]/\(SqL X.K H p ys\/SqT X.K H p ys)/\∀l,H l=none->Q (.ref l) (upd H l (.lst ys))):=by
 intro pins s σ H xs us Q I r h;obtain⟨p,ys,rfl,hq,q⟩:=h;obtain⟨u,rfl,rx⟩:=vals1 r;cases rx;have fin:∀(its:LVl),Vals ys its->ys.length<=sizeLine->∀(h':Heap)(c':Nat),(∀b o',s.heap.get? b=some o'->h'.get? b=some o')->
   h'.get? s.heap.objs.size=some { cls:=.type "list",dict:=none,data:=.seq its.toArray c',slots:=#[] }->EP X pins σ Q (.ref s.heap.objs.size) { s with heap:=h' }:=λits r' hz h' c' kp e=>
  ⟨.ref s.heap.objs.size,_,I.laid (t':=s.toks) kp (qr _) (show vC X.prog X.w _ h' _ (.lst ys) from⟨hz,its,c',r',e⟩),rfl,q _ (I.hok.fresh (qr _))⟩
 rcases hq with hq|hq
 ·have⟨its,r',pl,hz⟩:=I.list hq;have hlen:=r'.length;have⟨o,ho,hc,n,hd⟩:=pl.isList
  exact call_list_seq p (.inl rfl) ho hc hd (λh' c' kp e=>fin its r' hz h' c' kp e) (by simp only [qD]<;>omega)
 ·have⟨its,r',pl,hz⟩:=I.tuple hq;have hlen:=r'.length;have⟨o,ho,hc,n,hd⟩:=pl
  exact call_list_seq p (.inr rfl) ho hc hd (λh' c' kp e=>fin its r' hz h' c' kp e) (by simp only [qD]<;>omega)
def zI:vh X (.type "tuple") (λxs H Q=>∃p ys,xs=[.ref p]/\((SqL X.K H p ys/\∀l,H l=none->Q (.ref l) (upd H l (.tup ys)))\/(SqT X.K H p ys/\Q (.ref p) H))):=by
 intro pins s σ H xs us Q I r h;obtain⟨p,ys,rfl,h⟩:=h;obtain⟨u,rfl,rx⟩:=vals1 r;cases rx;rcases h with⟨hq,q⟩|⟨hq,q⟩
 ·have⟨its,r',pl,hz⟩:=I.list hq;have hlen:=r'.length;refine call_tuple_list pl.isList (λh' kp=>?_) (by simp only [qD]<;>omega);have I1:Inv X pins σ H { s with heap:=h' }:=I.kept (t':=s.toks) kp
  have I2:Inv X pins σ (upd H h'.objs.size (.tup ys)) { s with heap:=h'.push { cls:=.type "tuple",data:=.seq its.toArray } }:=I1.laid (t':=s.toks) (λb o e=>qj _ e) (qr _) (show vC X.prog X.w _ _ _ (.tup ys) from⟨hz,its,r',IsTup.new _ _⟩);exact⟨.ref h'.objs.size,_,I2,rfl,q _ (I1.hok.fresh (qr _))⟩
 ·have⟨its,r',pl,hz⟩:=I.tuple hq;exact call_tuple_same pl ⟨.ref p,H,I,rfl,q⟩
def tyV(K:FRx)(T:String)(x:V)(H:Hp):Prop:=match x with
 | .str _=>T="str"
 | .int _=>T="int"
 | .ref p=>(T="list"/\∃xs,SqL K H p xs)\/(T="tuple"/\∃o,K.lookup p=some o/\o.cls=.type "tuple"/\o.dict=none)\/
   (T="dict"/\((∃kvs,H p=some (.dK kvs))\/∃kvs,H p=some (.dT kvs)))\/(T="set"/\∃S n,H p=some (.set S n))
 |_=>False
def zlQ{pins:PNx}{σ:St}{H:Hp}{s:ShX}{T:String}{x:V}{v:Value}(I:Inv X pins σ H s)(r:RelV x v)(ty:tyV X.K T x H):s.TypeIs v T/\∀a,v=.ref a->∃ob,s.heap.get? a=some ob/\ob.dict=none:=by
 cases x with
 |str z=>
  obtain⟨t,rfl⟩:=r;cases (show T="str" from ty);exact⟨typeIs_str s z t,λ_ e=>nomatch e⟩
 |int i=>
  obtain⟨t,rfl⟩:=r;cases (show T="int" from ty);exact⟨pQ s i t,λ_ e=>nomatch e⟩
 |ref p=>
  cases r;rcases ty with⟨rfl,xs,hq⟩|⟨rfl,o,hk,hc,hd⟩|⟨rfl,hk⟩|⟨rfl,S,n,hk⟩
  ·have⟨its,_,pl,_⟩:=I.list hq;refine⟨pl.isList.typeIs,λa e=>?_⟩;cases e;have⟨o,n,e,c,hd,_⟩:=pl;exact⟨o,e,hd⟩
  ·refine⟨⟨o,I.kIn p o hk,hc⟩,λa e=>?_⟩;cases e;exact⟨o,I.kIn _ o hk,hd⟩
  ·have z:∃o,s.heap.get? p=some o/\o.ExactDict:=by
    rcases hk with⟨kvs,hk⟩|⟨kvs,hk⟩
    ·have⟨_,_,_,_,o,_,_,e,ex,_⟩:=I.hok p _ hk;exact⟨o,e,ex⟩
    ·have⟨_,_,_,_,o,_,_,e,ex,_⟩:=I.hok p _ hk;exact⟨o,e,ex⟩
   have⟨o,e,ex⟩:=z;refine⟨⟨o,e,ex.1⟩,λa e2=>?_⟩;cases e2;exact⟨o,e,ex.2.1⟩
  ·have⟨o,_,_,_,e,ex,_⟩:=I.hok p _ hk;refine⟨⟨o,e,ex.1⟩,λa e2=>?_⟩;cases e2;exact⟨o,e,ex.2.1⟩
 |_=>exact False.elim ty
def tBM(K:FRx)(T:String)(r:V->List V->Hp->VK->Prop)(to:TE)(t:TA):TE:=λσ H Q=>to σ H λx H1=>tyV K T x H1/\t σ H1 λxs H2=>r x xs H2 Q
variable{o e:Expr}{es:List Expr}{to:TE}{t:TA}{name:Str}{apos cpos:Pos}{T id:String}{r:V->List V->Hp->VK->Prop}
def Jp(pa:PlainAttrs T)(slot:Slot T name id)(hty:typeOf (.builtin id)=pure (.type "method_descriptor"))(hm:MtR X id r)(ho:PE X o to)(ha:PA X (e::es) t)(hbase:attributeBase o name X.env (eval o X.env)=eval o X.env:=by rfl)(hfew:((backTo cpos (starEach (e::es) X.env)).all (λx=>!x.1)&&(backToKw cpos (keywordEach [] X.env)).all (λx=>x.1.isSome)
   &&decide ((e::es).length+([]:List Keyword).length+(if ([]:List Keyword).isEmpty then 0 else 1)<30))=true:=by rfl)(hline:(apos.endLine==cpos.line)=true:=by rfl)(hs:SEx X e es:=by rfl)(hplain:(backTo cpos (starEach es X.env)).any (·.1)=false:=by rfl):PE X (.Call (.Attribute o name apos) (e::es) [] cpos) (tBM X.K T r to t):=by
 intro pins s σ H Q I h;refine wpAny_Call_method_late hbase hfew hline rfl (thn (ho pins s σ H _ I h) λv s1 ⟨x,H1,I1,r1,ty,q1⟩=>?_);have⟨h1,h2⟩:=zlQ I1 r1 ty;refine⟨T,id,pa,slot,hty,h1,h2,?_⟩;have hA:=ha cpos pins s1 σ H1 _ I1 q1;rw[hs] at hA ⊢;refine Calls.callWith_builtin (by show(false || (backTo cpos (starEach es X.env)).any (·.1))=false;rw[hplain]<;>rfl) (Calls.evalArgs_plain ?_);exact thn hA λus s2 ⟨vs,H2,I2,r2,q2⟩=>hm pins s2 σ H2 x vs v us Q I2 r1 r2 q2
end
def MtM(X:Cx)(id:String)(r:V->List V->Hp->VK->Prop):Prop:=∀(pins:PNx)(s:ShX)(σ:St)(H:Hp)(x:V)(xs:List V)(v:Value)(us:LVl)(Q:VK),Inv X pins σ H s->RelV x v->Vals xs us->r x xs H Q->
  wpAny (model X.prog X.w) X.A (call (.builtin id) (v::us)) (EP X pins σ Q) X.xe s
theorem Vals.one:∀{x:V} {us:LVl},Vals [x] us->∃u,us=[u]/\RelV x u
 |_,_,.cons r .nil=>⟨_,rfl,r⟩
theorem Vals.two:∀{x y:V} {us:LVl},Vals [x,y] us->∃u v,us=[u,v]/\RelV x u/\RelV y v
 |_,_,_,.cons r (.cons q .nil)=>⟨_,_,rfl,r,q⟩
theorem Vals.eraseIdx:∀{xs:List V} {us:LVl} (i:Nat),Vals xs us->Vals (xs.eraseIdx i) (us.eraseIdx i)
 |_,_,_,.nil=>.nil
 |_,_,0,.cons _ t=>t
 |_,_,i+1,.cons r t=>.cons r (Vals.eraseIdx i t)
theorem Vals.rep{xs:List V}{us:LVl}(h:Vals xs us):∀k:Nat,Vals (List.replicate k xs).flatten (List.replicate k us).flatten
 |0=>.nil
 |k+1=>by
  rw[gw,gw,gT,gT];exact Vals.append h (Vals.rep h k)
theorem Z7{α:Type}:∀(l:List α)(i:Nat),(l.eraseIdx i).length<=l.length
 |[],_=>qr _
 |_::_,0=>nM _
 |_::r,i+1=>mI (Z7 r i)
theorem foldl_rep(its:LVl):∀(k:Nat)(acc:LVl),
  List.foldl (λx1 x2=>x1++x2) acc.toArray (List.replicate k its.toArray)=(acc++(List.replicate k its).flatten).toArray
 |0,acc=>by simp
 |k+1,acc=>by
  have e:acc.toArray++its.toArray=(acc++its).toArray:=by simp
  have e2:(acc++its)++(List.replicate k its).flatten=acc++(List.replicate (k+1) its).flatten:=by
   rw[gw,gT,kU]
  rw[<-e2,<-foldl_rep its k (acc++its),<-e,gw,List.foldl_cons]
section
variable{X:Cx}{pins:PNx}{σ:St}{H:Hp}{s:ShX}{l b:AdX}{xs ys zs:List V}
def Inv.lset{its its':LVl}{n:Nat}{f:Array Value->Array Value}{t':Nat}(I:Inv X pins σ H s)(hH:H l=some (.lst xs))(e:s.heap.get? l=some { cls:=.type "list",data:=.seq its.toArray n })(hf:f its.toArray=its'.toArray)(hv:Vals ys its')(hz:ys.length<=sizeLine):Inv X pins σ (upd H l (.lst ys)) { s with heap:=s.heap.update l (Obj.mapSeq f),toks:=t' }:=by
 have q:=PySem.IsL.update e f;rw[hf] at q;refine I.write (x:=l) (e:=l) (by rw[hH];exact trivial) (.inl rfl) (λb' u hb hu=>(Heap.get?_update_other s.heap (Obj.mapSeq f) (gu hb)).trans hu) ⟨_,q⟩ ?_;exact⟨hz,its',_,hv,q⟩
def Inv.lnew{its:LVl}{t':Nat}(I:Inv X pins σ H s)(hv:Vals ys its)(hz:ys.length<=sizeLine):Inv X pins σ (upd H s.heap.objs.size (.lst ys)) { s with heap:=s.heap.push { cls:=.type "list",data:=.seq its.toArray },toks:=t' }:=I.laid (λ_ _ q=>qj _ q) (qr _) ⟨hz,its,0,hv,qH _ rfl⟩
def Inv.fresh(I:Inv X pins σ H s):H s.heap.objs.size=none:=I.hok.fresh (qr _)
def Inv.zaC(I:Inv X pins σ H s)(hH:H l=some (.lst xs)):xs.length<=sizeLine/\∃(its:LVl)(n:Nat),Vals xs its/\xs.length=its.length/\s.heap.get? l=some { cls:=.type "list",data:=.seq its.toArray n }:=by
 have⟨z,its,n,r,e⟩:=I.hok l _ hH;exact⟨z,its,n,r,r.length,e⟩
def Zs{n:Nat}(h:n<=sizeLine):Builtin.List.listTooLong n=false:=by
 unfold Builtin.List.listTooLong;exact qI (by omega)
end
section
variable{X:Cx}
def zjB:V->List V->Hp->VK->Prop:=λx vs H Q=>∃l xs y,x=.ref l/\vs=[y]/\H l=some (.lst xs)/\xs.length<sizeLine/\Q .non (upd H l (.lst (xs++[y])))
def vZ:MtM X "list.append" zjB:=by
 intro pins s σ H x vs v us Q I rx rv h;obtain⟨l,xs,y,rfl,rfl,hH,hz,q⟩:=h;cases rx;obtain⟨u,rfl,ru⟩:=rv.one;have⟨z,its,n,r,hl,e⟩:=I.zaC hH;refine gX F.slot_list_append ⟨_,e,rfl⟩ F.entry_list_append (F.args_list_append_2 _ _) (PySem.list_append l its.toArray n u (by rw[qD];omega)) ⟨e,?_⟩;refine⟨.non,_,I.lset (its':=its++[u]) hH e (by simp) (r.append (.cons ru .nil)) ?_,rfl,q⟩;rw[qy,kM];omega
def zj1:V->List V->Hp->VK->Prop:=λx vs H Q=>∃l b xs zs,x=.ref l/\vs=[.ref b]/\H l=some (.lst xs)/\H b=some (.lst zs)/\xs.length+zs.length<=sizeLine/\Q .non (upd H l (.lst (xs++zs)))
def zl5:MtM X "list.extend" zj1:=by
 intro pins s σ H x vs v us Q I rx rv h;obtain⟨l,b,xs,zs,rfl,rfl,hH,hB,hz,q⟩:=h;cases rx;obtain⟨u,rfl,ru⟩:=rv.one;cases ru;have⟨z,its,n,r,hl,e⟩:=I.zaC hH;have⟨z2,its2,n2,r2,hl2,e2⟩:=I.zaC hB;have hsz:its.toArray.size+its2.toArray.size<=sizeLine:=by rw[qD,qD];omega
 have hlong:¬(!its.toArray.isEmpty&&Builtin.List.listTooLong (its.toArray.size+its2.toArray.size))=true:=by
  rw[Zs hsz,mX];exact qF
 refine gX F.slot_list_extend ⟨_,e,rfl⟩ F.entry_list_extend (F.args_list_extend_2 _ _)
  (AutoSeq1.list_extend_list_list_0 l its.toArray n b its2.toArray n2 hlong (by rw[qD];omega) (by omega)) ⟨e,e2,?_⟩
 refine⟨.non,_,I.lset (its':=its++its2) hH e (by simp) (r.append r2) ?_,rfl,q⟩;rw[qy];omega
def zkN:V->List V->Hp->VK->Prop:=λx vs H Q=>∃l xs i k y,x=.ref l/\vs=[.int i]/\H l=some (.lst xs)/\-(2 ^ 63)<=i/\i<2 ^ 63/\seqIndex? i xs.length=some k/\xs[k]?=some y/\Q y (upd H l (.lst (xs.eraseIdx k)))
def Jk:MtM X "list.pop" zkN:=by
 intro pins s σ H x vs v us Q I rx rv h;obtain⟨l,xs,i,k,y,rfl,rfl,hH,h1,h2,hk,hy,q⟩:=h;cases rx;obtain⟨u,rfl,ru⟩:=rv.one;obtain⟨t,rfl⟩:=ru;have⟨z,its,n,r,hl,e⟩:=I.zaC hH;have⟨w,hw,rw'⟩:=r.get hy;refine gX F.slot_list_pop ⟨_,e,rfl⟩ F.entry_list_pop (F.args_list_pop_2 _ _)
  (MeetsSeq.list_pop_at l its.toArray n i t k w (fitsIndex_both h1 h2) (by rw[qD,<-hl];exact hk) (by rw[<-Array.getElem?_toList];exact hw) (by rw[qD];omega)) ⟨e,?_⟩
 refine⟨y,_,I.lset (its':=its.eraseIdx k) hH e ?_ (r.eraseIdx k) ?_,rw',q⟩
 ·show its.toArray.eraseIdxIfInBounds k=(its.eraseIdx k).toArray
  rw[List.eraseIdxIfInBounds_toArray]
 ·have:=Z7 xs k;omega
def zmT:R2:=λx y H Q=>∃l b xs zs,x=.ref l/\y=.ref b/\H l=some (.lst xs)/\H b=some (.lst zs)/\xs.length+zs.length<=sizeLine/\∀p,H p=none->Q (.ref p) (upd H p (.lst (xs++zs)))
def zkK:OpR X (binaryOp .Add) zmT:=by
 intro pins s σ H x y v u Q I rx ry h;obtain⟨l,b,xs,zs,rfl,rfl,hH,hB,hz,q⟩:=h;cases rx;cases ry;have⟨z,its,n,r,hl,e⟩:=I.zaC hH;have⟨z2,its2,n2,r2,hl2,e2⟩:=I.zaC hB;refine PySem.P.add_list e e2 ?_ (by rw[qD,qD];omega);have ea:its.toArray++its2.toArray=(its++its2).toArray:=by simp
 rw[ea];exact⟨.ref _,_,I.lnew (t':=s.toks) (r.append r2) (by rw[qy];omega),rfl,q _ I.fresh⟩
def znl:R2:=λx y H Q=>∃l k xs,x=.ref l/\y=.int k/\H l=some (.lst xs)/\-(2 ^ 63)<=k/\k<2 ^ 63/\xs.length*k.toNat<=sizeLine/\
 ∀p,H p=none->Q (.ref p) (upd H p (.lst (List.replicate k.toNat xs).flatten))
def len_rep{α:Type}(xs:List α)(k:Nat):(List.replicate k xs).flatten.length=k*xs.length:=by
 induction k with
 |zero=>simp
 |succ k ih=>rw[gw,gT,qy,ih,gH,pG]
def zli:OpR X (binaryOp .Mult) znl:=by
 intro pins s σ H x y v u Q I rx ry h;obtain⟨l,k,xs,rfl,rfl,hH,h1,h2,hz,q⟩:=h;cases rx;obtain⟨t,rfl⟩:=ry;have⟨z,its,n,r,hl,e⟩:=I.zaC hH;have hlen:its.toArray.size*k.toNat<=sizeLine:=by rw[qD,<-hl];exact hz
 have hcap:¬its.toArray.size*k.toNat>(2 ^ 63 - 1) / 8:=by
  have:(sizeLine:Nat)<=(2 ^ 63 - 1) / 8:=by decide
  omega
 have hfit:¬(!Builtin.List.listFitsIndex k)=true:=by
  rw[fitsIndex_both h1 h2];exact qF
 have hlong:¬Builtin.List.listTooLong (its.toArray.size*k.toNat)=true:=by
  rw[Zs hlen];exact qF
 have hnew:List.foldl (λx1 x2=>x1++x2) #[] (List.replicate (if its.toArray.isEmpty=true then 0 else k.toNat) its.toArray)=(List.replicate k.toNat its).flatten.toArray:=by
  have f0:∀m:Nat,List.foldl (λx1 x2=>x1++x2) #[] (List.replicate m its.toArray)=(List.replicate m its).flatten.toArray:=λm=>by
   have:=foldl_rep its m [];rw[pU] at this;exact this
  rw[f0];cases its with
  |nil=>simp
  |cons a r'=>rw[qq (by simp)]
 refine wpAny_binaryOp_repeat_ref (T:="list") (U:="int") (by decide) ⟨_,e,rfl⟩ (λs'=>pQ s' k t) noFill_list_mul F.fills_int_mul pf repeat_list F.slot_int_index.lookup
  (gX pf (pQ s k t) F.entry_int_rmul (F.args_int_rmul_2 _ _) (int___rmul___int_list k t l its.toArray n)
   ⟨e,rfl,⟨_,e,rfl⟩,gX F.slot_list_mul ⟨_,e,rfl⟩ F.entry_list_mul (F.args_list_mul_2 _ _) (AutoListH.list___mul___list_int_3 l its.toArray n k t hfit hcap hlong) ⟨e,?_⟩⟩)
 rw[hnew];exact⟨.ref _,_,I.lnew (t':=s.toks) (r.rep k.toNat) (by rw[len_rep,g0];exact hz),rfl,q _ I.fresh⟩
end
end L2
namespace Att
open PySem PySem.W PySem.Calls PyProof.Rows
def WK{P:Params}{h:Heap}:∀(ns:List Int)(vs:LVl),WellAll P h vs (ns.map WData.int)->IntsAre vs ns:=by
 intro ns;induction ns with
 |nil=>
  intro vs w;rw[pH] at w;cases w;exact .nil
 |cons n ns ih=>
  intro vs w;rw[gr] at w;cases w with
  |cons a b=>
   cases a;exact .cons _ _ (ih _ b)
def zfC{l:OpenLaw}{n:Nat}(hn:l.most=some n){P:Params}{h:Heap}{args:List WData}{vals:LVl}(hpre:l.row.toRowW.claim.pre args=true)(hwl:WellAll P h vals args):∃a vs ns,vals=[Value.ref a]/\args=[WData.list (ns.map WData.int)]/\h.get? a=some { cls:=.type "list",data:=.seq vs.toArray }/\IntsAre vs ns/\ns.length<=n:=by
 have hsh:WShape.hasAll [] args [.list .int]=true:=(pre_splitW hpre).1;have hc:l.pre.holds [] { args:=args }=true:=(pre_splitW hpre).2
 obtain⟨d,r,rfl,h1,h2⟩:=hasAllW_cons hsh;obtain rfl:=hasAllW_nil h2;obtain⟨xs,rfl,h3⟩:=hasW_list h1;obtain⟨ns,rfl⟩:=items_int h3;have hlen:ns.length<=n:=by
  unfold OpenLaw.pre at hc;have h4:(WTm.not (.lt (.lit (.int (n:Int))) (.len (.arg 0)))).holds [] { args:=[.list (ns.map .int)] }=true:=by
   have h4:=(holds_andW hc).1;rw[hn] at h4;exact h4
  have h5:=condW_of h4 (w_not (w_lt w_lit (w_len_list (w_arg rfl))));rw[qe] at h5;refine qW λq=>?_
  have q':(n:Int)<((ns.length:Nat):Int):=by omega
  first
   |(rw[qB q'] at h5;exact absurd h5 (by decide))
   |(simp at h5;omega)
 cases hwl with
 |cons w1 w2=>
  cases w2;cases w1 with
  |list ho hall=>exact⟨_,_,ns,rfl,rfl,ho,WK ns _ hall,hlen⟩
def zfQ(l:OpenLaw)(args:List WData):l.row.toRowW.claim.post args (.bool true) args=true:=postW_of (r:=l.row.toRowW) (X:=(true==true))
  (show WShape.has [] (.bool true) .bool=true by first |rfl|decide|simp[WShape.has,WShape.arms,WShape.armsAll])
  (show(WTm.eq .res (.lit (.bool true))).value [] { args:=args,res:=some (.bool true),after:=args }=some (.bool (true==true)) from w_eq_bool (w_res rfl) w_lit) rfl
def zcR{l:OpenLaw}{n:Nat}{q:Program}{loose:LSr}{XP:(Str->Option Value)->Heap->Prop}{YP:World->Heap->Prop}{d:DefRec}(hn:l.most=some n)(hdf:d.params.defaults=[])(call:∀(w:World)(s₀ s₁:ShX)(mg mb:Str->Option Value)(fa:AdX)(o:Obj)(pm cd doc:Value)(a:AdX)(vs:LVl)(ns:List Int),
   Ground q loose [] XP w s₀ mg mb s₁.heap->YP w s₁.heap->
   s₁.heap.get? fa=some o->o.data=.func (docDef d.name d.params d.body d.scope pm cd doc)->s₁.heap.CodeRec cd d.name->mg d.name=some (.ref fa)->
   s₁.heap.get? a=some { cls:=.type "list",data:=.seq vs.toArray }->IntsAre vs ns->ns.length<=n->s₁.gens=#[]->
   codeAny (model l.prog w) callerA (.call (.ref fa) ⟨[.ref a],[]⟩) (λr s'=>r=.ok (.ret (.bool true))/\OldK s₁.heap s'.heap/\s'.os=s₁.os/\AllBare s'.gens) s₁):WalkO q loose XP YP l.row.toRowW d [] (λf vs=>PySem.call f vs):=by
 intro w s₀ s₁ mg mb G Y fa o pm cd doc dV kV ho hd hcd hD hmg hg args vals as hpre hlay hrd hwl hlo;obtain rfl:dV=.none:=Dflts.none hD hdf;obtain rfl:kV=.none:=Dflts.noKw hD;obtain⟨a,vs,ns,rfl,rfl,hobj,hints,hlen⟩:=zfC hn hpre hwl;refine enter_call (pY (call w s₀ s₁ mg mb fa o pm cd doc a vs ns G Y ho (fd_plain hd) hcd hmg hobj hints hlen hg) λr s' hq=>?_);obtain⟨rfl,h2,h3,h4⟩:=hq;exact⟨.inl ⟨.bool true,.bool true,[],rfl,λ_=>rfl,.bool true,zfQ l _,λ_=>⟨List.Pairwise.nil,λ_ hm=>(nomatch hm)⟩⟩,h2,h3,h4⟩
end Att
namespace L2
open PySem PySem.Spec PyProof.Rows
theorem zae:∀{vs:LVl} {ns:List Int},IntsAre vs ns->Vals (ns.map V.int) vs
 |_,_,.nil=>.nil
 |_,_,.cons n t h=>.cons ⟨t,rfl⟩ (zae h)
def Only(H:Hp):Prop:=∀b,H b=none\/∃o xs,H b=some (.frz o (.lst xs))
def zhC{P:Program}{w:World}{K:FRx}{mg mb:Str->Option Value}{CX:CXT}{k:Nat}{fa a:AdX}{fd:FuncData}{x:Str}{sp:Sp}{s₁:ShX}{vs:LVl}{ns:List Int}(KX:K.In s₁.heap)(hns:s₁.heap.Ns mainGlobals mg)(hb:s₁.heap.Ns builtinsNs mb)(hbb:∀x:Str,x≠"__name__"->mb x=bootBuiltins x)(hlim:s₁.heap.NoLimit)(hg:s₁.gens=#[])(ha:s₁.heap.get? a=some { cls:=.type "list",data:=.seq vs.toArray })(hi:IntsAre vs ns)(hl:ns.length<=sizeLine)(hr:Room k callerA)(F:∀base:Heap,K.In base->base.Ns mainGlobals mg->wk P w K mg base CX k fa fd [x] sp)(hbind:∀(s:ShX)(u:Value),BindsTo s fd ⟨[u],[]⟩ [(x,u)])(hsp:∀H:Hp,Only H->SqL K H a (ns.map V.int)->sp [.ref a] H (λv _=>v=.bl true) λ_ _ _=>False)(hCX:∀H e s',CX [] H s₁ (λ_ _ _=>False) e s'->False):codeAny (model P w) callerA (.call (.ref fa) ⟨[.ref a],[]⟩) (λr s'=>r=.ok (.ret (.bool true))/\OldK s₁.heap s'.heap/\s'.os=s₁.os/\AllBare s'.gens) s₁:=by
 have rv:=zae hi;have lenV:=hi.length
 have core:∀H:Hp,Only H->SqL K H a (ns.map V.int)->HOk P w H s₁.heap->(∀b,H b≠none->b=a)->(H a≠none->K.lookup a=none)->
   codeAny (model P w) callerA (.call (.ref fa) ⟨[.ref a],[]⟩) (λr s'=>r=.ok (.ret (.bool true))/\OldK s₁.heap s'.heap/\s'.os=s₁.os/\AllBare s'.gens) s₁:=by
  intro H hO hS hok hA hK;have base_of:∀{b:AdX} {o:Obj},s₁.heap.get? b=some o->H b=none->(za3 s₁.heap H).get? b=some o:=λe n=>zh5 e n
  have noA:∀{b:AdX} {o:Obj} {es:Array DictEntry} {ep:Nat},s₁.heap.get? b=some o->o.data=.dict es ep->H b=none:=λ{b o es ep} e d=>by
   cases q:H b with
   |none=>rfl
   |some u=>
    have e':b=a:=hA b (by rw[q];simp);subst e';rw[ha] at e;cases e;have d':Data.seq vs.toArray _=Data.dict es ep:=d
    cases d'
  have nsK:∀{b:AdX} {m:Str->Option Value},s₁.heap.Ns b m->(za3 s₁.heap H).Ns b m:=λ{b m} ⟨o,es,ep,e,d,r⟩=>⟨o,es,ep,base_of e (noA e d),d,r⟩
  have hKb:K.In (za3 s₁.heap H):=λb o e=>base_of (KX b o e) (by
   cases q:H b with
   |none=>rfl
   |some u=>
    have e':b=a:=hA b (by rw[q];simp);subst e';rw[hK (by rw[q];simp)] at e;cases e)
  have hM:Mod K mg (za3 s₁.heap H):=⟨hKb,nsK hns,⟨mb,nsK hb,hbb⟩,let ⟨mc,h1,h2⟩:=hlim;⟨mc,nsK h1,h2⟩⟩;have e0:zd6 P w K mg (za3 s₁.heap H) callerA [] s₁ H:=⟨rfl,hM,λb o e=>zjO e,nv (zfs _ _),trivial,λb hb=>absurd (show b∈([]:LAd) from hb) (by simp),hok,.of_eq hg⟩
  refine pY ((F _ hKb (nsK hns)).run callerA [] s₁ H ⟨[.ref a],[]⟩ [.ref a] [.ref a] _ _ hr e0 (hbind s₁ (.ref a)) (.cons rfl .nil) (hsp H hO hS)) λr s' h=>?_
  cases r with
  |error e=>exact(hCX H e s' h).elim
  |ok fl=>
   cases fl with
   |next=>exact False.elim h
   |brk=>exact False.elim h
   |cont=>exact False.elim h
   |ret u=>
    have⟨v,H',os,bare,un,hok',r',q⟩:=h;have q':v=.bl true:=q;subst q';obtain rfl:u=Value.bool true:=r';refine⟨rfl,OldK.of_keep λb o e=>?_,os,bare⟩;cases q:H b with
    |none=>exact un.keep b o e q (by intro z;exact absurd (show b∈([]:LAd) from z) (by simp)) (by simp)
    |some u=>
     rcases hO b with z|⟨ob,xs,z⟩
     ·rw[q] at z;cases z
     ·have z2:=un.frzs b ob _ z;have⟨e1,_⟩:=hok b _ z
      have⟨e2,_⟩:=hok' b _ z2;rw[e] at e1;cases e1;exact e2
 cases hk:K.lookup a with
 |some o=>
  have e:=KX a o hk;rw[ha] at e;cases e;refine core (λ_=>none) (λ_=>.inl rfl) (.inr ⟨_,vs.toArray,_,hk,rfl,rfl,rfl,by rw[qD,lenV];exact hl,by simpa using rv⟩) (λb u z=>by have z':(none:Option HO)=some u:=z;cases z') (λb z=>absurd rfl z) λz=>absurd rfl z
 |none=>
  refine core (λb=>if b=a then some (.frz { cls:=.type "list",data:=.seq vs.toArray } (.lst (ns.map V.int))) else none) (λb=>?_) (.inl (.inr ⟨{ cls:=.type "list",data:=.seq vs.toArray },qf rfl⟩)) (λb u z=>?_) (λb z=>?_) λ_=>hk
  ·by_cases hb:b=a
   ·exact .inr ⟨_,_,qf hb⟩
   ·exact .inl (qq hb)
  ·by_cases hb:b=a
   ·have z':=(qf hb).symm.trans z;cases z';subst hb;exact⟨ha,by rw[qe];exact hl,vs,_,rv,ha⟩
   ·have z':=(qq hb).symm.trans z;cases z'
  ·by_cases hb:b=a
   ·exact hb
   ·exact absurd (qq hb) z
def zjV{l:W.OpenLaw}{n k:Nat}{q:Program}{loose:LSr}{XP:(Str->Option Value)->Heap->Prop}{YP:World->Heap->Prop}{d:DefRec}{K:Params->W.Frag}{CX:World->CXT}{sp:World->Sp}{x:Str}(hn:l.most=some n)(hn2:n<=sizeLine)(hdf:d.params.defaults=[])(hr:Room k callerA)(hY:∀(w:World)(h:Heap),YP w h->(K w.params).In h)(F:∀(w:World)(mg:Str->Option Value)(fa:AdX)(h:Heap),(K w.params).In h->h.Ns mainGlobals mg->mg d.name=some (.ref fa)->
   ∃fd:FuncData,(∀(s:ShX)(u:Value),BindsTo s fd ⟨[u],[]⟩ [(x,u)])/\
    ∀base:Heap,(K w.params).In base->base.Ns mainGlobals mg->wk l.prog w (K w.params) mg base (CX w) k fa fd [x] (sp w))(hsp:∀(w:World)(H:Hp)(a:AdX)(ns:List Int),ns.length<=n->Only H->SqL (K w.params) H a (ns.map V.int)->sp w [.ref a] H (λv _=>v=.bl true) λ_ _ _=>False)(hCX:∀(w:World)(H:Hp)(s:ShX)(e:Value)(s':ShX),CX w [] H s (λ_ _ _=>False) e s'->False):W.WalkO q loose XP YP l.row.toRowW d [] (λf vs=>PySem.call f vs):=by
 refine Att.zcR hn hdf λw s₀ s₁ mg mb fa o pm cd doc a vs ns G Y ho hd hcd hmg hobj hints hlen hg=>?_
 have KX:=hY w _ Y;have⟨fd,hb,hF⟩:=F w mg fa _ KX G.T.g hmg
 exact zhC KX G.T.g G.T.b G.T.builtins G.T.nolimit hg hobj hints (qw hlen hn2) hr hF hb (λH hO hS=>hsp w H a ns hlen hO hS) λH e s'=>hCX w H s₁ e s'
noncomputable def inClass(s:Stmt)(j:Nat):Stmt:=match s with
 | .ClassDef _ _ _ body _ _ _ _ _ _ _=>body.getD j (.Pass ⟨0,0,0,0⟩)
 |_=>.Pass ⟨0,0,0,0⟩
noncomputable def jl(s:Stmt):Arguments:=match s with
 | .FunctionDef _ a _ _ _ _ _ _ _ _=>a
 |_=>{ posonlyargs:=[],args:=[],vararg:=none,kwonlyargs:=[],kw_defaults:=[],kwarg:=none,defaults:=[] }
noncomputable def yV(s:Stmt):List Stmt:=match s with
 | .FunctionDef _ _ b _ _ _ _ _ _ _=>b
 |_=>[]
noncomputable def ze(s:Stmt):Scope:=match s with
 | .FunctionDef _ _ _ _ _ _ sc _ _ _=>sc
 |_=>{ kind:=.function,names:=[],isGenerator:=false,isCoroutine:=false }
abbrev CX0:CXT:=λ_ _ _ _ _ _=>False
abbrev E0:XK:=λ_ _ _=>False
def ur{X:Cx}:Passes CX0 X E0:=λ_ _ _ _ _ _ _ h=>h.elim
structure Fun(K:FRx)(x qual:Str)(st:Stmt)(f:AdX)(fd:FuncData):Prop where
 ex:∃(oc:Value) (od:Option Addr) (kV doc pm:Value) (an:Option Addr) (cdv ct:Value) (osl:Array (Option Value)),
  fd=W.fnOf x qual (jl st) (yV st) (ze st) .none kV doc pm an cdv ct/\K.lookup f=some ⟨oc,od,.func fd,osl⟩/\W.codeIn K cdv qual=true
 kp:W.keepIn K (.ref f)=true
section
variable{P:Program}{w:World}{K:FRx}{mg:Str->Option Value}{base:Heap}
def Fun.ok{x qual:Str}{st:Stmt}{f:AdX}{fd:FuncData}{N ps:LSr}{k:Nat}{sp:Sp}(F:Fun K x qual st f fd)(S:zD N ps (ze st))(len:∀vs H Q E,sp vs H Q E->vs.length=ps.length)(hbody:∀(cdv:Value)(A:Around)(outer:List Env)(s:ShX)(H:Hp)(vs:List V)(Q:VK)(E:XK),Room k (A.deeper (envOfC qual (ze st) s.heap.objs.size f cdv))->sp vs H Q E->
   ∃t,PSs (Vr CX0 P w K mg base N qual (ze st) f cdv A outer s H E).nox (yV st) t/\t { nx:=λ_ H'=>Q .non H',rt:=Q } (start N vs) H):wk P w K mg base CX0 (k+1) f fd ps sp:=by
 obtain⟨oc,od,kV,doc,pm,an,cdv,ct,osl,rfl,lk,hcd⟩:=F.ex;refine zmN lk hcd S len λA outer s H vs Q E hr hsp=>?_
 have⟨t,h,q⟩:=hbody cdv A outer s H vs Q E hr hsp;exact⟨t,h.nox,q⟩
def Fun.binds{x qual:Str}{st:Stmt}{f:AdX}{fd:FuncData}{ps:LSr}(F:Fun K x qual st f fd)(h:∀(kV doc pm:Value)(an:Option Addr)(cdv ct:Value)(us:LVl),us.length=ps.length->bindArgs (W.fnOf x qual (jl st) (yV st) (ze st) .none kV doc pm an cdv ct) ⟨us,[]⟩=pure (ps.zip us)):Binds K fd ps []:=by
 obtain⟨oc,od,kV,doc,pm,an,cdv,ct,osl,rfl,lk,hcd⟩:=F.ex;exact .all (h kV doc pm an cdv ct)
def zaO{x qual:Str}{st:Stmt}{f:AdX}{oc:Value}{od an:Option Addr}{osl:Array (Option Value)}{kV doc pm cdv ct:Value}(l:K.lookup f=some ⟨oc,od,.func (W.fnOf x qual (jl st) (yV st) (ze st) .none kV doc pm an cdv ct),osl⟩)(c:W.codeIn K cdv qual=true)(k:W.keepIn K (.ref f)=true):Fun K x qual st f (W.fnOf x qual (jl st) (yV st) (ze st) .none kV doc pm an cdv ct):=⟨⟨oc,od,kV,doc,pm,an,cdv,ct,osl,rfl,l,c⟩,k⟩
end
def Same(H H':Hp):Prop:=∀b o,H b=some o->H' b=some o
def Same.refl(H:Hp):Same H H:=λ_ _ h=>h
def Same.trans{H H1 H2:Hp}(a:Same H H1)(b:Same H1 H2):Same H H2:=λc o h=>b c o (a c o h)
def Same.free{H H':Hp}(e:Same H H'){l:AdX}(h:H' l=Option.none):H l=Option.none:=by
 cases q:H l with
 |none=>rfl
 |some o=>
  rw[e l o q] at h;cases h
def Same.seq{K:FRx}{H H':Hp}{a:AdX}{xs:List V}(e:Same H H')(h:SqL K H a xs):SqL K H' a xs:=by
 rcases h with(h|⟨o,h⟩)|h
 ·exact .inl (.inl (e _ _ h))
 ·exact .inl (.inr ⟨o,e _ _ h⟩)
 ·exact .inr h
end L2
set_option maxHeartbeats 4000000
namespace L2
open PySem PySem.Spec PyProof.Rows
mutual
inductive Rep(K:FRx)(H:Hp):V->PyData->Prop
 |non:Rep K H .non .none
 |bl (b:Bool):Rep K H (.bl b) (.bool b)
 |int (i:Int):Rep K H (.int i) (.int i)
 |str (x:Str):Rep K H (.str x) (.str x)
 |tup {a:AdX} {xs:List V} {ds:LPd}:SqT K H a xs->Reps K H xs ds->Rep K H (.ref a) (.tuple ds)
 |lst {a:AdX} {xs:List V} {ds:LPd}:SqL K H a xs->Reps K H xs ds->Rep K H (.ref a) (.list ds)
inductive Reps(K:FRx)(H:Hp):List V->List PyData->Prop
 |nil:Reps K H [] []
 |cons {v:V} {d:PdX} {vs:List V} {ds:LPd}:Rep K H v d->Reps K H vs ds->Reps K H (v::vs) (d::ds)
end
def Same.tup{K:FRx}{H H':Hp}{a:AdX}{xs:List V}(e:Same H H')(h:SqT K H a xs):SqT K H' a xs:=by
 rcases h with(h|⟨o,h⟩)|h
 ·exact .inl (.inl (e _ _ h))
 ·exact .inl (.inr ⟨o,e _ _ h⟩)
 ·exact .inr h
mutual
theorem Rep.same{K:FRx}{H H':Hp}(e:Same H H'):∀{v:V} {d:PdX},Rep K H v d->Rep K H' v d
 |_,_,.non=>.non
 |_,_,.bl b=>.bl b
 |_,_,.int i=>.int i
 |_,_,.str x=>.str x
 |_,_,.tup h r=>.tup (e.tup h) (Reps.same e r)
 |_,_,.lst h r=>.lst (e.seq h) (Reps.same e r)
theorem Reps.same{K:FRx}{H H':Hp}(e:Same H H'):∀{vs:List V} {ds:LPd},Reps K H vs ds->Reps K H' vs ds
 |_,_,.nil=>.nil
 |_,_,.cons h r=>.cons (Rep.same e h) (Reps.same e r)
end
theorem Reps.length{K:FRx}{H:Hp}:∀{vs:List V} {ds:LPd},Reps K H vs ds->vs.length=ds.length
 |_,_,.nil=>rfl
 |_,_,.cons _ r=>by simp[Reps.length r]
theorem Reps.getD{K:FRx}{H:Hp}:∀{vs:List V} {ds:LPd} {i:Nat} {d:PdX},Reps K H vs ds->ds[i]?=some d->∃v,vs[i]?=some v/\Rep K H v d
 |_,_,_,_,.nil,e=>by simp at e
 |_,_,0,_,.cons h _,e=>by simp at e;subst e;exact⟨_,rfl,h⟩
 |_,_,i+1,_,.cons _ r,e=>by
  obtain⟨d,h1,h2⟩:=Reps.getD (i:=i) r (by simpa using e);exact⟨d,by simpa using h1,h2⟩
theorem Reps.append{K:FRx}{H:Hp}:∀{vs ws:List V} {ds es:LPd},Reps K H vs ds->Reps K H ws es->Reps K H (vs++ws) (ds++es)
 |_,_,_,_,.nil,s=>s
 |_,_,_,_,.cons h r,s=>.cons h (Reps.append r s)
theorem Reps.take{K:FRx}{H:Hp}:∀{vs:List V} {ds:LPd} (n:Nat),Reps K H vs ds->Reps K H (vs.take n) (ds.take n)
 |_,_,0,_=>.nil
 |_,_,_+1,.nil=>.nil
 |_,_,n+1,.cons h r=>.cons h (Reps.take n r)
theorem Reps.drop{K:FRx}{H:Hp}:∀{vs:List V} {ds:LPd} (n:Nat),Reps K H vs ds->Reps K H (vs.drop n) (ds.drop n)
 |_,_,0,r=>r
 |_,_,_+1,.nil=>.nil
 |_,_,n+1,.cons _ r=>Reps.drop n r
theorem Reps.ints{K:FRx}{H:Hp}:∀ns:List Int,Reps K H (ns.map V.int) (ns.map PyData.int)
 |[]=>.nil
 |n::r=>.cons (.int n) (Reps.ints r)
section
variable{X:Cx}{pins:PNx}{σ:St}{H:Hp}{s:ShX}
mutual
theorem Inv.reads(I:Inv X pins σ H s):∀{v:V} {d:PdX} {u:Value},Rep X.K H v d->RelV v u->∃as,Reads s.heap u d as
 |_,_,_,.non,r=>by cases (show _=Value.none from r);exact⟨_,.none⟩
 |_,_,_,.bl b,r=>by cases (show _=Value.bool b from r);exact⟨_,.bool b⟩
 |_,_,_,.int i,r=>by obtain⟨t,rfl⟩:=r;exact⟨_,.int i t⟩
 |_,_,_,.str x,r=>by obtain⟨t,rfl⟩:=r;exact⟨_,.str x t⟩
 |_,_,_,.tup h q,r=>by
  cases (show _=Value.ref _ from r);have⟨its,rv,⟨o,ho,hc,n,hd⟩,_⟩:=I.tuple h;have⟨as,ra⟩:=Inv.readsAll I q rv;exact⟨as,.tuple ho hc hd ra⟩
 |_,_,_,.lst h q,r=>by
  cases (show _=Value.ref _ from r);have⟨its,rv,⟨o,n,ho,hc,_,hd⟩,_⟩:=I.list h;have⟨as,ra⟩:=Inv.readsAll I q rv;exact⟨_,.list ho hc hd ra⟩
theorem Inv.readsAll(I:Inv X pins σ H s):∀{vs:List V} {ds:LPd} {us:LVl},Reps X.K H vs ds->Vals vs us->∃as,ReadsAll s.heap us ds as
 |_,_,_,.nil,.nil=>⟨_,.nil⟩
 |_,_,_,.cons h q,.cons r1 r2=>by
  have⟨as,a⟩:=Inv.reads I h r1;have⟨bs,b⟩:=Inv.readsAll I q r2;exact⟨_,.cons a b⟩
end
end
section
variable{X:Cx}
def xc:OpR X (binaryOp .Mult) (rI IntMulOk λi j=>.int (i*j)):=opI λ_ _ _ _ _ _ _ hc q=>mul_int q hc
def zkq(_ j:Int):Prop:=j≠0/\j.natAbs.log2<9000
def yn:OpR X (binaryOp .FloorDiv) (rI zkq λi j=>.int (i.fdiv j)):=opI λ_ _ _ _ _ _ _ hc q=>floordiv_int hc.1 q (.inl (PyProof.noPylong_of_log2 hc.2))
def zml(K:FRx):R2:=λx y H Q=>∃d e,Rep K H x d/\Rep K H y e/\SeqAt.shaped d=true/\SeqAt.shaped e=true/\Q (.bl (PyData.eqv d e)) H
def zmf(K:FRx):R2:=λx y H Q=>∃d e,Rep K H x d/\Rep K H y e/\SeqAt.shaped d=true/\SeqAt.shaped e=true/\Q (.bl (!PyData.eqv d e)) H
def xv(hu:X.A.units+64<cLine):OpR X (compareOp .Eq) (zml X.K):=by
 intro pins s σ H x y v u Q I rx ry h;have⟨d,e,hd,he,sd,se,q⟩:=h;have⟨as,ra⟩:=I.reads hd rx;have⟨bs,rb⟩:=I.reads he ry;exact eq_dataH ra rb sd se hu ⟨.bl _,H,I,rfl,q⟩
def wa(hu:X.A.units+64<cLine):OpR X (compareOp .NotEq) (zmf X.K):=by
 intro pins s σ H x y v u Q I rx ry h;have⟨d,e,hd,he,sd,se,q⟩:=h;have⟨as,ra⟩:=I.reads hd rx;have⟨bs,rb⟩:=I.reads he ry;exact ne_dataH ra rb sd se hu ⟨.bl _,H,I,rfl,q⟩
inductive IsI(K:FRx)(H:Hp):V->String->Bool->Prop
 |int_int (i:Int):IsI K H (.int i) "int" true
 |int_bool (i:Int):IsI K H (.int i) "bool" false
 |int_tup (i:Int):IsI K H (.int i) "tuple" false
 |bl_int (b:Bool):IsI K H (.bl b) "int" true
 |bl_bool (b:Bool):IsI K H (.bl b) "bool" true
 |tup_tup {a:AdX} {xs:List V}:SqT K H a xs->IsI K H (.ref a) "tuple" true
 |tup_lst {a:AdX} {xs:List V}:SqT K H a xs->IsI K H (.ref a) "list" false
 |tup_int {a:AdX} {xs:List V}:SqT K H a xs->IsI K H (.ref a) "int" false
 |lst_lst {a:AdX} {xs:List V}:SqL K H a xs->IsI K H (.ref a) "list" true
 |lst_tup {a:AdX} {xs:List V}:SqL K H a xs->IsI K H (.ref a) "tuple" false
 |lst_int {a:AdX} {xs:List V}:SqL K H a xs->IsI K H (.ref a) "int" false
def znd(K:FRx):List V->Hp->VK->Prop:=λxs H Q=>∃x T b,xs=[x,.ty T]/\IsI K H x T b/\Q (.bl b) H
def zgK:vh X (.builtin "isinstance") (znd X.K):=by
 intro pins s σ H xs us Q I r h;obtain⟨x,T,b,rfl,hi,q⟩:=h;obtain⟨u,w',rfl,rx,rT⟩:=vals2 r;cases (show w'=Value.type T from rT);have fin:∀tk,EP X pins σ Q (.bool b) { s with toks:=tk }:=λtk=>⟨.bl b,H,I.tok tk,rfl,q⟩
 have fin0:EP X pins σ Q (.bool b) s:=⟨.bl b,H,I,rfl,q⟩;cases hi with
 |int_int i=>obtain⟨t,rfl⟩:=rx;exact IsiPair.int_int fin0
 |int_bool i=>obtain⟨t,rfl⟩:=rx;exact IsiPair.int_bool (fin _)
 |int_tup i=>obtain⟨t,rfl⟩:=rx;exact IsiPair.int_tuple (fin _)
 |bl_int i=>cases (show u=Value.bool i from rx);exact IsiPair.bool_int fin0
 |bl_bool i=>cases (show u=Value.bool i from rx);exact IsiPair.bool_bool fin0
 |tup_tup h=>cases (show u=Value.ref _ from rx);have⟨its,rv,⟨o,ho,hc,n,hd⟩,_⟩:=I.tuple h;exact IsiPair.tuple_tuple ho hc fin0
 |tup_lst h=>cases (show u=Value.ref _ from rx);have⟨its,rv,⟨o,ho,hc,n,hd⟩,_⟩:=I.tuple h;exact IsiPair.tuple_list ho hc (fin _)
 |tup_int h=>cases (show u=Value.ref _ from rx);have⟨its,rv,⟨o,ho,hc,n,hd⟩,_⟩:=I.tuple h;exact IsiPair.tuple_int ho hc (fin _)
 |lst_lst h=>cases (show u=Value.ref _ from rx);have⟨its,rv,⟨o,n,ho,hc,_,hd⟩,_⟩:=I.list h;exact IsiPair.list_list ho hc fin0
 |lst_tup h=>cases (show u=Value.ref _ from rx);have⟨its,rv,⟨o,n,ho,hc,_,hd⟩,_⟩:=I.list h;exact IsiPair.list_tuple ho hc (fin _)
 |lst_int h=>cases (show u=Value.ref _ from rx);have⟨its,rv,⟨o,n,ho,hc,_,hd⟩,_⟩:=I.list h;exact IsiPair.list_int ho hc (fin _)
end
def yx:bootBuiltins "len"=some (.builtin "len"):=by decide+kernel
def zhj:bootBuiltins "abs"=some (.builtin "abs"):=by decide+kernel
def zk4:bootBuiltins "sum"=some (.builtin "sum"):=by decide+kernel
def ZH:bootBuiltins "isinstance"=some (.builtin "isinstance"):=by decide+kernel
def zin:bootBuiltins "bool"=some (.type "bool"):=by decide+kernel
def yA:bootBuiltins "tuple"=some (.type "tuple"):=by decide+kernel
def vc:bootBuiltins "list"=some (.type "list"):=by decide+kernel
def NoB(mg:Str->Option Value)(l:LSr):Prop:=∀x∈l,mg x=none
def nbg{mg:Str->Option Value}{bs:LSr}{x:Str}(h:NoB mg bs)(m:x∈bs:=by decide):mg x=none:=h x m
def HasDef(K:FRx)(mg:Str->Option Value)(x:Str)(st:Stmt):Prop:=∃f fd,Fun K x x st f fd/\mg x=some (.ref f)
def Def(P:Program)(w:World)(K:FRx)(mg:Str->Option Value)(base:Heap)(CX:CXT)(k:Nat)(x:Str)(ps:LSr)(sp:Sp):Prop:=∃f fd,wk P w K mg base CX k f fd ps sp/\Binds K fd ps []/\W.keepIn K (.ref f)=true/\mg x=some (.ref f)
section
variable{P:Program}{w:World}{K:FRx}{mg:Str->Option Value}{base:Heap}
def Def.mk{x:Str}{st:Stmt}{N ps:LSr}{k:Nat}{sp:Sp}(h:HasDef K mg x st)(S:zD N ps (ze st))(hb:∀(kV doc pm:Value)(an:Option Addr)(cdv ct:Value)(us:LVl),us.length=ps.length->bindArgs (W.fnOf x x (jl st) (yV st) (ze st) .none kV doc pm an cdv ct) ⟨us,[]⟩=pure (ps.zip us))(len:∀vs H Q E,sp vs H Q E->vs.length=ps.length)(hbody:∀(f:AdX)(cdv:Value)(A:Around)(outer:List Env)(s:ShX)(H:Hp)(vs:List V)(Q:VK)(E:XK),Room k (A.deeper (envOfC x (ze st) s.heap.objs.size f cdv))->sp vs H Q E->
   ∃t,PSs (Vr CX0 P w K mg base N x (ze st) f cdv A outer s H E).nox (yV st) t/\t { nx:=λ_ H'=>Q .non H',rt:=Q } (start N vs) H):Def P w K mg base CX0 (k+1) x ps sp:=by
 have⟨f,fd,F,hm⟩:=h;exact⟨f,fd,F.ok S len (λcdv A outer s H vs Q E hr hs=>hbody f cdv A outer s H vs Q E hr hs),F.binds hb,F.kp,hm⟩
end
section
variable{X:Cx}{CX:CXT}{E:XK}{k k':Nat}{x:Str}{ps:LSr}{sp:Sp}{p pos:Pos}{e:Expr}{es:List Expr}{t:TA}
def VF(D:Def X.prog X.w X.K X.mg X.base CX k x ps sp)(hr:Room k' X.A)(hg:Gl X x)(hx:Passes CX X E)(ha:PA X (e::es) t)(hk:k<=k':=by decide)(hdb:NDx x:=by decide)(he:SEx X e es:=by rfl)(hpl:PLx X pos es:=by rfl):PE X (.Call (.Name x p) (e::es) [] pos) (zka sp [] E t):=by
 have⟨f,fd,F,B,kp,m⟩:=D;exact zi3 F (hr.mono hk) hg m kp B .nil hx ha hdb he hpl
end
def yg{H:Hp}{p:AdX}(h:H p=none)(o:HO):Same H (upd H p o):=λb u q=>by rw[zN (jJ q h)];exact q
theorem Yy{env:Env}:∀(l:List (Str×NameKind)) (cs:LSA),(∀x∈l,x.2=.free->∃c,env.cells.lookup x.1=some c)->
  ∃cl,(forIn l cs λ(x:Str×NameKind) (cs:LSA)=>if (x.2==NameKind.free)=true then (do let c <-cellOf env x.1;pure (ForInStep.yield ((x.1,c)::cs)):Sem (ForInStep (List (Str×Addr)))) else pure (ForInStep.yield cs))=(pure cl:Sem (List (Str×Addr)))
   /\(∀p∈cl,p∈cs\/env.cells.lookup p.1=some p.2)/\(∀p∈cs,p∈cl)/\∀n,(n,NameKind.free)∈l->∃c,(n,c)∈cl
 |[],cs,_=>⟨cs,rfl,λp hp=>.inl hp,λp hp=>hp,λn hn=>absurd hn (by simp)⟩
 |(n,k)::r,cs,h=>by
  by_cases hk:k=.free
  ·subst hk;obtain⟨c,hc⟩:=h (n,.free) qZ rfl;obtain⟨cl,e,h1,h2,h3⟩:=Yy r ((n,c)::cs) λx hx=>h x (qz _ hx)
   have ec:cellOf env n=pure c:=by
    unfold cellOf;rw[hc]
   refine⟨cl,?_,λp hp=>?_,λp hp=>h2 p (qz _ hp),λm hm=>?_⟩
   ·rw[mQ];show((do let c <-cellOf env n;pure (ForInStep.yield ((n,c)::cs)):Sem (ForInStep (List (Str×Addr)))) >>= _)=_
    rw[ec,pure_bind,pure_bind];exact e
   ·rcases h1 p hp with z|z
    ·rcases qu.mp z with z|z
     ·subst z;exact .inr hc
     ·exact .inl z
    ·exact .inr z
   ·rcases qu.mp hm with z|z
    ·cases z;exact⟨c,h2 _ qZ⟩
    ·exact h3 m z
  ·obtain⟨cl,e,h1,h2,h3⟩:=Yy r cs λx hx=>h x (qz _ hx)
   have hb:(k==NameKind.free)=false:=by simpa using hk
   refine⟨cl,?_,h1,h2,λm hm=>?_⟩
   ·rw[mQ];show((if (k==NameKind.free)=true then _ else pure (ForInStep.yield cs):Sem (ForInStep (List (Str×Addr)))) >>= _)=_
    rw[hb,qq qF,pure_bind];exact e
   ·rcases qu.mp hm with z|z
    ·cases z;exact absurd rfl hk
    ·exact h3 m z
structure Ug(scope:Scope)(env:Env)(cl:LSA):Prop where
 from_:∀p∈cl,env.cells.lookup p.1=some p.2
 all:∀n,(n,NameKind.free)∈scope.names->∃c,(n,c)∈cl
def Ja{scope:Scope}{env:Env}(h:∀x∈scope.names,x.2=.free->∃c,env.cells.lookup x.1=some c):∃cl,closureFor scope env=pure cl/\Ug scope env cl:=by
 obtain⟨cl,e,h1,_,h3⟩:=Yy (env:=env) scope.names [] h;refine⟨cl,?_,λp hp=>(h1 p hp).resolve_left (by simp),h3⟩;have e2:closureFor scope env=(forIn scope.names [] λ(x:Str×NameKind) (cs:LSA)=>if (x.2==NameKind.free)=true then (do let c <-cellOf env x.1;pure (ForInStep.yield ((x.1,c)::cs)):Sem (ForInStep (List (Str×Addr)))) else pure (ForInStep.yield cs)) >>= pure:=by rfl
 rw[e2,e];exact pure_bind _ _
def ZJ{cl:LSA}{n:Str}{c:AdX}(h:(n,c)∈cl):∃c',cl.lookup n=some c':=by
 induction cl with
 |nil=>cases h
 |cons p r ih=>
  have⟨m,d⟩:=p;rw[kj];by_cases e:n=m
  ·subst e;exact⟨d,by simp⟩
  ·have hb:(n==m)=false:=by simpa using e
   rw[hb];rcases qu.mp h with z|z
   ·cases z;exact absurd rfl e
   ·exact ih z
def Ug.look{scope:Scope}{env:Env}{cl:LSA}(k:Ug scope env cl){x:Str}{c:AdX}(h:cl.lookup x=some c):env.cells.lookup x=some c:=k.from_ _ (kG h)
def Ug.has{scope:Scope}{env:Env}{cl:LSA}(k:Ug scope env cl){x:Str}(h:(x,NameKind.free)∈scope.names):∃c,cl.lookup x=some c/\env.cells.lookup x=some c:=by
 have⟨c,hc⟩:=k.all x h;have⟨c',e⟩:=ZJ hc;exact⟨c',e,k.look e⟩
def U5{scope:Scope}{env:Env}{x:Str}:∀{k:NameKind},(relabel scope env).names.lookup x=some k->scope.names.lookup x=some k\/(k=.cell/\scope.names.lookup x=some .free):=by
 unfold relabel;dsimp only;generalize scope.names=l;induction l with
 |nil=>intro k h;cases h
 |cons p r ih=>
  intro k h;have⟨n,j⟩:=p;rw[gr,kj] at h;rw[kj];by_cases hc:(j==NameKind.free&&env.scope.kind==ScopeKind.function&&env.kindOf n==some NameKind.cell)=true
  ·rw[qf hc] at h;dsimp only at h;cases e:x==n with
   |true=>
    rw[e] at h;dsimp only at h;cases h;have hj:j=.free:=by
     simp only [hV,beq_iff_eq] at hc;exact hc.1.1
    subst hj;exact .inr ⟨rfl,rfl⟩
   |false=>
    rw[e] at h;exact ih h
  ·rw[qq hc] at h;dsimp only at h;cases e:x==n with
   |true=>
    rw[e] at h;exact .inl h
   |false=>
    rw[e] at h;exact ih h
def zaN{scope:Scope}{env:Env}{x:Str}(h:scope.names.lookup x=some .free):(relabel scope env).names.lookup x=some .cell\/(relabel scope env).names.lookup x=some .free:=by
 revert h
 unfold relabel;dsimp only;generalize scope.names=l;induction l with
 |nil=>intro h;cases h
 |cons p r ih=>
  intro h;have⟨n,j⟩:=p;rw[kj] at h;rw[gr,kj];by_cases hc:(j==NameKind.free&&env.scope.kind==ScopeKind.function&&env.kindOf n==some NameKind.cell)=true
  ·rw[qf hc];dsimp only;cases e:x==n with
   |true=>exact .inl rfl
   |false=>rw[e] at h;exact ih h
  ·rw[qq hc];dsimp only;cases e:x==n with
   |true=>rw[e] at h;exact .inr h
   |false=>rw[e] at h;exact ih h
noncomputable def zdG(o:Option Str)(C:AdX):List (Str×Addr):=match o with |some x=>[(x,C+1)]|none=>[]
def jF(X:Cx)(o:Option Str)(N:LSr)(scope:Scope)(cl:LSA)(C:AdX)(ex:LAd)(s:ShX)(H:Hp):Cx:={ X with N:=N,s₀:=s,H₀:=H,env:=compEnvC scope (zdG o C++cl) C X.env,outer:=X.stack,ex:=ex,fn:=λy=>o==some y,pn:=[],xe:=λ_ _=>False }
abbrev zV(X:Cx)(N:LSr)(scope:Scope)(cl:LSA)(C:AdX)(ex:LAd)(s:ShX)(H:Hp):Cx:=jF X none N scope cl C ex s H
structure jI(X:Cx)(scope:Scope)(o:Option Str):Prop where
 kind:scope.kind=.function
 is:∀x,o=some x->scope.names.lookup x=some .cell
 only:∀y∈scope.names,y.2=.cell->o=some y.1
 cf:∀(n:Nat)(acc:LSA),cellsFrom (n+1) scope.names acc=zdG o n++acc
 pc:∀h:Heap,pushCells h scope.names=match o with |some _=>h.push { cls:=.type "cell",data:=.cell none }|none=>h
 loc:∀y∈scope.names,y.2=.local->scope.names.lookup y.1=some .local
 free:∀y∈scope.names,y.2=.free->X.env.kindOf y.1=some .cell\/X.env.kindOf y.1=some .free
structure yb(X:Cx)(scope:Scope):Prop where
 kind:scope.kind=.function
 nocell:∀y∈scope.names,y.2≠ .cell
 loc:∀y∈scope.names,y.2=.local->scope.names.lookup y.1=some .local
 free:∀y∈scope.names,y.2=.free->X.env.kindOf y.1=some .cell\/X.env.kindOf y.1=some .free
theorem nocells:∀names:List (Str×NameKind),(∀y∈names,y.2≠ .cell)->(∀n acc,cellsFrom n names acc=acc)/\∀h,pushCells h names=h
 |[],_=>⟨λ_ _=>rfl,λ_=>rfl⟩
 |(x,k)::r,h=>by
  have hk:¬(k==NameKind.cell)=true:=λe=>h _ (.head _) (gL.mp e)
  obtain⟨h1,h2⟩:=nocells r λy hy=>h y (.tail _ hy)
  refine⟨λn acc=>?_,λhh=>?_⟩
  ·unfold cellsFrom;rw[qq hk];exact h1 n acc
  ·unfold pushCells;rw[qq hk];exact h2 hh
def yb.o{X:Cx}{scope:Scope}(S:yb X scope):jI X scope none:=⟨S.kind,λx h=>(by cases h),λy hy h=>absurd h (S.nocell y hy),λn acc=>(nocells _ S.nocell).1 (n+1) acc,λh=>(nocells _ S.nocell).2 h,S.loc,S.free⟩
def ua{o:Option Str}{C c:AdX}{cl:LSA}{y:Str}(h:(zdG o C++cl).lookup y=some c):(o=some y/\C+1=c)\/(o≠some y/\cl.lookup y=some c):=by
 cases o with
 |none=>exact .inr ⟨by simp,h⟩
 |some x=>
  have h:((x,C+1)::cl).lookup y=some c:=h;rw[kj] at h;cases e:y==x with
  |true=>rw[e] at h;cases h;exact .inl ⟨by rw[gL.mp e],rfl⟩
  |false=>rw[e] at h;exact .inr ⟨λz=>beq_eq_false_iff_ne.mp e (qX z).symm,h⟩
def zgN{o:Option Str}{C:AdX}{cl:LSA}{y:Str}(h:¬o=some y):(zdG o C++cl).lookup y=cl.lookup y:=by
 cases o with
 |none=>rfl
 |some x=>
  show((x,C+1)::cl).lookup y=_
  rw[kj,kK.mpr λz=>h (by rw[z])]
def zlb{o:Option Str}{C:AdX}{cl:LSA}{y:Str}(h:o=some y):(zdG o C++cl).lookup y=some (C+1):=by
 subst h;show((y,C+1)::cl).lookup y=_
 rw[kj,beq_self_eq_true]
noncomputable def Uy(T:Nat)(F:LNt)(σ:St):St:=List.replicate T none++F.map λj=>(σ[j]?).join
section
variable{X:Cx}{o:Option Str}{pins:PNx}{σ:St}{H:Hp}{s:ShX}
def Ws(I:Inv X pins σ H s){scope:Scope}(S:jI X scope o):∀x∈scope.names,x.2=.free->∃c,X.env.cells.lookup x.1=some c:=λx hx hf=>I.ok.has x.1 (S.free x hx hf)
def UG(I:Inv X pins σ H s){scope:Scope}(S:yb X scope):∀x∈scope.names,x.2=.free->∃c,X.env.cells.lookup x.1=some c:=Ws I S.o
def zgo(I:Inv X pins σ H s){scope:Scope}(S:jI X scope o){cl:LSA}(k:Ug scope X.env cl){N:LSr}{C:AdX}{ex:LAd}(hC:s.heap.objs.size<=C)(hex:∀b∈ex,uC X pins H b)(hexo:∀b∈ex,∃o,s.heap.get? b=some o):(jF X o N scope cl C ex s H).Ok where
 mod:=I.ok.mod
 kind:=S.kind
 glob:=I.ok.glob
 blt:=I.ok.blt
 above:=hC
 inj:=λx y c h1 h2=>by
  have lt:∀z,cl.lookup z=some (C+1)->False:=λz hz=>by
   obtain⟨v,o,e,_⟩:=I.cell z _ (k.look hz);exact kW C (Nat.lt_trans (kI C) (qY (qK e) hC))
  rcases ua h1 with⟨e1,z1⟩|⟨_,z1⟩<;>rcases ua h2 with⟨e2,z2⟩|⟨_,z2⟩
  ·rw[e1] at e2;exact qX e2
  ·rw[<-z1] at z2;exact(lt y z2).elim
  ·rw[<-z2] at z1;exact(lt x z1).elim
  ·exact I.ok.inj x y c (k.look z1) (k.look z2)
 has:=λx hx=>by
  have hx':(relabel scope X.env).names.lookup x=some .cell\/(relabel scope X.env).names.lookup x=some .free:=hx;by_cases hxx:o=some x
  ·exact⟨C+1,zlb hxx⟩
  ·have hf:(x,NameKind.free)∈scope.names:=by
    rcases hx' with h|h
    ·rcases U5 h with h|⟨_,h⟩
     ·exact absurd (S.only _ (kG h) rfl) hxx
     ·exact kG h
    ·rcases U5 h with h|⟨h0,_⟩
     ·exact kG h
     ·cases h0
   have⟨c,e,_⟩:=k.has hf;exact⟨c,(zgN hxx).trans e⟩
 cab:=λx c h hc=>by
  have hx:o=some x:=gL.mp (show(o==some x)=true from h);rcases ua hc with⟨_,z⟩|⟨z,_⟩
  ·rw[<-z];exact Nat.le_succ_of_le hC
  ·exact absurd hx z
 hd:=I.ok.hd
 frames:=I.ok.frames
 stk:=.inl rfl
 exf:=λb hb=>by
  have⟨o,e⟩:=hexo b hb;have hlt:=qK e;refine⟨λz=>?_,λx c e' z=>?_⟩
  ·have e2:b=C:=z;rw[e2] at hlt;exact kW C (qY hlt hC)
  ·rcases ua e' with⟨_,q⟩|⟨_,q⟩
   ·have e2:C+1=b:=q.trans z;rw[<-e2] at hlt;exact kW C (Nat.lt_trans (kI C) (qY hlt hC))
   ·exact(hex b hb).2.2.2.2.1 x c (k.look q) z
 bs:=I.bs
 bsz:=qw I.ok.bsz I.sz
 noex:=λb o e hb=>by
  rcases(hex b hb).2.2.2.1 with z|z
  ·exact I.ok.noex b o e z
  ·exact kW _ (qY (qK e) (qw I.ok.bsz z))
 exfs:=λb hb z=>by
  rcases qu.mp (I.zdk b z) with z|z
  ·exact(hex b hb).2.1 z
  ·exact(hex b hb).2.2.1 z
 funs:=I.stack
 frf:=I.zfe
def Wn(I:Inv X pins σ H s){scope:Scope}(S:jI X scope o){cl:LSA}(k:Ug scope X.env cl){Ts:LSr}{F:LNt}{ex:LAd}{h':Heap}{tk:Nat}(hex:∀b∈ex,uC X pins H b)(hexo:∀b∈ex,∃o,s.heap.get? b=some o)(hF:∀j∈F,∃x,X.N[j]?=some x/\scope.names.lookup x=some .free)(hns:h'.Ns s.heap.objs.size (λ_=>none))(hk:∀b o,s.heap.get? b=some o->h'.get? b=some o)(hcl:∀x,o=some x->h'.IsCell (s.heap.objs.size+1) none):Inv (jF X o (Ts++F.map λj=>X.N.getD j "") scope cl s.heap.objs.size ex s H) [] (Uy Ts.length F σ) H { s with heap:=h',toks:=tk }:=by
 refine⟨zgo I S k (qr _) hex hexo,rfl,I.bare,Un.kept hk,⟨_,hns,λi x v h1 h2 h3=>?_⟩,λx c h=>?_,I.hok.fresh (qr _),λx c h=>(by
   rcases ua h with⟨_,z⟩|⟨_,z⟩
   ·rw[<-z];exact I.hok.fresh (nM _)
   ·exact I.freeC x c (k.look z)),λp hp=>absurd (show p∈([]:PNx) from hp) (by simp),I.hok.kept hk,?_⟩
 ·have h1':(Ts++F.map λj=>X.N.getD j "")[i]?=some x:=h1;unfold Uy at h2;have hi:Ts.length<=i:=by
   by_cases z:Ts.length<=i
   ·exact z
   ·rw[qJ (by simpa using Nat.lt_of_not_le z),kh] at h2;split at h2<;>cases h2
  rw[qx (by simpa using hi),gC,qo] at h2;rw[qx hi,qo] at h1';cases ej:F[i - Ts.length]? with
  |none=>rw[ej] at h2;cases h2
  |some j=>
   rw[ej] at h2 h1';obtain⟨y,hy,hf⟩:=hF j (qP ej);have ex:x=y:=by
    have e1:X.N.getD j ""=x:=qX h1';rw[kv,hy] at e1;exact e1.symm
   subst ex;have hs:σ[j]?=some (some v):=by
    have h2':(σ[j]?).join=some v:=qX h2;cases e:σ[j]? with
    |none=>rw[e] at h2';cases h2'
    |some o=>rw[e] at h2';exact qM some h2'
   have hkf:=S.free _ (kG hf) rfl;have⟨m,hn,hl⟩:=I.loc
   have hv:Vis X.env.scope x:=.inr hkf;have⟨u,r,l⟩:=hl j x v hy hs hv
   refine⟨u,r,.inr ⟨zaN hf,?_⟩⟩;rcases l with⟨hl',_⟩|⟨_,c,hc,⟨o,ho,hd⟩⟩
   ·rcases hkf with z|z<;>(rw[z] at hl';cases hl')
   ·obtain⟨c',e1,e2⟩:=k.has (kG hf);rw[hc] at e2;cases e2;exact⟨c,(zgN (λq=>by rw[S.is _ q] at hf;cases hf)).trans e1,⟨o,hk _ _ ho,hd⟩⟩
 ·rcases ua h with⟨z0,z⟩|⟨_,z⟩
  ·rw[<-z];exact⟨none,hcl x z0⟩
  ·obtain⟨v,o,ho,hd⟩:=I.cell x c (k.look z);exact⟨v,o,hk _ _ ho,hd⟩
 ·show(Uy Ts.length F σ).length=(Ts++F.map λj=>X.N.getD j "").length
  simp[Uy]
def zdI(I:Inv X pins σ H s){scope:Scope}(S:yb X scope){cl:LSA}(k:Ug scope X.env cl){Ts:LSr}{F:LNt}{ex:LAd}{h':Heap}{tk:Nat}(hex:∀b∈ex,uC X pins H b)(hexo:∀b∈ex,∃o,s.heap.get? b=some o)(hF:∀j∈F,∃x,X.N[j]?=some x/\scope.names.lookup x=some .free)(hns:h'.Ns s.heap.objs.size (λ_=>none))(hk:∀b o,s.heap.get? b=some o->h'.get? b=some o):Inv (zV X (Ts++F.map λj=>X.N.getD j "") scope cl s.heap.objs.size ex s H) [] (Uy Ts.length F σ) H { s with heap:=h',toks:=tk }:=Wn I S.o k hex hexo hF hns hk λx h=>(by cases h)
end
theorem Ju{prog:Program}{w:World}{A:Around}{R:Result->Shared->Prop}{s:ShX}{elt target iter:Expr}{scope:Scope}{pos:Pos}{it acc:Value}{env:Env}(I:Nat->Shared->Prop)(turn:∀n s,I n s->wpAny (model prog w) A (pyNext it) (λr s₁=>match r with
   |none=>R (.ok .next) s₁
   |some v=>wpAny (model prog w) A (letOwnedTupleGo target it v) (λ_ s₂=>wpAny (model prog w) A (assign target env v) (λ_ s₃=>wpAny (model prog w) A (eval elt env) (λx s₄=>
     wpAny (model prog w) A (call (.builtin "list.append") [acc,x]) (λ_ s₅=>∃m,m<n/\I m s₅) (λ_ _=>False) s₄) (λ_ _=>False) s₃) (λ_ _=>False) s₂) (λ_ _=>False) s₁) (λ_ _=>False) s)(n:Nat)(h:I n s):codeAny (model prog w) A (.compLoop (.ListComp elt [⟨target,iter,[],0⟩] scope pos) 0 it acc env) R s:=by
 refine codeAny_loop rfl I (λn s hI=>?_) n h;show wpAny _ _ ((compTurn (.ListComp elt [⟨target,iter,[],0⟩] scope pos) 0 it acc env).onRaise (λx=>do noteFrame x env;theTreesLotGoes x)) _ _ s
 refine wpAny_noted ?_;rw[compTurn_list1];refine qt (nH (qt (k9 (turn n s hI) (λr s₁ h₁=>?_) λ_ _ h'=>h'.elim)));cases r with
 |none=>exact qT h₁
 |some v=>
  refine qt (k9 h₁ (λ_ s₂ h₂=>?_) λ_ _ h'=>h'.elim);exact qt (k9 h₂ (λ_ s₃ h₃=>qt (qt (k9 h₃ (λx s₄ h₄=>qt (k9 h₄
   (λ_ s₅ h₅=>qT (qT ⟨rfl,h₅⟩)) λ_ _ h'=>h'.elim)) λ_ _ h'=>h'.elim))) λ_ _ h'=>h'.elim)
def zen(T:Nat)(F:LNt)(g:TG)(te:TE)(k:Addr->Hp->Prop)(σ:St)(H1:Hp)(D:AdX)(J:It):Prop:=∃W:Nat->Nat->St->Hp->Prop,(∃m,W 0 m (Uy T F σ) (upd H1 D (.lst [])))/\∀i m σ' H',W i m σ' H'->
  (J.stop i H'/\k D H')\/(J.go i H'/\∃N:St->Hp->Prop,(∀σ2 H2,N σ2 H2->∃m',m'<m/\W (i+1) m' σ2 H2)/\
   ∀x H2,J.yld i H' x H2->g x σ' H2 λσ2 H3=>te σ2 H3 λv H4=>∃xs,H4 D=some (.lst xs)/\xs.length<sizeLine/\N σ2 (upd H4 D (.lst (xs++[v]))))
def zdM(T:Nat)(F:LNt)(wi:TI)(g:TG)(te:TE)(k:Addr->Hp->Prop):St->Hp->Prop:=λσ H=>wi σ H λJ H1=>∀D,H1 D=none->zen T F g te k σ H1 D J
def zkd(T:Nat)(F:LNt)(wi:TI)(g:TG)(te:TE):TE:=λσ H Q=>zdM T F wi g te (λD H'=>Q (.ref D) H') σ H
def Zp{X:Cx}{M:Model}{A:Around}{E:VSx}{s:ShX}{scope:Scope}{o:Option Str}{globals:AdX}{cl:LSA}{qual:Str}{env:Env}{Q:Env->Shared->Prop}(S:jI X scope o)(hQ:∀h',h'.Ns s.heap.objs.size (λ_=>none)->(∀b o,s.heap.get? b=some o->h'.get? b=some o)->(∀x,o=some x->h'.IsCell (s.heap.objs.size+1) none)->Q (newEnv scope s.heap.objs.size globals (zdG o s.heap.objs.size++cl) qual none .none (some env) builtinsNs) { s with heap:=h',toks:=s.toks }):wpAny M A (newFunctionEnv scope globals cl [] qual none .none (some env)) Q E s:=by
 simp only [newFunctionEnv,Option.isSome_some,pC];refine qt (wpAny_alloc ?_);refine qt (wpAny_layCells _ (λname kind cells=>by cases hkc:kind==NameKind.cell<;>simp[hkc]) _ _ _ _ ?_);rw[show({ s with heap:=s.heap.push { cls:=.type "dict",data:=.dict #[] } }:ShX).heap.objs.size=s.heap.objs.size+1 from gc ..,S.cf,S.pc,nQ];refine qt (qT (qT (hQ _ ?_ ?_ ?_)))
 ·cases o with
  |none=>exact Heap.Ns.new s.heap (.type "dict")
  |some x=>exact(Heap.Ns.new s.heap (.type "dict")).keeps λb o e=>qj _ e
 ·cases o with
  |none=>exact λb o e=>qj _ e
  |some x=>exact λb o e=>qj _ (qj _ e)
 ·intro x ho;subst ho;have e:((s.heap.push { cls:=.type "dict",data:=.dict #[] }).push { cls:=.type "cell",data:=.cell none }).get? (s.heap.push { cls:=.type "dict",data:=.dict #[] }).objs.size=some { cls:=.type "cell",data:=.cell none }:=qH _ rfl;rw[gc] at e;exact⟨_,e,rfl⟩
section
variable{X:Cx}{o:Option Str}{elt tg iter:Expr}{scope:Scope}{pos:Pos}{Ts:LSr}{F:LNt}{wi:TI}{g:TG}{te:TE}
def ZV{cl:LSA}{use:Option (Value->Sem Unit)}{Q:VSx}{pins:PNx}{s:ShX}{σ:St}{H:Hp}{k:Addr->Hp->Prop}(hc:X.calm=true)(hi:PI X tg iter wi)(S:jI X scope o)(hF:∀j∈F,∃x,X.N[j]?=some x/\scope.names.lookup x=some .free)(hg:∀cl C ex s H,PG (jF X o (Ts++F.map λj=>X.N.getD j "") scope cl C ex s H) tg g)(he:∀cl C ex s H,PE (jF X o (Ts++F.map λj=>X.N.getD j "") scope cl C ex s H) elt te)(ko:Ug scope X.env cl)(I:Inv X pins σ H s)(h:zdM Ts.length F wi g te k σ H)(fin:∀(s':ShX)(H':Hp)(D C:AdX)(m:Str->Option Value),Inv X pins σ H' s'->uC X pins H' C->s'.heap.Ns C m->k D H'->compPost (model X.prog X.w) X.A X.xe use Q (.ref D) C (.ok .next) s'):wpAny (model X.prog X.w) X.A (eval iter X.env) (λx s₁=>wpAny (model X.prog X.w) X.A (pyIter x) (λit s₂=>wpAny (model X.prog X.w) X.A (newList []) (λacc s₃=>
   wpAny (model X.prog X.w) X.A (newFunctionEnv scope X.env.globals cl [] X.env.qual none .none (some X.env)) (λcenv s₄=>
    codeAny (model X.prog X.w) X.A (.compStart (.ListComp elt [⟨tg,iter,[],0⟩] scope pos) 0 it acc { cenv with scope:=relabel scope X.env }) (compPost (model X.prog X.w) X.A X.xe use Q acc cenv.locals) s₄) X.xe s₃) X.xe s₂) X.xe s₁) X.xe s:=by
 refine thn (hi pins s σ H _ I h) λv s1 h1=>thn h1 λitv s2 h2=>?_
 obtain⟨it,fp,tn,J,H2,rfl,I2,T,st2,f2,hW⟩:=h2;refine nE (Zp S λh₁ hns₁ hk₁ hc₁=>?_);dsimp only at hns₁ hk₁ hc₁ ⊢;have fresh2:H2 s2.heap.objs.size=none:=I2.hok.fresh (qr _);have⟨W,⟨m0,w0⟩,turn⟩:=hW s2.heap.objs.size fresh2
 generalize hD:s2.heap.objs.size=D at*;have I3:Inv X pins σ (upd H2 D (.lst [])) { s2 with heap:=s2.heap.push { cls:=.type "list",dict:=none,data:=.seq ([]:LVl).toArray } }:=by
  refine I2.laid (t':=s2.toks) (λb u e=>qj _ e) (nv hD) ?_;refine⟨by simp,[],0,.nil,?_⟩;rw[<-hD];exact qH _ rfl
 generalize hS3:({ s2 with heap:=s2.heap.push { cls:=.type "list",dict:=none,data:=.seq ([]:LVl).toArray } }:ShX)=s3 at*;have hh3:s3.heap=s2.heap.push { cls:=.type "list",dict:=none,data:=.seq ([]:LVl).toArray }:=by rw[<-hS3]
 have objs:∀b∈fp,∃o,s3.heap.get? b=some o:=λb hb=>by
  have⟨o,e,_⟩:=T.obj _ _ st2 b hb;exact⟨o,by rw[hh3];exact qj _ e⟩
 have neD:∀b∈fp,b≠D:=λb hb z=>by
  have⟨o,e,_⟩:=T.obj _ _ st2 b hb;have e1:=qK e;rw[hD,z] at e1;exact kW _ e1
 have f3:∀b∈fp,uC X pins (upd H2 D (.lst [])) b:=λb hb=>⟨by rw[zN (neD b hb)];exact(f2 b hb).1,(f2 b hb).2⟩
 have hns:h₁.Ns s3.heap.objs.size (λ_=>none):=by
  rw[<-hS3];exact hns₁
 have keep:∀b o,s3.heap.get? b=some o->h₁.get? b=some o:=by
  rw[<-hS3];exact hk₁
 have hcl₁:∀x,o=some x->h₁.IsCell (s3.heap.objs.size+1) none:=by
  rw[<-hS3];exact hc₁
 have IY:=Wn (Ts:=Ts) (F:=F) (tk:=s3.toks) I3 S ko f3 objs hF hns keep hcl₁;have tn1:tn 0 h₁:=T.keep _ _ _ st2 λb hb o e=>keep b o (by rw[hh3];exact qj _ e)
 have stat:∀{H':Hp},(∀b∈fp,H' b=none)->∀b∈fp,uC (jF X o (Ts++F.map λj=>X.N.getD j "") scope cl s3.heap.objs.size fp s3 (upd H2 D (.lst []))) [] H' b:=λhn b hb=>
  ⟨hn b hb,(IY.ok.exf b hb).1,IY.ok.exfs b hb,.inl hb,(IY.ok.exf b hb).2,λp hp=>absurd (show p∈([]:PNx) from hp) (by simp)⟩
 have back:∀{σ':St} {H':Hp} {s':ShX},Inv (jF X o (Ts++F.map λj=>X.N.getD j "") scope cl s3.heap.objs.size fp s3 (upd H2 D (.lst []))) [] σ' H' s'->k D H'->compPost (model X.prog X.w) X.A X.xe use Q (.ref D) s3.heap.objs.size (.ok .next) s':=λ{σ' H' s'} J' q=>by
  have hI:Inv X pins σ H' s':=by
   have⟨hh,gg,dd,tt,os'⟩:=s';have ho:os'=s3.os:=J'.os;subst ho;exact I3.call (h':=hh) (g':=gg) (d':=dd) (t':=tt) (ch:=fp) J'.base J'.hok J'.bare λb hb=>⟨(f3 b hb).2.2.2.1,(f3 b hb).2.1,(f3 b hb).2.2.2.2.1,(f3 b hb).2.2.2.2.2⟩
  have⟨m,hm,_⟩:=J'.loc;exact fin s' H' D s3.heap.objs.size m hI (I3.zaB (qr _) J'.free) hm q
 have loop:∀s4:Shared,s4={ s3 with heap:=h₁,toks:=s3.toks }->
   codeAny (model X.prog X.w) X.A (.compLoop (.ListComp elt [⟨tg,iter,[],0⟩] scope pos) 0 (.ref it) (.ref D) (compEnvC scope (zdG o s3.heap.objs.size++cl) s3.heap.objs.size X.env)) (compPost (model X.prog X.w) X.A X.xe use Q (.ref D) s3.heap.objs.size) s4:=by
  rintro s4 rfl;refine Ju (λn s'=>∃i σ' H',Inv (jF X o (Ts++F.map λj=>X.N.getD j "") scope cl s3.heap.objs.size fp s3 (upd H2 D (.lst []))) [] σ' H' s'/\tn i s'.heap/\(∀b∈fp,H' b=none)/\W i n σ' H') ?_ m0
   ⟨0,_,_,IY,tn1,λb hb=>(f3 b hb).1,w0⟩
  rintro n s5 ⟨i,σ5,H5,I5,st5,fr5,w5⟩;rcases turn i n σ5 H5 w5 with⟨stop,qn⟩|⟨go,N,hN,step⟩
  ·refine thn (T.done (jF X o (Ts++F.map λj=>X.N.getD j "") scope cl s3.heap.objs.size fp s3 (upd H2 D (.lst []))) rfl rfl rfl hc i [] s5 σ5 H5 _ I5 (stat fr5) st5 stop) λr s6 ⟨hr,I6⟩=>?_
   subst hr;exact back I6 qn
  ·refine thn (T.item (jF X o (Ts++F.map λj=>X.N.getD j "") scope cl s3.heap.objs.size fp s3 (upd H2 D (.lst []))) rfl rfl rfl hc i [] s5 σ5 H5 _ I5 (stat fr5) st5 go) λr s6 ⟨u,hr,h6⟩=>?_
   subst hr;refine thn h6 λ_ s7 ⟨x,H7,I7,r7,y7,st7,fr7⟩=>?_
   have I7':=I7.pinned (stat fr7) (T.obj _ _ st7);refine thn (hg cl _ fp s3 _ _ s7 σ5 H7 x u _ I7' r7 (step x H7 y7)) λ_ s8 ⟨σ8,H8,I8,q8⟩=>?_
   refine thn (he cl _ fp s3 _ _ s8 σ8 H8 _ I8 q8) λev s9 ⟨y,H9,I9,r9,xs,hx,hz,n9⟩=>?_
   refine thn (vZ _ s9 σ8 H9 (.ref D) [y] (.ref D) [ev] (λ_ H'=>N σ8 H') I9 rfl (.cons r9 .nil) ⟨D,xs,y,rfl,rfl,hx,hz,n9⟩) λ_ s10 ⟨z,H10,I10,_,n10⟩=>?_
   have⟨m',hm,w10⟩:=hN σ8 H10 n10;refine⟨m',hm,i+1,σ8,H10,I10.ux,T.keep _ _ _ st7 λb hb o e=>(I10.pin (b,o) (qQ _ (qQ _ (je hb e)))).1,λb hb=>?_,w10⟩;have⟨o,e,d⟩:=T.obj _ _ st7 b hb;exact(I10.pin (b,o) (qQ _ (qQ _ (je hb e)))).2.1
 subst hS3;subst hD;exact codeAny_compStart_list (loop _ rfl) (T.self _ 0 _ _ _ tn1 (loop _ rfl))
def zg7(hc:X.calm=true)(hi:PI X tg iter wi)(S:jI X scope o)(hF:∀j∈F,∃x,X.N[j]?=some x/\scope.names.lookup x=some .free)(hg:∀cl C ex s H,PG (jF X o (Ts++F.map λj=>X.N.getD j "") scope cl C ex s H) tg g)(he:∀cl C ex s H,PE (jF X o (Ts++F.map λj=>X.N.getD j "") scope cl C ex s H) elt te)(hs:FSx X iter:=by exact λ_=>rfl):PE X (.ListComp elt [⟨tg,iter,[],0⟩] scope pos) (zkd Ts.length F wi g te):=by
 intro pins s σ H Q I h;obtain⟨cl,hcl,ko⟩:=Ja (Ws I S);rw[eval_ListComp];refine mB (use:=none) rfl hs hcl S.kind S.loc (ZV (use:=none) hc hi S hF hg he ko I h λs' H' D C m I' fC hm q=>?_);refine⟨m,hm,λh' hs'=>⟨.ref D,H',?_,rfl,q⟩⟩;exact I'.turned (t':=s'.toks) (λb o hb e=>hs'.extBut b o hb e) fC.1 fC.2.1 fC.2.2.2.1 fC.2.2.2.2.1 fC.2.2.2.2.2
def zaQ(hc:X.calm=true)(hi:PI X tg iter wi)(S:yb X scope)(hF:∀j∈F,∃x,X.N[j]?=some x/\scope.names.lookup x=some .free)(hg:∀cl C ex s H,PG (zV X (Ts++F.map λj=>X.N.getD j "") scope cl C ex s H) tg g)(he:∀cl C ex s H,PE (zV X (Ts++F.map λj=>X.N.getD j "") scope cl C ex s H) elt te)(hs:FSx X iter:=by exact λ_=>rfl):PE X (.ListComp elt [⟨tg,iter,[],0⟩] scope pos) (zkd Ts.length F wi g te):=zg7 hc hi S.o hF hg he hs
def zmO(T:Nat)(F:LNt)(wi:TI)(g:TG)(te:TE)(i:Nat):TS:=λD σ H=>zdM T F wi g te (λl H'=>D.nx (σ.set i (some (.ref l))) H') σ H
def uD{x:Str}{pos' spos:Pos}{i:Nat}(hN:X.N.Nodup)(hi':X.N[i]?=some x)(hx:X.env.scope.names.lookup x=some .local)(hc:X.calm=true)(hi:PI X tg iter wi)(S:yb X scope)(hF:∀j∈F,∃x,X.N[j]?=some x/\scope.names.lookup x=some .free)(hg:∀cl C ex s H,PG (zV X (Ts++F.map λj=>X.N.getD j "") scope cl C ex s H) tg g)(he:∀cl C ex s H,PE (zV X (Ts++F.map λj=>X.N.getD j "") scope cl C ex s H) elt te)(hsw:swapsWith (.ListComp elt [⟨tg,iter,[],0⟩] scope pos) (some (.Name x pos')) spos.line X.env=pure true:=by rfl)(hs:FSx X iter:=by exact λ_=>rfl):PS X (.Assign [.Name x pos'] (.ListComp elt [⟨tg,iter,[],0⟩] scope pos) spos) (zmO Ts.length F wi g te i):=by
 intro pins s σ H D I h;obtain⟨cl,hcl,ko⟩:=Ja (UG I S);rw[exec_Assign_Name_used _ _ _ _ hsw];refine qt (nH (qt ?_));show wpAny _ X.A (do let _ <-comprehension (.ListComp elt [⟨tg,iter,[],0⟩] scope pos) scope X.env _ (newList []) false (eval iter X.env) (some (assign (.Name x pos') X.env))) _ _ s
 refine qt (k9 (mB (use:=some (assign (.Name x pos') X.env)) (Q:=λ_ s'=>SP X pins D .next s') rfl hs hcl S.kind S.loc
  (ZV (use:=some (assign (.Name x pos') X.env)) hc hi S.o hF hg he ko I h λs' H' l C m I' fC hm q=>?_)) (λ_ s' hq=>qT (qT hq)) λ_ _ e=>e)
 show wpAny _ X.A (assign (.Name x pos') X.env (.ref l)) _ _ s'
 refine pW (VB I' hN hi' (.inl hx) (show RelV (.ref l) (.ref l) from rfl) (λs2 I2 hsame=>?_) (.inr hx));have⟨a,hsb,ha⟩:=hsame;have neC:C≠a:=by
  rcases ha with rfl|ha
  ·exact fC.2.1
  ·exact λz=>fC.2.2.2.2.1 x a ha z.symm
 have hm2:s2.heap.Ns C m:=hm.sameBut hsb neC;refine⟨m,hm2,λh' hs'=>⟨_,H',?_,q⟩⟩;exact I2.turned (t':=s2.toks) (λb o hb e=>hs'.extBut b o hb e) fC.1 fC.2.1 fC.2.2.2.1 fC.2.2.2.2.1 fC.2.2.2.2.2
end
section
variable{X:Cx}
def zhu(hc:X.calm=true):vh X (.builtin "sum") (λxs H Q=>∃(p:AdX)(ns:List Int),xs=[.ref p]/\SqL X.K H p (ns.map V.int)/\Q (.int ns.sum) H):=by
 intro pins s σ H xs us Q I r h;obtain⟨p,ns,rfl,hS,q⟩:=h;obtain⟨u,rfl,ru⟩:=vals1 r;cases ru;have⟨its,rv,pl,hz⟩:=I.list hS;have hi:IntsAre its ns:=intsAre_of rv;have es:(numsOf its.toArray.toList).sum=ns.sum:=by rw[show its.toArray.toList=its from rfl,hi.numsOf]
 have⟨zs,e⟩:=hi.allInts.items;rw[e,nums_intItems] at es;have hL:=pl.isList;rw[e] at hL;refine sum_intListG (I.ok.hd hc) hL λh' tk t' hk=>?_
 rw[preSum_eq,ny (by simp)];exact⟨.int ns.sum,H,I.kept hk,⟨t',by rw[es]⟩,q⟩
end
def xm(t:Bool)(h:Heap)(a:AdX)(vs:Array Value):Prop:=match t with |true=>h.IsTuple a vs|false=>h.IsList a vs
def xh(t:Bool)(h:Heap)(j a:AdX)(i:Nat):Prop:=match t with |true=>h.IsTupleIter j a i|false=>h.IsListIter j a i
noncomputable def um(t:Bool):String:=match t with |true=>"tuple_iterator" |false=>"list_iterator"
def xm.stay{t:Bool}{h h':Heap}{a:AdX}{vs:Array Value}(x:xm t h a vs)(e:∀o,h.get? a=some o->h'.get? a=some o):xm t h' a vs:=by
 cases t
 ·obtain⟨o,ho,r⟩:=(show h.IsList a vs from x);exact(show h'.IsList a vs from⟨o,e _ ho,r⟩)
 ·obtain⟨o,ho,r⟩:=(show h.IsTuple a vs from x);exact(show h'.IsTuple a vs from⟨o,e _ ho,r⟩)
def xh.stay{t:Bool}{h h':Heap}{j a:AdX}{i:Nat}(x:xh t h j a i)(e:∀o,h.get? j=some o->h'.get? j=some o):xh t h' j a i:=by
 cases t
 ·obtain⟨o,ho,r⟩:=(show h.IsListIter j a i from x);exact(show h'.IsListIter j a i from⟨o,e _ ho,r⟩)
 ·obtain⟨o,ho,r⟩:=(show h.IsTupleIter j a i from x);exact(show h'.IsTupleIter j a i from⟨o,e _ ho,r⟩)
def xh.obj{t:Bool}{h:Heap}{j a:AdX}{i:Nat}(x:xh t h j a i):∃o,h.get? j=some o/\∀v,o.data≠ .cell v:=by
 cases t
 ·obtain⟨o,ho,hc,hd⟩:=(show h.IsListIter j a i from x);exact⟨o,ho,λv z=>by rw[hd] at z;cases z⟩
 ·obtain⟨o,ho,hc,hd⟩:=(show h.IsTupleIter j a i from x);exact⟨o,ho,λv z=>by rw[hd] at z;cases z⟩
def xm.lt{t:Bool}{h:Heap}{a:AdX}{vs:Array Value}(x:xm t h a vs):a<h.objs.size:=by
 cases t
 ·obtain⟨o,ho,_⟩:=(show h.IsList a vs from x);exact qK ho
 ·obtain⟨o,ho,_⟩:=(show h.IsTuple a vs from x);exact qK ho
section
variable{prog:Program}{w:World}{A:Around}{E:VSx}{s:ShX}
def JW{t:Bool}{j a:AdX}{i:Nat}{vs:Array Value}{v:Value}{Q:VSx}(hd:xh t s.heap j a i)(hs:xm t s.heap a vs)(hv:vs[i]?=some v)(hQ:∀h',xh t h' j a (i+1)->Heap.SameBut j s.heap h'->Q v { s with heap:=h' }):wpAny (model prog w) A (Builtin.SmallTypes.nextOf (.ref j)) Q E s:=by
 cases t
 ·exact wpAny_nextOf_list_item (show s.heap.IsListIter j a i from hd) (show s.heap.IsList a vs from hs) hv hQ
 ·have hd':s.heap.IsTupleIter j a i:=hd;have⟨ob,hob,hcl,hda⟩:=id hd'
  obtain⟨oa,hoa,_,na,hdt⟩:=(show s.heap.IsTuple a vs from hs);unfold Builtin.SmallTypes.nextOf;refine qt (mG (name:=Str.ofString "__next__") hd'.typeIs mf (nI mf hd'.typeIs F.entry_tuple_iterator_next ?_ (F.args_tuple_iterator_next_1 _)));show wpAny _ _ (field (.ref j) 0 >>= _) _ _ s
  refine qt (gD hob hda (x:=.ref a) rfl ?_);show wpAny _ _ (if (Value.ref a==Value.none)=true then _ else _) _ _ s
  rw[qq (show ¬((Value.ref a==Value.none)=true) from qF)];show wpAny _ _ (field (.ref j) 1 >>= _) _ _ s
  refine qt (gD hob hda (x:=.int i 0) rfl ?_);show wpAny _ _ (seqItems? (.ref a) >>= _) _ _ s
  refine qt (gP hoa hdt ?_);simp only [kb,hv];refine qt (wpAny_setField hob hda (by simp) (qT ⟨v,rfl,qT (hQ _ ?_ (Heap.SameBut.update ..))⟩));show Heap.IsTupleIter _ j a (i+1)
  exact⟨_,Heap.get?_update_self _ hob (Obj.isFreed_of_fields (Obj.data_mapFields hda _)),(Obj.cls_mapFields ..).trans hcl,by rw[Obj.data_mapFields hda];simp[rawInt]⟩
def JK{t:Bool}{j a:AdX}{i:Nat}{vs:Array Value}{Q:VSx}(hh:A.handled=none)(hd:xh t s.heap j a i)(hs:xm t s.heap a vs)(hv:vs[i]?=none)(hE:∀h' e,Heap.ExtBut j s.heap h'->(∃o,h'.get? e=some o/\o.cls=.type "StopIteration")->E (.ref e) { s with heap:=h' }):wpAny (model prog w) A (Builtin.SmallTypes.nextOf (.ref j)) Q E s:=by
 cases t
 ·exact wpAny_nextOf_list_end hh (show s.heap.IsListIter j a i from hd) (show s.heap.IsList a vs from hs) hv hE
 ·have hd':s.heap.IsTupleIter j a i:=hd;have⟨ob,hob,hcl,hda⟩:=id hd'
  obtain⟨oa,hoa,_,na,hdt⟩:=(show s.heap.IsTuple a vs from hs);unfold Builtin.SmallTypes.nextOf;refine qt (mG (name:=Str.ofString "__next__") hd'.typeIs mf (nI mf hd'.typeIs F.entry_tuple_iterator_next ?_ (F.args_tuple_iterator_next_1 _)));show wpAny _ _ (field (.ref j) 0 >>= _) _ _ s
  refine qt (gD hob hda (x:=.ref a) rfl ?_);show wpAny _ _ (if (Value.ref a==Value.none)=true then _ else _) _ _ s
  rw[qq (show ¬((Value.ref a==Value.none)=true) from qF)];show wpAny _ _ (field (.ref j) 1 >>= _) _ _ s
  refine qt (gD hob hda (x:=.int i 0) rfl ?_);show wpAny _ _ (seqItems? (.ref a) >>= _) _ _ s
  refine qt (gP hoa hdt ?_);simp only [kb,hv];refine qt (wpAny_rule (qt (wpAny_setField hob hda (by simp) ?_)));show wpAny _ _ ((newExc (.type "StopIteration") []) >>= _) _ _ _
  refine qt ?_;simp only [newExc,newTuple];refine qt (nE ?_ (by size_fits));refine qt (m:=firstArgMember _ _) (wpAny_of_eq (a:=Value.none) (by first |rfl|(simp only [firstArgMember]<;>rfl)) ?_);refine nE ?_ (by size_fits);simp only [raiseNew];refine qt (wpAny_handled ?_);first |rw[show A.in1.handled=none from hh]|rw[hh]
  refine qt (qT (wpAny_throw ?_));exact hE _ _ (((Heap.SameBut.update ..).extBut.push _).push _) ⟨_,qH _ rfl,rfl⟩
end
section
variable{prog:Program}{w:World}{A:Around}{E:VSx}{s:ShX}
def ziB{t1 t2:Bool}{z ti tu j1 j2 a1 a2:AdX}{k1 k2:Nat}{xs ys:Array Value}{x y b1 b2:Value}{Q:VSx}(D:ZipApart z ti tu j1 j2 a1 a2)(hz:IsZip s.heap z ti tu .none)(hti:IsPair s.heap ti (.ref j1) (.ref j2))(htu:IsPair s.heap tu b1 b2)(d1:xh t1 s.heap j1 a1 k1)(d2:xh t2 s.heap j2 a2 k2)(c1:xm t1 s.heap a1 xs)(c2:xm t2 s.heap a2 ys)(hx:xs[k1]?=some x)(hy:ys[k2]?=some y)(hQ:∀h',IsZip h' z ti tu (rawInt s.heap.objs.size)->IsPair h' tu x y->xh t1 h' j1 a1 (k1+1)->xh t2 h' j2 a2 (k2+1)->IsPair h' s.heap.objs.size x y->h'.objs.size=s.heap.objs.size+1->
   (∀c o,c≠z->c≠tu->c≠j1->c≠j2->s.heap.get? c=some o->h'.get? c=some o)->Q (.ref s.heap.objs.size) { s with heap:=h' }):wpAny (model prog w) A (Builtin.«zip.__next__» ⟨[.ref z],[]⟩) (λfin s'=>∃v,fin=.done (.ret v)/\Q v s') E s:=by
 show wpAny _ _ (field (.ref z) 2 >>= _) _ _ s
 refine qt (gD hz rfl (x:=.bool false) rfl ?_);show wpAny _ _ (field (.ref z) 3 >>= _) _ _ s
 refine qt (gD hz rfl (x:=.ref ti) rfl ?_);refine qt (gP hti rfl ?_);show wpAny _ _ (Builtin.SmallTypes.ownedTupleIsFree (.ref z) >>= _) _ _ s
 refine qt ?_;unfold Builtin.SmallTypes.ownedTupleIsFree;refine qt (gD hz rfl (x:=.none) rfl (qT ?_));simp only [pC];refine qt (wpAny_rule ?_);refine qt (gD hz rfl (x:=.ref tu) rfl ?_);refine qt (gW hz (by simp) λg1 z1 e1=>?_);replace z1:IsZip g1 z ti tu .ellipsis:=z1;refine qt ?_;simp only [List.zipIdx_cons,List.zipIdx_nil,mQ,nQ];refine qt (qt (pM ?_));show wpAny _ _ (Builtin.SmallTypes.nextOf (.ref j1) >>= _) _ _ _
 refine qt (JW (d1.stay λo e=>e1.extBut _ _ D.i1z e) (c1.stay λo e=>e1.extBut _ _ D.l1z e) hx λg2 d1' e2=>qT ?_);have tu2:IsPair g2 tu b1 b2:=e2.extBut _ _ D.TOi1 (e1.extBut _ _ D.TOz htu);refine qt (gP tu2 rfl ?_);refine qt (pE tu2 λg3 tu3 e3=>?_);replace tu3:IsPair g3 tu x b2:=tu3;refine qt (wpAny_letGo (qT ?_));refine qt (qt (pM ?_));show wpAny _ _ (Builtin.SmallTypes.nextOf (.ref j2) >>= _) _ _ _
 refine qt (JW (d2.stay λo e=>e3.extBut _ _ D.TOi2.symm (e2.extBut _ _ D.i12.symm (e1.extBut _ _ D.i2z e))) (c2.stay λo e=>e3.extBut _ _ D.l2TO (e2.extBut _ _ D.l2i1 (e1.extBut _ _ D.l2z e))) hy λg4 d2' e4=>qT ?_);have tu4:IsPair g4 tu x b2:=e4.extBut _ _ D.TOi2 tu3;refine qt (gP tu4 rfl ?_);refine qt (pE tu4 λg5 tu5 e5=>?_);replace tu5:IsPair g5 tu x y:=tu5;refine qt (wpAny_letGo (qT (qT ?_)));refine qt (gP tu5 rfl ?_);refine qt (wpAny_newTuple ?_);have size5:g5.objs.size=s.heap.objs.size:=by rw[e5.1,e4.1,e3.1,e2.1,e1.1]
 have z5:IsZip g5 z ti tu .ellipsis:=e5.extBut _ _ D.TOz.symm (e4.extBut _ _ D.i2z.symm (e3.extBut _ _ D.TOz.symm (e2.extBut _ _ D.i1z.symm z1)));have keep5:∀c o,c≠z->c≠tu->c≠j1->c≠j2->s.heap.get? c=some o->g5.get? c=some o:=λc o n1 n2 n3 n4 e=>
  e5.extBut _ _ n2 (e4.extBut _ _ n4 (e3.extBut _ _ n2 (e2.extBut _ _ n3 (e1.extBut _ _ n1 e))))
 have d15:xh t1 g5 j1 a1 (k1+1):=((d1'.stay λo e=>e3.extBut _ _ D.TOi1.symm e).stay λo e=>e4.extBut _ _ D.i12 e).stay λo e=>e5.extBut _ _ D.TOi1.symm e
 have d25:xh t2 g5 j2 a2 (k2+1):=d2'.stay λo e=>e5.extBut _ _ D.TOi2.symm e
 have zlt:z<g5.objs.size:=qK z5;show wpAny _ _ (Builtin.SmallTypes.ownedTupleHandOut (.ref z) (.ref g5.objs.size) >>= _) _ _ _
 refine qt ?_;unfold Builtin.SmallTypes.ownedTupleHandOut;have z6:IsZip (g5.push { cls:=.type "tuple",data:=.seq #[x,y] }) z ti tu .ellipsis:=qj _ z5;refine qt (gW z6 (by simp) λg7 z7 e7=>?_);replace z7:IsZip g7 z ti tu (rawInt g5.objs.size):=z7;refine gW z7 (by simp) λg8 z8 e8=>?_
 replace z8:IsZip g8 z ti tu (rawInt g5.objs.size):=z8
 have up:∀c o,c≠z->g5.get? c=some o->g8.get? c=some o:=λc o n e=>e8.extBut _ _ n (e7.extBut _ _ n (qj _ e))
 have p8:IsPair g8 g5.objs.size x y:=e8.extBut _ _ (mV zlt) (e7.extBut _ _ (mV zlt) (qH _ rfl));have size8:g8.objs.size=g5.objs.size+1:=by rw[e8.1,e7.1,gc]
 rw[size5] at z8 p8 size8;refine qT ⟨_,rfl,?_⟩;show Q (.ref g5.objs.size) _
 rw[size5];exact hQ g8 z8 (up _ _ D.TOz tu5) (d15.stay λo e=>up _ o D.i1z e) (d25.stay λo e=>up _ o D.i2z e) p8 size8 λc o n1 n2 n3 n4 e=>up c o n1 (keep5 c o n1 n2 n3 n4 e)
def zjf{t1 t2:Bool}{z ti tu j1 j2 a1 a2:AdX}{k1 k2:Nat}{xs ys:Array Value}{b1 b2:Value}{Q:Fin->Shared->Prop}(hh:A.handled=none)(D:ZipApart z ti tu j1 j2 a1 a2)(hz:IsZip s.heap z ti tu .none)(hti:IsPair s.heap ti (.ref j1) (.ref j2))(htu:IsPair s.heap tu b1 b2)(d1:xh t1 s.heap j1 a1 k1)(d2:xh t2 s.heap j2 a2 k2)(c1:xm t1 s.heap a1 xs)(c2:xm t2 s.heap a2 ys)(hend:xs[k1]?=none\/ys[k2]?=none)(hE:∀h' e,(∀c o,c≠z->c≠tu->c≠j1->c≠j2->s.heap.get? c=some o->h'.get? c=some o)->(∃o,h'.get? e=some o/\o.cls=.type "StopIteration")->E (.ref e) { s with heap:=h' }):wpAny (model prog w) A (Builtin.«zip.__next__» ⟨[.ref z],[]⟩) Q E s:=by
 show wpAny _ _ (field (.ref z) 2 >>= _) _ _ s
 refine qt (gD hz rfl (x:=.bool false) rfl ?_);show wpAny _ _ (field (.ref z) 3 >>= _) _ _ s
 refine qt (gD hz rfl (x:=.ref ti) rfl ?_);refine qt (gP hti rfl ?_);show wpAny _ _ (Builtin.SmallTypes.ownedTupleIsFree (.ref z) >>= _) _ _ s
 refine qt ?_;unfold Builtin.SmallTypes.ownedTupleIsFree;refine qt (gD hz rfl (x:=.none) rfl (qT ?_));simp only [pC];refine qt (wpAny_rule ?_);refine qt (gD hz rfl (x:=.ref tu) rfl ?_);refine qt (gW hz (by simp) λg1 z1 e1=>?_);replace z1:IsZip g1 z ti tu .ellipsis:=z1;refine qt ?_;simp only [List.zipIdx_cons,List.zipIdx_nil,mQ,nQ];refine qt (qt (pM ?_));show wpAny _ _ (Builtin.SmallTypes.nextOf (.ref j1) >>= _) _ _ _
 cases hx:xs[k1]? with
 |none=>
  refine qt (JK hh (d1.stay λo e=>e1.extBut _ _ D.i1z e) (c1.stay λo e=>e1.extBut _ _ D.l1z e) hx λg2 e e2 he=>?_);have⟨oe,hoe,hce⟩:=he;have z2:IsZip g2 z ti tu .ellipsis:=e2 _ _ D.i1z.symm z1;have nez:e≠z:=λq=>by subst q;rw[z2] at hoe;cases hoe;simp at hce
  refine gW z2 (by simp) λg3 _ e3=>hE g3 e (λc o n1 _ n3 _ q=>e3.extBut _ _ n1 (e2 _ _ n3 (e1.extBut _ _ n1 q))) ⟨oe,e3.extBut _ _ nez hoe,hce⟩
 |some x=>
  have hy:ys[k2]?=none:=hend.resolve_left (by rw[hx];simp);refine qt (JW (d1.stay λo e=>e1.extBut _ _ D.i1z e) (c1.stay λo e=>e1.extBut _ _ D.l1z e) hx λg2 d1' e2=>qT ?_);have tu2:IsPair g2 tu b1 b2:=e2.extBut _ _ D.TOi1 (e1.extBut _ _ D.TOz htu)
  refine qt (gP tu2 rfl ?_);refine qt (pE tu2 λg3 tu3 e3=>?_);refine qt (wpAny_letGo (qT ?_));refine qt (qt (pM ?_));show wpAny _ _ (Builtin.SmallTypes.nextOf (.ref j2) >>= _) _ _ _
  refine qt (JK hh (d2.stay λo e=>e3.extBut _ _ D.TOi2.symm (e2.extBut _ _ D.i12.symm (e1.extBut _ _ D.i2z e))) (c2.stay λo e=>e3.extBut _ _ D.l2TO (e2.extBut _ _ D.l2i1 (e1.extBut _ _ D.l2z e))) hy λg4 e e4 he=>?_);have⟨oe,hoe,hce⟩:=he;have z4:IsZip g4 z ti tu .ellipsis:=e4 _ _ D.i2z.symm (e3.extBut _ _ D.TOz.symm (e2.extBut _ _ D.i1z.symm z1));have nez:e≠z:=λq=>by subst q;rw[z4] at hoe;cases hoe;simp at hce
  refine gW z4 (by simp) λg5 _ e5=>hE g5 e (λc o n1 n2 n3 n4 q=>e5.extBut _ _ n1 (e4 _ _ n4 (e3.extBut _ _ n2 (e2.extBut _ _ n3 (e1.extBut _ _ n1 q))))) ⟨oe,e5.extBut _ _ nez hoe,hce⟩
structure zfj(t1 t2:Bool)(z ti tu j1 j2 a1 a2:AdX)(i:Nat)(h:Heap):Prop where
 zp:IsZip h z ti tu .none
 ip:IsPair h ti (.ref j1) (.ref j2)
 op:∃b1 b2,IsPair h tu b1 b2
 d1:xh t1 h j1 a1 i
 d2:xh t2 h j2 a2 i
def zim{t1 t2:Bool}{z ti tu j1 j2 a1 a2:AdX}{i:Nat}{xs ys:Array Value}{x y:Value}{Q:Option Value->Shared->Prop}(D:ZipApart z ti tu j1 j2 a1 a2)(S:zfj t1 t2 z ti tu j1 j2 a1 a2 i s.heap)(c1:xm t1 s.heap a1 xs)(c2:xm t2 s.heap a2 ys)(hx:xs[i]?=some x)(hy:ys[i]?=some y)(hQ:∀h',IsZip h' z ti tu (rawInt s.heap.objs.size)->IsPair h' tu x y->xh t1 h' j1 a1 (i+1)->xh t2 h' j2 a2 (i+1)->IsPair h' s.heap.objs.size x y->h'.objs.size=s.heap.objs.size+1->
   (∀c o,c≠z->c≠tu->c≠j1->c≠j2->s.heap.get? c=some o->h'.get? c=some o)->Q (some (.ref s.heap.objs.size)) { s with heap:=h' }):wpAny (model prog w) A (pyNext (.ref z)) Q E s:=by
 have⟨b1,b2,hb⟩:=S.op;have hT:s.TypeIs (.ref z) "zip":=⟨_,S.zp,rfl⟩;unfold pyNext;exact qt (wpAny_attempt (mG (name:=Str.ofString "__next__") hT pd (nI pd hT F.entry_zip_next
  (ziB D S.zp S.ip hb S.d1 S.d2 c1 c2 hx hy λh' q1 q2 q3 q4 q5 q6 q7=>qT (hQ h' q1 q2 q3 q4 q5 q6 q7)) (F.args_zip_next_1 _))))
def ziE{t1 t2:Bool}{z ti tu j1 j2 a1 a2:AdX}{i:Nat}{xs ys:Array Value}{Q:Option Value->Shared->Prop}(hh:A.handled=none)(D:ZipApart z ti tu j1 j2 a1 a2)(S:zfj t1 t2 z ti tu j1 j2 a1 a2 i s.heap)(c1:xm t1 s.heap a1 xs)(c2:xm t2 s.heap a2 ys)(hend:xs[i]?=none\/ys[i]?=none)(hQ:∀h',(∀c o,c≠z->c≠tu->c≠j1->c≠j2->s.heap.get? c=some o->h'.get? c=some o)->Q none { s with heap:=h' }):wpAny (model prog w) A (pyNext (.ref z)) Q E s:=by
 have⟨b1,b2,hb⟩:=S.op;have hT:s.TypeIs (.ref z) "zip":=⟨_,S.zp,rfl⟩;unfold pyNext;refine qt (wpAny_attempt (mG (name:=Str.ofString "__next__") hT pd (nI pd hT F.entry_zip_next
  (zjf hh D S.zp S.ip hb S.d1 S.d2 c1 c2 hend λh' e hk he=>?_) (F.args_zip_next_1 _))))
 have⟨o,ho,hc⟩:=he;exact qt (wpAny_isInstance (T:="StopIteration") (b:=true) ⟨o,ho,hc⟩ isSubtype_stop (qT (hQ _ hk)))
end
def Jw{prog:Program}{w:World}{A:Around}{E:VSx}{s:ShX}{t:Bool}{a:AdX}{vs:Array Value}{Q:VSx}(c:xm t s.heap a vs)(hQ:Q (.ref s.heap.objs.size) { s with heap:=s.heap.push { cls:=.type (um t),data:=.fields #[.ref a,.int 0 0] } }):wpAny (model prog w) A (pyIter (.ref a)) Q E s:=by
 cases t
 ·exact nD (show s.heap.IsList a vs from c) hQ
 ·exact wpAny_pyIter_tuple (show s.heap.IsTuple a vs from c) hQ
def xm.push{t:Bool}{h:Heap}{a:AdX}{vs:Array Value}(x:xm t h a vs)(o:Obj):xm t (h.push o) a vs:=x.stay λ_ e=>qj _ e
abbrev zp1(t1:Bool)(h:Heap)(a1:AdX):Heap:=h.push { cls:=.type (um t1),data:=.fields #[.ref a1,.int 0 0] }
abbrev zp2(t1 t2:Bool)(h:Heap)(a1 a2:AdX):Heap:=(zp1 t1 h a1).push { cls:=.type (um t2),data:=.fields #[.ref a2,.int 0 0] }
abbrev zp3(t1 t2:Bool)(h:Heap)(a1 a2:AdX):Heap:=(zp2 t1 t2 h a1 a2).push { cls:=.type "tuple",data:=.seq #[.ref h.objs.size,.ref (zp1 t1 h a1).objs.size] }
abbrev zp4(t1 t2:Bool)(h:Heap)(a1 a2:AdX):Heap:=(zp3 t1 t2 h a1 a2).push { cls:=.type "tuple",data:=.seq #[.none,.none] }
abbrev zp5(t1 t2:Bool)(h:Heap)(a1 a2:AdX):Heap:=(zp4 t1 t2 h a1 a2).push { cls:=.type "zip",data:=.fields #[.none,.bool false,.bool false,.ref (zp2 t1 t2 h a1 a2).objs.size,.ref (zp3 t1 t2 h a1 a2).objs.size] }
def zlR(t1 t2:Bool)(a1 a2:AdX)(xs ys:Array Value):Meets (Builtin.«zip.__new__» ⟨[.type "zip",.ref a1,.ref a2],[]⟩) (λ_ R s=>xm t1 s.heap a1 xs/\xm t2 s.heap a2 ys/\
   R (.ok (.ret (.ref (zp4 t1 t2 s.heap a1 a2).objs.size))) { s with heap:=zp5 t1 t2 s.heap a1 a2 }):=.of_wp λprog w A R s h=>by
  have⟨hp,g,d,tk,os⟩:=s;obtain⟨c1,c2,h⟩:=h;have hsub:=sub_zip;have q1:xm t1 (Shared.heap ⟨hp,g,d,tk,os⟩) a1 xs:=c1
  have q2:xm t2 (Shared.heap ⟨hp.push { cls:=.type (um t1),data:=.fields #[.ref a1,.int 0 0] },g,d,tk,os⟩) a2 ys:=xm.push c2 _;wp_walk using Jw q1,Jw q2;exact⟨_,rfl,h⟩
def Zg{t:Bool}{h:Heap}{j a:AdX}(e:h.get? j=some { cls:=.type (um t),data:=.fields #[.ref a,.int 0 0] }):xh t h j a 0:=by
 cases t
 ·exact(show h.IsListIter j a 0 from⟨_,e,rfl,rfl⟩)
 ·exact(show h.IsTupleIter j a 0 from⟨_,e,rfl,rfl⟩)
def ziN{prog:Program}{w:World}{A:Around}{E:VSx}{s:ShX}{t1 t2:Bool}{a1 a2:AdX}{xs ys:Array Value}{Q:VSx}(c1:xm t1 s.heap a1 xs)(c2:xm t2 s.heap a2 ys)(h:∀h',zfj t1 t2 (s.heap.objs.size+4) (s.heap.objs.size+2) (s.heap.objs.size+3) s.heap.objs.size (s.heap.objs.size+1) a1 a2 0 h'->h'.objs.size=s.heap.objs.size+5->
   (∀c o,s.heap.get? c=some o->h'.get? c=some o)->Q (.ref (s.heap.objs.size+4)) { s with heap:=h' }):wpAny (model prog w) A (call (.type "zip") [.ref a1,.ref a2]) Q E s:=by
 refine callType_new F.called_zip (by decide) (F.typeCall_zip_2 _ _) (F.newCall_zip_2 _ _) (λobj=>F.args_object_init_3 obj _ _) F.entry_zip_new (zlR t1 t2 a1 a2 xs ys) ⟨c1,c2,?_⟩;have z1:(zp1 t1 s.heap a1).objs.size=s.heap.objs.size+1:=gc ..;have z2:(zp2 t1 t2 s.heap a1 a2).objs.size=s.heap.objs.size+2:=by rw[gc,z1]
 have z3:(zp3 t1 t2 s.heap a1 a2).objs.size=s.heap.objs.size+3:=by rw[gc,z2]
 have z4:(zp4 t1 t2 s.heap a1 a2).objs.size=s.heap.objs.size+4:=by rw[gc,z3]
 have z5:(zp5 t1 t2 s.heap a1 a2).objs.size=s.heap.objs.size+5:=by rw[gc,z4]
 have g5:(zp5 t1 t2 s.heap a1 a2).get? (zp4 t1 t2 s.heap a1 a2).objs.size=some _:=qH _ rfl;have g4:(zp5 t1 t2 s.heap a1 a2).get? (zp3 t1 t2 s.heap a1 a2).objs.size=some _:=qj _ (qH _ rfl)
 have g3:(zp5 t1 t2 s.heap a1 a2).get? (zp2 t1 t2 s.heap a1 a2).objs.size=some _:=qj _ (qj _ (qH _ rfl));have g2:(zp5 t1 t2 s.heap a1 a2).get? (zp1 t1 s.heap a1).objs.size=some _:=qj _ (qj _ (qj _ (qH _ rfl)))
 have g1:(zp5 t1 t2 s.heap a1 a2).get? s.heap.objs.size=some _:=qj _ (qj _ (qj _ (qj _ (qH _ rfl))));show _/\_
 rw[z2,z3,z4] at g5;rw[z1,z2] at g3;rw[z3] at g4;rw[z1] at g2;rw[z4];exact⟨⟨_,g5,rfl⟩,h _ ⟨g5,g3,⟨_,_,g4⟩,Zg g1,Zg g2⟩ z5 λc o q=>
  qj _ (qj _ (qj _ (qj _ (qj _ q))))⟩
def SqB(K:FRx)(t:Bool)(H:Hp)(a:AdX)(xs:List V):Prop:=match t with |true=>SqT K H a xs|false=>SqL K H a xs
def Same.sqB{K:FRx}{t:Bool}{H H':Hp}{a:AdX}{xs:List V}(e:Same H H')(h:SqB K t H a xs):SqB K t H' a xs:=by
 cases t
 ·exact(show SqL K H' a xs from e.seq h)
 ·exact(show SqT K H' a xs from e.tup h)
def Itz(K:FRx)(t1 t2:Bool)(a b:AdX):It:=⟨λi H=>∃xs ys x y,SqB K t1 H a xs/\SqB K t2 H b ys/\xs[i]?=some x/\ys[i]?=some y,
  λi H v H'=>∃p,v=.ref p/\H p=none/\∀xs ys x y,SqB K t1 H a xs->SqB K t2 H b ys->xs[i]?=some x->ys[i]?=some y->H'=upd H p (.tup [x,y]),
  λi H=>∃xs ys,SqB K t1 H a xs/\SqB K t2 H b ys/\(xs.length<=i\/ys.length<=i)⟩
section
variable{X:Cx}{pins:PNx}{σ:St}{H:Hp}{s:ShX}
def Inv.sqB(I:Inv X pins σ H s){t:Bool}{a:AdX}{xs:List V}(h:SqB X.K t H a xs):∃its:List Value,Vals xs its/\xm t s.heap a its.toArray:=by
 cases t
 ·obtain⟨its,r,pl,_⟩:=I.list (show SqL X.K H a xs from h);exact⟨its,r,(show s.heap.IsList a its.toArray from pl.isList)⟩
 ·obtain⟨its,r,pl,_⟩:=I.tuple (show SqT X.K H a xs from h);exact⟨its,r,(show s.heap.IsTuple a its.toArray from pl)⟩
def Inv.zbc(I:Inv X pins σ H s){t:Bool}{a:AdX}{xs ys:List V}(h:SqB X.K t H a xs)(h':SqB X.K t H a ys):xs=ys:=by
 cases t
 ·exact I.zco (show SqL X.K H a xs from h) h'
 ·exact I.ZZ (show SqT X.K H a xs from h) h'
def Inv.moved{h':Heap}{t':Nat}{ch:LAd}(I:Inv X pins σ H s)(hf:∀b∈ch,uC X pins H b)(k:∀b o,b∉ch->s.heap.get? b=some o->h'.get? b=some o):Inv X pins σ H { s with heap:=h',toks:=t' }:=by
 have tr:∀b u,H b=some u->b∉ch:=λb u e z=>by rw[(hf b z).1] at e;cases e
 refine I.step (g':=s.gens) (d':=s.drawn) (ch:=ch) (λb hb=>⟨(hf b hb).2.2.2.1,(hf b hb).2.1,(hf b hb).2.2.2.2.1,(hf b hb).2.2.2.2.2⟩) (λb o _ _ hc e _=>k b o hc e) (λb o _ _ hc e _=>⟨o.slots,k b o hc e⟩) (λ_ _ _ _ n=>n)
  (λb o hc e=>⟨o,k b o hc e⟩) (λ_ _ e=>e) (λ_ _ _ e=>e) (λb ps e=>⟨#[],by rw[e];simp⟩) (λm hm=>?_) (λb u e=>?_) I.bare
 ·have⟨o,es,ep,ho,r⟩:=hm;exact⟨o,es,ep,k _ o (λz=>(hf _ z).2.1 rfl) ho,r⟩
 ·refine(I.hok b u e).stay (λc v hc q=>k c v ?_ q) (λ_ q=>q) λ_ _ q=>q
  rcases hc with z|z
  ·rw[z];exact tr b u e
  ·exact tr c _ z
def Inv.adopt{p:AdX}{o:HO}(I:Inv X pins σ H s)(hf:uC X pins H p)(new:vC X.prog X.w (upd H p o) s.heap p o):Inv X pins σ (upd H p o) s:=by
 have tr:∀b u,H b=some u->b≠p:=λb u e z=>by rw[z,hf.1] at e;cases e
 refine I.step (h':=s.heap) (g':=s.gens) (d':=s.drawn) (t':=s.toks) (ch:=[p]) (λb hb=>?_) (λb o _ _ _ e _=>e) (λb o _ _ _ e _=>⟨o.slots,e⟩) (λb o hc _ n=>?_)
  (λb o _ e=>⟨o,e⟩) (λb xs e=>by rw[zN (tr b _ e)];exact e) (λb u xs e=>by rw[zN (tr b _ e)];exact e) (λb ps e=>⟨#[],by rw[zN (tr b _ e),e];simp⟩) (λm hm=>hm) (λb u e=>?_) I.bare
 ·have e:b=p:=by simpa using hb
  subst e;exact⟨hf.2.2.2.1,hf.2.1,hf.2.2.2.2.1,hf.2.2.2.2.2⟩
 ·rw[zN (λz=>hc (by simp[z]))];exact n
 ·by_cases hb:b=p
  ·subst hb;rw[zJ] at e;cases e;exact new
  ·rw[zN hb] at e;exact(I.hok b u e).stay (λc v _ q=>q) (λc q=>by rw[zN (tr c _ q)];exact q) λc xs q=>by rw[zN (tr c _ q)];exact q
end
def wZ{xs:List V}{its:LVl}(r:Vals xs its){i:Nat}{x:V}(h:xs[i]?=some x):∃u,its.toArray[i]?=some u/\RelV x u:=by
 have⟨u,h1,h2⟩:=r.get h;exact⟨u,by simpa using h1,h2⟩
def zgH{P:Program}{w:World}{K:FRx}{es:List Expr}{kk:Nat}{tp:Pos}{t1 t2:Bool}{z ti tu j1 j2 a b:AdX}(D:ZipApart z ti tu j1 j2 a b):Turn P w K (.Tuple es kk tp) (Itz K t1 t2 a b) [z,ti,tu,j1,j2] z (λi h=>zfj t1 t2 z ti tu j1 j2 a b i h) where
 mem:=by simp
 obj:=λi h S c hc=>by
  simp only [qu,kQ,mw] at hc;rcases hc with rfl|rfl|rfl|rfl|rfl
  ·exact⟨_,S.zp,λv q=>by cases q⟩
  ·exact⟨_,S.ip,λv q=>by cases q⟩
  ·have⟨b1,b2,e⟩:=S.op;exact⟨_,e,λv q=>by cases q⟩
  ·exact S.d1.obj
  ·exact S.d2.obj
 keep:=λi h h' S k=>by
  have⟨b1,b2,e⟩:=S.op;exact⟨k z (by simp) _ S.zp,k ti (by simp) _ S.ip,⟨b1,b2,k tu (by simp) _ e⟩,S.d1.stay λo q=>k j1 (by simp) o q,S.d2.stay λo q=>k j2 (by simp) o q⟩
 item:=λX hp hw hK hc i pins s σ H E I hf S go=>by
  subst hp hw hK;have⟨xs,ys,x,y,h1,h2,hx,hy⟩:=go;have⟨us,ru,c1⟩:=I.sqB h1;have⟨ws,rw',c2⟩:=I.sqB h2;have⟨u,eu,hu⟩:=wZ ru hx;have⟨v,ev,hv⟩:=wZ rw' hy;refine zim D S c1 c2 eu ev λh' q1 q2 q3 q4 q5 q6 q7=>⟨_,rfl,?_⟩
  refine wpAny_letOwnedTupleGo_zip q1 λh'' z2 hs=>?_
  have lt:∀{c:AdX} {o:Obj},s.heap.get? c=some o->s.heap.objs.size≠c:=λe=>mV (qK e)
  have nz:s.heap.objs.size≠z:=lt S.zp;have ntu:s.heap.objs.size≠tu:=by have⟨_,_,e⟩:=S.op;exact lt e
  have nj1:s.heap.objs.size≠j1:=by have⟨o,e,_⟩:=S.d1.obj;exact lt e
  have nj2:s.heap.objs.size≠j2:=by have⟨o,e,_⟩:=S.d2.obj;exact lt e
  have I1:Inv X pins σ H { s with heap:=h'',toks:=s.toks }:=I.moved (ch:=[z,tu,j1,j2]) (λc hc'=>hf c (by
    simp only [qu,kQ,mw] at hc' ⊢;rcases hc' with rfl|rfl|rfl|rfl<;>simp)) λc o hc' e=>by
   simp only [qu,kQ,mw,not_or] at hc';exact hs.extBut _ _ hc'.1 (q7 c o hc'.1 hc'.2.1 hc'.2.2.1 hc'.2.2.2 e)
  have pT:IsPair h'' s.heap.objs.size u v:=hs.extBut _ _ nz q5;have fT:uC X pins H s.heap.objs.size:=I.zaB (qr _) (I.hok.fresh (qr _))
  have I2:Inv X pins σ (upd H s.heap.objs.size (.tup [x,y])) { s with heap:=h'',toks:=s.toks }:=by
   refine I1.adopt fT ⟨by show 2<=sizeLine;decide,[u,v],.cons hu (.cons hv .nil),?_⟩;exact⟨_,pT,rfl,_,rfl⟩
  refine⟨.ref s.heap.objs.size,_,I2,rfl,⟨_,rfl,fT.1,λxs' ys' x' y' g1 g2 ex ey=>?_⟩,?_,λc hc'=>?_⟩
  ·rw[I.zbc g1 h1] at ex;rw[I.zbc g2 h2] at ey;rw[hx] at ex;rw[hy] at ey;cases ex;cases ey;rfl
  ·exact⟨z2,hs.extBut _ _ D.TIz (q7 _ _ D.TIz D.TITO D.TIi1 D.TIi2 S.ip),⟨_,_,hs.extBut _ _ D.TOz q2⟩,q3.stay λo e=>hs.extBut _ _ D.i1z e,q4.stay λo e=>hs.extBut _ _ D.i2z e⟩
  ·have ne:c≠s.heap.objs.size:=by
    simp only [qu,kQ,mw] at hc';rcases hc' with rfl|rfl|rfl|rfl|rfl
    ·exact nz.symm
    ·exact(lt S.ip).symm
    ·exact ntu.symm
    ·exact nj1.symm
    ·exact nj2.symm
   rw[zN ne];exact(hf c hc').1
 done:=λX hp hw hK hc i pins s σ H E I hf S st=>by
  subst hp hw hK;have⟨xs,ys,h1,h2,hend⟩:=st;have⟨us,ru,c1⟩:=I.sqB h1;have⟨ws,rw',c2⟩:=I.sqB h2;have l1:=ru.length;have l2:=rw'.length
  refine ziE (I.ok.hd hc) D S c1 c2 ?_ λh' q=>⟨rfl,?_⟩
  ·rcases hend with g|g
   ·exact .inl (by simp;omega)
   ·exact .inr (by simp;omega)
  ·refine I.moved (t':=s.toks) (ch:=[z,tu,j1,j2]) (λc hc'=>hf c ?_) λc o hc' e=>?_
   ·simp only [qu,kQ,mw] at hc' ⊢;rcases hc' with rfl|rfl|rfl|rfl<;>simp
   ·simp only [qu,kQ,mw,not_or] at hc';exact q c o hc'.1 hc'.2.1 hc'.2.2.1 hc'.2.2.2 e
 self:=λA i s Q E S q=>wpAny_pyIter_zip S.zp q
def zlA:bootBuiltins "zip"=some (.type "zip"):=by decide+kernel
def zmU(K:FRx)(t1 t2:Bool)(ta:TA):TI:=λσ H R=>ta σ H λvs H1=>∃a b,vs=[.ref a,.ref b]/\(∃xs,SqB K t1 H1 a xs)/\(∃ys,SqB K t2 H1 b ys)/\R (Itz K t1 t2 a b) H1
def zhJ{X:Cx}{es:List Expr}{kk:Nat}{tp:Pos}(t1 t2:Bool){a b:Expr}{ta:TA}{p pos:Pos}(hg:Gl X "zip")(hm:X.mg "zip"=none)(ha:PA X [a,b] ta)(hs:starEach [a,b] X.env=[(false,eval a X.env),(false,eval b X.env)]:=by rfl)(hs2:starEach [b] X.env=[(false,eval b X.env)]:=by rfl):PI X (.Tuple es kk tp) (.Call (.Name "zip" p) [a,b] [] pos) (zmU X.K t1 t2 ta):=by
 intro pins s σ H R I h;refine Call_ (UJ I hg hm zlA (gy (thn (ha pos pins s σ H _ I h) λus s1 ⟨vs,H1,I1,r1,q1⟩=>?_) (by rw[hs,hs2]) (by rw[hs2];rfl)));have⟨a',b',e,⟨xs,h1⟩,⟨ys,h2⟩,q⟩:=q1;subst e;obtain⟨u,w',rfl,ru,rw'⟩:=vals2 r1;cases (show u=Value.ref a' from ru);cases (show w'=Value.ref b' from rw');have⟨its,_,c1⟩:=I1.sqB h1;have⟨its2,_,c2⟩:=I1.sqB h2;refine ziN c1 c2 λh' S hz hk=>?_
 have I2:Inv X pins σ H1 { s1 with heap:=h',toks:=s1.toks }:=I1.kept hk;refine wpAny_pyIter_zip S.zp ?_;refine⟨_,_,_,_,H1,rfl,I2,zgH (zipApart_new c1.lt c2.lt),S,λc hc=>?_,q⟩;simp only [qu,kQ,mw] at hc;have ge:s1.heap.objs.size<=c:=by
  rcases hc with rfl|rfl|rfl|rfl|rfl
  ·exact g9 _ 4
  ·exact g9 _ 2
  ·exact g9 _ 3
  ·exact qr _
  ·exact g9 _ 1
 have f1:=I1.zaB ge (I1.hok.fresh ge);exact f1
def Same.JU{H H':Hp}{D:AdX}(e:Same H H')(h:H D=none)(o:HO):Same H (upd H' D o):=λb u q=>by
 rw[zN (jJ q h)];exact e b u q
def ItB(K:FRx)(t:Bool)(a:AdX):It:=match t with |true=>Itt K a|false=>Itl K a
def znj(K:FRx)(tl:TE):TI:=λσ H R=>tl σ H λx H1=>∃a t,x=.ref a/\(∃xs,SqB K t H1 a xs)/\R (ItB K t a) H1
section
variable{X:Cx}{tg:Expr}
def zdu{l:Expr}{tl:TE}(hl:PE X l tl):PI X tg l (znj X.K tl):=by
 intro pins s σ H R I h;refine thn (hl pins s σ H _ I h) λu s1 ⟨x,H1,I1,rx,a,t,ex,⟨xs,hx⟩,q⟩=>?_
 subst ex;cases (show u=Value.ref a from rx);cases t
 ·obtain⟨its,rv,pl,hz⟩:=I1.list (show SqL X.K H1 a xs from hx);refine nD pl.isList ?_;refine⟨s1.heap.objs.size,[s1.heap.objs.size],_,_,H1,rfl,I1.kept (t':=s1.toks) λb o e=>qj _ e,zft a _,⟨_,qH _ rfl,rfl,rfl⟩,λb hb=>?_,q⟩;have e:b=s1.heap.objs.size:=by simpa using hb
  subst e;exact I1.zaB (qr _) (I1.hok.fresh (qr _))
 ·obtain⟨its,rv,pl,hz⟩:=I1.tuple (show SqT X.K H1 a xs from hx);refine wpAny_pyIter_tuple (show s1.heap.IsTuple a its.toArray from pl) ?_;refine⟨s1.heap.objs.size,[s1.heap.objs.size],_,_,H1,rfl,I1.kept (t':=s1.toks) λb o e=>qj _ e,zee a _,⟨_,qH _ rfl,rfl,rfl⟩,λb hb=>?_,q⟩;have e:b=s1.heap.objs.size:=by simpa using hb
  subst e;exact I1.zaB (qr _) (I1.hok.fresh (qr _))
end
def zlr(K:FRx):R2:=λx y H Q=>∃t p xs i v,x=.ref p/\y=.int i/\SqB K t H p xs/\atI xs i=some v/\Q v H
def zaE{X:Cx}:IxR X (zlr X.K):=by
 have b:=zil.or zlc (X:=X);have f:∀x y H Q,zlr X.K x y H Q->zmL X.K x y H Q\/zma X.K x y H Q:=by
  rintro x y H Q ⟨t,p,xs,i,v,e1,e2,h,e3,q⟩;cases t
  ·exact .inl ⟨p,xs,i,v,e1,e2,h,e3,q⟩
  ·exact .inr ⟨p,xs,i,v,e1,e2,h,e3,q⟩
 exact λvalue slice pins s σ H x y v u Q I r1 r2 h e=>b value slice pins s σ H x y v u Q I r1 r2 (f _ _ _ _ h) e
def ziK(l b:AdX)(its its2:Array Value)(n n2:Nat)(d2:Option Addr)(sl2:Array (Option Value))(h0:¬(!its.isEmpty&&Builtin.List.listTooLong (its.size+its2.size))=true)(h1:its.size<=sizeLine)(h2:its.size+its2.size<=sizeLine+1):Meets (Builtin.«list.extend» ⟨[.ref l,.ref b],[]⟩) (λ_ R s=>s.heap.get? l=some { cls:=.type "list",dict:=none,data:=.seq its n,slots:=#[] }/\s.heap.get? b=some { cls:=.type "tuple",dict:=d2,data:=.seq its2 n2,slots:=sl2 }/\
   R (.ok (.ret Value.none)) { s with heap:=s.heap.update l (Obj.mapSeq λx=>x++its2),toks:=s.toks }):=.of_wp λprog w A R s h=>by
  have⟨hp,g,d,tk,os⟩:=s;obtain⟨hl,hb,h⟩:=h;have f1:=mS;have f2:=AutoSeq1.sub_tuple_tuple
  have f3:=AutoSeq1.sub_list_list;have f4:=AutoSeq1.sub_tuple_list
  have f5:=AutoSeq1.sub_list_tuple;have hz:(its++its2).size<=sizeLine+1:=by rw[Array.size_append];exact h2
  wp_walk using (wpAny_updateSeq hl rfl (hz:=h1) (_hz':=hz)),kS hl,kS hb
  exact⟨_,rfl,h⟩
def zhK(K:FRx):V->List V->Hp->VK->Prop:=λx vs H Q=>∃l b xs zs,x=.ref l/\vs=[.ref b]/\H l=some (.lst xs)/\SqT K H b zs/\xs.length+zs.length<=sizeLine/\Q .non (upd H l (.lst (xs++zs)))
def zd9{X:Cx}:MtM X "list.extend" (zhK X.K):=by
 intro pins s σ H x vs v us Q I rx rv h;obtain⟨l,b,xs,zs,rfl,rfl,hH,hB,hz,q⟩:=h;cases rx;obtain⟨u,rfl,ru⟩:=rv.one;cases ru;have⟨z,its,n,r,hl,e⟩:=I.zaC hH;have⟨its2,r2,⟨⟨cls,dd,data,sl⟩,ho,hc,n2,hd⟩,z2⟩:=I.tuple hB;simp only at hc hd;subst hc hd;have l2:=r2.length;have hsz:its.toArray.size+its2.toArray.size<=sizeLine:=by rw[qD,qD];omega
 have hlong:¬(!its.toArray.isEmpty&&Builtin.List.listTooLong (its.toArray.size+its2.toArray.size))=true:=by
  rw[Zs hsz,mX];exact qF
 refine gX F.slot_list_extend ⟨_,e,rfl⟩ F.entry_list_extend (F.args_list_extend_2 _ _) (ziK l b its.toArray its2.toArray n n2 dd sl hlong (by rw[qD];omega) (by omega)) ⟨e,ho,?_⟩;refine⟨.non,_,I.lset (its':=its++its2) hH e (by simp) (r.append r2) ?_,rfl,q⟩;rw[qy];omega
def zgw(K:FRx):R2:=λx y H Q=>∃a b xs ys,x=.ref a/\y=.ref b/\SqT K H a xs/\SqT K H b ys/\xs.length+ys.length<=sizeLine/\
 (xs=[]->Q (.ref b) H)/\(xs≠[]->ys=[]->Q (.ref a) H)/\(xs≠[]->ys≠[]->∀p,H p=none->Q (.ref p) (upd H p (.tup (xs++ys))))
def j6{X:Cx}:OpR X (binaryOp .Add) (zgw X.K):=by
 intro pins s σ H x y v u Q I rx ry h;obtain⟨a,b,xs,ys,rfl,rfl,h1,h2,hz,q1,q2,q3⟩:=h;cases (show v=Value.ref a from rx);cases (show u=Value.ref b from ry);have⟨its,r1,p1,_⟩:=I.tuple h1;have⟨its2,r2,p2,_⟩:=I.tuple h2;have l1:=r1.length;have l2:=r2.length
 by_cases hx:xs=[]
 ·have hi:its=[]:=(Vals.WU r1).mpr hx;have⟨⟨cls,dd,data,sl⟩,ho,hc,n,hd⟩:=id p1
  have⟨⟨cls2,dd2,data2,sl2⟩,ho2,hc2,n2,hd2⟩:=id p2;simp only at hc hd hc2 hd2;subst hc hd hc2 hd2;exact pX ⟨_,ho,rfl⟩ ⟨_,ho2,rfl⟩ p5 seq_tuple_add nt ni (mZ _ _) (tuple_addW0 a b its.toArray its2.toArray n n2 dd dd2 sl sl2 (by simp[hi])) ⟨ho,ho2,⟨.ref b,H,I,rfl,q1 hx⟩⟩
 ·have hi:its≠[]:=λz=>hx ((Vals.WU r1).mp z)
  refine HT.ziz p1 p2 hi (λz=>?_) (λz=>?_) (by omega)
  ·exact⟨.ref a,H,I,rfl,q2 hx ((Vals.WU r2).mp z)⟩
  ·have hf:H s.heap.objs.size=none:=I.hok.fresh (qr _);refine⟨.ref s.heap.objs.size,_,I.laid (o:=.tup (xs++ys)) (t':=s.toks) (λc o e=>qj _ e) (qr _) ⟨by rw[qy];exact hz,its++its2,r1.append r2,⟨_,qH _ rfl,rfl,_,rfl⟩⟩,rfl,q3 hx (λw=>z ((Vals.WU r2).mpr w)) _ hf⟩
def Yz{X:Cx}{scope sc:Scope}(hsc:X.env.scope=sc)(kind:scope.kind=.function)(nocell:∀y∈scope.names,y.2≠ .cell)(loc:∀y∈scope.names,y.2=.local->scope.names.lookup y.1=some .local)(free:∀y∈scope.names,y.2=.free->sc.names.lookup y.1=some .cell\/sc.names.lookup y.1=some .free):yb X scope:=⟨kind,nocell,loc,λy hy hf=>by
  show X.env.scope.names.lookup y.1=_\/X.env.scope.names.lookup y.1=_
  rw[hsc];exact free y hy hf⟩
def csx{X:Cx}{scope sc:Scope}(hsc:X.env.scope=sc:=by rfl)(kind:scope.kind=.function:=by rfl)(h:(∀y∈scope.names,y.2≠ .cell)/\(∀y∈scope.names,y.2=.local->scope.names.lookup y.1=some .local)/\∀y∈scope.names,y.2=.free->sc.names.lookup y.1=some .cell\/sc.names.lookup y.1=some .free:=by decide+kernel):yb X scope:=Yz hsc kind h.1 h.2.1 h.2.2
def xM{X:Cx}{scope:Scope}:∀j∈([]:LNt),∃x,X.N[j]?=some x/\scope.names.lookup x=some .free:=λ_ h=>by cases h
def xX{X:Cx}{scope:Scope}{i:Nat}{F:LNt}{x:Str}(h1:X.N[i]?=some x)(h2:scope.names.lookup x=some .free)(r:∀j∈F,∃x,X.N[j]?=some x/\scope.names.lookup x=some .free):∀j∈i::F,∃x,X.N[j]?=some x/\scope.names.lookup x=some .free:=λj hj=>by
 rcases qu.mp hj with z|z
 ·subst z;exact⟨x,h1,h2⟩
 ·exact r j z
end L2
namespace L2.Fu
open PySem PySem.Spec PyProof.Rows
inductive Sl where
 |no|pu (d:PdX)|ow (ds:LPd)|dk (ks:List (Int×PyData))
abbrev Ro:=List Sl
abbrev RPx:=Ro->Option PyData
abbrev RLx:=Ro->Option (List PyData)
abbrev LPx:=List PyData->Option PyData
abbrev LLx:=List PyData->Option (List PyData)
noncomputable def isM:Sl->Bool
 | .ow _=>true
 | .dk _=>true
 |_=>false
noncomputable def offs(H:Hp)(os:LAd):Hp:=λb=>if b∈os then none else H b
section
variable{H H' G:Hp}{os os':LAd}{a:AdX}{o:HO}
def zq(h:a∉os):offs H os a=H a:=by unfold offs;rw[qq h]
def yS(h:a∈os):offs H os a=none:=by unfold offs;rw[qf h]
def xx(H:Hp)(os:LAd):Same (offs H os) H:=λb o e=>by
 by_cases h:b∈os
 ·rw[yS h] at e;cases e
 ·rw[zq h] at e;exact e
def zl(e:Same H H')(os:LAd):Same (offs H os) (offs H' os):=λb o q=>by
 by_cases h:b∈os
 ·rw[yS h] at q;cases q
 ·rw[zq h] at q ⊢;exact e b o q
def yD(h:∀a∈os',a∈os):Same (offs H os) (offs H os'):=λb o q=>by
 by_cases hb:b∈os
 ·rw[yS hb] at q;cases q
 ·rw[zq hb] at q;rw[zq (λz=>hb (h b z))];exact q
def yP(h:a∈os):offs (upd H a o) os=offs H os:=by
 funext b
 by_cases hb:b∈os
 ·rw[yS hb,yS hb]
 ·rw[zq hb,zq hb,zN (λz=>hb (by rw[z];exact h))]
def jx:offs (upd H a o) (a::os)=offs H (a::os):=yP qZ
end
def Al(H:Hp)(os:LAd):Prop:=∀a∈os,∃o,H a=some o
def Al.same{H H':Hp}{os:LAd}(h:Al H os)(e:Same H H'):Al H' os:=λa ha=>by
 have⟨o,q⟩:=h a ha;exact⟨o,e a o q⟩
def Al.nil(H:Hp):Al H []:=λa h=>by cases h
def Al.new{H:Hp}{os:LAd}(h:Al H os){a:AdX}(n:H a=none):a∉os:=λz=>by
 have⟨o,q⟩:=h a z;rw[n] at q;cases q
section
variable{K:FRx}{H H':Hp}{os:LAd}{v:V}{d:PdX}
def jH(K:FRx)(H:Hp)(os:LAd)(v:V)(d:PdX):Prop:=Rep K (offs H os) v d\/∃a xs ds,v=.ref a/\d=.list ds/\H a=some (.lst xs)/\Reps K (offs H os) xs ds
def jH.same(e:Same H H')(h:jH K H os v d):jH K H' os v d:=by
 rcases h with h|⟨a,xs,ds,e1,e2,h1,h2⟩
 ·exact .inl (h.same (zl e os))
 ·exact .inr ⟨a,xs,ds,e1,e2,e _ _ h1,h2.same (zl e os)⟩
def jH.rep(h:jH K H os v d):Rep K H v d:=by
 rcases h with h|⟨a,xs,ds,rfl,rfl,h1,h2⟩
 ·exact h.same (xx H os)
 ·exact .lst (SqL.of h1) (h2.same (xx H os))
def jH.int{i:Int}(h:jH K H os v (.int i)):v=.int i:=by
 cases h.rep;rfl
def jH.bl{b:Bool}(h:jH K H os v (.bool b)):v=.bl b:=by
 cases h.rep;rfl
def jH.non(h:jH K H os v .none):v=.non:=by
 cases h.rep;rfl
def jH.tup{ds:LPd}(h:jH K H os v (.tuple ds)):∃a xs,v=.ref a/\SqT K H a xs/\SqT K (offs H os) a xs/\Reps K (offs H os) xs ds:=by
 rcases h with h|⟨a,xs,es,e1,e2,h1,h2⟩
 ·cases h with
  |tup hS r=>exact⟨_,_,rfl,(xx H os).tup hS,hS,r⟩
 ·cases e2
def jH.lst{ds:LPd}(h:jH K H os v (.list ds)):∃a xs,v=.ref a/\SqL K H a xs/\Reps K (offs H os) xs ds:=by
 rcases h with h|⟨a,xs,es,e1,e2,h1,h2⟩
 ·cases h with
  |lst hS r=>exact⟨_,_,rfl,(xx H os).seq hS,r⟩
 ·cases e2;exact⟨a,xs,e1,SqL.of h1,h2⟩
inductive vg(K:FRx)(H:Hp)(os:LAd):List V->List PyData->Prop
 |nil:vg K H os [] []
 |cons {v:V} {d:PdX} {vs:List V} {ds:LPd}:jH K H os v d->vg K H os vs ds->vg K H os (v::vs) (d::ds)
theorem vg.same(e:Same H H'):∀{vs:List V} {ds:LPd},vg K H os vs ds->vg K H' os vs ds
 |_,_,.nil=>.nil
 |_,_,.cons h r=>.cons (h.same e) (vg.same e r)
def vg.one{vs:List V}{d:PdX}(h:vg K H os vs [d]):∃v,vs=[v]/\jH K H os v d:=by
 cases h with
 |cons h r=>cases r;exact⟨_,rfl,h⟩
def vg.two{vs:List V}{d e:PdX}(h:vg K H os vs [d,e]):∃v u,vs=[v,u]/\jH K H os v d/\jH K H os u e:=by
 cases h with
 |cons h r=>cases r with
  |cons h2 r=>cases r;exact⟨_,_,rfl,h,h2⟩
theorem vg.reps:∀{vs:List V} {ds:LPd},vg K H os vs ds->Reps K H vs ds
 |_,_,.nil=>.nil
 |_,_,.cons h r=>.cons h.rep (vg.reps r)
end
inductive Vu(K:FRx)(G:Hp):List (Key×V)->List (Int×PyData)->Prop
 |nil:Vu K G [] []
 |cons {k:Int} {v:V} {d:PdX} {ws:List (Key×V)} {ks:List (Int×PyData)}:Rep K G v d->Vu K G ws ks->Vu K G ((Sum.inl k,v)::ws) ((k,d)::ks)
theorem Vu.same{K:FRx}{G G':Hp}(e:Same G G'):∀{ws:List (Key×V)} {ks:List (Int×PyData)},Vu K G ws ks->Vu K G' ws ks
 |_,_,.nil=>.nil
 |_,_,.cons h r=>.cons (h.same e) (Vu.same e r)
def COk(K:FRx)(G:Hp):HO->Sl->Prop
 | .lst xs,.ow ds=>Reps K G xs ds
 | .dK ws,.dk ks=>Vu K G ws ks
 |_,_=>False
def COk.same{K:FRx}{G G':Hp}{o:HO}{c:Sl}(e:Same G G')(h:COk K G o c):COk K G' o c:=by
 cases o<;>cases c<;>first |exact False.elim h|skip
 ·exact Reps.same e h
 ·exact Vu.same e h
def COk.ow{K:FRx}{G:Hp}{o:HO}{ds:LPd}(h:COk K G o (.ow ds)):∃xs,o=.lst xs/\Reps K G xs ds:=by
 cases o<;>first |exact False.elim h|skip
 exact⟨_,rfl,h⟩
structure xl(K:FRx)(H:Hp)(os:LAd)(σ:St)(ρ:Ro):Prop where
 pu:∀(i:Nat)(d:PdX),ρ[i]?=some (.pu d)->∃v,σ[i]?=some (some v)/\Rep K (offs H os) v d
 mu:∀(i:Nat)(c:Sl),ρ[i]?=some c->isM c=true->∃a o,σ[i]?=some (some (.ref a))/\a∈os/\H a=some o/\COk K (offs H os) o c
 al:Al H os
 len:σ.length=ρ.length
def xl.ow{K:FRx}{H:Hp}{os:LAd}{σ:St}{ρ:Ro}(h:xl K H os σ ρ)(i:Nat)(ds:LPd)(q:ρ[i]?=some (.ow ds)):∃a xs,σ[i]?=some (some (.ref a))/\a∈os/\H a=some (.lst xs)/\Reps K (offs H os) xs ds:=by
 have⟨a,o,h1,h2,h3,h4⟩:=h.mu i _ q rfl;obtain⟨xs,rfl,r⟩:=h4.ow;exact⟨a,xs,h1,h2,h3,r⟩
def xl.same{K:FRx}{H H':Hp}{os:LAd}{σ:St}{ρ:Ro}(e:Same H H')(h:xl K H os σ ρ):xl K H' os σ ρ where
 pu:=λi d q=>by
  have⟨v,h1,h2⟩:=h.pu i d q;exact⟨v,h1,h2.same (zl e os)⟩
 mu:=λi c q m=>by
  have⟨a,o,h1,h2,h3,h4⟩:=h.mu i c q m;exact⟨a,o,h1,h2,e _ _ h3,h4.same (zl e os)⟩
 al:=h.al.same e
 len:=h.len
def FE(X:Cx)(e:Expr)(f:RPx):Prop:=∃t:TE,PE X e t/\∀(σ:St)(H:Hp)(os:LAd)(ρ:Ro)(d:PdX)(Q:VK),xl X.K H os σ ρ->f ρ=some d->
  (∀v H',Same H H'->Rep X.K (offs H' os) v d->Q v H')->t σ H Q
def FB(X:Cx)(e:Expr)(f:RPx):Prop:=∃t:TE,PE X e t/\∀(σ:St)(H:Hp)(os:LAd)(ρ:Ro)(d:PdX)(Q:VK),xl X.K H os σ ρ->f ρ=some d->
  (∀v H',Same H H'->jH X.K H' os v d->Q v H')->t σ H Q
def FL(X:Cx)(e:Expr)(f:RLx):Prop:=∃t:TE,PE X e t/\∀(σ:St)(H:Hp)(os:LAd)(ρ:Ro)(ds:LPd)(Q:VK),xl X.K H os σ ρ->f ρ=some ds->
  (∀a xs H',H a=none->Same H H'->H' a=some (.lst xs)->Reps X.K (offs H' (a::os)) xs ds->Q (.ref a) H')->t σ H Q
def FAB(X:Cx)(es:List Expr)(f:RLx):Prop:=∃t:TA,PA X es t/\∀(σ:St)(H:Hp)(os:LAd)(ρ:Ro)(ds:LPd)(Q:List V->Hp->Prop),xl X.K H os σ ρ->f ρ=some ds->
  (∀vs H',Same H H'->vg X.K H' os vs ds->Q vs H')->t σ H Q
def FA(X:Cx)(es:List Expr)(f:RLx):Prop:=∃t:TA,PA X es t/\∀(σ:St)(H:Hp)(os:LAd)(ρ:Ro)(ds:LPd)(Q:List V->Hp->Prop),xl X.K H os σ ρ->f ρ=some ds->
  (∀vs H',Same H H'->Reps X.K (offs H' os) vs ds->Q vs H')->t σ H Q
def FT(X:Cx)(e:Expr)(f:Ro->Option Bool):Prop:=∃t:TT,PT X e t/\∀(σ:St)(H:Hp)(os:LAd)(ρ:Ro)(b:Bool)(Q:Bool->Hp->Prop),xl X.K H os σ ρ->f ρ=some b->
  (∀H',Same H H'->Q b H')->t σ H Q
def FW(X:Cx)(e:Expr)(f:Ro->Option Bool):Prop:=∃t:TT,PW X e t/\∀(σ:St)(H:Hp)(os:LAd)(ρ:Ro)(b:Bool)(Q:Bool->Hp->Prop),xl X.K H os σ ρ->f ρ=some b->
  (∀H',Same H H'->Q b H')->t σ H Q
noncomputable def yo(f:RLx):RPx:=λρ=>(f ρ).map .list
def map_some{α β:Type}{o:Option α}{f:α->β}{b:β}(h:o.map f=some b):∃a,o=some a/\f a=b:=by
 cases o with
 |none=>cases h
 |some a=>exact⟨a,rfl,qX h⟩
def bind_some{α β:Type}{o:Option α}{f:α->Option β}{b:β}(h:o.bind f=some b):∃a,o=some a/\f a=some b:=by
 cases o with
 |none=>cases h
 |some a=>exact⟨a,rfl,h⟩
section
variable{X:Cx}{e:Expr}{f:RPx}{pos:Pos}
def FE.fb(h:FE X e f):FB X e f:=by
 have⟨t,h1,h2⟩:=h;exact⟨t,h1,λσ H os ρ d Q R q k=>h2 σ H os ρ d Q R q λv H' s r=>k v H' s (.inl r)⟩
def FL.fe{f:RLx}(h:FL X e f):FE X e (yo f):=by
 have⟨t,h1,h2⟩:=h;refine⟨t,h1,λσ H os ρ d Q R q k=>?_⟩;have⟨ds,e1,e2⟩:=map_some q;subst e2;refine h2 σ H os ρ ds Q R e1 λa xs H' n s hx r=>k _ H' s (.lst (SqL.of ?_) (r.same (yD λb hb=>qz _ hb)))
 rw[zq (R.al.new n)];exact hx
def FL.fb{f:RLx}(h:FL X e f):FB X e (yo f):=h.fe.fb
noncomputable def gv(i:Nat):RPx:=λρ=>match ρ[i]? with |some (.pu d)=>some d|_=>none
noncomputable def gb(i:Nat):RPx:=λρ=>match ρ[i]? with |some (.pu d)=>some d|some (.ow ds)=>some (.list ds)|_=>none
def zjP{i:Nat}{ρ:Ro}{d:PdX}(h:gv i ρ=some d):ρ[i]?=some (.pu d):=by
 unfold gv at h;split at h
 ·rename_i e;cases h;exact e
 ·cases h
def zg(i:Nat){x:Str}(hN:X.N[i]?=some x:=by rfl)(hv:Vis X.env.scope x:=by trivial)(hd:NDx x:=by decide)(hcd:NCx x:=by decide):FE X (.Name x pos) (gv i):=by
 refine⟨_,yu hN hv hd hcd,λσ H os ρ d Q R q k=>?_⟩;obtain⟨v,h1,h2⟩:=R.pu i d (zjP q);exact⟨v,h1,k v H (Same.refl H) h2⟩
def yd(i:Nat){x:Str}(hN:X.N[i]?=some x:=by rfl)(hv:Vis X.env.scope x:=by trivial)(hd:NDx x:=by decide)(hcd:NCx x:=by decide):FB X (.Name x pos) (gb i):=by
 refine⟨_,yu hN hv hd hcd,λσ H os ρ d Q R q k=>?_⟩;unfold gb at q;split at q
 ·rename_i e;cases q;have⟨v,h1,h2⟩:=R.pu i d e;exact⟨v,h1,k v H (Same.refl H) (.inl h2)⟩
 ·rename_i ds e;cases q;have⟨a,xs,h1,h2,h3,h4⟩:=R.ow i ds e;exact⟨_,h1,k _ H (Same.refl H) (.inr ⟨a,xs,ds,rfl,rfl,h3,h4⟩)⟩
 ·cases q
noncomputable def cst(d:PdX):RPx:=λ_=>some d
def zY{i j}:FE X (.Constant (.int i) j pos) (cst (.int i)):=⟨_,zlZ,λ_ H _ _ _ _ _ q k=>by cases q;exact k _ H (Same.refl H) (.int i)⟩
def qv(i:Nat){x:Str}(hN:X.N[i]?=some x:=by rfl)(hv:Vis X.env.scope x:=by trivial)(hd:NDx x:=by decide)(hcd:NCx x:=by decide):FB X (.Name x pos) (gv i):=FE.fb (zg i hN hv hd hcd)
def qi{i j}:FB X (.Constant (.int i) j pos) (cst (.int i)):=FE.fb zY
def Ub{b j}:FE X (.Constant (.bool b) j pos) (cst (.bool b)):=⟨_,zmK,λ_ H _ _ _ _ _ q k=>by cases q;exact k _ H (Same.refl H) (.bl b)⟩
def VA{j}:FE X (.Constant .none j pos) (cst .none):=⟨_,zlC,λ_ H _ _ _ _ _ q k=>by cases q;exact k _ H (Same.refl H) .non⟩
def GC(K:FRx)(mg:Str->Option Value)(x:Str)(d:PdX):Prop:=∃v u,mg x=some u/\RelV v u/\∀H,Rep K H v d
def zeu{x:Str}{d:PdX}(g:GC X.K X.mg x d)(hg:Gl X x)(hd:NDx x:=by decide):FE X (.Name x pos) (cst d):=by
 have⟨v,u,h1,h2,h3⟩:=g;exact⟨_,zi0 hg h1 h2 hd,λ_ H os _ _ _ _ q k=>by cases q;exact k _ H (Same.refl H) (h3 _)⟩
noncomputable def op2(h:PyData->PyData->Option PyData)(f g:RPx):RPx:=λρ=>(f ρ).bind λx=>(g ρ).bind λy=>h x y
def R2F(K:FRx)(r:R2)(h:PyData->PyData->Option PyData):Prop:=∀(x y:V)(H:Hp)(os:LAd)(d e c:PdX)(Q:VK),Al H os->jH K H os x d->jH K H os y e->h d e=some c->(∀v H',Same H H'->Rep K (offs H' os) v c->Q v H')->r x y H Q
def R2L(K:FRx)(r:R2)(h:PyData->PyData->Option (List PyData)):Prop:=∀(x y:V)(H:Hp)(os:LAd)(d e:PdX)(c:LPd)(Q:VK),Al H os->jH K H os x d->jH K H os y e->h d e=some c->
  (∀a xs H',H a=none->Same H H'->H' a=some (.lst xs)->Reps K (offs H' (a::os)) xs c->Q (.ref a) H')->r x y H Q
variable{a b:Expr}{g:RPx}
def two{ta tb:TE}{σ:St}{H:Hp}{os:LAd}{ρ:Ro}{d e:PdX}{R:V->V->Hp->Prop}(ha:∀(σ:St)(H:Hp)(os:LAd)(ρ:Ro)(d:PdX)(Q:VK),xl X.K H os σ ρ->f ρ=some d->(∀v H',Same H H'->jH X.K H' os v d->Q v H')->ta σ H Q)(hb:∀(σ:St)(H:Hp)(os:LAd)(ρ:Ro)(d:PdX)(Q:VK),xl X.K H os σ ρ->g ρ=some d->(∀v H',Same H H'->jH X.K H' os v d->Q v H')->tb σ H Q)(rel:xl X.K H os σ ρ)(e1:f ρ=some d)(e2:g ρ=some e)(k:∀x y H',Same H H'->jH X.K H' os x d->jH X.K H' os y e->R x y H'):ta σ H λx H1=>tb σ H1 λy H2=>R x y H2:=ha σ H os ρ d _ rel e1 λx H1 s1 r1=>hb σ H1 os ρ e _ (rel.same s1) e2 λy H2 s2 r2=>k x y H2 (s1.trans s2) (r1.same s2) r2
def UY{h:PyData->PyData->Option PyData}{ρ:Ro}{c:PdX}(q:op2 h f g ρ=some c):∃d e,f ρ=some d/\g ρ=some e/\h d e=some c:=by
 have⟨d,e1,q⟩:=bind_some q;have⟨e,e2,q⟩:=bind_some q;exact⟨d,e,e1,e2,q⟩
def zF{op:Operator}{r:R2}{h:PyData->PyData->Option PyData}(ho:OpR X (binaryOp op) r)(hr:R2F X.K r h)(ha:FB X a f)(hb:FB X b g):FE X (.BinOp a op b pos) (op2 h f g):=by
 have⟨ta,pa,qa⟩:=ha;have⟨tb,pb,qb⟩:=hb;refine⟨_,zby ho pa pb,λσ H os ρ c Q R q k=>?_⟩;have⟨d,e,e1,e2,e3⟩:=UY q;refine two qa qb R e1 e2 λx y H' s r1 r2=>hr x y H' os d e c Q (R.al.same s) r1 r2 e3 λv H2 s2=>k v H2 (s.trans s2)
noncomputable def zlD(h:PyData->PyData->Option (List PyData))(f g:RPx):RLx:=λρ=>(f ρ).bind λx=>(g ρ).bind λy=>h x y
def zl8{op:Operator}{r:R2}{h:PyData->PyData->Option (List PyData)}(ho:OpR X (binaryOp op) r)(hr:R2L X.K r h)(ha:FB X a f)(hb:FB X b g):FL X (.BinOp a op b pos) (zlD h f g):=by
 have⟨ta,pa,qa⟩:=ha;have⟨tb,pb,qb⟩:=hb;refine⟨_,zby ho pa pb,λσ H os ρ c Q R q k=>?_⟩;have⟨d,e1,q⟩:=bind_some q;have⟨e,e2,e3⟩:=bind_some q;refine two qa qb R e1 e2 λx y H' s r1 r2=>hr x y H' os d e c Q (R.al.same s) r1 r2 e3 λa xs H2 n s2=>k a xs H2 (s.free n) (s.trans s2)
def UH{op:CmpOp}{r:R2}{h:PyData->PyData->Option PyData}(ho:OpR X (compareOp op) r)(hr:R2F X.K r h)(ha:FB X a f)(hb:FB X b g)(hm:behindInMarks op b=false):FE X (.Compare a [op] [b] pos) (op2 h f g):=by
 have⟨ta,pa,qa⟩:=ha;have⟨tb,pb,qb⟩:=hb;refine⟨_,zeM ho pa pb hm,λσ H os ρ c Q R q k=>?_⟩;have⟨d,e,e1,e2,e3⟩:=UY q;refine two qa qb R e1 e2 λx y H' s r1 r2=>hr x y H' os d e c Q (R.al.same s) r1 r2 e3 λv H2 s2=>k v H2 (s.trans s2)
noncomputable def zB(f:RPx):Ro->Option Bool:=λρ=>match f ρ with |some (.bool b)=>some b|_=>none
def Zi{ρ:Ro}{b:Bool}(h:zB f ρ=some b):f ρ=some (.bool b):=by
 unfold zB at h;split at h
 ·rename_i e;cases h;exact e
 ·cases h
def ym{op:CmpOp}{r:R2}{h:PyData->PyData->Option PyData}(ho:OpR X (compareOp op) r)(hr:R2F X.K r h)(ha:FB X a f)(hb:FB X b g)(hm:behindInMarks op b=false):FT X (.Compare a [op] [b] pos) (zB (op2 h f g)):=by
 have⟨ta,pa,qa⟩:=ha;have⟨tb,pb,qb⟩:=hb;refine⟨_,zeA ho pa pb hm,λσ H os ρ c Q R q k=>?_⟩;obtain⟨d,e,e1,e2,e3⟩:=UY (Zi q);refine two qa qb R e1 e2 λx y H' s r1 r2=>hr x y H' os d e (.bool c) _ (R.al.same s) r1 r2 e3 λv H2 s2 rv=>?_
 cases rv;exact⟨c,rfl,k H2 (s.trans s2)⟩
def zaL(ha:FE X e f)(he:∀whole,isTrue e X.env whole=(do let v <-whole;standAt e.pos;holding [v] (truthy v)):=by intro _;rfl):FT X e (zB f):=by
 have⟨ta,pa,qa⟩:=ha;refine⟨_,zid pa he,λσ H os ρ c Q R q k=>?_⟩;refine qa σ H os ρ _ _ R (Zi q) λv H' s rv=>?_
 cases rv;exact⟨c,rfl,k H' s⟩
noncomputable def ZK(f:Ro->Option Bool):Ro->Option Bool:=λρ=>(f ρ).map (!·)
noncomputable def za6(f g:Ro->Option Bool):Ro->Option Bool:=λρ=>(f ρ).bind λc=>if c then g ρ else some false
noncomputable def orT(f g:Ro->Option Bool):Ro->Option Bool:=λρ=>(f ρ).bind λc=>if c then some true else g ρ
def zhL{f:Ro->Option Bool}(ha:FT X a f):FT X (.UnaryOp .Not a pos) (ZK f):=by
 have⟨ta,pa,qa⟩:=ha;refine⟨_,zhB pa,λσ H os ρ c Q R q k=>?_⟩;have⟨b,e1,e2⟩:=map_some q;subst e2;exact qa σ H os ρ b _ R e1 k
def FW.ft{f:Ro->Option Bool}(h:FW X e f):FT X e f:=by
 have⟨t,p,q⟩:=h;exact⟨t,p.pt,q⟩
def zjh{f:Ro->Option Bool}(ha:FT X a f):FW X (.BoolOp .And [a] pos) f:=by
 have⟨t,p,q⟩:=ha;exact⟨t,pw_and1 p,q⟩
def zd7{f:Ro->Option Bool}(ha:FT X a f):FW X (.BoolOp .Or [a] pos) f:=by
 have⟨t,p,q⟩:=ha;exact⟨t,pw_or1 p,q⟩
def zkJ{f g:Ro->Option Bool}{rest:List Expr}(ha:FT X a f)(hb:FW X (.BoolOp .And (b::rest) pos) g):FW X (.BoolOp .And (a::b::rest) pos) (za6 f g):=by
 have⟨ta,pa,qa⟩:=ha;have⟨tb,pb,qb⟩:=hb;refine⟨_,pw_and pa pb,λσ H os ρ c Q R q k=>?_⟩;have⟨b,e1,e2⟩:=bind_some q;refine qa σ H os ρ b _ R e1 λH' s=>?_
 cases b with
 |true=>rw[qf rfl] at e2 ⊢;exact qb σ H' os ρ c Q (R.same s) e2 λH2 s2=>k H2 (s.trans s2)
 |false=>rw[qq qF] at e2 ⊢;cases e2;exact k H' s
def ze0{f g:Ro->Option Bool}{rest:List Expr}(ha:FT X a f)(hb:FW X (.BoolOp .Or (b::rest) pos) g):FW X (.BoolOp .Or (a::b::rest) pos) (orT f g):=by
 have⟨ta,pa,qa⟩:=ha;have⟨tb,pb,qb⟩:=hb;refine⟨_,pw_or pa pb,λσ H os ρ c Q R q k=>?_⟩;have⟨b,e1,e2⟩:=bind_some q;refine qa σ H os ρ b _ R e1 λH' s=>?_
 cases b with
 |true=>rw[qf rfl] at e2 ⊢;cases e2;exact k H' s
 |false=>rw[qq qF] at e2 ⊢;exact qb σ H' os ρ c Q (R.same s) e2 λH2 s2=>k H2 (s.trans s2)
noncomputable def zfJ(f g:RPx):RPx:=λρ=>match f ρ with |some (.bool true)=>g ρ|some (.bool false)=>some (.bool false)|_=>none
def zlz{op}(h:FE X a f):FE X (.BoolOp op [a] pos) f:=by
 have⟨t,p,q⟩:=h;exact⟨t,zgI p,q⟩
def zgt{rest:List Expr}(ha:FE X a f)(hb:FE X (.BoolOp .And (b::rest) pos) g):FE X (.BoolOp .And (a::b::rest) pos) (zfJ f g):=by
 have⟨ta,pa,qa⟩:=ha;have⟨tb,pb,qb⟩:=hb;refine⟨_,zhO pa pb,λσ H os ρ c Q R q k=>?_⟩;unfold zfJ at q;split at q
 ·rename_i e1;refine qa σ H os ρ _ _ R e1 λv H' s rv=>?_
  cases rv;refine⟨true,rfl,?_⟩;rw[qf rfl];exact qb σ H' os ρ c Q (R.same s) q λv H2 s2=>k v H2 (s.trans s2)
 ·rename_i e1;cases q;refine qa σ H os ρ _ _ R e1 λv H' s rv=>?_
  cases rv;refine⟨false,rfl,?_⟩;rw[qq qF];exact k _ H' s (.bl _)
 ·cases q
noncomputable def ifE(c:Ro->Option Bool)(f g:RPx):RPx:=λρ=>(c ρ).bind λb=>if b then f ρ else g ρ
def zbX{c:Expr}{fc:Ro->Option Bool}(hc:FT X c fc)(ha:FE X a f)(hb:FE X b g):FE X (.IfExp c a b pos) (ifE fc f g):=by
 have⟨tc,pc,qc⟩:=hc;have⟨ta,pa,qa⟩:=ha;have⟨tb,pb,qb⟩:=hb;refine⟨_,zhc pc pa pb,λσ H os ρ d Q R q k=>?_⟩;have⟨b,e1,e2⟩:=bind_some q;refine qc σ H os ρ b _ R e1 λH' s=>?_
 cases b with
 |true=>rw[qf rfl] at e2 ⊢;exact qa σ H' os ρ d Q (R.same s) e2 λv H2 s2=>k v H2 (s.trans s2)
 |false=>rw[qq qF] at e2 ⊢;exact qb σ H' os ρ d Q (R.same s) e2 λv H2 s2=>k v H2 (s.trans s2)
noncomputable def op1(h:PyData->Option PyData)(f:RPx):RPx:=λρ=>(f ρ).bind h
noncomputable def zbv:PyData->Option PyData
 | .int i=>some (.int (-i))
 |_=>none
def za5(ha:FE X a f):FE X (.UnaryOp .USub a pos) (op1 zbv f):=by
 have⟨ta,pa,qa⟩:=ha;refine⟨_,zmM zlF pa,λσ H os ρ c Q R q k=>?_⟩;have⟨d,e1,e2⟩:=bind_some q;refine qa σ H os ρ _ _ R e1 λv H' s rv=>?_
 unfold zbv at e2;split at e2
 ·cases e2;cases rv;exact⟨_,rfl,k _ H' s (.int _)⟩
 ·cases e2
noncomputable def a0:RLx:=λ_=>some []
noncomputable def aC(f:RPx)(g:RLx):RLx:=λρ=>(f ρ).bind λx=>(g ρ).map (x::·)
variable{es:List Expr}{ga:RLx}
def zi:FA X [] a0:=⟨_,xW,λ_ H _ _ _ _ _ q k=>by cases q;exact k [] H (Same.refl H) .nil⟩
def zu:FAB X [] a0:=⟨_,xW,λ_ H _ _ _ _ _ q k=>by cases q;exact k [] H (Same.refl H) .nil⟩
def za(ha:FE X e f)(hr:FA X es ga)(hs:SEx X e es:=by rfl):FA X (e::es) (aC f ga):=by
 have⟨ta,pa,qa⟩:=ha;have⟨tb,pb,qb⟩:=hr;refine⟨_,yU pa pb hs,λσ H os ρ ds Q R q k=>?_⟩;have⟨d,e1,q⟩:=bind_some q;have⟨r,e2,e3⟩:=map_some q;subst e3;exact qa σ H os ρ d _ R e1 λx H1 s1 r1=>qb σ H1 os ρ r _ (R.same s1) e2 λxs H2 s2 r2=>k _ H2 (s1.trans s2) (.cons (r1.same (zl s2 os)) r2)
def zj(ha:FB X e f)(hr:FAB X es ga)(hs:SEx X e es:=by rfl):FAB X (e::es) (aC f ga):=by
 have⟨ta,pa,qa⟩:=ha;have⟨tb,pb,qb⟩:=hr;refine⟨_,yU pa pb hs,λσ H os ρ ds Q R q k=>?_⟩;have⟨d,e1,q⟩:=bind_some q;have⟨r,e2,e3⟩:=map_some q;subst e3;exact qa σ H os ρ d _ R e1 λx H1 s1 r1=>qb σ H1 os ρ r _ (R.same s1) e2 λxs H2 s2 r2=>k _ H2 (s1.trans s2) (.cons (r1.same s2) r2)
noncomputable def xu(g:RLx):RPx:=λρ=>(g ρ).bind λds=>if ds.length<=16777216 then some (.tuple ds) else none
def yI{x1}(h:FA X es ga):FE X (.Tuple es x1 pos) (xu ga):=by
 have⟨t,p,q⟩:=h;refine⟨_,zdC p,λσ H os ρ d Q R e k=>?_⟩;have⟨ds,e1,e2⟩:=bind_some e;by_cases hl:ds.length<=16777216
 ·rw[qf hl] at e2;cases e2;refine q σ H os ρ ds _ R e1 λvs H' s r=>⟨by rw[r.length];exact hl,λp hp=>k _ _ (s.trans (yg hp _)) (.tup (SqT.of ?_) (r.same (zl (yg hp _) os)))⟩
  rw[zq ((R.al.same s).new hp)];exact zJ
 ·rw[qq hl] at e2;cases e2
noncomputable def vo(g:RLx):RLx:=λρ=>(g ρ).bind λds=>if ds.length<=16777216 then some ds else none
def xQ(h:FA X es ga):FL X (.List es pos) (vo ga):=by
 have⟨t,p,q⟩:=h;refine⟨_,zlq p,λσ H os ρ d Q R e k=>?_⟩;have⟨ds,e1,e2⟩:=bind_some e;by_cases hl:ds.length<=16777216
 ·rw[qf hl] at e2;cases e2;refine q σ H os ρ d _ R e1 λvs H' s r=>⟨by rw[r.length];exact hl,λp hp=>k p vs _ (s.free hp) (s.trans (yg hp _)) zJ ?_⟩
  rw[jx];refine r.same λb o z=>?_
  by_cases hb:b∈os
  ·rw[yS hb] at z;cases z
  ·rw[zq hb] at z;rw[zq]
   ·exact z
   ·intro w;rcases qu.mp w with w|w
    ·rw[w,hp] at z;cases z
    ·exact hb w
 ·rw[qq hl] at e2;cases e2
end
end L2.Fu
namespace L2.Fu
open PySem PySem.Spec PyProof.Rows
open PySem.Builtin.Int (intBits)
noncomputable def xN:PyData->PyData->Option PyData
 | .int i,.int j=>some (.int (i+j))
 |_,_=>none
noncomputable def VR:PyData->PyData->Option PyData
 | .int i,.int j=>some (.int (i - j))
 |_,_=>none
def yR:PyData->PyData->Option PyData
 | .int i,.int j=>open Classical in if IntMulOk i j then some (.int (i*j)) else none
 |_,_=>none
noncomputable def yj:PyData->PyData->Option PyData
 | .int i,.int j=>if j≠0/\j.natAbs.log2<9000 then some (.int (i.fdiv j)) else none
 |_,_=>none
noncomputable def yy:PyData->PyData->Option PyData
 | .int i,.int j=>if j≠0 then some (.int (i.fmod j)) else none
 |_,_=>none
noncomputable def zdg(p:Int->Int->Bool):PyData->PyData->Option PyData
 | .int i,.int j=>some (.bool (p i j))
 |_,_=>none
section
variable{K:FRx}
def jZ:R2F K (rI0 λi j=>.int (i+j)) xN:=by
 intro x y H os d e c Q al r1 r2 h k;unfold xN at h;split at h
 ·cases h;exact⟨_,_,r1.int,r2.int,k _ H (Same.refl H) (.int _)⟩
 ·cases h
def JD:R2F K (rI0 λi j=>.int (i - j)) VR:=by
 intro x y H os d e c Q al r1 r2 h k;unfold VR at h;split at h
 ·cases h;exact⟨_,_,r1.int,r2.int,k _ H (Same.refl H) (.int _)⟩
 ·cases h
def xJ:R2F K (rI IntMulOk λi j=>.int (i*j)) yR:=by
 intro x y H os d e c Q al r1 r2 h k;unfold yR at h;split at h
 ·split at h
  ·rename_i hc;cases h;exact⟨_,_,r1.int,r2.int,hc,k _ H (Same.refl H) (.int _)⟩
  ·cases h
 ·cases h
def yL:R2F K (rI zkq λi j=>.int (i.fdiv j)) yj:=by
 intro x y H os d e c Q al r1 r2 h k;unfold yj at h;split at h
 ·split at h
  ·rename_i hc;cases h;exact⟨_,_,r1.int,r2.int,hc,k _ H (Same.refl H) (.int _)⟩
  ·cases h
 ·cases h
def xt:R2F K (rI (λ_ j=>j≠0) λi j=>.int (i.fmod j)) yy:=by
 intro x y H os d e c Q al r1 r2 h k;unfold yy at h;split at h
 ·split at h
  ·rename_i hc;cases h;exact⟨_,_,r1.int,r2.int,hc,k _ H (Same.refl H) (.int _)⟩
  ·cases h
 ·cases h
def uK{p:Int->Int->Bool}:R2F K (rI0 λi j=>.bl (p i j)) (zdg p):=by
 intro x y H os d e c Q al r1 r2 h k;unfold zdg at h;split at h
 ·cases h;exact⟨_,_,r1.int,r2.int,k _ H (Same.refl H) (.bl _)⟩
 ·cases h
noncomputable def eqD(d e:PdX):Option PyData:=if SeqAt.shaped d=true/\SeqAt.shaped e=true then some (.bool (PyData.eqv d e)) else none
noncomputable def neD(d e:PdX):Option PyData:=if SeqAt.shaped d=true/\SeqAt.shaped e=true then some (.bool (!PyData.eqv d e)) else none
def jv:R2F K (zml K) eqD:=by
 intro x y H os d e c Q al r1 r2 h k;unfold eqD at h;split at h
 ·rename_i hc;cases h;exact⟨d,e,r1.rep,r2.rep,hc.1,hc.2,k _ H (Same.refl H) (.bl _)⟩
 ·cases h
def Jq:R2F K (zmf K) neD:=by
 intro x y H os d e c Q al r1 r2 h k;unfold neD at h;split at h
 ·rename_i hc;cases h;exact⟨d,e,r1.rep,r2.rep,hc.1,hc.2,k _ H (Same.refl H) (.bl _)⟩
 ·cases h
def isNone:PyData->Bool
 | .none=>true
 |_=>false
noncomputable def isD:PyData->PyData->Option PyData
 |d,.none=>some (.bool (isNone d))
 |_,_=>none
noncomputable def Yv:PyData->PyData->Option PyData
 |d,.none=>some (.bool (!isNone d))
 |_,_=>none
def Ym{H:Hp}{x:V}{d:PdX}(h:Rep K H x d):decide (x=.non)=isNone d:=by
 cases h<;>rfl
def zmj:R2F K (λx y H Q=>y=.non/\Q (.bl (decide (x=.non))) H) isD:=by
 intro x y H os d e c Q al r1 r2 h k;unfold isD at h;split at h
 ·cases h;refine⟨r2.non,?_⟩;rw[Ym r1.rep];exact k _ H (Same.refl H) (.bl _)
 ·cases h
def zb8:R2F K (λx y H Q=>y=.non/\Q (.bl (!decide (x=.non))) H) Yv:=by
 intro x y H os d e c Q al r1 r2 h k;unfold Yv at h;split at h
 ·cases h;refine⟨r2.non,?_⟩;rw[Ym r1.rep];exact k _ H (Same.refl H) (.bl _)
 ·cases h
def ixD:PyData->PyData->Option PyData
 | .tuple ds,.int i=>atI ds i
 | .list ds,.int i=>atI ds i
 |_,_=>none
def zbC{G:Hp}{xs:List V}{ds:LPd}{i:Int}{d:PdX}(r:Reps K G xs ds)(h:atI ds i=some d):∃v,atI xs i=some v/\Rep K G v d:=by
 unfold atI at h ⊢;rw[r.length];cases e:ixN ds.length i with
 |none=>rw[e] at h;cases h
 |some j=>
  rw[e] at h;exact r.getD h
def zki:R2F K (zlr K) ixD:=by
 intro x y H os d e c Q al r1 r2 h k;unfold ixD at h;split at h
 ·obtain⟨a,xs,rfl,hS,_,r⟩:=r1.tup;have⟨v,e,rv⟩:=zbC r h;exact⟨true,a,xs,_,v,rfl,r2.int,hS,e,k v H (Same.refl H) rv⟩
 ·obtain⟨a,xs,rfl,hS,r⟩:=r1.lst;have⟨v,e,rv⟩:=zbC r h;exact⟨false,a,xs,_,v,rfl,r2.int,hS,e,k v H (Same.refl H) rv⟩
 ·cases h
noncomputable def Ji:PyData->PyData->Option PyData
 | .tuple ds,.tuple es=>if ds.length+es.length<=16777216 then some (.tuple (ds++es)) else none
 |_,_=>none
def vT:R2F K (zgw K) Ji:=by
 intro x y H os d e c Q al r1 r2 h k;unfold Ji at h;split at h
 ·rename_i ds es;split at h
  ·rename_i hc;cases h;obtain⟨a,xs,rfl,hS,hSo,r⟩:=r1.tup;obtain⟨b,ys,rfl,hT,hTo,q⟩:=r2.tup;have l1:=r.length;have l2:=q.length
   refine⟨a,b,xs,ys,rfl,rfl,hS,hT,by rw[l1,l2];exact hc,λz=>?_,λz w=>?_,λz w p hp=>?_⟩
   ·subst z;cases r;exact k _ H (Same.refl H) (.tup hTo q)
   ·subst w;cases q;rw[kg] at k;exact k _ H (Same.refl H) (.tup hSo r)
   ·have s:=yg hp (.tup (xs++ys));refine k _ _ s (.tup (SqT.of ?_) ((r.append q).same (zl s os)));rw[zq (al.new hp)];exact zJ
  ·cases h
 ·cases h
def wu{H:Hp}{os:LAd}{p:AdX}{o:HO}{xs:List V}{ds:LPd}(hp:H p=none)(r:Reps K (offs H os) xs ds):Reps K (offs (upd H p o) (p::os)) xs ds:=by
 rw[jx];refine r.same λb o z=>?_
 by_cases hb:b∈os
 ·rw[yS hb] at z;cases z
 ·rw[zq hb] at z;rw[zq]
  ·exact z
  ·intro w;rcases qu.mp w with w|w
   ·rw[w,hp] at z;cases z
   ·exact hb w
end
def FK(X:Cx)(e:Expr)(f:RLx):Prop:=∃t:TE,PE X e t/\∀(σ:St)(H:Hp)(os:LAd)(ρ:Ro)(ds:LPd)(Q:VK),xl X.K H os σ ρ->f ρ=some ds->
  (∀a xs H',Same H H'->H' a=some (.lst xs)->Reps X.K (offs H' os) xs ds->Q (.ref a) H')->t σ H Q
noncomputable def gk(i:Nat):RLx:=λρ=>match ρ[i]? with |some (.ow ds)=>some ds|_=>none
section
variable{X:Cx}{e a b:Expr}{pos:Pos}
def FL.fk{f:RLx}(h:FL X e f):FK X e f:=by
 have⟨t,h1,h2⟩:=h;exact⟨t,h1,λσ H os ρ ds Q R q k=>h2 σ H os ρ ds Q R q λa xs H' n s hx r=>k a xs H' s hx (r.same (yD λb hb=>qz _ hb))⟩
def vR{i:Nat}{ρ:Ro}{ds:LPd}(q:gk i ρ=some ds):ρ[i]?=some (.ow ds):=by
 unfold gk at q;split at q
 ·rename_i e;cases q;exact e
 ·cases q
def zdB(i:Nat){x:Str}(hN:X.N[i]?=some x:=by rfl)(hv:Vis X.env.scope x:=by trivial)(hd:NDx x:=by decide)(hcd:NCx x:=by decide):FK X (.Name x pos) (gk i):=by
 refine⟨_,yu hN hv hd hcd,λσ H os ρ d Q R q k=>?_⟩;obtain⟨a,xs,h1,h2,h3,h4⟩:=R.ow i d (vR q);exact⟨_,h1,k _ _ H (Same.refl H) h3 h4⟩
noncomputable def zfY(f g:RLx):RLx:=λρ=>(f ρ).bind λx=>(g ρ).bind λy=>if x.length+y.length<=16777216 then some (x++y) else none
def zhQ{f g:RLx}(ha:FK X a f)(hb:FK X b g):FL X (.BinOp a .Add b pos) (zfY f g):=by
 have⟨ta,pa,qa⟩:=ha;have⟨tb,pb,qb⟩:=hb;refine⟨_,zby zkK pa pb,λσ H os ρ c Q R q k=>?_⟩;have⟨x,e1,q⟩:=bind_some q;have⟨y,e2,q⟩:=bind_some q;split at q
 ·rename_i hl;cases q;refine qa σ H os ρ x _ R e1 λa xs H1 s1 h1 r1=>qb σ H1 os ρ y _ (R.same s1) e2 λb ys H2 s2 h2 r2=>?_
  have l1:=r1.length;have l2:=r2.length
  refine⟨a,b,xs,ys,rfl,rfl,s2 _ _ h1,h2,by rw[l1,l2];exact hl,λp hp=>?_⟩;exact k p _ _ (s1.free (s2.free hp)) ((s1.trans s2).trans (yg hp _)) zJ (wu hp ((r1.same (zl s2 os)).append r2))
 ·cases q
noncomputable def zh3(f:RLx)(g:RPx):RLx:=λρ=>(f ρ).bind λx=>match g ρ with
 |some (.int k)=>if -(2 ^ 63)<=k/\k<2 ^ 63/\x.length*k.toNat<=16777216 then some (List.replicate k.toNat x).flatten else none
 |_=>none
theorem Y3{K:FRx}{H:Hp}{xs:List V}{ds:LPd}(r:Reps K H xs ds):∀k:Nat,Reps K H (List.replicate k xs).flatten (List.replicate k ds).flatten
 |0=>.nil
 |k+1=>by
  rw[gw,gw,gT,gT];exact r.append (Y3 r k)
def zh8{f:RLx}{g:RPx}(ha:FK X a f)(hb:FE X b g):FL X (.BinOp a .Mult b pos) (zh3 f g):=by
 have⟨ta,pa,qa⟩:=ha;have⟨tb,pb,qb⟩:=hb;refine⟨_,zby zli pa pb,λσ H os ρ c Q R q k=>?_⟩;have⟨x,e1,q⟩:=bind_some q;split at q
 ·rename_i n e2;split at q
  ·rename_i hl;cases q;refine qa σ H os ρ x _ R e1 λa xs H1 s1 h1 r1=>qb σ H1 os ρ _ _ (R.same s1) e2 λv H2 s2 r2=>?_
   cases r2;have l1:=r1.length;refine⟨a,n,xs,rfl,rfl,s2 _ _ h1,hl.1,hl.2.1,by rw[l1];exact hl.2.2,λp hp=>?_⟩;exact k p _ _ (s1.free (s2.free hp)) ((s1.trans s2).trans (yg hp _)) zJ (wu hp (Y3 (r1.same (zl s2 os)) _))
  ·cases q
 ·cases q
def FO(X:Cx)(e:Option Expr)(f:Ro->Option (Option Int)):Prop:=∃t:TO,PO X e t/\∀(σ:St)(H:Hp)(os:LAd)(ρ:Ro)(d:Option Int)(Q:Option Int->Hp->Prop),xl X.K H os σ ρ->f ρ=some d->(∀H',Same H H'->Q d H')->t σ H Q
noncomputable def o0:Ro->Option (Option Int):=λ_=>some none
noncomputable def oS(f:RPx):Ro->Option (Option Int):=λρ=>match f ρ with |some (.int i)=>some (some i)|_=>none
def zeW:FO X none o0:=⟨_,zjQ,λ_ H _ _ _ _ _ q k=>by cases q;exact k H (Same.refl H)⟩
def JI{f:RPx}(h:FE X e f):FO X (some e) (oS f):=by
 have⟨t,p,q⟩:=h;refine⟨_,ziF p,λσ H os ρ d Q R e k=>?_⟩;unfold oS at e;split at e
 ·rename_i i e1;cases e;refine q σ H os ρ _ _ R e1 λv H' s r=>?_
  cases r;exact⟨i,rfl,k H' s⟩
 ·cases e
def cut(ds:LPd)(lo hi:Option Int):List PyData:=(ds.drop (HT.sIx ds.length 0 lo)).take (HT.sIx ds.length ds.length hi - HT.sIx ds.length 0 lo)
def zb1{K:FRx}{H:Hp}{xs:List V}{ds:LPd}(r:Reps K H xs ds)(lo hi:Option Int):Reps K H (zfr xs lo hi) (cut ds lo hi):=by
 unfold zfr cut;rw[r.length];exact(r.drop _).take _
def slL(f:RPx)(l h:Ro->Option (Option Int)):RLx:=λρ=>match f ρ with
 |some (.list ds)=>(l ρ).bind λlo=>(h ρ).bind λhi=>some (cut ds lo hi)
 |_=>none
variable{lo hi:Option Expr}{p2:Pos}{l h:Ro->Option (Option Int)}{f:RPx}
def Yc(ha:FB X e f)(hl:FO X lo l)(hh:FO X hi h):FL X (.Subscript e (.Slice lo hi none p2) pos) (slL f l h):=by
 have⟨ta,pa,qa⟩:=ha;have⟨tl,pl,ql⟩:=hl;have⟨th,ph,qh⟩:=hh;refine⟨_,zcw zeh pa pl ph,λσ H os ρ c Q R q k=>?_⟩;unfold slL at q;split at q
 ·rename_i ds e1;have⟨a,e2,q⟩:=bind_some q;have⟨b,e3,q⟩:=bind_some q;cases q;refine qa σ H os ρ _ _ R e1 λv H1 s1 r1=>ql σ H1 os ρ a _ (R.same s1) e2 λH2 s2=>qh σ H2 os ρ b _ (R.same (s1.trans s2)) e3 λH3 s3=>?_
  obtain⟨p,xs,rfl,hS,r⟩:=(r1.same (s2.trans s3)).lst;exact⟨p,xs,rfl,hS,λq hq=>k q _ _ ((s1.trans s2).trans s3 |>.free hq) (((s1.trans s2).trans s3).trans (yg hq _)) zJ (wu hq (zb1 r a b))⟩
 ·cases q
def CRF(K:FRx)(r:List V->Hp->VK->Prop)(h:LPx):Prop:=∀(xs:List V)(H:Hp)(os:LAd)(ds:LPd)(c:PdX)(Q:VK),Al H os->vg K H os xs ds->h ds=some c->(∀v H',Same H H'->Rep K (offs H' os) v c->Q v H')->r xs H Q
def CRL(K:FRx)(r:List V->Hp->VK->Prop)(h:LLx):Prop:=∀(xs:List V)(H:Hp)(os:LAd)(ds:LPd)(c:LPd)(Q:VK),Al H os->vg K H os xs ds->h ds=some c->
  (∀a xs H',H a=none->Same H H'->H' a=some (.lst xs)->Reps K (offs H' (a::os)) xs c->Q (.ref a) H')->r xs H Q
noncomputable def zf(h:LPx)(g:RLx):RPx:=λρ=>(g ρ).bind h
noncomputable def yQ(h:LLx)(g:RLx):RLx:=λρ=>(g ρ).bind h
variable{x:Str}{p:Pos}{es:List Expr}{ga:RLx}{id T:String}{r:List V->Hp->VK->Prop}
def zH{h:LPx}(hc:vh X (.builtin id) r)(hr:CRF X.K r h)(hg:Gl X x)(hm:X.mg x=none)(hv:bootBuiltins x=some (.builtin id))(ha:FAB X (e::es) ga)(hn:x≠"__name__":=by decide)(hdb:NDx x:=by decide)(he:SEx X e es:=by rfl)(hpl:PLx X pos es:=by rfl):FE X (.Call (.Name x p) (e::es) [] pos) (zf h ga):=by
 have⟨t,pa,qa⟩:=ha;refine⟨_,Yt hc hg hm hv pa hn hdb he hpl,λσ H os ρ c Q R q k=>?_⟩;have⟨ds,e1,e2⟩:=bind_some q;exact qa σ H os ρ ds _ R e1 λvs H' s rv=>hr vs H' os ds c Q (R.al.same s) rv e2 λv H2 s2=>k v H2 (s.trans s2)
def yi{h:LPx}(hc:vh X (.type T) r)(hr:CRF X.K r h)(hg:Gl X x)(hm:X.mg x=none)(hv:bootBuiltins x=some (.type T))(ha:FAB X (e::es) ga)(hn:x≠"__name__":=by decide)(hdb:NDx x:=by decide)(he:SEx X e es:=by rfl)(hpl:PLx X pos es:=by rfl):FE X (.Call (.Name x p) (e::es) [] pos) (zf h ga):=by
 have⟨t,pa,qa⟩:=ha;refine⟨_,JP hc hg hm hv pa hn hdb he hpl,λσ H os ρ c Q R q k=>?_⟩;have⟨ds,e1,e2⟩:=bind_some q;exact qa σ H os ρ ds _ R e1 λvs H' s rv=>hr vs H' os ds c Q (R.al.same s) rv e2 λv H2 s2=>k v H2 (s.trans s2)
def xZ{h:LLx}(hc:vh X (.type T) r)(hr:CRL X.K r h)(hg:Gl X x)(hm:X.mg x=none)(hv:bootBuiltins x=some (.type T))(ha:FAB X (e::es) ga)(hn:x≠"__name__":=by decide)(hdb:NDx x:=by decide)(he:SEx X e es:=by rfl)(hpl:PLx X pos es:=by rfl):FL X (.Call (.Name x p) (e::es) [] pos) (yQ h ga):=by
 have⟨t,pa,qa⟩:=ha;refine⟨_,JP hc hg hm hv pa hn hdb he hpl,λσ H os ρ c Q R q k=>?_⟩;have⟨ds,e1,e2⟩:=bind_some q;exact qa σ H os ρ ds _ R e1 λvs H' s rv=>hr vs H' os ds c Q (R.al.same s) rv e2 λa xs H2 n s2=>k a xs H2 (s.free n) (s.trans s2)
noncomputable def yl:List PyData->Option PyData
 |[.list ds]=>some (.int ds.length)
 |[.tuple ds]=>some (.int ds.length)
 |_=>none
noncomputable def yk:List PyData->Option PyData
 |[.list ds]=>some (.tuple ds)
 |[.tuple ds]=>some (.tuple ds)
 |_=>none
noncomputable def ju:List PyData->Option (List PyData)
 |[.list ds]=>some ds
 |[.tuple ds]=>some ds
 |_=>none
noncomputable def zjH:List PyData->Option PyData
 |[.int i]=>some (.int (if i<0 then -i else i))
 |_=>none
noncomputable def maxD:List PyData->Option PyData
 |[.int i,.int j]=>some (.int (if j>i then j else i))
 |_=>none
noncomputable def minD:List PyData->Option PyData
 |[.int i,.int j]=>some (.int (if j<i then j else i))
 |_=>none
noncomputable def zff:PyData->Option Int
 | .int i=>some i
 |_=>none
noncomputable def vf{α β:Type}(h:α->Option β):List α->Option (List β)
 |[]=>some []
 |x::r=>(h x).bind λy=>(vf h r).map (y::·)
def zjc:List PyData->Option PyData
 |[.list ds]=>(vf zff ds).map λns=>.int ns.sum
 |_=>none
theorem Za{K:FRx}{H:Hp}:∀{ds:LPd} {xs:List V} {ns:List Int},Reps K H xs ds->vf zff ds=some ns->xs=ns.map V.int
 |[],_,_,r,h=>by cases r;cases h;rfl
 |d::r,_,_,q,h=>by
  cases q with
  |cons h1 h2=>
   have⟨y,e1,h⟩:=bind_some h;have⟨ys,e2,e3⟩:=map_some h;subst e3;rw[Za h2 e2];cases d<;>cases e1
   cases h1;rfl
end
section
variable{K:FRx}
def xj:CRF K (λxs H Q=>∃p ys,xs=[.ref p]/\(SqL K H p ys\/SqT K H p ys)/\Q (.int ys.length) H) yl:=by
 intro xs H os ds c Q al rv h k;unfold yl at h;split at h
 ·cases h;obtain⟨v,rfl,r⟩:=rv.one;obtain⟨a,ys,rfl,hS,r⟩:=r.lst;exact⟨a,ys,rfl,.inl hS,by rw[r.length];exact k _ H (Same.refl H) (.int _)⟩
 ·cases h;obtain⟨v,rfl,r⟩:=rv.one;obtain⟨a,ys,rfl,hS,_,r⟩:=r.tup;exact⟨a,ys,rfl,.inr hS,by rw[r.length];exact k _ H (Same.refl H) (.int _)⟩
 ·cases h
def xa:CRF K (λxs H Q=>∃p ys,xs=[.ref p]/\((SqL K H p ys/\∀l,H l=none->Q (.ref l) (upd H l (.tup ys)))\/(SqT K H p ys/\Q (.ref p) H))) yk:=by
 intro xs H os ds c Q al rv h k;unfold yk at h;split at h
 ·cases h;obtain⟨v,rfl,r⟩:=rv.one;obtain⟨a,ys,rfl,hS,r⟩:=r.lst;refine⟨a,ys,rfl,.inl ⟨hS,λl hl=>?_⟩⟩;have s:=yg hl (.tup ys);refine k _ _ s (.tup (SqT.of ?_) (r.same (zl s os)));rw[zq (al.new hl)];exact zJ
 ·cases h;obtain⟨v,rfl,r⟩:=rv.one;obtain⟨a,ys,rfl,hS,hSo,r⟩:=r.tup;exact⟨a,ys,rfl,.inr ⟨hS,k _ H (Same.refl H) (.tup hSo r)⟩⟩
 ·cases h
def wU:CRL K (λxs H Q=>∃p ys,xs=[.ref p]/\(SqL K H p ys\/SqT K H p ys)/\∀l,H l=none->Q (.ref l) (upd H l (.lst ys))) ju:=by
 intro xs H os ds c Q al rv h k;unfold ju at h;split at h
 ·cases h;obtain⟨v,rfl,r⟩:=rv.one;obtain⟨a,ys,rfl,hS,r⟩:=r.lst;exact⟨a,ys,rfl,.inl hS,λl hl=>k l ys _ hl (yg hl _) zJ (wu hl r)⟩
 ·cases h;obtain⟨v,rfl,r⟩:=rv.one;obtain⟨a,ys,rfl,hS,_,r⟩:=r.tup;exact⟨a,ys,rfl,.inr hS,λl hl=>k l ys _ hl (yg hl _) zJ (wu hl r)⟩
 ·cases h
def zj6:CRF K (λxs H Q=>∃i,xs=[.int i]/\Q (.int (if i<0 then -i else i)) H) zjH:=by
 intro xs H os ds c Q al rv h k;unfold zjH at h;split at h
 ·cases h;obtain⟨v,rfl,r⟩:=rv.one;cases r.int;exact⟨_,rfl,k _ H (Same.refl H) (.int _)⟩
 ·cases h
def zh6:CRF K (λxs H Q=>∃i j,xs=[.int i,.int j]/\Q (.int (if j>i then j else i)) H) maxD:=by
 intro xs H os ds c Q al rv h k;unfold maxD at h;split at h
 ·cases h;obtain⟨v,u,rfl,r,r'⟩:=rv.two;cases r.int;cases r'.int;exact⟨_,_,rfl,k _ H (Same.refl H) (.int _)⟩
 ·cases h
def zmR:CRF K (λxs H Q=>∃i j,xs=[.int i,.int j]/\Q (.int (if j<i then j else i)) H) minD:=by
 intro xs H os ds c Q al rv h k;unfold minD at h;split at h
 ·cases h;obtain⟨v,u,rfl,r,r'⟩:=rv.two;cases r.int;cases r'.int;exact⟨_,_,rfl,k _ H (Same.refl H) (.int _)⟩
 ·cases h
def zmt:CRF K (λxs H Q=>∃(p:AdX)(ns:List Int),xs=[.ref p]/\SqL K H p (ns.map V.int)/\Q (.int ns.sum) H) zjc:=by
 intro xs H os ds c Q al rv h k;unfold zjc at h;split at h
 ·have⟨ns,e1,e2⟩:=map_some h;subst e2;obtain⟨v,rfl,r⟩:=rv.one;obtain⟨a,ys,rfl,hS,r⟩:=r.lst;rw[Za r e1] at hS;exact⟨a,ns,rfl,hS,k _ H (Same.refl H) (.int _)⟩
 ·cases h
end
noncomputable def ziS(T:String):PyData->Option PyData
 | .int _=>if T="int" then some (.bool true) else if T="bool" then some (.bool false) else if T="tuple" then some (.bool false) else none
 | .bool _=>if T="int" then some (.bool true) else if T="bool" then some (.bool true) else none
 | .tuple _=>if T="tuple" then some (.bool true) else if T="list" then some (.bool false) else if T="int" then some (.bool false) else none
 | .list _=>if T="list" then some (.bool true) else if T="tuple" then some (.bool false) else if T="int" then some (.bool false) else none
 |_=>none
def zlO{K:FRx}{H:Hp}{os:LAd}{v:V}{d:PdX}{T:String}{c:PdX}(r:jH K H os v d)(h:ziS T d=some c):∃b,c=.bool b/\IsI K H v T b:=by
 unfold ziS at h;split at h
 ·cases r.int;split at h
  ·rename_i e;subst e;cases h;exact⟨_,rfl,.int_int _⟩
  ·split at h
   ·rename_i e;subst e;cases h;exact⟨_,rfl,.int_bool _⟩
   ·split at h
    ·rename_i e;subst e;cases h;exact⟨_,rfl,.int_tup _⟩
    ·cases h
 ·cases r.bl;split at h
  ·rename_i e;subst e;cases h;exact⟨_,rfl,.bl_int _⟩
  ·split at h
   ·rename_i e;subst e;cases h;exact⟨_,rfl,.bl_bool _⟩
   ·cases h
 ·obtain⟨a,xs,rfl,hS,_,_⟩:=r.tup;split at h
  ·rename_i e;subst e;cases h;exact⟨_,rfl,.tup_tup hS⟩
  ·split at h
   ·rename_i e;subst e;cases h;exact⟨_,rfl,.tup_lst hS⟩
   ·split at h
    ·rename_i e;subst e;cases h;exact⟨_,rfl,.tup_int hS⟩
    ·cases h
 ·obtain⟨a,xs,rfl,hS,_⟩:=r.lst;split at h
  ·rename_i e;subst e;cases h;exact⟨_,rfl,.lst_lst hS⟩
  ·split at h
   ·rename_i e;subst e;cases h;exact⟨_,rfl,.lst_tup hS⟩
   ·split at h
    ·rename_i e;subst e;cases h;exact⟨_,rfl,.lst_int hS⟩
    ·cases h
 ·cases h
section
variable{X:Cx}{e:Expr}{f:RPx}{pos p p2:Pos}{T:String}{tn:Str}
def zlh(ha:FB X e f)(hg:Gl X "isinstance")(hm:X.mg "isinstance"=none)(hgt:Gl X tn)(hmt:X.mg tn=none)(ht:bootBuiltins tn=some (.type T))(hn:tn≠"__name__":=by decide)(hdb:NDx tn:=by decide)(he:starEach [e,.Name tn p2] X.env=(false,eval e X.env)::starEach [.Name tn p2] X.env:=by rfl)(he2:starEach [.Name tn p2] X.env=(false,eval (.Name tn p2) X.env)::starEach [] X.env:=by rfl)(hpl:(backTo pos (starEach [.Name tn p2] X.env)).any (·.1)=false:=by rfl):FE X (.Call (.Name "isinstance" p) [e,.Name tn p2] [] pos) (op1 (ziS T) f):=by
 have⟨t,pa,qa⟩:=ha;refine⟨_,Yt zgK hg hm ZH (yU pa (yU (ziu (v:=.ty T) hgt hmt ht rfl hn hdb) xW he2) he) (by decide) (by decide) he hpl,λσ H os ρ c Q R q k=>?_⟩;have⟨d,e1,e2⟩:=bind_some q;refine qa σ H os ρ d _ R e1 λv H' s rv=>?_
 obtain⟨b,rfl,hi⟩:=zlO rv e2;exact⟨v,T,b,rfl,hi,k _ H' s (.bl b)⟩
end
end L2.Fu
namespace L2.Fu
open PySem PySem.Spec PyProof.Rows
def spF(K:FRx)(f:LPx):Sp:=λvs H Q _=>∃os ds r,Al H os/\Reps K (offs H os) vs ds/\f ds=some r/\∀v H',Same H H'->Rep K (offs H' os) v r->Q v H'
def spL(K:FRx)(f:LLx):Sp:=λvs H Q _=>∃os ds r,Al H os/\Reps K (offs H os) vs ds/\f ds=some r/\
 ∀a xs H',H a=none->Same H H'->H' a=some (.lst xs)->Reps K (offs H' (a::os)) xs r->Q (.ref a) H'
abbrev xC(P:Program)(w:World)(K:FRx)(mg:Str->Option Value)(base:Heap)(k:Nat)(x:Str)(ps:LSr)(f:LPx):Prop:=Def P w K mg base CX0 k x ps (spF K f)
abbrev xY(P:Program)(w:World)(K:FRx)(mg:Str->Option Value)(base:Heap)(k:Nat)(x:Str)(ps:LSr)(f:LLx):Prop:=Def P w K mg base CX0 k x ps (spL K f)
noncomputable def zhq:PyData->Bool
 | .int _=>true
 | .bool _=>true
 | .none=>true
 | .str _=>true
 |_=>false
def zgP{K:FRx}{H H':Hp}{v:V}{d:PdX}(h:zhq d=true)(r:Rep K H v d):Rep K H' v d:=by
 cases r with
 |non=>exact .non
 |bl b=>exact .bl b
 |int i=>exact .int i
 |str x=>exact .str x
 |tup _ _=>cases h
 |lst _ _=>cases h
def Wk(h:LPx)(g:RLx):RPx:=λρ=>(g ρ).bind λds=>(h ds).bind λr=>if zhq r=true then some r else none
section
variable{X:Cx}{k k':Nat}{x:Str}{ps:LSr}{p pos:Pos}{e:Expr}{es:List Expr}{ga:RLx}
def zw{f:LPx}(D:xC X.prog X.w X.K X.mg X.base k x ps f)(hr:Room k' X.A)(hg:Gl X x)(ha:FA X (e::es) ga)(hk:k<=k':=by decide)(hdb:NDx x:=by decide)(he:SEx X e es:=by rfl)(hpl:PLx X pos es:=by rfl):FE X (.Call (.Name x p) (e::es) [] pos) (zf f ga):=by
 have⟨t,pa,qa⟩:=ha;refine⟨_,VF D hr hg ur pa hk hdb he hpl,λσ H os ρ c Q R q k=>?_⟩;have⟨ds,e1,e2⟩:=bind_some q;refine qa σ H os ρ ds _ R e1 λvs H' s rv=>?_
 rw[kg];exact⟨os,ds,c,R.al.same s,rv,e2,λv H2 s2=>k v H2 (s.trans s2)⟩
def vX{f:LLx}(D:xY X.prog X.w X.K X.mg X.base k x ps f)(hr:Room k' X.A)(hg:Gl X x)(ha:FA X (e::es) ga)(hk:k<=k':=by decide)(hdb:NDx x:=by decide)(he:SEx X e es:=by rfl)(hpl:PLx X pos es:=by rfl):FL X (.Call (.Name x p) (e::es) [] pos) (yQ f ga):=by
 have⟨t,pa,qa⟩:=ha;refine⟨_,VF D hr hg ur pa hk hdb he hpl,λσ H os ρ c Q R q k=>?_⟩;have⟨ds,e1,e2⟩:=bind_some q;refine qa σ H os ρ ds _ R e1 λvs H' s rv=>?_
 rw[kg];exact⟨os,ds,c,R.al.same s,rv,e2,λa xs H2 n s2=>k a xs H2 (s.free n) (s.trans s2)⟩
def Zl{f:LPx}(D:xC X.prog X.w X.K X.mg X.base k x ps f)(hr:Room k' X.A)(hg:Gl X x)(ha:FAB X (e::es) ga)(hk:k<=k':=by decide)(hdb:NDx x:=by decide)(he:SEx X e es:=by rfl)(hpl:PLx X pos es:=by rfl):FE X (.Call (.Name x p) (e::es) [] pos) (Wk f ga):=by
 have⟨t,pa,qa⟩:=ha;refine⟨_,VF D hr hg ur pa hk hdb he hpl,λσ H os ρ c Q R q k=>?_⟩;have⟨ds,e1,q⟩:=bind_some q;have⟨r,e2,q⟩:=bind_some q;split at q
 ·rename_i hs;cases q;refine qa σ H os ρ ds _ R e1 λvs H' s rv=>?_
  rw[kg];have e0:offs H' []=H':=by funext b;exact zq (by simp)
  refine⟨[],ds,c,Al.nil _,by rw[e0];exact rv.reps,e2,λv H2 s2 rr=>k v H2 (s.trans s2) (zgP hs rr)⟩
 ·cases q
end
def Walks(K:FRx)(G G0:Hp)(J:It)(ds:LPd):Prop:=∀(H1:Hp)(os1:LAd),Al H1 os1->Same G H1->Same G0 (offs H1 os1)->
  (∀(i:Nat)(d:PdX),ds[i]?=some d->J.go i H1/\∀x H2,J.yld i H1 x H2->Same H1 H2/\Rep K (offs H2 os1) x d)/\J.stop ds.length H1
def FI(X:Cx)(tg iter:Expr)(f:RLx):Prop:=∃wi:TI,PI X tg iter wi/\∀(σ:St)(H:Hp)(os:LAd)(ρ:Ro)(ds:LPd)(R:It->Hp->Prop),xl X.K H os σ ρ->f ρ=some ds->
  (∀J H',Same H H'->Walks X.K (offs H' os) (offs H' os) J ds->R J H')->wi σ H R
def FIB(X:Cx)(tg iter:Expr)(f:RLx):Prop:=∃wi:TI,PI X tg iter wi/\∀(σ:St)(H:Hp)(os:LAd)(ρ:Ro)(ds:LPd)(R:It->Hp->Prop),xl X.K H os σ ρ->f ρ=some ds->
  (∀J H',Same H H'->Walks X.K H' (offs H' os) J ds->R J H')->wi σ H R
def Walks.mono{K:FRx}{G G' G0:Hp}{J:It}{ds:LPd}(h:Walks K G G0 J ds)(e:Same G G'):Walks K G' G0 J ds:=λH1 os1 a s s0=>h H1 os1 a (e.trans s) s0
section
variable{X:Cx}{tg iter l:Expr}{f:RLx}{g:RPx}{p pos:Pos}
def FI.fib(h:FI X tg iter f):FIB X tg iter f:=by
 have⟨wi,p,q⟩:=h;exact⟨wi,p,λσ H os ρ ds R rel e k=>q σ H os ρ ds R rel e λJ H' s w=>k J H' s (w.mono (xx H' os))⟩
noncomputable def yw(g:RPx):RLx:=λρ=>match g ρ with
 |some (.list ds)=>some ds
 |some (.tuple ds)=>some ds
 |_=>none
def vv{K:FRx}{G G0:Hp}{t:Bool}{a:AdX}{xs:List V}{ds:LPd}(hS:SqB K t G a xs)(r:Reps K G0 xs ds):Walks K G G0 (ItB K t a) ds:=by
 intro H1 os1 al s s0;have h1:SqB K t H1 a xs:=s.sqB hS;refine⟨λi d hd=>?_,?_⟩
 ·have⟨v,e,rv⟩:=r.getD hd;cases t
  ·refine⟨⟨xs,v,h1,e⟩,λx H2 hy=>?_⟩;obtain⟨rfl,hy⟩:=hy
   have:=hy xs h1;rw[e] at this;cases this;exact⟨Same.refl _,rv.same s0⟩
  ·refine⟨⟨xs,v,h1,e⟩,λx H2 hy=>?_⟩;obtain⟨rfl,hy⟩:=hy
   have:=hy xs h1;rw[e] at this;cases this;exact⟨Same.refl _,rv.same s0⟩
 ·cases t
  ·exact⟨xs,h1,by rw[r.length];exact qr _⟩
  ·exact⟨xs,h1,by rw[r.length];exact qr _⟩
def Jr(hl:FE X l g):FI X tg l (yw g):=by
 have⟨t,pl,ql⟩:=hl;refine⟨_,zdu pl,λσ H os ρ ds R rel e k=>?_⟩;unfold yw at e;split at e
 ·rename_i es e1;cases e;refine ql σ H os ρ _ _ rel e1 λv H' s r=>?_
  cases r with
  |lst hS r=>exact⟨_,false,rfl,⟨_,(xx H' os).seq hS⟩,k _ H' s (vv (t:=false) hS r)⟩
 ·rename_i es e1;cases e;refine ql σ H os ρ _ _ rel e1 λv H' s r=>?_
  cases r with
  |tup hS r=>exact⟨_,true,rfl,⟨_,(xx H' os).tup hS⟩,k _ H' s (vv (t:=true) hS r)⟩
 ·cases e
def yH(hl:FB X l g):FIB X tg l (yw g):=by
 have⟨t,pl,ql⟩:=hl;refine⟨_,zdu pl,λσ H os ρ ds R rel e k=>?_⟩;unfold yw at e;split at e
 ·rename_i es e1;cases e;refine ql σ H os ρ _ _ rel e1 λv H' s r=>?_
  obtain⟨a,xs,rfl,hS,r⟩:=r.lst;exact⟨_,false,rfl,⟨_,hS⟩,k _ H' s (vv (t:=false) hS r)⟩
 ·rename_i es e1;cases e;refine ql σ H os ρ _ _ rel e1 λv H' s r=>?_
  obtain⟨a,xs,rfl,hS,_,r⟩:=r.tup;exact⟨_,true,rfl,⟨_,hS⟩,k _ H' s (vv (t:=true) hS r)⟩
 ·cases e
noncomputable def jV(lo:Int)(n:Nat):List PyData:=(List.range n).map λi:Nat=>PyData.int (lo+i)
def yW(g:RLx):RLx:=λρ=>match g ρ with
 |some [.int j]=>if -(2 ^ 62)<=j/\j<2 ^ 62 then some (jV 0 j.toNat) else none
 |_=>none
def ui(g:RLx):RLx:=λρ=>match g ρ with
 |some [.int i,.int j]=>if -(2 ^ 62)<=i/\i<2 ^ 62/\-(2 ^ 62)<=j/\j<2 ^ 62 then some (jV i (j - i).toNat) else none
 |_=>none
def Vs{lo:Int}{n i:Nat}{d:PdX}(h:(jV lo n)[i]?=some d):i<n/\d=.int (lo+i):=by
 unfold jV at h;rw[qo] at h;by_cases hi:i<n
 ·rw[ke hi] at h;cases h;exact⟨hi,rfl⟩
 ·rw[kN (by simpa using qW hi)] at h;cases h
def zbH{lo:Int}{n:Nat}:(jV lo n).length=n:=by simp[jV]
def VT{K:FRx}{G G0:Hp}{lo:Int}{n:Nat}:Walks K G G0 (Itr lo n) (jV lo n):=by
 intro H1 os1 al s s0;refine⟨λi d hd=>?_,?_⟩
 ·have⟨h1,h2⟩:=Vs hd;subst h2;refine⟨h1,λx H2 hy=>?_⟩;obtain⟨rfl,rfl⟩:=hy;exact⟨Same.refl _,.int _⟩
 ·rw[zbH];exact qr n
variable{a b:Expr}{ga:RLx}
def yF(hg:Gl X "range")(hm:X.mg "range"=none)(ha:FA X [a] ga)(hs:starEach [a] X.env=[(false,eval a X.env)]:=by rfl):FI X tg (.Call (.Name "range" p) [a] [] pos) (yW ga):=by
 have⟨t,pa,qa⟩:=ha;refine⟨_,Z4 hg hm pa hs,λσ H os ρ ds R rel e k=>?_⟩;unfold yW at e;split at e
 ·rename_i j e1;split at e
  ·rename_i hc;cases e;refine qa σ H os ρ _ _ rel e1 λvs H' s r=>?_
   cases r with
   |cons h r=>cases r;cases h;exact⟨j,rfl,hc.1,hc.2,k _ H' s VT⟩
  ·cases e
 ·cases e
def zab(hg:Gl X "range")(hm:X.mg "range"=none)(ha:FA X [a,b] ga)(hs:starEach [a,b] X.env=[(false,eval a X.env),(false,eval b X.env)]:=by rfl)(hs2:starEach [b] X.env=[(false,eval b X.env)]:=by rfl):FI X tg (.Call (.Name "range" p) [a,b] [] pos) (ui ga):=by
 have⟨t,pa,qa⟩:=ha;refine⟨_,zf1 hg hm pa hs hs2,λσ H os ρ ds R rel e k=>?_⟩;unfold ui at e;split at e
 ·rename_i i j e1;split at e
  ·rename_i hc;cases e;refine qa σ H os ρ _ _ rel e1 λvs H' s r=>?_
   cases r with
   |cons h r=>cases r with
    |cons h2 r=>cases r;cases h;cases h2;exact⟨i,j,rfl,hc,k _ H' s VT⟩
  ·cases e
 ·cases e
noncomputable def UD(xs ys:LPd):List PyData:=(xs.zip ys).map λp=>.tuple [p.1,p.2]
def zia{xs ys:LPd}{i:Nat}{d:PdX}(h:(UD xs ys)[i]?=some d):∃x y,xs[i]?=some x/\ys[i]?=some y/\d=.tuple [x,y]:=by
 unfold UD at h;rw[qo] at h;have⟨z,e1,e2⟩:=map_some h;obtain⟨h1,h2⟩:=List.getElem?_zip_eq_some.mp e1;exact⟨z.1,z.2,h1,h2,e2.symm⟩
def zgX{xs ys:LPd}:(UD xs ys).length=min xs.length ys.length:=by simp[UD]
def Z6{K:FRx}{G G0:Hp}{t1 t2:Bool}{a b:AdX}{xs ys:List V}{ds es:LPd}(h1:SqB K t1 G a xs)(h2:SqB K t2 G b ys)(r1:Reps K G0 xs ds)(r2:Reps K G0 ys es):Walks K G G0 (Itz K t1 t2 a b) (UD ds es):=by
 intro H1 os1 al s s0;have k1:SqB K t1 H1 a xs:=s.sqB h1;have k2:SqB K t2 H1 b ys:=s.sqB h2
 refine⟨λi d hd=>?_,?_⟩
 ·obtain⟨d1,d2,g1,g2,rfl⟩:=zia hd;have⟨v1,e1,q1⟩:=r1.getD g1;have⟨v2,e2,q2⟩:=r2.getD g2;refine⟨⟨xs,ys,v1,v2,k1,k2,e1,e2⟩,λx H2 hy=>?_⟩;obtain⟨p,rfl,hp,hy⟩:=hy;have e:=hy xs ys v1 v2 k1 k2 e1 e2;subst e;have s2:=yg hp (.tup [v1,v2])
  refine⟨s2,.tup (SqT.of ?_) (.cons ((q1.same s0).same (zl s2 os1)) (.cons ((q2.same s0).same (zl s2 os1)) .nil))⟩;rw[zq (al.new hp)];exact zJ
 ·refine⟨xs,ys,k1,k2,?_⟩;rw[zgX,r1.length,r2.length];omega
noncomputable def kindOf:PyData->Option (Bool×List PyData)
 | .list xs=>some (false,xs)
 | .tuple xs=>some (true,xs)
 |_=>none
def Uu(t1 t2:Bool)(g:RLx):RLx:=λρ=>match g ρ with
 |some [x,y]=>match kindOf x,kindOf y with
  |some (k1,xs),some (k2,ys)=>if k1=t1/\k2=t2 then some (UD xs ys) else none
  |_,_=>none
 |_=>none
def uh{K:FRx}{H:Hp}{os:LAd}{v:V}{d:PdX}{k:Bool}{xs:LPd}(r:jH K H os v d)(h:kindOf d=some (k,xs)):∃a us,v=.ref a/\SqB K k H a us/\Reps K (offs H os) us xs:=by
 unfold kindOf at h;split at h
 ·cases h;obtain⟨a,us,e,hS,r⟩:=r.lst;exact⟨a,us,e,hS,r⟩
 ·cases h;obtain⟨a,us,e,hS,_,r⟩:=r.tup;exact⟨a,us,e,hS,r⟩
 ·cases h
variable{tes:List Expr}{kk:Nat}{tp:Pos}
def WY(t1 t2:Bool)(hg:Gl X "zip")(hm:X.mg "zip"=none)(ha:FAB X [a,b] ga)(hs:starEach [a,b] X.env=[(false,eval a X.env),(false,eval b X.env)]:=by rfl)(hs2:starEach [b] X.env=[(false,eval b X.env)]:=by rfl):FIB X (.Tuple tes kk tp) (.Call (.Name "zip" p) [a,b] [] pos) (Uu t1 t2 ga):=by
 have⟨t,pa,qa⟩:=ha;refine⟨_,zhJ t1 t2 hg hm pa hs hs2,λσ H os ρ ds R rel e k=>?_⟩;unfold Uu at e;split at e
 ·rename_i x y e1;split at e
  ·rename_i k1 xs k2 ys e2 e3;split at e
   ·rename_i hc;cases e;obtain⟨rfl,rfl⟩:=hc;refine qa σ H os ρ _ _ rel e1 λvs H' s r=>?_
    obtain⟨v,u,rfl,r1,r2⟩:=r.two;obtain⟨a1,us,rfl,h1,q1⟩:=uh r1 e2;obtain⟨a2,ws,rfl,h2,q2⟩:=uh r2 e3;exact⟨a1,a2,rfl,⟨_,h1⟩,⟨_,h2⟩,k _ H' s (Z6 h1 h2 q1 q2)⟩
   ·cases e
  ·cases e
 ·cases e
end
inductive Sets(K:FRx)(G:Hp):List Nat->St->Ro->St->Ro->Prop
 |nil {σ:St} {ρ:Ro}:Sets K G [] σ ρ σ ρ
 |set {is:LNt} {σ σ':St} {ρ ρ':Ro} {i:Nat} {v:V} {d:PdX}:Rep K G v d->Sets K G is (σ.set i (some v)) (ρ.set i (.pu d)) σ' ρ'->Sets K G (i::is) σ ρ σ' ρ'
def Sets.trans{K:FRx}{G:Hp}{is js:LNt}{σ σ' σ2:St}{ρ ρ' ρ2:Ro}(h:Sets K G is σ ρ σ' ρ')(h2:Sets K G js σ' ρ' σ2 ρ2):Sets K G (is++js) σ ρ σ2 ρ2:=by
 induction h with
 |nil=>exact h2
 |set r _ ih=>exact .set r (ih h2)
def Sets.tail{K:FRx}{G:Hp}{is:LNt}{T:Nat}{σ σ':St}{ρ ρ':Ro}(h:Sets K G is σ ρ σ' ρ')(hT:∀i∈is,i<T):∀{ts c:St},ts.length=T->σ=ts++c->∃ts':St,ts'.length=T/\σ'=ts'++c:=by
 induction h with
 |nil=>exact λht e=>⟨_,ht,e⟩
 |set r _ ih=>
  intro ts c ht e;rename_i is σ σ' ρ ρ' i v d _;refine ih (λj hj=>hT j (qz _ hj)) (ts:=ts.set i (some v)) (c:=c) (by rw[kJ];exact ht) ?_;have hi:i<ts.length:=by rw[ht];exact hT i qZ
  rw[e,List.set_append_left _ _ hi]
def xl.set{K:FRx}{H:Hp}{os:LAd}{σ:St}{ρ:Ro}(h:xl K H os σ ρ){i:Nat}{v:V}{d:PdX}(r:Rep K (offs H os) v d):xl K H os (σ.set i (some v)) (ρ.set i (.pu d)) where
 pu:=λj e q=>by
  rw[gK] at q ⊢;by_cases hj:i=j
  ·subst hj;rw[qf rfl] at q ⊢;by_cases hl:i<ρ.length
   ·rw[qf hl] at q;cases q;rw[qf (by rw[h.len];exact hl)];exact⟨v,rfl,r⟩
   ·rw[qq hl] at q;cases q
  ·rw[qq hj] at q ⊢;exact h.pu j e q
 mu:=λj e q m=>by
  rw[gK] at q ⊢;by_cases hj:i=j
  ·subst hj;rw[qf rfl] at q;by_cases hl:i<ρ.length
   ·rw[qf hl] at q;cases q;cases m
   ·rw[qq hl] at q;cases q
  ·rw[qq hj] at q ⊢;exact h.mu j e q m
 al:=h.al
 len:=by rw[kJ,kJ];exact h.len
def xl.sets{K:FRx}{H:Hp}{os:LAd}{is:LNt}{σ σ':St}{ρ ρ':Ro}(s:Sets K (offs H os) is σ ρ σ' ρ')(h:xl K H os σ ρ):xl K H os σ' ρ':=by
 induction s with
 |nil=>exact h
 |set r _ ih=>exact ih (h.set r)
def gF(K:FRx)(is:LNt)(b:PyData->Ro->Option Ro):TG:=λv σ H Q=>∃os d ρ ρ',Rep K (offs H os) v d/\b d ρ=some ρ'/\∀σ',Sets K (offs H os) is σ ρ σ' ρ'->Q σ' H
def FG(X:Cx)(tg:Expr)(is:LNt)(b:PyData->Ro->Option Ro):Prop:=PG X tg (gF X.K is b)
def zek{X:Cx}{tg:Expr}{g g':TG}(h:PG X tg g)(w:∀v σ H Q,g' v σ H Q->g v σ H Q):PG X tg g':=λpins s σ H v u Q I r q=>h pins s σ H v u Q I r (w _ _ _ _ q)
noncomputable def bN(i:Nat):PyData->Ro->Option Ro:=λd ρ=>some (ρ.set i (.pu d))
noncomputable def b2(b c:PyData->Ro->Option Ro):PyData->Ro->Option Ro:=λd ρ=>match d with
 | .tuple [x,y]=>(b x ρ).bind λρ'=>c y ρ'
 |_=>none
section
variable{X:Cx}{pos p1 p2:Pos}{kk:Nat}
def z9(i:Nat){x:Str}(hN:X.N.Nodup)(hi:X.N[i]?=some x:=by rfl)(hx:Loc X.env.scope x:=by trivial)(hf:FNx X x:=by trivial):FG X (.Name x pos) [i] (bN i):=by
 refine zek (zjg hN hi hx hf) λv σ H Q h=>?_
 have⟨os,d,ρ,ρ',r,e,k⟩:=h;cases e;exact k _ (.set r .nil)
def JZ{t1 t2:Expr}{is js:LNt}{b c:PyData->Ro->Option Ro}(hc:X.calm=true)(h1:FG X t1 is b)(h2:FG X t2 js c)(hn:(assignEach [t1,t2] X.env).length=2:=by rfl)(hst:(assignEach [t1,t2] X.env).findIdx? (·.1)=none:=by rfl)(he:(assignEach [t1,t2] X.env).map (·.2)=assign t1 X.env::(assignEach [t2] X.env).map (·.2):=by rfl)(he2:(assignEach [t2] X.env).map (·.2)=assign t2 X.env::(assignEach [] X.env).map (·.2):=by rfl):FG X (.Tuple [t1,t2] kk pos) (is++js) (b2 b c):=by
 refine zek (zkH (n:=2) hc (zcT h1 (zcT h2 zjt he2) he) hn hst) λv σ H Q h=>?_
 have⟨os,d,ρ,ρ',r,e,k⟩:=h;unfold b2 at e;split at e
 ·rename_i x y;have⟨ρ1,e1,e2⟩:=bind_some e;cases r with
  |tup hS r=>cases r with
   |cons r1 r=>cases r with
    |cons r2 r=>
     cases r;refine⟨_,_,rfl,(xx H os).tup hS,rfl,_,_,rfl,os,x,ρ,ρ1,r1,e1,λσ1 s1=>?_⟩;exact⟨_,_,rfl,os,y,ρ1,ρ',r2,e2,λσ2 s2=>⟨rfl,k σ2 (s1.trans s2)⟩⟩
 ·cases e
end
noncomputable def compEnv(T:Nat)(F:LNt)(ρ:Ro):Ro:=List.replicate T .no++F.map λj=>(ρ[j]?).getD .no
def tF(K:FRx)(f:RPx):TE:=λσ H Q=>∃os ρ d,xl K H os σ ρ/\f ρ=some d/\∀v H',Same H H'->Rep K (offs H' os) v d->Q v H'
def FE.pe{X:Cx}{e:Expr}{f:RPx}(h:FE X e f):PE X e (tF X.K f):=by
 have⟨t,p,q⟩:=h;intro pins s σ H Q I z;have⟨os,ρ,d,R,e1,k⟩:=z;exact p pins s σ H Q I (q σ H os ρ d Q R e1 k)
def zU(T:Nat)(F:LNt)(fi:RLx)(b:PyData->Ro->Option Ro)(fe:RPx):RLx:=λρ=>
 (fi ρ).bind λds=>if ds.length<=16777216 then vf (λd=>(b d (compEnv T F ρ)).bind fe) ds else none
theorem YR{α β:Type}{h:α->Option β}:∀{xs:List α} {ys:List β},vf h xs=some ys->ys.length=xs.length
 |[],_,e=>by cases e;rfl
 |x::r,_,e=>by
  have⟨y,e1,e⟩:=bind_some e;have⟨ys,e2,e3⟩:=map_some e;subst e3;simp[YR e2]
theorem Zj{α β:Type}{h:α->Option β}:∀{xs:List α} {ys:List β} {i:Nat} {x:α},vf h xs=some ys->xs[i]?=some x->∃y,ys[i]?=some y/\h x=some y
 |[],_,_,_,_,e=>by simp at e
 |x::r,_,i,_,e,g=>by
  have⟨y,e1,e⟩:=bind_some e;have⟨ys,e2,e3⟩:=map_some e;subst e3;cases i with
  |zero=>simp at g;subst g;exact⟨y,rfl,e1⟩
  |succ i=>
   obtain⟨z,h1,h2⟩:=Zj (i:=i) e2 (by simpa using g);exact⟨z,by simpa using h1,h2⟩
def Yh{K:FRx}{H H':Hp}{os:LAd}{σ ts:St}{ρ:Ro}{D:AdX}{xs:List V}(T:Nat)(F:LNt)(R:xl K H os σ ρ)(hD:H D=none)(s:Same H H')(hx:H' D=some (.lst xs))(ht:ts.length=T):xl K H' (D::os) (ts++F.map λj=>(σ[j]?).join) (compEnv T F ρ):=by
 have so:Same (offs H os) (offs H' (D::os)):=λb o z=>by
  by_cases hb:b∈os
  ·rw[yS hb] at z;cases z
  ·rw[zq hb] at z;rw[zq]
   ·exact s b o z
   ·intro w;rcases qu.mp w with w|w
    ·rw[w,hD] at z;cases z
    ·exact hb w
 refine⟨λi d q=>?_,λi c q m=>?_,λa ha=>?_,?_⟩
 ·unfold compEnv at q;by_cases hi:i<T
  ·rw[qJ (by simpa using hi),kh,qf hi] at q;cases q
  ·rw[qx (by simpa using qW hi),gC,qo] at q;rw[qx (by rw[ht];exact qW hi),ht,qo];cases ej:F[i - T]? with
   |none=>rw[ej] at q;cases q
   |some j=>
    rw[ej] at q;cases er:ρ[j]? with
    |none=>rw[kD,er] at q;cases q
    |some c=>
     rw[kD,er] at q;have ec:c=.pu d:=qX q;subst ec;have⟨v,h1,h2⟩:=R.pu j d er
     exact⟨v,by rw[kD,h1];rfl,h2.same so⟩
 ·unfold compEnv at q;by_cases hi:i<T
  ·rw[qJ (by simpa using hi),kh,qf hi] at q;cases q;cases m
  ·rw[qx (by simpa using qW hi),gC,qo] at q;rw[qx (by rw[ht];exact qW hi),ht,qo];cases ej:F[i - T]? with
   |none=>rw[ej] at q;cases q
   |some j=>
    rw[ej] at q;cases er:ρ[j]? with
    |none=>rw[kD,er] at q;cases q;cases m
    |some c'=>
     rw[kD,er] at q;have ec:c'=c:=qX q;subst ec;have⟨a,o,h1,h2,h3,h4⟩:=R.mu j c' er m
     exact⟨a,o,by rw[kD,h1];rfl,qz _ h2,s _ _ h3,h4.same so⟩
 ·rcases qu.mp ha with z|z
  ·subst z;exact⟨_,hx⟩
  ·have⟨o,e⟩:=R.al a z;exact⟨o,s _ _ e⟩
 ·simp[compEnv,ht]
def u9{K:FRx}{T:Nat}{F:LNt}{b:PyData->Ro->Option Ro}{fe:RPx}{σ:St}{ρ:Ro}{H1:Hp}{os:LAd}{D:AdX}{is:LNt}{k:Addr->Hp->Prop}{J:It}{ds rs:LPd}(his:∀i∈is,i<T)(R:xl K H1 os σ ρ)(hn:ds.length<=16777216)(hD:H1 D=none)(W:Walks K H1 (offs H1 os) J ds)(hm:vf (λd=>(b d (compEnv T F ρ)).bind fe) ds=some rs)(fin:∀H' xs,Same H1 H'->H' D=some (.lst xs)->Reps K (offs H' (D::os)) xs rs->k D H'):zen T F (gF K is b) (tF K fe) k σ H1 D J:=by
 have hlr:=YR hm;have so:∀H',Same H1 H'->Same (offs H1 os) (offs H' (D::os)):=λH' s c o z=>by
  by_cases hb:c∈os
  ·rw[yS hb] at z;cases z
  ·rw[zq hb] at z;rw[zq]
   ·exact s c o z
   ·intro w;rcases qu.mp w with w|w
    ·rw[w,hD] at z;cases z
    ·exact hb w
 have al:∀H' xs,Same H1 H'->H' D=some (.lst xs)->Al H' (D::os):=λH' xs s hx a ha=>by
  rcases qu.mp ha with z|z
  ·subst z;exact⟨_,hx⟩
  ·have⟨o,e⟩:=R.al a z;exact⟨o,s _ _ e⟩
 refine⟨λi m σ' H'=>m=ds.length - i/\i<=ds.length/\(∃ts:St,ts.length=T/\σ'=ts++F.map λj=>(σ[j]?).join)/\Same H1 H'/\∃xs,H' D=some (.lst xs)/\Reps K (offs H' (D::os)) xs (rs.take i),
  ⟨ds.length,rfl,kE _,⟨List.replicate T none,by simp,rfl⟩,yg hD _,[],zJ,.nil⟩,?_⟩
 rintro i m σ' H' ⟨rfl,hi,⟨ts,hts,rfl⟩,sm,xs,hx,rp⟩;have hl:xs.length=i:=by
  have:=rp.length;rw[kR,hlr] at this;omega
 obtain⟨w1,w2⟩:=W H' (D::os) (al H' xs sm hx) sm (so H' sm);by_cases hlt:i<ds.length
 ·obtain⟨d,hd⟩:∃d,ds[i]?=some d:=⟨_,qp hlt⟩;have⟨g1,g2⟩:=w1 i d hd;have⟨r,hr,e⟩:=Zj hm hd;have⟨ρ',e1,e2⟩:=bind_some e;refine .inr ⟨g1,λσ2 H2=>i+1<=ds.length/\(∃ts:St,ts.length=T/\σ2=ts++F.map λj=>(σ[j]?).join)/\Same H1 H2/\∃xs,H2 D=some (.lst xs)/\Reps K (offs H2 (D::os)) xs (rs.take (i+1)),?_,?_⟩
  ·rintro σ2 H2 ⟨h1,h2,h3,h4⟩;exact⟨ds.length - (i+1),by omega,rfl,h1,h2,h3,h4⟩
  ·intro x H2 hy;have⟨s2,rx⟩:=g2 x H2 hy;refine⟨D::os,d,compEnv T F ρ,ρ',rx,e1,λσ2 st=>?_⟩;have R2:xl K H2 (D::os) (ts++F.map λj=>(σ[j]?).join) (compEnv T F ρ):=Yh T F R hD (sm.trans s2) (s2 _ _ hx) hts;have hts2:∃ts':St,ts'.length=T/\σ2=ts'++F.map λj=>(σ[j]?).join:=st.tail his hts rfl
   refine⟨D::os,ρ',r,R2.sets st,e2,λv H4 s4 rv=>?_⟩;refine⟨xs,s4 _ _ (s2 _ _ hx),?_,hlt,hts2,((sm.trans s2).trans s4).JU hD _,_,zJ,?_⟩
   ·rw[hl];show i<16777216
    omega
   ·rw[jx,mD,hr];exact(rp.same (zl (s2.trans s4) _)).append (.cons rv .nil)
 ·have e:i=ds.length:=by omega
  subst e;refine .inl ⟨w2,fin H' xs sm hx ?_⟩;rw[<-hlr,hJ] at rp;exact rp
section
variable{X:Cx}{elt tg iter:Expr}{scope:Scope}{pos:Pos}{Ts:LSr}{F:LNt}{is:LNt}{fi:RLx}{b:PyData->Ro->Option Ro}{fe:RPx}
def yB(hc:X.calm=true)(hi:FIB X tg iter fi)(S:yb X scope)(hF:∀j∈F,∃x,X.N[j]?=some x/\scope.names.lookup x=some .free)(hg:∀cl C ex s H,FG (zV X (Ts++F.map λj=>X.N.getD j "") scope cl C ex s H) tg is b)(he:∀cl C ex s H,FE (zV X (Ts++F.map λj=>X.N.getD j "") scope cl C ex s H) elt fe)(his:∀i∈is,i<Ts.length:=by decide)(hs:FSx X iter:=by exact λ_=>rfl):FL X (.ListComp elt [⟨tg,iter,[],0⟩] scope pos) (zU Ts.length F fi b fe):=by
 have⟨wi,pi,qi⟩:=hi;refine⟨_,zaQ (Ts:=Ts) (F:=F) (g:=gF X.K is b) (te:=tF X.K fe) hc pi S hF hg (λcl C ex s H=>(he cl C ex s H).pe) hs,λσ H os ρ rs Q R q k=>?_⟩;have⟨ds,e1,q⟩:=bind_some q;split at q
 ·rename_i hl;refine qi σ H os ρ ds _ R e1 λJ H' s W D hD=>?_
  exact u9 his (R.same s) hl hD W q λH2 xs s2 hx r=>k D xs H2 (s.free hD) (s.trans s2) hx r
 ·cases q
end
structure SRo(K:FRx)(H0:Hp)(os0:LAd)(H:Hp)(os:LAd)(σ:St)(ρ:Ro):Prop where
 rel:xl K H os σ ρ
 sm:Same H0 H
 sub:∀a∈os0,a∈os
 new:∀a∈os,a∈os0\/H0 a=none
 al0:Al H0 os0
 own:∀(i:Nat)(c:Sl),ρ[i]?=some c->isM c=true->∀a,σ[i]?=some (some (.ref a))->H0 a=none
 ap:∀(i j:Nat)(c c':Sl),i≠j->ρ[i]?=some c->ρ[j]?=some c'->isM c=true->isM c'=true->∀a,σ[i]?=some (some (.ref a))->σ[j]?≠some (some (.ref a))
inductive Fl where
 |nx (ρ:Ro)|rt (d:PdX)|rl (ds:LPd)
abbrev RFx:=Ro->Option Fl
def Jt(K:FRx)(H0:Hp)(os0:LAd)(G:Hp)(D:Ends):Fl->Prop
 | .nx ρ'=>∀σ' H' os',SRo K H0 os0 H' os' σ' ρ'->Same G (offs H' os')->D.nx σ' H'
 | .rt d=>∀v H',Same H0 H'->Rep K (offs H' os0) v d->D.rt v H'
 | .rl ds=>∀a xs H',H0 a=none->Same H0 H'->H' a=some (.lst xs)->Reps K (offs H' (a::os0)) xs ds->D.rt (.ref a) H'
def Jt.mono{K:FRx}{H0:Hp}{os0:LAd}{G G':Hp}{D:Ends}{r:Fl}(k:Jt K H0 os0 G D r)(s:Same G G'):Jt K H0 os0 G' D r:=by
 cases r with
 |nx ρ=>exact λσ' H' os' R z=>k σ' H' os' R (s.trans z)
 |rt d=>exact k
 |rl d=>exact k
def FS(X:Cx)(st:Stmt)(f:RFx):Prop:=∃t:TS,PS X st t/\∀(H0:Hp)(os0:LAd)(D:Ends)(σ:St)(H:Hp)(os:LAd)(ρ:Ro)(r:Fl),SRo X.K H0 os0 H os σ ρ->f ρ=some r->Jt X.K H0 os0 (offs H os) D r->t D σ H
def FSs(X:Cx)(sts:List Stmt)(f:RFx):Prop:=∃t:TS,PSs X sts t/\∀(H0:Hp)(os0:LAd)(D:Ends)(σ:St)(H:Hp)(os:LAd)(ρ:Ro)(r:Fl),SRo X.K H0 os0 H os σ ρ->f ρ=some r->Jt X.K H0 os0 (offs H os) D r->t D σ H
section
variable{K:FRx}{H0 H H':Hp}{os0 os:LAd}{σ σ':St}{ρ ρ':Ro}
def vj{a:AdX}(n:H a=none)(s:Same H H'):Same (offs H os) (offs H' (a::os)):=λb o z=>by
 by_cases hb:b∈os
 ·rw[yS hb] at z;cases z
 ·rw[zq hb] at z;rw[zq]
  ·exact s b o z
  ·intro w;rcases qu.mp w with w|w
   ·rw[w,n] at z;cases z
   ·exact hb w
def SRo.same(h:SRo K H0 os0 H os σ ρ)(e:Same H H'):SRo K H0 os0 H' os σ ρ:=⟨h.rel.same e,h.sm.trans e,h.sub,h.new,h.al0,h.own,h.ap⟩
def j5{ρ:Ro}{i j:Nat}{d:PdX}{c:Sl}(q:(ρ.set i (.pu d))[j]?=some c)(m:isM c=true):i≠j/\ρ[j]?=some c:=by
 rw[gK] at q;by_cases hj:i=j
 ·subst hj;rw[qf rfl] at q;by_cases hl:i<ρ.length
  ·rw[qf hl] at q;cases q;cases m
  ·rw[qq hl] at q;cases q
 ·rw[qq hj] at q;exact⟨hj,q⟩
def SRo.set(h:SRo K H0 os0 H os σ ρ){i:Nat}{v:V}{d:PdX}(r:Rep K (offs H os) v d):SRo K H0 os0 H os (σ.set i (some v)) (ρ.set i (.pu d)) where
 rel:=h.rel.set r
 sm:=h.sm
 sub:=h.sub
 new:=h.new
 al0:=h.al0
 own:=λj c q m a e=>by
  have⟨hj,q⟩:=j5 q m;rw[qG hj] at e;exact h.own j c q m a e
 ap:=λj k c c' hjk q1 q2 m1 m2 a e1 e2=>by
  have⟨h1,q1⟩:=j5 q1 m1;have⟨h2,q2⟩:=j5 q2 m2;rw[qG h1] at e1;rw[qG h2] at e2;exact h.ap j k c c' hjk q1 q2 m1 m2 a e1 e2
def SRo.sets{is:LNt}(s:Sets K (offs H os) is σ ρ σ' ρ')(h:SRo K H0 os0 H os σ ρ):SRo K H0 os0 H os σ' ρ':=by
 induction s with
 |nil=>exact h
 |set r _ ih=>exact ih (h.set r)
def zX{ρ:Ro}{i j:Nat}{d c:Sl}(q:(ρ.set i d)[j]?=some c):(i=j/\i<ρ.length/\d=c)\/(i≠j/\ρ[j]?=some c):=by
 rw[gK] at q;by_cases hj:i=j
 ·subst hj;rw[qf rfl] at q;by_cases hl:i<ρ.length
  ·rw[qf hl] at q;cases q;exact .inl ⟨rfl,hl,rfl⟩
  ·rw[qq hl] at q;cases q
 ·rw[qq hj] at q;exact .inr ⟨hj,q⟩
def Uz{ρ:Ro}{i j:Nat}{d:Sl}{c:PdX}(m:isM d=true)(q:(ρ.set i d)[j]?=some (.pu c)):i≠j/\ρ[j]?=some (.pu c):=by
 rcases zX q with⟨rfl,hl,rfl⟩|⟨hj,q⟩
 ·cases m
 ·exact⟨hj,q⟩
def SRo.setM(h:SRo K H0 os0 H os σ ρ){i:Nat}{a:AdX}{o:HO}{d:Sl}(md:isM d=true)(n:H a=none)(s:Same H H')(hx:H' a=some o)(r:COk K (offs H' (a::os)) o d):SRo K H0 os0 H' (a::os) (σ.set i (some (.ref a))) (ρ.set i d):=by
 have na:a∉os:=h.rel.al.new n;have so:Same (offs H os) (offs H' (a::os)):=vj n s
 have n0:H0 a=none:=h.sm.free n;refine⟨⟨λj c q=>?_,λj c q m=>?_,λb hb=>?_,?_⟩,h.sm.trans s,λb hb=>qz _ (h.sub b hb),λb hb=>?_,h.al0,λj c q m b e=>?_,λj k c c' hjk q1 q2 m1 m2 b e1 e2=>?_⟩
 ·have⟨hj,q⟩:=Uz md q;have⟨v,h1,h2⟩:=h.rel.pu j c q;exact⟨v,by rw[qG hj];exact h1,h2.same so⟩
 ·rcases zX q with⟨rfl,hl,rfl⟩|⟨hj,q⟩
  ·exact⟨a,o,by rw[kn (by rw[h.rel.len];exact hl)],qZ,hx,r⟩
  ·have⟨b,o',h1,h2,h3,h4⟩:=h.rel.mu j c q m;exact⟨b,o',by rw[qG hj];exact h1,qz _ h2,s _ _ h3,h4.same so⟩
 ·rcases qu.mp hb with z|z
  ·subst z;exact⟨_,hx⟩
  ·have⟨o,e⟩:=h.rel.al b z;exact⟨o,s _ _ e⟩
 ·rw[kJ,kJ];exact h.rel.len
 ·rcases qu.mp hb with z|z
  ·subst z;exact .inr n0
  ·exact h.new b z
 ·rcases zX q with⟨rfl,hl,rfl⟩|⟨hj,q⟩
  ·rw[kn (by rw[h.rel.len];exact hl)] at e;cases e;exact n0
  ·rw[qG hj] at e;exact h.own j c q m b e
 ·rcases zX q1 with⟨rfl,hl,rfl⟩|⟨hj,q1⟩
  ·rw[kn (by rw[h.rel.len];exact hl)] at e1;cases e1;rcases zX q2 with⟨z,_,_⟩|⟨hk,q2⟩
   ·exact hjk z
   ·rw[qG hk] at e2;have⟨b,o',h1,h2,h3,h4⟩:=h.rel.mu k c' q2 m2;rw[e2] at h1;cases h1;exact na h2
  ·rw[qG hj] at e1;rcases zX q2 with⟨z,hl,_⟩|⟨hk,q2⟩
   ·subst z;rw[kn (by rw[h.rel.len];exact hl)] at e2;cases e2;have⟨b,o',h1,h2,h3,h4⟩:=h.rel.mu j c q1 m1;rw[e1] at h1;cases h1;exact na h2
   ·rw[qG hk] at e2;exact h.ap j k c c' hjk q1 q2 m1 m2 b e1 e2
def SRo.ZA(h:SRo K H0 os0 H os σ ρ){i:Nat}{a:AdX}{xs:List V}{ds:LPd}(n:H a=none)(s:Same H H')(hx:H' a=some (.lst xs))(r:Reps K (offs H' (a::os)) xs ds):SRo K H0 os0 H' (a::os) (σ.set i (some (.ref a))) (ρ.set i (.ow ds)):=h.setM (d:=.ow ds) rfl n s hx r
def SRo.zm6(h:SRo K H0 os0 H os σ ρ){i:Nat}{a:AdX}{o':HO}{d d':Sl}(md:isM d=true)(md':isM d'=true)(q:ρ[i]?=some d)(e:σ[i]?=some (some (.ref a)))(r:COk K (offs H os) o' d'):SRo K H0 os0 (upd H a o') os σ (ρ.set i d'):=by
 have⟨a',o,e',ha,hx,rx⟩:=h.rel.mu i d q md;rw[e] at e';cases e';have n0:=h.own i d q md a e;have hi:i<ρ.length:=(qm.mp q).1
 have eo:offs (upd H a o') os=offs H os:=yP ha;refine⟨⟨λj c q=>?_,λj c q' m=>?_,λb hb=>?_,?_⟩,λb o z=>?_,h.sub,h.new,h.al0,λj c q' m b z=>?_,λj k c c' hjk q1 q2 m1 m2 b z1 z2=>?_⟩
 ·have⟨hj,q⟩:=Uz md' q;rw[eo];exact h.rel.pu j c q
 ·rcases zX q' with⟨rfl,hl,rfl⟩|⟨hj,q'⟩
  ·exact⟨a,o',e,ha,zJ,by rw[eo];exact r⟩
  ·have⟨b,o2,h1,h2,h3,h4⟩:=h.rel.mu j c q' m;have ne:b≠a:=λz=>h.ap i j d c hj q q' md m a e (by rw[h1,z])
   exact⟨b,o2,h1,h2,by rw[zN ne];exact h3,by rw[eo];exact h4⟩
 ·by_cases hb':b=a
  ·subst hb';exact⟨_,zJ⟩
  ·rw[zN hb'];exact h.rel.al b hb
 ·rw[kJ];exact h.rel.len
 ·rw[zN (λw=>by rw[w,n0] at z;cases z)];exact h.sm b o z
 ·rcases zX q' with⟨rfl,hl,rfl⟩|⟨hj,q'⟩
  ·exact h.own i d q md b z
  ·exact h.own j c q' m b z
 ·rcases zX q1 with⟨rfl,hl,rfl⟩|⟨hj,q1⟩
  ·rcases zX q2 with⟨z,_,_⟩|⟨hk,q2⟩
   ·exact hjk z
   ·exact h.ap i k d c' hjk q q2 md m2 b z1 z2
  ·rcases zX q2 with⟨z,hl,_⟩|⟨hk,q2⟩
   ·subst z;exact h.ap j i c d hjk q1 q m1 md b z1 z2
   ·exact h.ap j k c c' hjk q1 q2 m1 m2 b z1 z2
def SRo.chg(h:SRo K H0 os0 H os σ ρ){i:Nat}{a:AdX}{ys:List V}{ds es:LPd}(q:ρ[i]?=some (.ow ds))(e:σ[i]?=some (some (.ref a)))(r:Reps K (offs H os) ys es):SRo K H0 os0 (upd H a (.lst ys)) os σ (ρ.set i (.ow es)):=h.zm6 (d:=.ow ds) (d':=.ow es) rfl rfl q e r
noncomputable def frz(i:Nat)(ρ:Ro):Ro:=match ρ[i]? with |some (.ow ds)=>ρ.set i (.pu (.list ds))|_=>ρ
def SRo.frz(h:SRo K H0 os0 H os σ ρ)(i:Nat):∃os',SRo K H0 os0 H os' σ (Fu.frz i ρ)/\Same (offs H os) (offs H os'):=by
 unfold Fu.frz;split
 ·rename_i ds q;have⟨a,xs,e,ha,hx,r⟩:=h.rel.ow i ds q;have n0:=h.own i _ q rfl a e;have sub:∀b∈os.filter (λc=>c≠a),b∈os:=λb hb=>(qO.mp hb).1
  have so:Same (offs H os) (offs H (os.filter λc=>c≠a)):=yD sub;have hi:i<ρ.length:=(qm.mp q).1
  have an:a∉os.filter (λc=>c≠a):=λz=>by simpa using (qO.mp z).2
  refine⟨os.filter λc=>c≠a,⟨⟨λj c q'=>?_,λj c q' m=>?_,λb hb=>h.rel.al b (sub b hb),?_⟩,h.sm,λb hb=>?_,λb hb=>h.new b (sub b hb),h.al0,λj c q' m b z=>?_,λj k c c' hjk q1 q2 m1 m2 b z1 z2=>?_⟩,so⟩
  ·rw[gK] at q';by_cases hj:i=j
   ·subst hj;rw[qf rfl,qf hi] at q';cases q';exact⟨.ref a,e,.lst (SqL.of (by rw[zq an];exact hx)) (r.same so)⟩
   ·rw[qq hj] at q';have⟨v,h1,h2⟩:=h.rel.pu j c q';exact⟨v,h1,h2.same so⟩
  ·have⟨hj,q'⟩:=j5 q' m;have⟨b,o2,h1,h2,h3,h4⟩:=h.rel.mu j c q' m;have ne:b≠a:=λz=>h.ap i j _ c hj q q' rfl m a e (by rw[h1,z])
   exact⟨b,o2,h1,qO.mpr ⟨h2,by simpa using ne⟩,h3,h4.same so⟩
  ·rw[kJ];exact h.rel.len
  ·refine qO.mpr ⟨h.sub b hb,?_⟩
   have:b≠a:=λz=>by
    have⟨o,w⟩:=h.al0 b hb;rw[z,n0] at w;cases w
   simpa using this
  ·have⟨hj,q'⟩:=j5 q' m;exact h.own j c q' m b z
  ·have⟨h1,q1⟩:=j5 q1 m1;have⟨h2,q2⟩:=j5 q2 m2;exact h.ap j k c c' hjk q1 q2 m1 m2 b z1 z2
 ·exact⟨os,h,Same.refl _⟩
end
section
variable{X:Cx}{st:Stmt}{rest:List Stmt}{f g:RFx}{e:Expr}{pos:Pos}
noncomputable def sq(f g:RFx):RFx:=λρ=>match f ρ with |some (.nx ρ')=>g ρ'|r=>r
noncomputable def s0:RFx:=λρ=>some (.nx ρ)
def yT:FSs X [] s0:=⟨_,ze1,λ_ _ _ _ _ _ _ _ R q k=>by cases q;exact k _ _ _ R (Same.refl _)⟩
def zo(h:FS X st f):FSs X [st] f:=by
 have⟨t,p,q⟩:=h;exact⟨t,zaK p,q⟩
def zh(h:FS X st f)(h2:FSs X rest g):FSs X (st::rest) (sq f g):=by
 have⟨t,p,q⟩:=h;have⟨t2,p2,q2⟩:=h2;refine⟨_,uw p p2,λH0 os0 D σ H os ρ r R e k=>?_⟩;unfold sq at e;split at e
 ·rename_i ρ' e1;exact q H0 os0 { D with nx:=t2 D } σ H os ρ _ R e1 λσ' H' os' R' z=>q2 H0 os0 D σ' H' os' ρ' r R' e (k.mono z)
 ·cases r with
  |nx ρ'=>rename_i hn;exact absurd e (hn ρ')
  |rt d=>exact q H0 os0 { D with nx:=t2 D } σ H os ρ _ R e k
  |rl d=>exact q H0 os0 { D with nx:=t2 D } σ H os ρ _ R e k
def FS.frz(i:Nat)(h:FS X st f):FS X st (λρ=>f (frz i ρ)):=by
 have⟨t,p,q⟩:=h;refine⟨t,p,λH0 os0 D σ H os ρ r R e k=>?_⟩;have⟨os',R',z⟩:=R.frz i;exact q H0 os0 D σ H os' _ r R' e (k.mono z)
def zhk:FS X st (λ_=>none):=⟨_,zgE,λ_ _ _ _ _ _ _ _ _ q _=>by cases q⟩
noncomputable def exS(f:RPx):RFx:=λρ=>(f ρ).bind λ_=>some (.nx ρ)
def ziP{f:RPx}(h:FE X e f)(hs:swapsWith e none pos.line X.env=pure false:=by rfl):FS X (.Expr e pos) (exS f):=by
 have⟨t,p,q⟩:=h;refine⟨_,vW p hs,λH0 os0 D σ H os ρ r R e k=>?_⟩;have⟨d,e1,e2⟩:=bind_some e;cases e2;exact q σ H os ρ d _ R.rel e1 λv H' s _=>k _ _ _ (R.same s) (zl s os)
noncomputable def retS(f:RPx):RFx:=λρ=>(f ρ).bind λd=>some (.rt d)
def ye{f:RPx}(h:FE X e f):FS X (.Return (some e) pos) (retS f):=by
 have⟨t,p,q⟩:=h;refine⟨_,Jy p,λH0 os0 D σ H os ρ r R e k=>?_⟩;have⟨d,e1,e2⟩:=bind_some e;cases e2;exact q σ H os ρ d _ R.rel e1 λv H' s rv=>k v H' (R.sm.trans s) (rv.same (yD R.sub))
noncomputable def Uo(f:RLx):RFx:=λρ=>(f ρ).bind λd=>some (.rl d)
def JQ{f:RLx}(h:FL X e f):FS X (.Return (some e) pos) (Uo f):=by
 have⟨t,p,q⟩:=h;refine⟨_,Jy p,λH0 os0 D σ H os ρ r R e k=>?_⟩;have⟨d,e1,e2⟩:=bind_some e;cases e2;refine q σ H os ρ d _ R.rel e1 λa xs H' n s hx rv=>k a xs H' (R.sm.free n) (R.sm.trans s) hx (rv.same (yD λb hb=>?_))
 rcases qu.mp hb with z|z
 ·exact z▸qZ
 ·exact qz _ (R.sub b z)
def WQ(i:Nat){x:Str}{p:Pos}(hN:X.N[i]?=some x:=by rfl)(hv:Vis X.env.scope x:=by trivial)(hd:NDx x:=by decide)(hcd:NCx x:=by decide):FS X (.Return (some (.Name x p)) pos) (Uo (gk i)):=by
 refine⟨_,Jy (yu hN hv hd hcd),λH0 os0 D σ H os ρ r R e k=>?_⟩;have⟨ds,e1,e2⟩:=bind_some e;cases e2;have q:=vR e1;have⟨a,xs,e,ha,hx,r⟩:=R.rel.ow i ds q
 refine⟨_,e,k a xs H (R.own i _ q rfl a e) R.sm hx (r.same (yD λb hb=>?_))⟩;rcases qu.mp hb with z|z
 ·exact z▸ha
 ·exact R.sub b z
noncomputable def zT(i:Nat)(f:RPx):RFx:=λρ=>(f ρ).bind λd=>some (.nx (ρ.set i (.pu d)))
def zL(i:Nat){x:Str}{pos':Pos}{f:RPx}(hN:X.N.Nodup)(he:FE X e f)(hi:X.N[i]?=some x:=by rfl)(hx:Loc X.env.scope x:=by trivial)(hs:swapsWith e (some (.Name x pos')) pos.line X.env=pure false:=by rfl)(hf:FNx X x:=by trivial):FS X (.Assign [.Name x pos'] e pos) (zT i f):=by
 have⟨t,p,q⟩:=he;refine⟨_,wA hN hi hx p hs hf,λH0 os0 D σ H os ρ r R e k=>?_⟩;have⟨d,e1,e2⟩:=bind_some e;cases e2;exact q σ H os ρ d _ R.rel e1 λv H' s rv=>k _ _ _ ((R.same s).set rv) (zl s os)
noncomputable def x5(i:Nat)(f:RLx):RFx:=λρ=>(f ρ).bind λd=>some (.nx (ρ.set i (.ow d)))
def xF(i:Nat){x:Str}{pos':Pos}{f:RLx}(hN:X.N.Nodup)(he:FL X e f)(hi:X.N[i]?=some x:=by rfl)(hx:Loc X.env.scope x:=by trivial)(hs:swapsWith e (some (.Name x pos')) pos.line X.env=pure false:=by rfl)(hf:FNx X x:=by trivial):FS X (.Assign [.Name x pos'] e pos) (x5 i f):=by
 have⟨t,p,q⟩:=he;refine⟨_,wA hN hi hx p hs hf,λH0 os0 D σ H os ρ r R e k=>?_⟩;have⟨d,e1,e2⟩:=bind_some e;cases e2;exact q σ H os ρ d _ R.rel e1 λa xs H' n s hx rv=>k _ _ _ (R.ZA n s hx rv) (vj n s)
noncomputable def ifS(c:Ro->Option Bool)(f g:RFx):RFx:=λρ=>(c ρ).bind λb=>if b then f ρ else g ρ
def jS{c:Expr}{a b:List Stmt}{fc:Ro->Option Bool}(hc:FT X c fc)(ha:FSs X a f)(hb:FSs X b g):FS X (.If c a b pos) (ifS fc f g):=by
 have⟨tc,pc,qc⟩:=hc;have⟨ta,pa,qa⟩:=ha;have⟨tb,pb,qb⟩:=hb;refine⟨_,zez pc pa pb,λH0 os0 D σ H os ρ r R e k=>?_⟩;have⟨b,e1,e2⟩:=bind_some e;refine qc σ H os ρ b _ R.rel e1 λH' s=>?_
 cases b with
 |true=>rw[qf rfl] at e2 ⊢;exact qa H0 os0 D σ H' os ρ r (R.same s) e2 (k.mono (zl s os))
 |false=>rw[qq qF] at e2 ⊢;exact qb H0 os0 D σ H' os ρ r (R.same s) e2 (k.mono (zl s os))
noncomputable def wj(c:Ro->Option Bool)(b:RFx):Nat->Ro->Option Fl
 |0,_=>none
 |n+1,ρ=>(c ρ).bind λt=>if t then (match b ρ with |some (.nx ρ')=>wj c b n ρ'|r=>r) else some (.nx ρ)
def whS(m:Ro->Nat)(c:Ro->Option Bool)(b:RFx):RFx:=λρ=>wj c b (m ρ) ρ
def zc8(m:Ro->Nat){c:Expr}{body:List Stmt}{fc:Ro->Option Bool}{fb:RFx}(hp:PassesOwn (model X.prog X.w) X.A X.env X.xe)(hc:FT X c fc)(hb:FSs X body fb):FS X (.While c body [] pos) (whS m fc fb):=by
 have⟨tc,pc,qc⟩:=hc;have⟨tb,pb,qb⟩:=hb;refine⟨_,zc5 hp pc pb,λH0 os0 D σ H os ρ r R e k=>?_⟩;refine⟨λn σ' H'=>∃os' ρ',SRo X.K H0 os0 H' os' σ' ρ'/\Same (offs H os) (offs H' os')/\wj fc fb n ρ'=some r,⟨m ρ,os,ρ,R,Same.refl _,e⟩,?_⟩;rintro n σ' H' ⟨os',ρ',R',z',e'⟩;cases n with
 |zero=>cases e'
 |succ n=>
  have⟨b,e1,e2⟩:=bind_some e';refine qc σ' H' os' ρ' b _ R'.rel e1 λH2 s=>?_
  cases b with
  |false=>rw[qq qF] at e2 ⊢;cases e2;exact k _ _ _ (R'.same s) (z'.trans (zl s os'))
  |true=>
   rw[qf rfl] at e2 ⊢;refine⟨λσ2 H2=>∃os' ρ',SRo X.K H0 os0 H2 os' σ2 ρ'/\Same (offs H os) (offs H2 os')/\wj fc fb n ρ'=some r,λσ2 H2 h=>⟨n,kI n,h⟩,?_⟩;split at e2
   ·rename_i ρ2 e3;exact qb H0 os0 _ σ' H2 os' ρ' _ (R'.same s) e3 λσ3 H3 os3 R3 z3=>⟨os3,ρ2,R3,(z'.trans (zl s os')).trans z3,e2⟩
   ·cases r with
    |nx ρ2=>rename_i hn;exact absurd e2 (hn ρ2)
    |rt d=>exact qb H0 os0 _ σ' H2 os' ρ' _ (R'.same s) e2 k
    |rl d=>exact qb H0 os0 _ σ' H2 os' ρ' _ (R'.same s) e2 k
noncomputable def Y6(bd:PyData->Ro->Option Ro)(b:RFx):List PyData->Ro->Option Fl
 |[],ρ=>some (.nx ρ)
 |d::ds,ρ=>(bd d ρ).bind λρ1=>match b ρ1 with |some (.nx ρ')=>Y6 bd b ds ρ'|r=>r
def jw(it:RLx)(bd:PyData->Ro->Option Ro)(b:RFx):RFx:=λρ=>(it ρ).bind λds=>Y6 bd b ds ρ
def jb{tg iter:Expr}{body:List Stmt}{fi:RLx}{is:LNt}{bd:PyData->Ro->Option Ro}{fb:RFx}(hp:PassesOwn (model X.prog X.w) X.A X.env X.xe)(hc:X.calm=true)(hi:FI X tg iter fi)(hg:FG X tg is bd)(hb:FSs X body fb)(hs:FSx X iter:=by exact λ_=>rfl):FS X (.For tg iter body [] pos) (jw fi bd fb):=by
 have⟨wi,pi,qi⟩:=hi;have⟨tb,pb,qb⟩:=hb;refine⟨_,zeg hp hc pi hg pb hs,λH0 os0 D σ H os ρ r R e k=>?_⟩;have⟨ds,e1,e2⟩:=bind_some e;refine qi σ H os ρ ds _ R.rel e1 λJ H1 s1 W=>?_
 refine⟨λi m σ' H'=>m=ds.length - i/\i<=ds.length/\∃os' ρ',SRo X.K H0 os0 H' os' σ' ρ'/\Same (offs H1 os) (offs H' os')/\Y6 bd fb (ds.drop i) ρ'=some r,
  ⟨ds.length,rfl,kE _,os,ρ,R.same s1,Same.refl _,e2⟩,?_⟩
 rintro i m σ' H' ⟨rfl,hi,os',ρ',R',so,e'⟩;obtain⟨w1,w2⟩:=W H' os' R'.rel.al (so.trans (xx H' os')) so;by_cases hlt:i<ds.length
 ·obtain⟨d,hd⟩:∃d,ds[i]?=some d:=⟨_,qp hlt⟩;have⟨g1,g2⟩:=w1 i d hd;have ed:ds.drop i=d::ds.drop (i+1):=by
   rw[gG hlt];rw[qp hlt] at hd;cases hd;rfl
  rw[ed] at e';have⟨ρ1,e3,e4⟩:=bind_some e';refine .inr ⟨g1,λσ2 H2=>i+1<=ds.length/\∃os' ρ',SRo X.K H0 os0 H2 os' σ2 ρ'/\Same (offs H1 os) (offs H2 os')/\Y6 bd fb (ds.drop (i+1)) ρ'=some r,?_,?_⟩
  ·rintro σ2 H2 ⟨h1,h2⟩;exact⟨ds.length - (i+1),by omega,rfl,h1,h2⟩
  ·intro x H2 hy;have⟨s2,rx⟩:=g2 x H2 hy;refine⟨os',d,ρ',ρ1,rx,e3,λσ2 st=>?_⟩;have R2:SRo X.K H0 os0 H2 os' σ2 ρ1:=(R'.same s2).sets st;split at e4
   ·rename_i ρ2 e5;exact qb H0 os0 _ σ2 H2 os' ρ1 _ R2 e5 λσ3 H3 os3 R3 z3=>⟨hlt,os3,ρ2,R3,(so.trans (zl s2 os')).trans z3,e4⟩
   ·cases r with
    |nx ρ2=>rename_i hn;exact absurd e4 (hn ρ2)
    |rt d=>exact qb H0 os0 _ σ2 H2 os' ρ1 _ R2 e4 k
    |rl d=>exact qb H0 os0 _ σ2 H2 os' ρ1 _ R2 e4 k
 ·have e:i=ds.length:=by omega
  subst e;rw[mJ] at e';cases e';exact .inl ⟨w2,k _ _ _ R' ((zl s1 os).trans so)⟩
end
section
variable{X:Cx}{e:Expr}{pos apos cpos p1:Pos}
def apS(i:Nat)(f:RPx):RFx:=λρ=>(gk i ρ).bind λds=>(f ρ).bind λd=>if ds.length<16777216 then some (.nx (ρ.set i (.ow (ds++[d])))) else none
def jN(i:Nat){x:Str}{f:RPx}(he:FE X e f)(hN:X.N[i]?=some x:=by rfl)(hv:Vis X.env.scope x:=by trivial)(hd:NDx x:=by decide)(hcd:NCx x:=by decide)(hbase:ABx X (.Name x p1) "append":=by rfl)(hfew:FWx X cpos [e]:=by rfl)(hline:(apos.endLine==cpos.line)=true:=by rfl)(hs:SEx X e []:=by rfl)(hsw:swapsWith (.Call (.Attribute (.Name x p1) "append" apos) [e] [] cpos) none pos.line X.env=pure false:=by rfl):FS X (.Expr (.Call (.Attribute (.Name x p1) "append" apos) [e] [] cpos) pos) (apS i f):=by
 have⟨t,p,q⟩:=he;refine⟨_,vW (Jp kx mh me vZ (yu hN hv hd hcd) (yU p xW hs) hbase hfew hline hs) hsw,λH0 os0 D σ H os ρ r R e k=>?_⟩;have⟨ds,e1,e⟩:=bind_some e;have⟨d,e2,e⟩:=bind_some e;split at e
 ·rename_i hl;cases e;have g:=vR e1;have⟨a,xs,h1,h2,h3,h4⟩:=R.rel.ow i ds g
  refine⟨_,h1,.inl ⟨rfl,_,SqL.of h3⟩,q σ H os ρ d _ R.rel e2 λv H' s rv=>?_⟩;refine⟨a,xs,v,rfl,rfl,s _ _ h3,by rw[h4.length];exact hl,?_⟩;refine k _ _ os ((R.same s).chg g h1 ((h4.same (zl s os)).append (.cons rv .nil))) ?_;rw[yP h2];exact zl s os
 ·cases e
def exT(i:Nat)(f:RPx):RFx:=λρ=>(gk i ρ).bind λds=>match f ρ with
 |some (.tuple es)=>if ds.length+es.length<=16777216 then some (.nx (ρ.set i (.ow (ds++es)))) else none
 |_=>none
def zd4(i:Nat){x:Str}{f:RPx}(he:FB X e f)(hN:X.N[i]?=some x:=by rfl)(hv:Vis X.env.scope x:=by trivial)(hd:NDx x:=by decide)(hcd:NCx x:=by decide)(hbase:ABx X (.Name x p1) "extend":=by rfl)(hfew:FWx X cpos [e]:=by rfl)(hline:(apos.endLine==cpos.line)=true:=by rfl)(hs:SEx X e []:=by rfl)(hsw:swapsWith (.Call (.Attribute (.Name x p1) "extend" apos) [e] [] cpos) none pos.line X.env=pure false:=by rfl):FS X (.Expr (.Call (.Attribute (.Name x p1) "extend" apos) [e] [] cpos) pos) (exT i f):=by
 have⟨t,p,q⟩:=he;refine⟨_,vW (Jp kx PySem.F.slot_list_extend PySem.F.type_list_extend zd9 (yu hN hv hd hcd) (yU p xW hs) hbase hfew hline hs) hsw,λH0 os0 D σ H os ρ r R e k=>?_⟩;have⟨ds,e1,e⟩:=bind_some e;split at e
 ·rename_i es e2;split at e
  ·rename_i hl;cases e;have g:=vR e1;have⟨a,xs,h1,h2,h3,h4⟩:=R.rel.ow i ds g
   refine⟨_,h1,.inl ⟨rfl,_,SqL.of h3⟩,q σ H os ρ _ _ R.rel e2 λv H' s rv=>?_⟩;obtain⟨b,ys,rfl,hS,_,ry⟩:=rv.tup;refine⟨a,b,xs,ys,rfl,rfl,s _ _ h3,hS,by rw[h4.length,ry.length];exact hl,?_⟩;refine k _ _ os ((R.same s).chg g h1 ((h4.same (zl s os)).append ry)) ?_;rw[yP h2];exact zl s os
  ·cases e
 ·cases e
def siS(i:Nat)(fi f:RPx):RFx:=λρ=>(gk i ρ).bind λds=>(f ρ).bind λd=>match fi ρ with
 |some (.int k)=>(ixN ds.length k).bind λj=>some (.nx (ρ.set i (.ow (ds.set j d))))
 |_=>none
theorem Y8{K:FRx}{H:Hp}{v:V}{d:PdX}(r:Rep K H v d):∀{xs:List V} {ds:LPd} (j:Nat),Reps K H xs ds->Reps K H (xs.set j v) (ds.set j d)
 |_,_,_,.nil=>.nil
 |_,_,0,.cons _ q=>.cons r q
 |_,_,j+1,.cons h q=>.cons h (Y8 r j q)
def UT(i:Nat){x:Str}{ie:Expr}{fi f:RPx}{tpos:Pos}(hi:FE X ie fi)(he:FE X e f)(hN:X.N[i]?=some x:=by rfl)(hv:Vis X.env.scope x:=by trivial)(hd:NDx x:=by decide)(hcd:NCx x:=by decide)(ha:∀v,assign (.Subscript (.Name x p1) ie tpos) X.env v=(do
   let ov <-holding [v] (eval (.Name x p1) X.env)
   let iv <-holding [v,ov] (eval ie X.env)
   standAt tpos
   holding [v,ov,iv] (setItem ov iv v)
   release [v,ov,iv] []):=by intro _;rfl)(hs:swapsWithSole [.Subscript (.Name x p1) ie tpos] e pos.line X.env=pure false:=by rfl)(hw:swappedStores [.Subscript (.Name x p1) ie tpos] e X.env=pure none:=by rfl)(h1:(assignEach [.Subscript (.Name x p1) ie tpos] X.env).map (·.2)=[assign (.Subscript (.Name x p1) ie tpos) X.env]:=by rfl):FS X (.Assign [.Subscript (.Name x p1) ie tpos] e pos) (siS i fi f):=by
 have⟨t,p,q⟩:=he;have⟨ti,pi,qi⟩:=hi;refine⟨_,zhp p (zhV (yu hN hv hd hcd) pi set_list ha) hs hw h1,λH0 os0 D σ H os ρ r R e k=>?_⟩;have⟨ds,e1,e⟩:=bind_some e;have⟨d,e2,e⟩:=bind_some e;split at e
 ·rename_i n e3;have⟨j,e4,e⟩:=bind_some e;cases e;have g:=vR e1;have⟨a,xs,h1,h2,h3,h4⟩:=R.rel.ow i ds g
  refine q σ H os ρ d _ R.rel e2 λv H' s rv=>⟨_,h1,qi σ H' os ρ _ _ (R.rel.same s) e3 λu H2 s2 ru=>?_⟩
  cases ru;have s3:=s.trans s2;refine⟨a,xs,n,j,rfl,rfl,s3 _ _ h3,by rw[h4.length];exact e4,?_⟩;refine k _ _ os ((R.same s3).chg g h1 (Y8 (rv.same (zl s2 os)) j (h4.same (zl s3 os)))) ?_;rw[yP h2];exact zl s3 os
 ·cases e
def uM(i:Nat){elt tg iter:Expr}{scope:Scope}{Ts:LSr}{F:LNt}{is:LNt}{fi:RLx}{b:PyData->Ro->Option Ro}{fe:RPx}{x:Str}{pos' spos:Pos}(hN:X.N.Nodup)(hc:X.calm=true)(hi:FIB X tg iter fi)(S:yb X scope)(hF:∀j∈F,∃x,X.N[j]?=some x/\scope.names.lookup x=some .free)(hg:∀cl C ex s H,FG (zV X (Ts++F.map λj=>X.N.getD j "") scope cl C ex s H) tg is b)(he:∀cl C ex s H,FE (zV X (Ts++F.map λj=>X.N.getD j "") scope cl C ex s H) elt fe)(his:∀i∈is,i<Ts.length:=by decide)(hi':X.N[i]?=some x:=by rfl)(hx:X.env.scope.names.lookup x=some .local:=by rfl)(hsw:swapsWith (.ListComp elt [⟨tg,iter,[],0⟩] scope pos) (some (.Name x pos')) spos.line X.env=pure true:=by rfl)(hs:FSx X iter:=by exact λ_=>rfl):FS X (.Assign [.Name x pos'] (.ListComp elt [⟨tg,iter,[],0⟩] scope pos) spos) (x5 i (zU Ts.length F fi b fe)):=by
 have⟨wi,pi,qi⟩:=hi;refine⟨_,uD (Ts:=Ts) (F:=F) (g:=gF X.K is b) (te:=tF X.K fe) hN hi' hx hc pi S hF hg (λcl C ex s H=>(he cl C ex s H).pe) hsw hs,λH0 os0 D σ H os ρ r R q k=>?_⟩;have⟨ds,e1,q⟩:=bind_some q;cases q;have⟨es,e1,q⟩:=bind_some e1;split at q
 ·rename_i hl;refine qi σ H os ρ es _ R.rel e1 λJ H' s W D hD=>?_
  exact u9 his (R.rel.same s) hl hD W q λH2 xs s2 hx r=>k _ _ _ (R.ZA (s.free hD) (s.trans s2) hx r) (vj (s.free hD) (s.trans s2))
 ·cases q
end
noncomputable def fnF(n m:Nat)(b:RFx)(ds:LPd):Option PyData:=if ds.length=m then (match b (ds.map Sl.pu++List.replicate (n - m) .no) with
  |some (.rt d)=>some d
  |some (.rl es)=>some (.list es)
  |some (.nx _)=>some .none
  |none=>none) else none
noncomputable def fnL(n m:Nat)(b:RFx)(ds:LPd):Option (List PyData):=if ds.length=m then (match b (ds.map Sl.pu++List.replicate (n - m) .no) with
  |some (.rl es)=>some es
  |_=>none) else none
section
variable{P:Program}{w:World}{K:FRx}{mg:Str->Option Value}{base:Heap}
def V2{N:LSr}{H:Hp}{os:LAd}{vs:List V}{ds:LPd}(al:Al H os)(r:Reps K (offs H os) vs ds)(m:Nat)(hm:ds.length=m):SRo K H os H os (start N vs) (ds.map Sl.pu++List.replicate (N.length - m) .no):=by
 have hl:=r.length;have no:∀(i:Nat)(c:Sl),(ds.map Sl.pu++List.replicate (N.length - m) .no)[i]?=some c->isM c=true->False:=λi c q m=>by
  by_cases hi:i<ds.length
  ·rw[qJ (by simpa using hi),qo] at q;have⟨d,_,e2⟩:=map_some q;subst e2;cases m
  ·rw[qx (by simpa using qW hi),kh] at q;split at q
   ·cases q;cases m
   ·cases q
 refine⟨⟨λi d q=>?_,λi c q m=>(no i c q m).elim,al,?_⟩,Same.refl _,λa h=>h,λa h=>.inl h,al,λi c q m=>(no i c q m).elim,λi j c c' _ q _ m=>(no i c q m).elim⟩
 ·unfold start;by_cases hi:i<ds.length
  ·rw[qJ (by simpa using hi),qo] at q;have⟨c,e1,e2⟩:=map_some q;cases e2;have⟨v,e3,e4⟩:=r.getD e1;refine⟨v,?_,e4⟩;rw[qJ (by rw[qe,hl];exact hi),qo,e3];rfl
  ·rw[qx (by simpa using qW hi),kh] at q;split at q<;>cases q
 ·unfold start;simp[hl,hm]
def xC.mk{x:Str}{st:Stmt}{N ps:LSr}{k m:Nat}{b:RFx}(h:HasDef K mg x st)(S:zD N ps (ze st))(hb:∀(kV doc pm:Value)(an:Option Addr)(cdv ct:Value)(us:LVl),us.length=ps.length->bindArgs (W.fnOf x x (jl st) (yV st) (ze st) .none kV doc pm an cdv ct) ⟨us,[]⟩=pure (ps.zip us))(hm:ps.length=m)(hbody:∀(f:AdX)(cdv:Value)(A:Around)(outer:List Env)(s:ShX)(H:Hp)(E:XK),Room k (A.deeper (envOfC x (ze st) s.heap.objs.size f cdv))->
   FSs (Vr CX0 P w K mg base N x (ze st) f cdv A outer s H E).nox (yV st) b):xC P w K mg base (k+1) x ps (fnF N.length m b):=by
 refine Def.mk h S hb (λvs H Q E q=>?_) (λf cdv A outer s H vs Q E hr q=>?_)
 ·have⟨os,ds,r,_,hr,e,_⟩:=q;unfold fnF at e;split at e
  ·rename_i hl;rw[hr.length,hl,hm]
  ·cases e
 ·have⟨t,p,q'⟩:=hbody f cdv A outer s H E hr;have⟨os,ds,r,al,hr,e,kk⟩:=q;unfold fnF at e;split at e
  ·rename_i hl;refine⟨t,p,?_⟩;have R:=V2 (N:=N) al hr m hl;split at e
   ·rename_i d e1;cases e;exact q' H os _ _ H os _ _ R e1 λv H' s r=>kk v H' s r
   ·rename_i es e1;cases e;refine q' H os _ _ H os _ _ R e1 λa xs H' n s hx r=>kk _ H' s (.lst (SqL.of ?_) (r.same (yD λb hb=>qz _ hb)))
    rw[zq (al.new n)];exact hx
   ·rename_i ρ' e1;cases e;exact q' H os _ _ H os _ _ R e1 λσ' H' os' R' z=>kk _ H' R'.sm .non
   ·cases e
  ·cases e
def xY.mk{x:Str}{st:Stmt}{N ps:LSr}{k m:Nat}{b:RFx}(h:HasDef K mg x st)(S:zD N ps (ze st))(hb:∀(kV doc pm:Value)(an:Option Addr)(cdv ct:Value)(us:LVl),us.length=ps.length->bindArgs (W.fnOf x x (jl st) (yV st) (ze st) .none kV doc pm an cdv ct) ⟨us,[]⟩=pure (ps.zip us))(hm:ps.length=m)(hbody:∀(f:AdX)(cdv:Value)(A:Around)(outer:List Env)(s:ShX)(H:Hp)(E:XK),Room k (A.deeper (envOfC x (ze st) s.heap.objs.size f cdv))->
   FSs (Vr CX0 P w K mg base N x (ze st) f cdv A outer s H E).nox (yV st) b):xY P w K mg base (k+1) x ps (fnL N.length m b):=by
 refine Def.mk h S hb (λvs H Q E q=>?_) (λf cdv A outer s H vs Q E hr q=>?_)
 ·have⟨os,ds,r,_,hr,e,_⟩:=q;unfold fnL at e;split at e
  ·rename_i hl;rw[hr.length,hl,hm]
  ·cases e
 ·have⟨t,p,q'⟩:=hbody f cdv A outer s H E hr;have⟨os,ds,r,al,hr,e,kk⟩:=q;unfold fnL at e;split at e
  ·rename_i hl;refine⟨t,p,?_⟩;have R:=V2 (N:=N) al hr m hl;split at e
   ·rename_i es e1;cases e;exact q' H os _ _ H os _ _ R e1 λa xs H' n s hx r=>kk a xs H' n s hx r
   ·cases e
  ·cases e
end
end L2.Fu
namespace L2.Fu
open PySem PySem.Spec PyProof.Rows
abbrev ltI:PyData->PyData->Option PyData:=zdg λi j=>decide (i<j)
abbrev gtI:PyData->PyData->Option PyData:=zdg λi j=>decide (j<i)
abbrev frS(i:Nat)(f:RFx):RFx:=λρ=>f (frz i ρ)
section
variable{X:Cx}{a b e:Expr}{f g:RPx}{pos p1 apos cpos:Pos}
def zx(ha:FB X a f)(hb:FB X b g)(hs:W2 b:=by exact λ_ _=>rfl):FE X (.Subscript a b pos) (op2 ixD f g):=by
 have⟨ta,pa,qa⟩:=ha;have⟨tb,pb,qb⟩:=hb;refine⟨_,zh2 zaE pa pb hs,λσ H os ρ c Q R q k=>?_⟩;have⟨d,e,e1,e2,e3⟩:=UY q;refine two qa qb R e1 e2 λx y H' s r1 r2=>zki x y H' os d e c Q (R.al.same s) r1 r2 e3 λv H2 s2=>k v H2 (s.trans s2)
end
section
variable{P:Program}{w:World}{K:FRx}{mg:Str->Option Value}{base:Heap}
def FnF.mk{x:Str}{st:Stmt}{f:AdX}{fd:FuncData}{N ps:LSr}{k m:Nat}{b:RFx}(F:Fun K x x st f fd)(S:zD N ps (ze st))(hm:ps.length=m)(hbody:∀(cdv:Value)(A:Around)(outer:List Env)(s:ShX)(H:Hp)(E:XK),Room k (A.deeper (envOfC x (ze st) s.heap.objs.size f cdv))->
   FSs (Vr CX0 P w K mg base N x (ze st) f cdv A outer s H E).nox (yV st) b):wk P w K mg base CX0 (k+1) f fd ps (spF K (fnF N.length m b)):=by
 refine F.ok S (λvs H Q E q=>?_) (λcdv A outer s H vs Q E hr q=>?_)
 ·have⟨os,ds,r,_,hr,e,_⟩:=q;unfold fnF at e;split at e
  ·rename_i hl;rw[hr.length,hl,hm]
  ·cases e
 ·have⟨t,p,q'⟩:=hbody cdv A outer s H E hr;have⟨os,ds,r,al,hr,e,kk⟩:=q;unfold fnF at e;split at e
  ·rename_i hl;refine⟨t,p,?_⟩;have R:=V2 (N:=N) al hr m hl;split at e
   ·rename_i d e1;cases e;exact q' H os _ _ H os _ _ R e1 λv H' s r=>kk v H' s r
   ·rename_i es e1;cases e;refine q' H os _ _ H os _ _ R e1 λa xs H' n s hx r=>kk _ H' s (.lst (SqL.of ?_) (r.same (yD λb hb=>qz _ hb)))
    rw[zq (al.new n)];exact hx
   ·rename_i ρ' e1;cases e;exact q' H os _ _ H os _ _ R e1 λσ' H' os' R' z=>kk _ H' R'.sm .non
   ·cases e
  ·cases e
def zel(K:FRx):Sp:=λvs H Q _=>∃(a:AdX)(ns:List Int),vs=[.ref a]/\SqL K H a (ns.map V.int)/\ns.length<=63/\∀H',Q (.bl true) H'
def zjL{CX:CXT}{k:Nat}{f:AdX}{fd:FuncData}{ps:LSr}{F:LPx}(h:∀ns:List Int,ns.length<=63->F [.list (ns.map PyData.int)]=some (.bool true))(o:wk P w K mg base CX k f fd ps (spF K F)):wk P w K mg base CX k f fd ps (zel K):=o.imp λvs H Q E q=>by
 obtain⟨a,ns,rfl,hS,hl,k⟩:=q;have e0:offs H []=H:=by funext b;exact zq (by simp)
 refine⟨[],[.list (ns.map PyData.int)],.bool true,Al.nil _,.cons (.lst (by rw[e0];exact hS) (Reps.ints ns)) .nil,h ns hl,λv H' s r=>?_⟩;cases r;exact k H'
def zeN{x:Str}{ga:AdX}{gd:Option Addr}{a b:Int}{t u:Tok}{n:Nat}{sl:Array (Option Value)}(h:mg x=some (.ref ga))(l:K.lookup ga=some ⟨.type "tuple",gd,.seq #[.int a t,.int b u] n,sl⟩):GC K mg x (.tuple [.int a,.int b]):=⟨.ref ga,_,h,rfl,λH=>.tup (xs:=[.int a,.int b]) (.inr ⟨_,#[.int a t,.int b u],n,l,rfl,rfl,(by show 2<=sizeLine;decide),.cons ⟨t,rfl⟩ (.cons ⟨u,rfl⟩ .nil)⟩) (.cons (.int a) (.cons (.int b) .nil))⟩
end
def VI:fillsNumberSlot (.type "tuple") "mul"=pure false:=PySem.fillsNumberSlot_seq (id:="tuple.__mul__") (r:=some (.builtin "tuple.__rmul__")) mv.lookup (by decide+kernel) p7.lookup (by decide+kernel)
def zbb:seqRepeat? (.type "tuple")=pure (some (.builtin "tuple.__mul__")):=by
 unfold seqRepeat?;rw[PySem.seqSlot_of (T:="tuple") (name:="__mul__") (id:="tuple.__mul__") mv.lookup (by decide+kernel),PySem.seqSlot_of (T:="tuple") (name:="__rmul__") (id:="tuple.__rmul__") p7.lookup (by decide+kernel)];rfl
def YV(a:Int)(t:Tok)(l:AdX)(items:Array Value)(n:Nat)(dd:Option Addr)(sl:Array (Option Value)):Meets (Builtin.«int.__rmul__» ⟨[.int a t,.ref l],[]⟩) (λ_ R s=>s.heap.get? l=some { cls:=.type "tuple",dict:=dd,data:=.seq items n,slots:=sl }/\R (.ok (.ret Value.notImplemented)) s):=.of_wp λprog w A R s h=>by have⟨hp,g,d,tk,os⟩:=s;obtain⟨hl,h⟩:=h;wp_walk;exact⟨_,rfl,h⟩
def zbY(l:AdX)(items:Array Value)(n:Nat)(dd:Option Addr)(sl:Array (Option Value))(u:Tok):Meets (Builtin.«tuple.__mul__» ⟨[.ref l,.int 1 u],[]⟩) (λ_ R s=>s.heap.get? l=some { cls:=.type "tuple",dict:=dd,data:=.seq items n,slots:=sl }/\R (.ok (.ret (.ref l))) s):=.of_wp λprog w A R s h=>by
  have⟨hp,g,d,tk,os⟩:=s;obtain⟨hl,h⟩:=h;have f1:=mS;have hc:(items.isEmpty || (1:Int)==1)=true:=by simp
  wp_walk using kS hl
  exact⟨_,rfl,h⟩
def zcy(l:AdX)(items:Array Value)(n:Nat)(dd:Option Addr)(sl:Array (Option Value))(x:Int)(u:Tok)(h0:x<=0)(h1:-(2 ^ 63)<=x)(hi:items.isEmpty=false):Meets (Builtin.«tuple.__mul__» ⟨[.ref l,.int x u],[]⟩) (λ_ R s=>s.heap.get? l=some { cls:=.type "tuple",dict:=dd,data:=.seq items n,slots:=sl }/\R (.ok (.ret (.ref s.heap.objs.size))) { s with heap:=s.heap.push { cls:=Value.type "tuple",data:=Data.seq #[] },toks:=s.toks }):=.of_wp λprog w A R s h=>by
  have⟨hp,g,d,tk,os⟩:=s;obtain⟨hl,h⟩:=h;have f1:=mS;have hc:¬((items.isEmpty || x==1)=true):=by rw[hi];simp;omega
  have hc1:¬((decide (x< -(2 ^ 63)) || decide (x>=2 ^ 63))=true):=by simp;omega
  have hc2:((decide (x<=0) || items.isEmpty)=true):=by simp;omega
  wp_walk using kS hl
  rw[qq hc1];wp_walk using kS hl;rw[qq hc];wp_walk using kS hl;exact⟨_,rfl,h⟩
def zcD(l:AdX)(items:Array Value)(n:Nat)(dd:Option Addr)(sl:Array (Option Value))(x:Int)(u:Tok)(h0:1<x)(h1:x<2 ^ 63)(hi:items.isEmpty=false)(hz:items.size*x.toNat<=sizeLine):Meets (Builtin.«tuple.__mul__» ⟨[.ref l,.int x u],[]⟩) (λ_ R s=>s.heap.get? l=some { cls:=.type "tuple",dict:=dd,data:=.seq items n,slots:=sl }/\R (.ok (.ret (.ref s.heap.objs.size))) { s with heap:=s.heap.push { cls:=Value.type "tuple",data:=Data.seq (List.foldl (λx1 x2=>x1++x2) #[] (List.replicate x.toNat items)) },toks:=s.toks }):=.of_wp λprog w A R s h=>by
  have⟨hp,g,d,tk,os⟩:=s;obtain⟨hl,h⟩:=h;have f1:=mS;have hz2:((items.size*x.toNat:Nat):Int)<=16777216:=by
   have:(sizeLine:Nat)=16777216:=rfl;omega
  have hx:(items.size:Int)*x=((items.size*x.toNat:Nat):Int):=by
   rw[mR,Int.toNat_of_nonneg (by omega)]
  have hc:¬((items.isEmpty || x==1)=true):=by rw[hi];simp;omega
  have hc1:¬((decide (x< -(2 ^ 63)) || decide (x>=2 ^ 63))=true):=by simp;omega
  have hc2:¬((decide (x<=0) || items.isEmpty)=true):=by rw[hi];simp;omega
  have hc3:¬((items.size:Int)*x>(2 ^ 63 - 1) / 8):=by rw[hx];omega
  have hc4:¬(Builtin.Tuple.tupleTooMany ((items.size:Int)*x)=true):=by
   rw[hx];unfold Builtin.Tuple.tupleTooMany
   have:(sizeLine:Int)=16777216:=rfl;rw[pk];omega
  have hz':(List.foldl (λx1 x2=>x1++x2) #[] (List.replicate x.toNat items)).size<=sizeLine:=by
   rw[AutoListH.size_joined];simp only [Array.size_empty];rw[g0] at hz;omega
  wp_walk using kS hl
  rw[qq hc1];wp_walk using kS hl;rw[qq hc];wp_walk using kS hl;rw[qq hc2];wp_walk using kS hl;rw[qq hc3];wp_walk using kS hl;rw[qq hc4];wp_walk using kS hl;exact⟨_,rfl,h⟩
def zkp(K:FRx):R2:=λx y H Q=>∃a k xs,x=.ref a/\y=.int k/\SqT K H a xs/\xs≠[]/\-(2 ^ 63)<=k/\k<2 ^ 63/\xs.length*k.toNat<=sizeLine/\
 (k=1->Q (.ref a) H)/\(k≠1->∀p,H p=none->Q (.ref p) (upd H p (.tup (List.replicate k.toNat xs).flatten)))
def zjm{X:Cx}:OpR X (binaryOp .Mult) (zkp X.K):=by
 intro pins s σ H x y v u Q I rx ry h;obtain⟨a,k,xs,rfl,rfl,hx,hne,h1,h2,hz,q1,q2⟩:=h;cases (show v=Value.ref a from rx);obtain⟨t,rfl⟩:=ry;have⟨its,r,⟨⟨cls,dd,data,sl⟩,ho,hc,n,hd⟩,hz2⟩:=I.tuple hx;simp only at hc hd;subst hc hd;have hl:=r.length;have hie:its.toArray.isEmpty=false:=by
  cases its with
  |nil=>cases r;exact absurd rfl hne
  |cons _ _=>rfl
 have hzz:its.toArray.size*k.toNat<=sizeLine:=by rw[qD,<-hl];exact hz
 have hf:∀m:Nat,List.foldl (λx1 x2=>x1++x2) #[] (List.replicate m its.toArray)=(List.replicate m its).flatten.toArray:=λm=>by
  have:=foldl_rep its m [];rw[pU] at this;exact this
 refine wpAny_binaryOp_repeat_ref (T:="tuple") (U:="int") (by decide) ⟨_,ho,rfl⟩ (λs'=>pQ s' k t) VI F.fills_int_mul pf zbb F.slot_int_index.lookup
  (gX pf (pQ s k t) F.entry_int_rmul (F.args_int_rmul_2 _ _) (YV k t a its.toArray n dd sl) ⟨ho,rfl,⟨_,ho,rfl⟩,?_⟩)
 by_cases hk1:k=1
 ·subst hk1;exact gX mv ⟨_,ho,rfl⟩ pZ (pR _ _) (zbY a its.toArray n dd sl t) ⟨ho,⟨.ref a,H,I,rfl,q1 rfl⟩⟩
 ·by_cases hk0:k<=0
  ·refine gX mv ⟨_,ho,rfl⟩ pZ (pR _ _) (zcy a its.toArray n dd sl k t hk0 h1 hie) ⟨ho,?_⟩;have e:(List.replicate k.toNat xs).flatten=[]:=by
    have:k.toNat=0:=by omega
    rw[this];rfl
   have q:=q2 hk1 _ (I.hok.fresh (qr _));rw[e] at q;exact⟨.ref s.heap.objs.size,_,I.laid (o:=.tup []) (t':=s.toks) (λc o e=>qj _ e) (qr _) ⟨kE _,[],.nil,⟨_,qH _ rfl,rfl,_,rfl⟩⟩,rfl,q⟩
  ·refine gX mv ⟨_,ho,rfl⟩ pZ (pR _ _) (zcD a its.toArray n dd sl k t (by omega) h2 hie hzz) ⟨ho,?_⟩;rw[hf];refine⟨.ref s.heap.objs.size,_,I.laid (o:=.tup (List.replicate k.toNat xs).flatten) (t':=s.toks) (λc o e=>qj _ e) (qr _) ⟨?_,_,r.rep k.toNat,⟨_,qH _ rfl,rfl,_,rfl⟩⟩,rfl,q2 hk1 _ (I.hok.fresh (qr _))⟩;rw[len_rep,g0];exact hz
noncomputable def ziX:PyData->PyData->Option PyData
 | .tuple ds,.int k=>if ds≠[]/\-(2 ^ 63)<=k/\k<2 ^ 63/\ds.length*k.toNat<=16777216 then some (.tuple (List.replicate k.toNat ds).flatten) else none
 |_,_=>none
def zi4{K:FRx}:R2F K (zkp K) ziX:=by
 intro x y H os d e c Q al r1 r2 h k;unfold ziX at h;split at h
 ·rename_i ds n;split at h
  ·rename_i hc;cases h;obtain⟨a,xs,rfl,hS,hSo,r⟩:=r1.tup;refine⟨a,n,xs,rfl,r2.int,hS,λz=>hc.1 ?_,hc.2.1,hc.2.2.1,by rw[r.length];exact hc.2.2.2,λz=>?_,λz p hp=>?_⟩
   ·have:=r.length;rw[z] at this;exact List.eq_nil_of_length_eq_zero this.symm
   ·subst z;have e:(List.replicate (1:Int).toNat ds).flatten=ds:=by simp
    rw[e] at k;exact k _ H (Same.refl H) (.tup hSo r)
   ·have s:=yg hp (.tup (List.replicate n.toNat xs).flatten);refine k _ _ s (.tup (SqT.of ?_) ((Y3 r _).same (zl s os)));rw[zq (al.new hp)];exact zJ
  ·cases h
 ·cases h
end L2.Fu
namespace L2.Fu
open PySem PySem.Spec PyProof.Rows
def zij(h:Heap)(a l:AdX)(i:Int):Prop:=∃o,h.get? a=some o/\o.cls=.type "reversed"/\o.data=.fields #[.ref l,rawInt i]
section
variable{prog:Program}{w:World}{A:Around}{E:VSx}{s:ShX}
def zij.typeIs{a l:AdX}{i:Int}(x:zij s.heap a l i):s.TypeIs (.ref a) "reversed":=let ⟨o,ho,hc,_⟩:=x;⟨o,ho,hc⟩
end
end L2.Fu
namespace L2.Fu
open PySem
noncomputable def zgn(i:Nat):Ro->Nat:=λρ=>match ρ[i]? with |some (.pu (.int b))=>b.natAbs+1|_=>0
abbrev wK:Ro->Nat:=zgn 1
abbrev YU:Ro->Nat:=zgn 3
end L2.Fu
namespace L2.Fu
open PySem PySem.Spec PyProof.Rows
def J4:RFx:=(sq (ifS (zB (op2 ltI (gv 1) (zf yl (aC (gv 0) a0)))) (retS (op2 ixD (gv 0) (gv 1))) s0)
 (retS (cst (.int 0))))
def zM:LPx:=fnF 2 2 J4
def zal:RFx:=(sq (zT 2 (zf zjH (aC (gv 0) a0)))
 (sq (zT 3 (gv 1))
 (sq (whS YU (zB (op2 gtI (gv 3) (cst (.int 0)))) (sq (zT 4 (op2 yy (gv 2) (gv 3)))
 (sq (zT 2 (gv 3))
 (zT 3 (gv 4)))))
 (retS (xu (aC (op2 yj (gv 0) (gv 2)) (aC (op2 yj (gv 1) (gv 2)) a0)))))))
def uz:LPx:=fnF 5 2 zal
def JG:RFx:=(retS (zf uz (aC (op2 VR (op2 yy (gv 0) (cst (.int 9))) (cst (.int 4))) (aC (op2 ixD (yo (vo (aC (cst (.int 1)) (aC (cst (.int 1)) (aC (cst (.int 2)) (aC (cst (.int 1)) (aC (cst (.int 3)) a0))))))) (op2 yy (op2 yj (gv 0) (cst (.int 9))) (cst (.int 5)))) a0))))
def yK:LPx:=fnF 1 1 JG
def vy:RFx:=(sq (x5 3 (vo a0))
 (sq (jw (yW (aC (op2 yR (gv 1) (op2 xN (cst (.int 2)) (op2 yR (gv 1) (gv 2)))) a0)) (bN 4) (sq (zT 0 (op2 yy (op2 xN (op2 yR (gv 0) (cst (.int 48271))) (cst (.int 29))) (cst (.int 2147483647))))
 (apS 3 (ifE (zB (op2 eqD (op2 yy (op2 yj (gv 0) (cst (.int 11))) (cst (.int 3))) (cst (.int 0)))) (xu (aC (cst (.int 0)) (aC (cst (.int 1)) a0))) (zf yK (aC (op2 yj (gv 0) (cst (.int 33))) a0))))))
 (sq (x5 5 (vo a0))
 (sq (jw (yW (aC (gv 2) a0)) (bN 6) (sq (x5 7 (vo a0))
 (sq (jw (yW (aC (gv 1) a0)) (bN 8) (sq (zT 9 (op2 xN (op2 yR (cst (.int 2)) (gv 1)) (op2 yR (op2 xN (op2 yR (gv 6) (gv 1)) (gv 8)) (gv 1))))
 (apS 7 (zf yk (aC (yo (slL (gb 3) (oS (gv 9)) (oS (op2 xN (gv 9) (gv 1))))) a0)))))
 (apS 5 (zf yk (aC (gb 7) a0))))))
 (retS (xu (aC (zf yk (aC (yo (slL (gb 3) o0 (oS (gv 1)))) a0)) (aC (zf yk (aC (gb 5) a0)) (aC (zf yk (aC (yo (slL (gb 3) (oS (gv 1)) (oS (op2 yR (cst (.int 2)) (gv 1))))) a0)) a0)))))))))
def yr:LPx:=fnF 10 3 vy
def Wh:RFx:=(retS (zf uz (aC (op2 yR (op2 ixD (gv 0) (cst (.int 0))) (op2 ixD (gv 1) (cst (.int 0)))) (aC (op2 yR (op2 ixD (gv 0) (cst (.int 1))) (op2 ixD (gv 1) (cst (.int 1)))) a0))))
def yC:LPx:=fnF 2 2 Wh
def YN:RFx:=(retS (zf uz (aC (op2 xN (op2 yR (op2 ixD (gv 0) (cst (.int 0))) (op2 ixD (gv 1) (cst (.int 1)))) (op2 yR (op2 ixD (gv 1) (cst (.int 0))) (op2 ixD (gv 0) (cst (.int 1))))) (aC (op2 yR (op2 ixD (gv 0) (cst (.int 1))) (op2 ixD (gv 1) (cst (.int 1)))) a0))))
def xG:LPx:=fnF 2 2 YN
def uk:RFx:=(sq (whS wK (zB (op2 neD (gv 1) (cst (.int 0)))) (sq (zT 2 (op2 yy (gv 0) (gv 1)))
 (sq (zT 0 (gv 1))
 (zT 1 (gv 2)))))
 (retS (zf zjH (aC (gv 0) a0))))
def yZ:LPx:=fnF 3 2 uk
def Jc:RFx:=(sq (zT 1 (cst (.int 1)))
 (sq (jw (yw (gv 0)) (bN 2) (zT 1 (op2 yR (gv 1) (op2 yj (op2 ixD (gv 2) (cst (.int 1))) (zf yZ (aC (gv 1) (aC (op2 ixD (gv 2) (cst (.int 1))) a0)))))))
 (retS (gv 1))))
def xi:LPx:=fnF 3 1 Jc
def WE:RFx:=(Uo (zU 1 [1] (yw (gv 0)) (bN 0) (op2 yR (op2 ixD (gv 0) (cst (.int 0))) (op2 yj (gv 1) (op2 ixD (gv 0) (cst (.int 1)))))))
def jf:LLx:=fnL 2 2 WE
def zbO:RFx:=(retS (zf yk (aC (yo (zU 1 [1] (yw (gv 0)) (bN 0) (op2 ixD (gv 0) (gv 1)))) a0)))
def Vo:LPx:=fnF 2 2 zbO
def Vl:RFx:=(sq (x5 1 (vo a0))
 (sq (jw (yw (gv 0)) (bN 2) (exT 1 (gv 2)))
 (sq (zT 3 (Wk xi (aC (gb 1) a0)))
 (sq (x5 4 (zU 1 [0,3] (yW (aC (zf yl (aC (gv 0) a0)) a0)) (bN 0) (yo (yQ jf (aC (zf Vo (aC (gv 1) (aC (gv 0) a0))) (aC (gv 2) a0))))))
 (frS 4 (retS (xu (aC (gv 4) (aC (gv 3) a0)))))))))
def xP:LPx:=fnF 5 1 Vl
def uc:RFx:=(retS (zf zjc (aC (yo (zU 2 [] (Uu false false (aC (gv 0) (aC (gv 1) a0))) (b2 (bN 0) (bN 1)) (op2 yR (gv 0) (gv 1)))) a0)))
def zQ:LPx:=fnF 2 2 uc
def zbz:RFx:=(Uo (zU 1 [0] (yw (gv 1)) (bN 0) (zf zQ (aC (gv 1) (aC (gv 0) a0)))))
def j7:LLx:=fnL 2 2 zbz
def zcs:RFx:=(sq (zT 2 (zf yZ (aC (gv 0) (aC (gv 1) a0))))
 (sq (ifS (zB (op2 ltI (gv 1) (cst (.int 0)))) (zT 2 (op1 zbv (gv 2))) s0)
 (retS (xu (aC (op2 yj (gv 0) (gv 2)) (aC (op2 yj (gv 1) (gv 2)) a0))))))
def Ys:LPx:=fnF 3 2 zcs
def Z3:RFx:=(sq (zT 2 (xu (aC (cst (.int 0)) (aC (cst (.int 1)) a0))))
 (sq (jw (yW (aC (zf yl (aC (gv 0) a0)) a0)) (bN 3) (zT 2 (zf xG (aC (gv 2) (aC (zf yC (aC (op2 ixD (gv 0) (gv 3)) (aC (op2 ixD (gv 1) (gv 3)) a0))) a0)))))
 (retS (gv 2))))
def jT:LPx:=fnF 4 2 Z3
def zaa:RFx:=(sq (x5 2 (vo a0))
 (sq (jw (yW (aC (zf yl (aC (gv 0) a0)) a0)) (bN 3) (apS 2 (zf jT (aC (gv 0) (aC (yo (zU 1 [1,3] (yW (aC (zf yl (aC (gv 0) a0)) a0)) (bN 0) (op2 ixD (op2 ixD (gv 1) (gv 0)) (gv 2)))) a0)))))
 (Uo (gk 2))))
def vi:LLx:=fnL 4 2 zaa
def Jf:RFx:=(sq (zT 2 (zf yl (aC (op2 ixD (gv 0) (cst (.int 1))) a0)))
 (sq (zT 3 (zf yl (aC (op2 ixD (gv 1) (cst (.int 1))) a0)))
 (ifS (zB (op2 neD (gv 2) (gv 3))) (λ_=>none) s0)))
def vK:LPx:=fnF 4 2 Jf
def zfh:RFx:=(retS (zf Ys (aC (op2 yR (op2 ixD (gv 0) (cst (.int 0))) (op2 ixD (gv 1) (cst (.int 0)))) (aC (op2 yR (op2 ixD (gv 0) (cst (.int 1))) (op2 ixD (gv 1) (cst (.int 1)))) a0))))
def zbq:LPx:=fnF 2 2 zfh
def Vg:RFx:=(retS (zf yk (aC (yo (zU 1 [1] (yw (gv 0)) (bN 0) (zf zbq (aC (gv 0) (aC (gv 1) a0))))) a0)))
def u7:LPx:=fnF 2 2 Vg
def Zy:RFx:=(retS (zf yk (aC (yo (zU 1 [0] (yW (aC (zf yl (aC (gv 0) a0)) a0)) (bN 0) (zf Vo (aC (gv 1) (aC (gv 0) a0))))) a0)))
def ZC:LPx:=fnF 1 1 Zy
def zah:RFx:=(retS (op2 ziX (xu (aC (cst (.tuple [.int 0,.int 1])) a0)) (gv 0)))
def ue:LPx:=fnF 1 1 zah
def Uh:RFx:=(sq (x5 3 (zU 2 [] (Uu true false (aC (gv 0) (aC (gv 1) a0))) (b2 (bN 0) (bN 1)) (op2 Ji (gv 0) (gv 1))))
 (sq (x5 4 (zU 1 [0] (yw (gv 2)) (bN 0) (op2 Ji (zf ue (aC (zf yl (aC (gv 1) a0)) a0)) (gv 0))))
 (retS (zf yk (aC (yo (zfY (gk 3) (gk 4))) a0)))))
def w6:LPx:=fnF 5 3 Uh
end L2.Fu
namespace WS
open Rat
def zbu(a b:Int):Int.gcd b (a.fmod b)=Int.gcd a b:=by
 rw[Int.fmod_def,Int.gcd_comm a b];have h:a - b*a.fdiv b=a+b*(-(a.fdiv b)):=by rw[Int.mul_neg];rfl
 rw[h];exact Int.gcd_add_mul_left_right ..
def zam{a b:Int}(h:b≠0):(a.fmod b).natAbs<b.natAbs:=by
 rcases Int.lt_or_gt_of_ne h with hb|hb
 ·have h3:=mE (-a) (b:=-b) (by omega);have h4:=px (-a) (b:=-b) (by omega)
  rw[Int.neg_fmod_neg] at h3 h4;omega
 ·have h1:=mE a hb;have h2:=px a hb
  omega
def vY{t b:Int}(hb:b≠0):(0:Int)<(Int.gcd t b:Int):=by
 have:=Int.gcd_pos_of_ne_zero_right t hb;omega
def za2{t b c:Int}(hb:b≠0)(hc:c=if b<0 then -(Int.gcd t b:Int) else (Int.gcd t b:Int)):t.fdiv c=(divInt t b).num:=by
 have hg:=vY (t:=t) hb;have h1:(Int.gcd t b:Int) ∣ t:=Int.gcd_dvd_left ..
 have⟨k,hk⟩:=h1;rw[num_divInt,Int.gcd_comm b t];by_cases h:b<0
 ·rw[qf h] at hc;subst hc;rw[Int.sign_eq_neg_one_of_neg h];have e1:t.fdiv (-(Int.gcd t b:Int))=-k:=gU (by omega) (by rw[Int.neg_mul_neg];exact hk);have e2:(-1*t) / (Int.gcd t b:Int)=-k:=gV (by omega) (by rw[Int.mul_neg,<-hk];omega)
  rw[e1,e2]
 ·rw[qq h] at hc;subst hc;rw[Int.sign_eq_one_of_pos (by omega),Int.one_mul];have e1:t.fdiv (Int.gcd t b:Int)=k:=gU (by omega) hk;have e2:t / (Int.gcd t b:Int)=k:=gV (by omega) hk
  rw[e1,e2]
def zbo{t b c:Int}(hb:b≠0)(hc:c=if b<0 then -(Int.gcd t b:Int) else (Int.gcd t b:Int)):b.fdiv c=((divInt t b).den:Int):=by
 have hg:=vY (t:=t) hb;have h1:(Int.gcd t b:Int) ∣ b:=Int.gcd_dvd_right ..
 have⟨k,hk⟩:=h1;rw[den_divInt,qq hb,Int.gcd_comm b t];have e3:((b.natAbs / Int.gcd t b:Nat):Int)=(b.natAbs:Int) / (Int.gcd t b:Int):=rfl;rw[e3];by_cases h:b<0
 ·rw[qf h] at hc;subst hc;have e1:b.fdiv (-(Int.gcd t b:Int))=-k:=gU (by omega) (by rw[Int.neg_mul_neg];exact hk);have e2:(b.natAbs:Int) / (Int.gcd t b:Int)=-k:=gV (by omega) (by rw[Int.mul_neg,<-hk];omega)
  rw[e1,e2]
 ·rw[qq h] at hc;subst hc;have e1:b.fdiv (Int.gcd t b:Int)=k:=gU (by omega) hk;have e2:(b.natAbs:Int) / (Int.gcd t b:Int)=k:=gV (by omega) (by rw[<-hk];omega)
  rw[e1,e2]
def zbM(q r:Rat):divInt (q.num*(r.den:Int)+r.num*(q.den:Int)) ((q.den:Int)*(r.den:Int))=q+r:=by
 have h1:(q.den:Int)≠0:=by have:=q.den_pos;omega
 have h2:(r.den:Int)≠0:=by have:=r.den_pos;omega
 have e:=divInt_add_divInt q.num r.num h1 h2;rw[pq,pq] at e;exact e.symm
def Vz(q r:Rat):divInt (q.num*r.num) ((q.den:Int)*(r.den:Int))=q*r:=by
 have e:=divInt_mul_divInt q.num r.num (d₁:=(q.den:Int)) (d₂:=(r.den:Int));rw[pq,pq] at e;exact e.symm
def Zt(q:Rat):(q.den:Int)≠0:=by have:=q.den_pos;omega
def zck(q:Rat):(0:Int)<(q.den:Int):=by have:=q.den_pos;omega
def zh9(t b:Int):(divInt t b).num.natAbs<=t.natAbs:=by
 rw[num_divInt];have h:(b.sign*t / (b.gcd t:Int)).natAbs<=(b.sign*t).natAbs:=Int.natAbs_ediv_le_natAbs ..;rw[q9,Int.natAbs_sign] at h;split at h<;>omega
def zk5{t b:Int}(hb:b≠0):(divInt t b).den<=b.natAbs:=by
 rw[den_divInt,qq hb];exact Nat.div_le_self ..
end WS
namespace WD
open PySem L2 WS
open PySem.Builtin.Int (intBits)
noncomputable def fr(q:Rat):PyData:=.tuple [.int q.num,.int (q.den:Int)]
def Wz{x:Int}{m:Nat}(hx:x≠0)(h:intBits x<=m):x.natAbs.log2<m:=by
 have h1:=(intBits_le_iff (m:=m) (x:=x)).mp h;exact(nL (by omega)).mpr h1
def zgC{t b:Int}{m:Nat}(hb:b≠0)(h:intBits b<=m):intBits (Int.gcd t b:Int)<=m:=by
 refine kZ ?_ h;exact Int.gcd_le_natAbs_right (a:=t) hb
def jk{x:Int}{m:Nat}(h:x.natAbs<2 ^ m):intBits x<=m:=ma.mpr h
def jG{a b:Int}{m n:Nat}(ha:intBits a<=m)(hb:intBits b<=n)(h:m+n<=134217728:=by decide):IntMulOk a b:=IntMulOk.of_le ha hb h
structure Bq(m:Nat)(q:Rat):Prop where
 n:intBits q.num<=m
 d:intBits (q.den:Int)<=m
def Yl{q r:Rat}(hq:Bq 4000 q)(hr:Bq 4000 r):IntMulOk q.num (r.den:Int)/\IntMulOk r.num (q.den:Int)/\IntMulOk (q.den:Int) (r.den:Int)/\IntMulOk q.num r.num/\IntMulOk (q.den:Int) r.num:=⟨jG hq.n hr.d,jG hr.n hq.d,jG hq.d hr.d,jG hq.n hr.n,jG hq.d hr.n⟩
def zd3(q r:Rat):(q.den:Int)*(r.den:Int)≠0:=mi (Zt q) (Zt r)
def Sz(m:Nat):Prop:=intBits (m:Int)<=4000
def Sz.mono{m n:Nat}(h:m<=n)(s:Sz n):Sz m:=kZ (y:=(n:Int)) h s
def Sz.bits{x:Int}{B:Nat}(s:Sz B)(h:x.natAbs<=B):intBits x<=4000:=kZ (y:=(B:Int)) h s
def Sz.WJ{k:Nat}(h:k<4000):Sz (2 ^ k):=by
 refine ma.mpr ?_;exact kA (by decide) h
def yE(n:Nat)(f:Q1x):PyData:=.tuple ((List.range n).map λi=>fr (f i))
def yh(n:Nat)(f:Q1x):PyData:=.list ((List.range n).map λi=>fr (f i))
def y4(n:Nat)(f:Q2x):PyData:=.tuple ((List.range n).map λa=>yE n (f a))
def VV(n s:Nat)(st:Q3x):PyData:=.tuple ((List.range s).map λg=>y4 n (st g))
def zv(n s:Nat)(fi:Q1x)(st:Q3x)(la:Q1x):PyData:=.tuple [yE n fi,VV n s st,yE n la]
noncomputable def xn(ws:LNt):PyData:=.tuple (ws.map λ(g:Nat)=>PyData.int (g:Int))
section
variable{K:FRx}{H:Hp}{v:V}
def get_map{d:Nat->PyData}{n i:Nat}(h:i<n):((List.range n).map d)[i]?=some (d i):=by
 rw[qo,ke h];rfl
end
structure InB(m B:Nat)(q:Rat):Prop where
 pos:0<m
 ex:∃x:Int,q*(m:Rat)=(x:Rat)/\x.natAbs<=B
def xV{m:Nat}(h:0<m):(m:Rat)≠0:=by
 intro z
 have:(m:Rat)=((0:Nat):Rat):=by rw[z];rfl
 have:=Rat.natCast_inj.mp this;omega
def InB.eq{m B:Nat}{q:Rat}(h:InB m B q):∃x:Int,q=Rat.divInt x (m:Int)/\x.natAbs<=B:=by
 have⟨x,e,hx⟩:=h.ex;refine⟨x,?_,hx⟩;have hm:=xV h.pos;rw[pD];have e2:((m:Int):Rat)=(m:Rat):=kz m
 rw[e2];grind
def InB.num{m B:Nat}{q:Rat}(h:InB m B q):q.num.natAbs<=B:=by
 obtain⟨x,rfl,hx⟩:=h.eq;exact qw (zh9 _ _) hx
def InB.den{m B:Nat}{q:Rat}(h:InB m B q):q.den ∣ m:=by
 obtain⟨x,rfl,hx⟩:=h.eq;have hp:=h.pos;rw[Rat.den_divInt,qq (by omega)];have h1:Int.gcd (m:Int) x ∣ (m:Int).natAbs:=Int.gcd_dvd_natAbs_left _ _
 exact Nat.div_dvd_of_dvd h1
def InB.bq{m B:Nat}{q:Rat}(h:InB m B q)(hm:Sz m)(hB:Sz B):Bq 4000 q:=⟨hB.bits h.num,hm.bits (gM h.pos h.den)⟩
def InB.zero{m B:Nat}(h:0<m):InB m B 0:=⟨h,0,by grind,kE _⟩
def InB.add{m B C:Nat}{q r:Rat}(h:InB m B q)(k:InB m C r):InB m (B+C) (q+r):=by
 have⟨x,e,hx⟩:=h.ex;have⟨y,f,hy⟩:=k.ex;refine⟨h.pos,x+y,?_,by omega⟩;rw[Rat.intCast_add];grind
def InB.mul{m n B C:Nat}{q r:Rat}(h:InB m B q)(k:InB n C r):InB (m*n) (B*C) (q*r):=by
 have⟨x,e,hx⟩:=h.ex;have⟨y,f,hy⟩:=k.ex;refine⟨pO h.pos k.pos,x*y,?_,?_⟩
 ·rw[kf,mP];grind
 ·rw[q9];exact ka hx hy
def InB.mono{m B C:Nat}{q:Rat}(h:InB m B q)(k:B<=C):InB m C q:=by
 have⟨x,e,hx⟩:=h.ex;exact⟨h.pos,x,e,qw hx k⟩
def InB.up{m B:Nat}{q:Rat}(h:InB m B q){c:Nat}(hc:0<c):InB (m*c) (B*c) q:=by
 have⟨x,e,hx⟩:=h.ex;refine⟨pO h.pos hc,x*c,?_,?_⟩
 ·rw[kf,mP,kz];grind
 ·rw[q9];exact ka hx (nv (by simp))
noncomputable def sumTo:Nat->(Nat->Rat)->Rat
 |0,_=>0
 |n+1,f=>sumTo n f+f n
theorem JN{m B:Nat}{f:Q1x}(hm:0<m):∀n,(∀i,i<n->InB m B (f i))->InB m (n*B) (sumTo n f)
 |0,_=>InB.zero hm
 |n+1,h=>by
  have:=(JN hm n λi hi=>h i (by omega)).add (h n (by omega));rw[gH];exact this
theorem zm{f g:Q1x}:∀n,(∀i,i<n->f i=g i)->sumTo n f=sumTo n g
 |0,_=>rfl
 |n+1,h=>by
  show sumTo n f+f n=sumTo n g+g n
  rw[zm n λi hi=>h i (by omega),h n (by omega)]
theorem yt(c:Rat)(f:Q1x):∀n,sumTo n (λi=>f i*c)=sumTo n f*c
 |0=>by
  show(0:Rat)=0*c
  grind
 |n+1=>by
  show sumTo n (λi=>f i*c)+f n*c=(sumTo n f+f n)*c
  rw[yt c f n];grind
theorem VP(f g:Q1x):∀n,sumTo n (λi=>f i+g i)=sumTo n f+sumTo n g
 |0=>by
  show(0:Rat)=0+0
  grind
 |n+1=>by
  show sumTo n (λi=>f i+g i)+(f n+g n)=(sumTo n f+f n)+(sumTo n g+g n)
  rw[VP f g n];grind
def led(n:Nat)(r:Q1x)(M:Q2x):Nat->Rat:=λb=>sumTo n λa=>r a*M a b
noncomputable def xw(n:Nat)(st:Q3x):(Nat->Rat)->List Nat->Nat->Rat
 |r,[]=>r
 |r,g::w=>xw n st (led n r (st g)) w
def wt(n:Nat)(st:Q3x)(fi la:Q1x)(w:LNt):Rat:=sumTo n λa=>xw n st fi w a*la a
theorem Wi(n:Nat)(st:Q3x):∀(r:Q1x)(u w:LNt),xw n st r (u++w)=xw n st (xw n st r u) w
 |_,[],_=>rfl
 |r,g::u,w=>Wi n st (led n r (st g)) u w
noncomputable def jW(qs:List Rat):Nat:=qs.foldl (λb q=>Nat.lcm b q.den) 1
def zf7(qs:List Rat)(q:Rat):jW (qs++[q])=Nat.lcm (jW qs) q.den:=by
 unfold jW;rw[List.foldl_append];rfl
def zcz(qs:List Rat):0<jW qs:=by
 unfold jW;generalize hb:(1:Nat)=b;have hp:0<b:=by omega
 clear hb;induction qs generalizing b with
 |nil=>exact hp
 |cons q r ih=>exact ih _ (Nat.lcm_pos hp q.den_pos)
def Yb{M:Nat}(qs:List Rat)(h:∀q∈qs,q.den ∣ M):jW qs ∣ M:=by
 unfold jW;generalize hb:(1:Nat)=b;have hp:b ∣ M:=by rw[<-hb];exact Nat.one_dvd _
 clear hb;induction qs generalizing b with
 |nil=>exact hp
 |cons q r ih=>exact ih (λx hx=>h x (qz _ hx)) _ (Nat.lcm_dvd hp (h q qZ))
def ZO(qs:List Rat):∀b:Nat,b ∣ qs.foldl (λb q=>Nat.lcm b q.den) b:=by
 induction qs with
 |nil=>intro b;exact pF _
 |cons q r ih=>intro b;exact Nat.dvd_trans (Nat.dvd_lcm_left _ _) (ih _)
def zbP(qs:List Rat):∀q∈qs,q.den ∣ jW qs:=by
 unfold jW;generalize (1:Nat)=b;induction qs generalizing b with
 |nil=>intro q h;cases h
 |cons x r ih=>
  intro q h;rcases qu.mp h with rfl|h
  ·exact Nat.dvd_trans (Nat.dvd_lcm_right _ _) (ZO r _)
  ·exact ih _ q h
def zgW(b d:Nat):(b:Int)*((d:Int).fdiv (Int.gcd (b:Int) (d:Int):Int))=((Nat.lcm b d:Nat):Int):=by
 have e1:Int.gcd (b:Int) (d:Int)=Nat.gcd b d:=rfl;rw[e1,p3 _ (by omega)];have e2:(d:Int) / ((Nat.gcd b d:Nat):Int)=((d / Nat.gcd b d:Nat):Int):=rfl
 rw[e2];have e3:b*(d / Nat.gcd b d)=Nat.lcm b d:=by
  rw[Nat.lcm,Nat.mul_div_assoc _ (Nat.gcd_dvd_right b d)]
 rw[<-e3];rfl
noncomputable def x6(q:Rat)(B:Nat):Int:=q.num*((B / q.den:Nat):Int)
def ve{q:Rat}{B:Nat}(h:q.den ∣ B):(x6 q B:Rat)=q*(B:Rat):=by
 obtain⟨c,rfl⟩:=h;unfold x6;rw[Nat.mul_div_cancel_left _ q.den_pos];have e:=Rat.num_divInt_den q;rw[pD,kz] at e;have hd:=xV q.den_pos
 rw[kf,mP,kz];have e2:(q.num:Rat)=q*(q.den:Rat):=by
  generalize (q.num:Rat)=x at e;grind
 rw[e2];grind
def zgJ(q:Rat)(B:Nat):q.num*((B:Int).fdiv (q.den:Int))=x6 q B:=by
 unfold x6;rw[p3 _ (by omega)];rfl
noncomputable def yq:Nat->(Nat->Int)->Int
 |0,_=>0
 |n+1,f=>yq n f+f n
theorem zar(f:Z1x):∀n,((List.range n).map f).sum=yq n f
 |0=>rfl
 |n+1=>by
  rw[gQ,qR,List.sum_append,zar f n];simp[yq]
theorem Jo(f:Z1x):∀n,((yq n f:Int):Rat)=sumTo n λi=>(f i:Rat)
 |0=>rfl
 |n+1=>by
  show((yq n f+f n:Int):Rat)=sumTo n (λi=>(f i:Rat))+(f n:Rat)
  rw[Rat.intCast_add,Jo f n]
theorem JA{f:Z1x}{B:Nat}:∀n,(∀i,i<n->(f i).natAbs<=B)->(yq n f).natAbs<=n*B
 |0,_=>by simp[yq]
 |n+1,h=>by
  have h1:=JA n λi hi=>h i (by omega)
  have h2:=h n (by omega);show(yq n f+f n).natAbs<=_
  rw[gH];omega
end WD
namespace L2.Fu
open PySem WS WD
open PySem.Builtin.Int (intBits)
def WC(c:Ro->Option Bool)(b:RFx)(n:Nat)(ρ:Ro):wj c b (n+1) ρ=(c ρ).bind λt=>if t then (match b ρ with |some (.nx ρ')=>wj c b n ρ'|r=>r) else some (.nx ρ):=rfl
def zav{c:Ro->Option Bool}{b:RFx}{n:Nat}{ρ ρ':Ro}(h1:c ρ=some true)(h2:b ρ=some (.nx ρ')):wj c b (n+1) ρ=wj c b n ρ':=by
 rw[WC,h1,qk,qf rfl,h2]
def YK{c:Ro->Option Bool}{b:RFx}{n:Nat}{ρ:Ro}(h1:c ρ=some false):wj c b (n+1) ρ=some (.nx ρ):=by
 rw[WC,h1,qk,qq qF]
def zy{f g:RFx}{ρ ρ':Ro}(h:f ρ=some (.nx ρ')):sq f g ρ=g ρ':=by
 unfold sq;rw[h]
def Y1{f g:RFx}{ρ:Ro}{d:PdX}(h:f ρ=some (.rt d)):sq f g ρ=some (.rt d):=by
 unfold sq;rw[h]
def zmx{f g:RFx}{ρ:Ro}{d:LPd}(h:f ρ=some (.rl d)):sq f g ρ=some (.rl d):=by
 unfold sq;rw[h]
def zer(i j:Int):PyData.eqv (.int i) (.int j)=decide (i=j):=by
 simp[PyData.eqv]
 by_cases h:i=j<;>simp[h]
def xf{i j:Int}(h:j≠0):yy (.int i) (.int j)=some (.int (i.fmod j)):=by
 show(if j≠0 then _ else _)=_
 rw[qf h]
def ji{i j:Int}(h:j≠0)(h2:j.natAbs.log2<9000):yj (.int i) (.int j)=some (.int (i.fdiv j)):=by
 show(if j≠0/\j.natAbs.log2<9000 then _ else _)=_
 rw[qf ⟨h,h2⟩]
def xk{i j:Int}(h:IntMulOk i j):yR (.int i) (.int j)=some (.int (i*j)):=by
 show(open Classical in if IntMulOk i j then _ else _)=_
 rw[qf h]
def vQ(i j:Int):neD (.int i) (.int j)=some (.bool (!decide (i=j))):=by
 show(if SeqAt.shaped (.int i)=true/\SeqAt.shaped (.int j)=true then _ else _)=_
 rw[qf ⟨rfl,rfl⟩,zer]
def xU(i j:Int):eqD (.int i) (.int j)=some (.bool (decide (i=j))):=by
 show(if SeqAt.shaped (.int i)=true/\SeqAt.shaped (.int j)=true then _ else _)=_
 rw[qf ⟨rfl,rfl⟩,zer]
def zE{f:RPx}{ρ:Ro}{b:Bool}(h:f ρ=some (.bool b)):zB f ρ=some b:=by
 unfold zB;rw[h]
def vb{c:Ro->Option Bool}{f g:RFx}{ρ:Ro}(h:c ρ=some true):ifS c f g ρ=f ρ:=by
 unfold ifS;rw[h];rfl
def jD{c:Ro->Option Bool}{f g:RFx}{ρ:Ro}(h:c ρ=some false):ifS c f g ρ=g ρ:=by
 unfold ifS;rw[h];rfl
def zG{i:Nat}{f:RPx}{ρ:Ro}{d:PdX}(h:f ρ=some d):zT i f ρ=some (.nx (ρ.set i (.pu d))):=by
 unfold zT;rw[h];rfl
def yO{i:Nat}{f:RLx}{ρ:Ro}{d:LPd}(h:f ρ=some d):x5 i f ρ=some (.nx (ρ.set i (.ow d))):=by
 unfold x5;rw[h];rfl
def zO{f:RPx}{ρ:Ro}{d:PdX}(h:f ρ=some d):retS f ρ=some (.rt d):=by
 unfold retS;rw[h];rfl
def vz{f:RLx}{ρ:Ro}{d:LPd}(h:f ρ=some d):Uo f ρ=some (.rl d):=by
 unfold Uo;rw[h];rfl
def zkx{f:RPx}{ρ:Ro}{d:PdX}(h:f ρ=some d):exS f ρ=some (.nx ρ):=by
 unfold exS;rw[h];rfl
def zc{h:PyData->PyData->Option PyData}{f g:RPx}{ρ:Ro}{x y:PdX}(h1:f ρ=some x)(h2:g ρ=some y):op2 h f g ρ=h x y:=by
 unfold op2;rw[h1,h2];rfl
def zk{f:RPx}{g:RLx}{ρ:Ro}{x:PdX}{xs:LPd}(h1:f ρ=some x)(h2:g ρ=some xs):aC f g ρ=some (x::xs):=by
 unfold aC;rw[h1,h2];rfl
def zd{h:LPx}{g:RLx}{ρ:Ro}{xs:LPd}(h1:g ρ=some xs):zf h g ρ=h xs:=by
 unfold zf;rw[h1];rfl
def xE{h:LLx}{g:RLx}{ρ:Ro}{xs:LPd}(h1:g ρ=some xs):yQ h g ρ=h xs:=by
 unfold yQ;rw[h1];rfl
def jY{g:RLx}{ρ:Ro}{xs:LPd}(h1:g ρ=some xs)(h2:xs.length<=16777216):xu g ρ=some (.tuple xs):=by
 unfold xu;rw[h1,qk,qf h2]
def zc3{f g:RPx}{ρ:Ro}{x y:PdX}(h1:f ρ=some x)(h2:g ρ=some y):xu (aC f (aC g a0)) ρ=some (.tuple [x,y]):=jY (zk h1 (zk h2 rfl)) (show 2<=16777216 by decide)
def WB{f g h:RPx}{ρ:Ro}{x y z:PdX}(h1:f ρ=some x)(h2:g ρ=some y)(h3:h ρ=some z):xu (aC f (aC g (aC h a0))) ρ=some (.tuple [x,y,z]):=jY (zk h1 (zk h2 (zk h3 rfl))) (show 3<=16777216 by decide)
def ya{n m:Nat}{b:RFx}{ds:LPd}{d:PdX}(hm:ds.length=m)(h:b (ds.map Sl.pu++List.replicate (n - m) .no)=some (.rt d)):fnF n m b ds=some d:=by
 unfold fnF;rw[qf hm,h]
def zkE{n m:Nat}{b:RFx}{ds:LPd}{ρ:Ro}(hm:ds.length=m)(h:b (ds.map Sl.pu++List.replicate (n - m) .no)=some (.nx ρ)):fnF n m b ds=some .none:=by
 unfold fnF;rw[qf hm,h]
def vp{n m:Nat}{b:RFx}{ds:LPd}{d:LPd}(hm:ds.length=m)(h:b (ds.map Sl.pu++List.replicate (n - m) .no)=some (.rl d)):fnL n m b ds=some d:=by
 unfold fnL;rw[qf hm,h]
theorem zeT:∀(n:Nat)(a b:Int)(o:Sl),b.natAbs<n->∃g o',wj (zB (op2 neD (gv 1) (cst (.int 0)))) (sq (zT 2 (op2 yy (gv 0) (gv 1))) (sq (zT 0 (gv 1)) (zT 1 (gv 2)))) n [.pu (.int a),.pu (.int b),o]=some (.nx [.pu (.int g),.pu (.int 0),o'])/\g.natAbs=Int.gcd a b
 |0,_,_,_,h=>by omega
 |n+1,a,b,o,h=>by
  by_cases hb:b=0
  ·subst hb;refine⟨a,o,?_,by rw[Int.gcd_zero_right]⟩;exact YK (zE ((zc rfl rfl).trans (by rw[vQ];rfl)))
  ·obtain⟨g,o',e1,e2⟩:=zeT n b (a.fmod b) (.pu (.int (a.fmod b))) (by have:=zam (a:=a) hb;omega);refine⟨g,o',?_,by rw[e2];exact zbu a b⟩;rw[<-e1];refine zav (zE ((zc rfl rfl).trans (by rw[vQ,qI hb];rfl))) ?_;rw[zy (zG ((zc rfl rfl).trans (xf hb)))];rfl
def va(a b:Int):yZ [.int a,.int b]=some (.int (Int.gcd a b)):=by
 obtain⟨g,o',e1,e2⟩:=zeT (b.natAbs+1) a b .no (by omega);refine ya rfl ?_;refine(zy e1).trans (zO ?_);show some (PyData.int (if g<0 then -g else g))=_
 rw[<-e2];congr 2;split<;>omega
def zba{t b:Int}(hb:b≠0)(hx:intBits b<=8999):(Int.gcd t b:Int).natAbs.log2<9000/\(-(Int.gcd t b:Int)).natAbs.log2<9000:=by
 have hg:=vY (t:=t) hb;have h:=Wz (by omega) (zgC (t:=t) hb hx)
 rw[nU];omega
def zfB{t b:Int}(hb:b≠0)(hx:intBits b<=8999):Ys [.int t,.int b]=some (fr (Rat.divInt t b)):=by
 have hg:=vY (t:=t) hb;obtain⟨l1,l2⟩:=zba (t:=t) hb hx;refine ya rfl ?_;refine(zy (zG ((zd rfl).trans (va t b)))).trans ?_;by_cases h:b<0
 ·refine(zy (ρ':=[.pu (.int t),.pu (.int b),.pu (.int (-(Int.gcd t b:Int)))]) ?_).trans ?_
  ·rw[vb (zE (show _=some (PyData.bool true) from qM some (qM PyData.bool (qB h))))];rfl
  ·refine zO (zc3 ((zc rfl rfl).trans (ji (by omega) l2)) ((zc rfl rfl).trans (ji (by omega) l2))) |>.trans ?_;have hc:-(Int.gcd t b:Int)=(if b<0 then -(Int.gcd t b:Int) else (Int.gcd t b:Int)):=by rw[qf h]
   rw[za2 hb hc,zbo hb hc];rfl
 ·refine(zy (ρ':=[.pu (.int t),.pu (.int b),.pu (.int (Int.gcd t b:Int))]) ?_).trans ?_
  ·rw[jD (zE (show _=some (PyData.bool false) from qM some (qM PyData.bool (qI h))))];rfl
  ·refine zO (zc3 ((zc rfl rfl).trans (ji (by omega) l1)) ((zc rfl rfl).trans (ji (by omega) l1))) |>.trans ?_;have hc:(Int.gcd t b:Int)=(if b<0 then -(Int.gcd t b:Int) else (Int.gcd t b:Int)):=by rw[qq h]
   rw[za2 hb hc,zbo hb hc];rfl
theorem zcx:∀(n:Nat)(t b0 a b:Int)(o:Sl),0<=a->0<=b->b.natAbs<n->∃g o',wj (zB (op2 gtI (gv 3) (cst (.int 0)))) (sq (zT 4 (op2 yy (gv 2) (gv 3))) (sq (zT 2 (gv 3)) (zT 3 (gv 4)))) n [.pu (.int t),.pu (.int b0),.pu (.int a),.pu (.int b),o]=some (.nx [.pu (.int t),.pu (.int b0),.pu (.int g),.pu (.int 0),o'])/\g=(Int.gcd a b:Int)
 |0,_,_,_,_,_,_,_,h=>by omega
 |n+1,t,b0,a,b,o,ha,hb0,h=>by
  by_cases hb:b=0
  ·subst hb;refine⟨a,o,?_,by rw[Int.gcd_zero_right];omega⟩;exact YK (zE (show _=some (PyData.bool false) from rfl))
  ·obtain⟨g,o',e1,e2⟩:=zcx n t b0 b (a.fmod b) (.pu (.int (a.fmod b))) hb0 (mE a (by omega)) (by have:=zam (a:=a) hb;omega);refine⟨g,o',?_,by rw[e2,zbu a b]⟩;rw[<-e1];refine zav (zE (show _=some (PyData.bool true) from qM some (qM PyData.bool (qB (show(0:Int)<b by omega))))) ?_;rw[zy (zG ((zc rfl rfl).trans (xf hb)))];rfl
def wy{t b:Int}(hb:0<b)(hx:intBits b<=8999):uz [.int t,.int b]=some (fr (Rat.divInt t b)):=by
 have hb0:b≠0:=by omega
 obtain⟨l1,l2⟩:=zba (t:=t) hb0 hx;have hg:=vY (t:=t) hb0;have ea:(Int.gcd (if t<0 then -t else t) b:Int)=(Int.gcd t b:Int):=by
  split
  ·rw[Int.neg_gcd]
  ·rfl
 obtain⟨g,o',e1,e2⟩:=zcx (b.natAbs+1) t b (if t<0 then -t else t) b .no (by split<;>omega) (by omega) (by omega);rw[ea] at e2;subst e2;refine ya rfl ?_;refine(zy (ρ':=[.pu (.int t),.pu (.int b),.pu (.int (if t<0 then -t else t)),.no,.no]) rfl).trans ((zy (ρ':=[.pu (.int t),.pu (.int b),.pu (.int (if t<0 then -t else t)),.pu (.int b),.no]) rfl).trans ((zy e1).trans ?_));refine zO (zc3 ((zc rfl rfl).trans (ji (by omega) l1)) ((zc rfl rfl).trans (ji (by omega) l1))) |>.trans ?_;have hc:(Int.gcd t b:Int)=(if b<0 then -(Int.gcd t b:Int) else (Int.gcd t b:Int)):=by rw[qq (by omega)]
 rw[za2 hb0 hc,zbo hb0 hc];rfl
def ix0(q:Rat):ixD (fr q) (.int 0)=some (.int q.num):=rfl
def ix1(q:Rat):ixD (fr q) (.int 1)=some (.int (q.den:Int)):=rfl
def vE(q r:Rat):0<(q.den:Int)*(r.den:Int):=Int.mul_pos (zck q) (zck r)
def zbi{q r:Rat}(hq:Bq 4000 q)(hr:Bq 4000 r):intBits ((q.den:Int)*(r.den:Int))<=8999:=qw (ng hq.d hr.d) (by decide)
def Jn{q r:Rat}(hq:Bq 4000 q)(hr:Bq 4000 r):xG [fr q,fr r]=some (fr (q+r)):=by
 have⟨m1,m2,m3,m4,m5⟩:=Yl hq hr;refine ya rfl (zO ?_);have e1:op2 yR (op2 ixD (gv 0) (cst (.int 0))) (op2 ixD (gv 1) (cst (.int 1))) [.pu (fr q),.pu (fr r)]=some (.int (q.num*(r.den:Int))):=(zc (ix0 q) (ix1 r)).trans (xk m1);have e2:op2 yR (op2 ixD (gv 1) (cst (.int 0))) (op2 ixD (gv 0) (cst (.int 1))) [.pu (fr q),.pu (fr r)]=some (.int (r.num*(q.den:Int))):=(zc (ix0 r) (ix1 q)).trans (xk m2)
 have e3:op2 yR (op2 ixD (gv 0) (cst (.int 1))) (op2 ixD (gv 1) (cst (.int 1))) [.pu (fr q),.pu (fr r)]=some (.int ((q.den:Int)*(r.den:Int))):=(zc (ix1 q) (ix1 r)).trans (xk m3);refine(zd (zk ((zc e1 e2).trans rfl) (zk e3 rfl))).trans ?_;rw[wy (vE q r) (zbi hq hr),zbM]
def uF{q r:Rat}(hq:Bq 4000 q)(hr:Bq 4000 r):yC [fr q,fr r]=some (fr (q*r)):=by
 have⟨m1,m2,m3,m4,m5⟩:=Yl hq hr;refine ya rfl (zO ?_);have e1:op2 yR (op2 ixD (gv 0) (cst (.int 0))) (op2 ixD (gv 1) (cst (.int 0))) [.pu (fr q),.pu (fr r)]=some (.int (q.num*r.num)):=(zc (ix0 q) (ix0 r)).trans (xk m4);have e3:op2 yR (op2 ixD (gv 0) (cst (.int 1))) (op2 ixD (gv 1) (cst (.int 1))) [.pu (fr q),.pu (fr r)]=some (.int ((q.den:Int)*(r.den:Int))):=(zc (ix1 q) (ix1 r)).trans (xk m3)
 refine(zd (zk e1 (zk e3 rfl))).trans ?_;rw[wy (vE q r) (zbi hq hr),Vz]
def zhN{q r:Rat}(hq:Bq 4000 q)(hr:Bq 4000 r):zbq [fr q,fr r]=some (fr (q*r)):=by
 have⟨m1,m2,m3,m4,m5⟩:=Yl hq hr;refine ya rfl (zO ?_);have e1:op2 yR (op2 ixD (gv 0) (cst (.int 0))) (op2 ixD (gv 1) (cst (.int 0))) [.pu (fr q),.pu (fr r)]=some (.int (q.num*r.num)):=(zc (ix0 q) (ix0 r)).trans (xk m4);have e3:op2 yR (op2 ixD (gv 0) (cst (.int 1))) (op2 ixD (gv 1) (cst (.int 1))) [.pu (fr q),.pu (fr r)]=some (.int ((q.den:Int)*(r.den:Int))):=(zc (ix1 q) (ix1 r)).trans (xk m3)
 refine(zd (zk e1 (zk e3 rfl))).trans ?_;rw[zfB (Int.ne_of_gt (vE q r)) (zbi hq hr),Vz]
def Sk(k:Nat)(q:Rat):Prop:=InB (6 ^ k) (2 ^ (8*k)) q
def xA(k:Nat):0<6 ^ k:=Nat.pow_pos (by decide)
def Sk.mono{k l:Nat}{q:Rat}(h:Sk k q)(hl:k<=l):Sk l q:=by
 obtain⟨d,rfl⟩:=p9 hl;have h1:=InB.up h (c:=6 ^ d) (xA d);unfold Sk;rw[gI];refine h1.mono ?_;have e:2 ^ (8*(k+d))=2 ^ (8*k)*256 ^ d:=by
  rw[nK,gI,pN 2 8 d]
 rw[e];exact nV _ (gN (by decide) d)
def Sk.mul{k l:Nat}{q r:Rat}(h:Sk k q)(h':Sk l r):Sk (k+l) (q*r):=by
 have:=InB.mul h h';unfold Sk;rw[gI,nK,gI];exact this
def Sk.sum{k n:Nat}{f:Q1x}(hn:n<=42)(h:∀i,i<n->Sk k (f i)):Sk (k+1) (sumTo n f):=by
 have h1:=JN (f:=f) (xA k) n h;have h2:=InB.up h1 (c:=6) (by decide)
 unfold Sk;rw[Nat.pow_succ];refine h2.mono ?_;have e:2 ^ (8*(k+1))=2 ^ (8*k)*256:=by rw[nK,gI]
 rw[e,g0 n,Nat.mul_assoc];exact nV _ (by omega)
def Sk.add{k:Nat}{q r:Rat}(h:Sk k q)(h':Sk k r):Sk (k+1) (q+r):=by
 have h2:=InB.up (InB.add h h') (c:=6) (by decide);unfold Sk;rw[Nat.pow_succ];refine h2.mono ?_;have e:2 ^ (8*(k+1))=2 ^ (8*k)*256:=by rw[nK,gI]
 rw[e];omega
def Sk.bq{k:Nat}{q:Rat}(h:Sk k q)(hk:k<=400):Bq 4000 q:=by
 refine InB.bq h ?_ (Sz.WJ (by omega));refine Sz.mono (n:=2 ^ (3*k)) ?_ (Sz.WJ (by omega));rw[pN];exact gN (by decide) k
theorem zhR{bd:PyData->Ro->Option Ro}{b:RFx}:∀{ds:LPd} {ρ0:Ro} (P:Nat->Ro->Prop),P 0 ρ0->
  (∀i d ρ,ds[i]?=some d->P i ρ->∃ρ1 ρ2,bd d ρ=some ρ1/\b ρ1=some (.nx ρ2)/\P (i+1) ρ2)->∃ρ',Y6 bd b ds ρ0=some (.nx ρ')/\P ds.length ρ'
 |[],ρ0,P,h0,_=>⟨ρ0,rfl,h0⟩
 |d::r,ρ0,P,h0,h=>by
  have⟨ρ1,ρ2,e1,e2,p⟩:=h 0 d ρ0 rfl h0;obtain⟨ρ',e3,p'⟩:=zhR (ds:=r) (ρ0:=ρ2) (λi=>P (i+1)) p λi d ρ e q=>h (i+1) d ρ (by simpa using e) q
  refine⟨ρ',?_,p'⟩;show((bd d ρ0).bind λρ1=>match b ρ1 with |some (.nx ρ')=>Y6 bd b r ρ'|r=>r)=_
  rw[e1,qk,e2];exact e3
def UI{it:RLx}{bd:PyData->Ro->Option Ro}{b:RFx}{ds:LPd}{ρ0:Ro}(P:Nat->Ro->Prop)(hi:it ρ0=some ds)(h0:P 0 ρ0)(h:∀i d ρ,ds[i]?=some d->P i ρ->∃ρ1 ρ2,bd d ρ=some ρ1/\b ρ1=some (.nx ρ2)/\P (i+1) ρ2):∃ρ',jw it bd b ρ0=some (.nx ρ')/\P ds.length ρ':=by
 have⟨ρ',e,p⟩:=zhR P h0 h;refine⟨ρ',?_,p⟩;unfold jw;rw[hi];exact e
def UP{g:RLx}{ρ:Ro}{n:Nat}(h:g ρ=some [.int n])(hn:n<4611686018427387904):yW g ρ=some (jV 0 n):=by
 unfold yW;rw[h];show(if -(2 ^ 62)<=(n:Int)/\(n:Int)<2 ^ 62 then _ else _)=_
 rw[qf (by constructor<;>omega),kb]
def zei{n i:Nat}{d:PdX}(h:(jV 0 n)[i]?=some d):i<n/\d=.int (i:Int):=by
 have⟨h1,h2⟩:=Vs h;rw[Int.zero_add] at h2;exact⟨h1,h2⟩
def uR{g:RLx}{bd:PyData->Ro->Option Ro}{b:RFx}{n:Nat}{ρ0:Ro}(P:Nat->Ro->Prop)(hg:g ρ0=some [.int n])(hn:n<4611686018427387904)(h0:P 0 ρ0)(h:∀i ρ,i<n->P i ρ->∃ρ1 ρ2,bd (.int (i:Int)) ρ=some ρ1/\b ρ1=some (.nx ρ2)/\P (i+1) ρ2):∃ρ',jw (yW g) bd b ρ0=some (.nx ρ')/\P n ρ':=by
 have:=UI P (UP hg hn) h0 (bd:=bd) (b:=b) λi d ρ e p=>by
  obtain⟨h1,rfl⟩:=zei e;exact h i ρ h1 p
 rw[zbH] at this;exact this
def qd(t:Bool)(n:Nat)(f:Q1x):PyData:=match t with |true=>yE n f|false=>yh n f
def VQ(t:Bool)(n:Nat)(f:Q1x):yl [qd t n f]=some (.int n):=by
 cases t
 ·show some (PyData.int ((((List.range n).map λi=>fr (f i)).length:Nat):Int))=_
  simp
 ·show some (PyData.int ((((List.range n).map λi=>fr (f i)).length:Nat):Int))=_
  simp
def UX{d:Nat->PyData}{n i:Nat}(h:i<n):atI ((List.range n).map d) (i:Int)=some (d i):=U1 (WD.get_map h)
def UZ{t:Bool}{n i:Nat}{f:Q1x}(h:i<n):ixD (qd t n f) (.int (i:Int))=some (fr (f i)):=by
 cases t<;>exact UX h
def zll{n i:Nat}{f:Q2x}(h:i<n):ixD (y4 n f) (.int (i:Int))=some (yE n (f i)):=UX h
def zbG{n s i:Nat}{f:Q3x}(h:i<s):ixD (VV n s f) (.int (i:Int))=some (y4 n (f i)):=UX h
def Zr{t u:Bool}{n k:Nat}{f g:Q1x}(hn:n<=42)(hk:k<=399)(hf:∀i,i<n->Bq 4000 (f i)/\Bq 4000 (g i)/\Sk k (f i*g i)):jT [qd t n f,qd u n g]=some (fr (sumTo n λi=>f i*g i)):=by
 refine ya rfl ?_;refine(zy (ρ':=[.pu (qd t n f),.pu (qd u n g),.pu (fr 0),.no]) rfl).trans ?_;obtain⟨ρ',e,o,rfl⟩:=uR (n:=n) (g:=aC (zf yl (aC (gv 0) a0)) a0) (bd:=bN 3)
  (b:=zT 2 (zf xG (aC (gv 2) (aC (zf yC (aC (op2 ixD (gv 0) (gv 3)) (aC (op2 ixD (gv 1) (gv 3)) a0))) a0))))
  (ρ0:=[.pu (qd t n f),.pu (qd u n g),.pu (fr 0),.no])
  (λi ρ=>∃o,ρ=[.pu (qd t n f),.pu (qd u n g),.pu (fr (sumTo i λi=>f i*g i)),o]) (zk ((zd rfl).trans (VQ t n f)) rfl) (by omega) ⟨.no,rfl⟩
  λi ρ hi ⟨o,e⟩=>by
   subst e;refine⟨_,_,rfl,zG ?_,.pu (.int (i:Int)),rfl⟩;refine(zd (zk rfl (zk ((zd (zk ((zc rfl rfl).trans (UZ hi)) (zk ((zc rfl rfl).trans (UZ hi)) rfl))).trans (uF (hf i hi).1 (hf i hi).2.1)) rfl))).trans ?_;exact Jn ((Sk.sum (k:=k) (by omega) λj hj=>(hf j (by omega)).2.2).bq (by omega)) ((hf i hi).2.2.bq (by omega))
 exact(zy e).trans (zO rfl)
def xy(c:Int){m:Nat}(hm:0<m):∃r:Nat,r<m/\c.fmod (m:Int)=(r:Int):=by
 have h1:=mE c (b:=(m:Int)) (by omega);have h2:=px c (b:=(m:Int)) (by omega)
 exact⟨(c.fmod (m:Int)).toNat,by omega,by omega⟩
def yp{i:Int}{j:Nat}(h:0<j)(h2:j<1073741824):yj (.int i) (.int (j:Int))=some (.int (i.fdiv (j:Int))):=by
 refine ji (by omega) ?_;rw[kP];exact Nat.lt_trans ((nL (by omega)).mpr (show j<2 ^ 30 by omega)) (by decide)
def zdi{j:Nat}(h:j<1073741824):intBits (j:Int)<=30:=jk (show j<2 ^ 30 by omega)
def Fq(q:Rat):Prop:=InB 6 32 q
def Fq.zero:Fq 0:=InB.zero (by decide)
def Fq.sk{q:Rat}(h:Fq q):Sk 1 q:=InB.mono h (by decide)
def Fq.small{t:Int}{b:Nat}(ht:t.natAbs<=5)(hb:b=1\/b=2\/b=3\/b=6):Fq (Rat.divInt t (b:Int)):=by
 have key:∀c:Nat,b*c=6->c<=6->0<b->Fq (Rat.divInt t (b:Int)):=λc hc h6 hb0=>by
  refine⟨by decide,t*(c:Int),?_,?_⟩
  ·have hb':(b:Rat)≠0:=xV hb0;rw[pD,kf,<-hc,mP,kz,kz]
   have:=mj (a:=(t:Rat)) hb';rw[<-Rat.mul_assoc,this]
  ·rw[q9,kP];exact qw (ka ht h6) (by decide)
 rcases hb with rfl|rfl|rfl|rfl
 ·exact key 6 rfl (by decide) (by decide)
 ·exact key 3 rfl (by decide) (by decide)
 ·exact key 2 rfl (by decide) (by decide)
 ·exact key 1 rfl (by decide) (by decide)
def v5(c:Int):∃q,yK [.int c]=some (fr q)/\Fq q:=by
 obtain⟨r,hr,er⟩:=xy c (m:=9) (by decide);obtain⟨u,hu,eu⟩:=xy (c.fdiv 9) (m:=5) (by decide);obtain⟨b,hb,eb⟩:∃b:Nat,(b=1\/b=2\/b=3\/b=6)/\atI [PyData.int 1,.int 1,.int 2,.int 1,.int 3] (u:Int)=some (.int (b:Int)):=by
  have:u=0\/u=1\/u=2\/u=3\/u=4:=by omega
  rcases this with rfl|rfl|rfl|rfl|rfl
  ·exact⟨1,.inl rfl,rfl⟩
  ·exact⟨1,.inl rfl,rfl⟩
  ·exact⟨2,.inr (.inl rfl),rfl⟩
  ·exact⟨1,.inl rfl,rfl⟩
  ·exact⟨3,.inr (.inr (.inl rfl)),rfl⟩
 refine⟨Rat.divInt ((r:Int) - 4) (b:Int),ya rfl (zO ?_),Fq.small (by omega) hb⟩;have e1:op2 VR (op2 yy (gv 0) (cst (.int 9))) (cst (.int 4)) [.pu (.int c)]=some (.int ((r:Int) - 4)):=by
  rw[<-er];exact(zc ((zc rfl rfl).trans (xf (by decide))) rfl).trans rfl
 have e2:op2 yy (op2 yj (gv 0) (cst (.int 9))) (cst (.int 5)) [.pu (.int c)]=some (.int (u:Int)):=by
  rw[<-eu];exact(zc ((zc rfl rfl).trans (yp (j:=9) (by decide) (by decide))) rfl).trans (xf (by decide))
 refine(zd (zk e1 (zk ((zc rfl e2).trans eb) rfl))).trans ?_;refine wy (by omega) (qw (zdi (by omega)) (by decide))
def UB{i:Int}{j:Nat}(h:j<18446744073709551616):yR (.int i) (.int (j:Int))=some (.int (i*(j:Int))):=xk (IntMulOk.of_right (intBits_le_64 (by omega) (by omega)))
def zkP{j:Int}{i:Nat}(h:i<18446744073709551616):yR (.int (i:Int)) (.int j)=some (.int ((i:Int)*j)):=xk (IntMulOk.of_left (intBits_le_64 (by omega) (by omega)))
def Z9(d:Nat->PyData){N lo m:Nat}(h:lo+m<=N):cut ((List.range N).map d) (some (lo:Int)) (some ((lo+m:Nat):Int))=(List.range m).map λi=>d (lo+i):=by
 unfold cut;rw[HT.zbg,HT.zbg,qe,qA,nG (show lo<=N by omega),nG h];refine kT λi=>?_
 rw[List.getElem?_take,List.getElem?_drop,qo,qo];by_cases hi:i<m
 ·rw[qf (by omega),ke (by omega),ke hi];rfl
 ·rw[qq (by omega),kN (by simpa using qW hi)];rfl
def zdP(d:Nat->PyData){N m:Nat}(h:m<=N):cut ((List.range N).map d) none (some (m:Int))=(List.range m).map d:=by
 unfold cut;rw[HT.zbg,HT.zg1,qe,qA,nG h];refine kT λi=>?_
 rw[List.getElem?_take,List.getElem?_drop,qo,qo];by_cases hi:i<m
 ·rw[qf (by omega),ke (by omega),ke hi,mU]
 ·rw[qq (by omega),kN (by simpa using qW hi)];rfl
def Ul(d:Nat->PyData)(n:Nat):(List.range n).map d++[d n]=(List.range (n+1)).map d:=by
 rw[gQ,qR];rfl
def list_range(qs:List Rat):qs.map fr=(List.range qs.length).map λi=>fr (qs.getD i 0):=by
 refine kT λi=>?_
 rw[qo,qo];by_cases hi:i<qs.length
 ·rw[ke hi,qp hi];simp[hi]
 ·rw[kN (by omega),kN (by simpa using qW hi)];rfl
def Jj{i:Nat}{f:RPx}{ρ:Ro}{ds:LPd}{d:PdX}(h1:gk i ρ=some ds)(h2:f ρ=some d)(h3:ds.length<16777216):apS i f ρ=some (.nx (ρ.set i (.ow (ds++[d])))):=by
 unfold apS;rw[h1,qk,h2,qk,qf h3]
def zkf{c:Ro->Option Bool}{f g:RPx}{ρ:Ro}(h:c ρ=some true):ifE c f g ρ=f ρ:=by
 unfold ifE;rw[h];rfl
def zko{c:Ro->Option Bool}{f g:RPx}{ρ:Ro}(h:c ρ=some false):ifE c f g ρ=g ρ:=by
 unfold ifE;rw[h];rfl
def zdQ{f:RPx}{l h:Ro->Option (Option Int)}{ρ:Ro}{ds:LPd}{lo hi:Option Int}(h1:f ρ=some (.list ds))(h2:l ρ=some lo)(h3:h ρ=some hi):slL f l h ρ=some (cut ds lo hi):=by
 unfold slL;rw[h1];show((l ρ).bind λlo=>(h ρ).bind λhi=>some (cut ds lo hi))=_
 rw[h2,qk,h3];rfl
def zcb{f:RPx}{ρ:Ro}{i:Int}(h:f ρ=some (.int i)):oS f ρ=some (some i):=by
 unfold oS;rw[h]
def yc{f:RLx}{ρ:Ro}{ds:LPd}(h:f ρ=some ds):yo f ρ=some (.list ds):=by
 unfold yo;rw[h];rfl
structure Mach(n s:Nat)(fi:Q1x)(st:Q3x)(la:Q1x)(k:Nat):Prop where
 fi:∀a,a<n->Sk k (fi a)
 st:∀g a b,g<s->a<n->b<n->Sk k (st g a b)
 la:∀a,a<n->Sk k (la a)
structure zcK(n s:Nat)(fi:Q1x)(st:Q3x)(la:Q1x):Prop where
 fi:∀a,a<n->Fq (fi a)
 st:∀g a b,g<s->a<n->b<n->Fq (st g a b)
 la:∀a,a<n->Fq (la a)
def vx(c:Int){n s:Nat}(hn:n<=42)(hs:s<=42):∃fi st la,yr [.int c,.int (n:Int),.int (s:Int)]=some (zv n s fi st la)/\zcK n s fi st la:=by
 have htot:n*(2+n*s)<=42*(2+42*42):=ka hn (Nat.add_le_add_left (ka hn hs) 2);have h0:vy ([.int c,.int (n:Int),.int (s:Int)].map Sl.pu++List.replicate (10 - 3) .no)=vy [.pu (.int c),.pu (.int (n:Int)),.pu (.int (s:Int)),.no,.no,.no,.no,.no,.no,.no]:=rfl
 obtain⟨ρ1,e1,c1,o1,qs,l1,q1,rfl⟩:=uR (n:=n*(2+n*s)) (g:=aC (op2 yR (gv 1) (op2 xN (cst (.int 2)) (op2 yR (gv 1) (gv 2)))) a0) (bd:=bN 4)
  (b:=sq (zT 0 (op2 yy (op2 xN (op2 yR (gv 0) (cst (.int 48271))) (cst (.int 29))) (cst (.int 2147483647))))
   (apS 3 (ifE (zB (op2 eqD (op2 yy (op2 yj (gv 0) (cst (.int 11))) (cst (.int 3))) (cst (.int 0)))) (xu (aC (cst (.int 0)) (aC (cst (.int 1)) a0))) (zf yK (aC (op2 yj (gv 0) (cst (.int 33))) a0)))))
  (ρ0:=[.pu (.int c),.pu (.int (n:Int)),.pu (.int (s:Int)),.ow [],.no,.no,.no,.no,.no,.no])
  (λi ρ=>∃(c':Int)(o:Sl)(qs:List Rat),qs.length=i/\(∀x∈qs,Fq x)/\ρ=[.pu (.int c'),.pu (.int (n:Int)),.pu (.int (s:Int)),.ow (qs.map fr),o,.no,.no,.no,.no,.no])
  (zk (by
   refine(zc rfl ((zc rfl ((zc rfl rfl).trans (UB (j:=s) (by omega)))).trans rfl)).trans ((zkP (i:=n) (by omega)).trans ?_);simp only [mR,pV];rfl) rfl) (by omega) ⟨c,.no,[],rfl,(λx h=>by cases h),rfl⟩
  λi ρ hi ⟨c',o,qs,l,q,e⟩=>by
   subst e;have e1:zT 0 (op2 yy (op2 xN (op2 yR (gv 0) (cst (.int 48271))) (cst (.int 29))) (cst (.int 2147483647))) [.pu (.int c'),.pu (.int (n:Int)),.pu (.int (s:Int)),.ow (qs.map fr),.pu (.int (i:Int)),.no,.no,.no,.no,.no]=some (.nx [.pu (.int ((c'*48271+29).fmod 2147483647)),.pu (.int (n:Int)),.pu (.int (s:Int)),.ow (qs.map fr),.pu (.int (i:Int)),.no,.no,.no,.no,.no]):=zG ((zc ((zc ((zc rfl rfl).trans (UB (j:=48271) (by omega))) rfl).trans rfl) rfl).trans (xf (by decide)));generalize (c'*48271+29).fmod 2147483647=c2 at e1;obtain⟨x,hx,ex⟩:∃x,Fq x/\ifE (zB (op2 eqD (op2 yy (op2 yj (gv 0) (cst (.int 11))) (cst (.int 3))) (cst (.int 0)))) (xu (aC (cst (.int 0)) (aC (cst (.int 1)) a0))) (zf yK (aC (op2 yj (gv 0) (cst (.int 33))) a0)) [.pu (.int c2),.pu (.int (n:Int)),.pu (.int (s:Int)),.ow (qs.map fr),.pu (.int (i:Int)),.no,.no,.no,.no,.no]=some (fr x):=by
    have et:∀ρ:Ro,gv 0 ρ=some (.int c2)->zB (op2 eqD (op2 yy (op2 yj (gv 0) (cst (.int 11))) (cst (.int 3))) (cst (.int 0))) ρ=some (decide ((c2.fdiv 11).fmod 3=0)):=λρ h=>
     zE ((zc ((zc ((zc h rfl).trans (yp (j:=11) (by decide) (by decide))) rfl).trans (xf (by decide))) rfl).trans (xU _ _))
    by_cases hz:(c2.fdiv 11).fmod 3=0
    ·refine⟨0,Fq.zero,?_⟩;rw[zkf ((et _ rfl).trans (by rw[qB hz]))];rfl
    ·obtain⟨x,ex,hx⟩:=v5 (c2.fdiv 33);refine⟨x,hx,?_⟩;rw[zko ((et _ rfl).trans (by rw[qI hz]))];exact(zd (zk ((zc rfl rfl).trans (yp (j:=33) (by decide) (by decide))) rfl)).trans ex
   refine⟨_,_,rfl,(zy e1).trans (Jj rfl ex (by rw[qe,l];omega)),c2,.pu (.int (i:Int)),qs++[x],by simp[l],λy hy=>?_,by rw[qR];rfl⟩;rcases qg.mp hy with h|h
   ·exact q y h
   ·have:y=x:=by simpa using h
    rw[this];exact hx
 have hQ:∀i,Fq (qs.getD i 0):=λi=>by
  by_cases hi:i<qs.length
  ·have:qs.getD i 0=qs[i]:=by simp[hi]
   rw[this];exact q1 _ (gO hi)
  ·have:qs.getD i 0=0:=by simp[qW hi]
   rw[this];exact Fq.zero
 rw[list_range qs,l1] at e1;generalize hQe:(λi=>qs.getD i 0)=Q at e1;have hQ':∀i,Fq (Q i):=λi=>by rw[<-hQe];exact hQ i
 have e1':(List.map (λi=>fr (qs.getD i 0)) (List.range (n*(2+n*s))))=(List.range (n*(2+n*s))).map λi=>fr (Q i):=by
  rw[<-hQe]
 rw[e1'] at e1;have hfin:∀x,x<=s*n->2*n+x*n<=n*(2+n*s):=λx hx=>by
  have:x*n<=s*n*n:=gJ n hx;have e:n*(2+n*s)=2*n+s*n*n:=by
   rw[nK,g0 n 2,g0 n (n*s),g0 n s]
  omega
 obtain⟨ρ2,e2,o2,o3,o4,o5,rfl⟩:=uR (n:=s) (g:=aC (gv 2) a0) (bd:=bN 6)
  (b:=sq (x5 7 (vo a0)) (sq (jw (yW (aC (gv 1) a0)) (bN 8) (sq (zT 9 (op2 xN (op2 yR (cst (.int 2)) (gv 1)) (op2 yR (op2 xN (op2 yR (gv 6) (gv 1)) (gv 8)) (gv 1))))
   (apS 7 (zf yk (aC (yo (slL (gb 3) (oS (gv 9)) (oS (op2 xN (gv 9) (gv 1))))) a0))))) (apS 5 (zf yk (aC (gb 7) a0)))))
  (ρ0:=[.pu (.int c1),.pu (.int (n:Int)),.pu (.int (s:Int)),.ow ((List.range (n*(2+n*s))).map λi=>fr (Q i)),o1,.ow [],.no,.no,.no,.no])
  (λi ρ=>∃o2 o3 o4 o5,ρ=[.pu (.int c1),.pu (.int (n:Int)),.pu (.int (s:Int)),.ow ((List.range (n*(2+n*s))).map λi=>fr (Q i)),o1,.ow ((List.range i).map λg=>y4 n λa b=>Q (2*n+(g*n+a)*n+b)),o2,o3,o4,o5])
  (zk rfl rfl) (by omega) ⟨.no,.no,.no,.no,rfl⟩
  λg ρ hg ⟨o2,o3,o4,o5,e⟩=>by
   subst e;obtain⟨ρ3,e3,o6,o7,rfl⟩:=uR (n:=n) (g:=aC (gv 1) a0) (bd:=bN 8)
    (b:=sq (zT 9 (op2 xN (op2 yR (cst (.int 2)) (gv 1)) (op2 yR (op2 xN (op2 yR (gv 6) (gv 1)) (gv 8)) (gv 1))))
     (apS 7 (zf yk (aC (yo (slL (gb 3) (oS (gv 9)) (oS (op2 xN (gv 9) (gv 1))))) a0))))
    (ρ0:=[.pu (.int c1),.pu (.int (n:Int)),.pu (.int (s:Int)),.ow ((List.range (n*(2+n*s))).map λi=>fr (Q i)),o1,.ow ((List.range g).map λg=>y4 n λa b=>Q (2*n+(g*n+a)*n+b)),.pu (.int (g:Int)),.ow [],o4,o5])
    (λa ρ=>∃o6 o7,ρ=[.pu (.int c1),.pu (.int (n:Int)),.pu (.int (s:Int)),.ow ((List.range (n*(2+n*s))).map λi=>fr (Q i)),o1,.ow ((List.range g).map λg=>y4 n λa b=>Q (2*n+(g*n+a)*n+b)),.pu (.int (g:Int)),.ow ((List.range a).map λa=>yE n λb=>Q (2*n+(g*n+a)*n+b)),o6,o7])
    (zk rfl rfl) (by omega) ⟨o4,o5,rfl⟩
    λa ρ ha ⟨o6,o7,e⟩=>by
     subst e;have hlt:2*n+(g*n+a)*n+n<=n*(2+n*s):=by
      have h1:g*n+a+1<=s*n:=by
       have h2:(g+1)*n<=s*n:=gJ n hg;have h3:(g+1)*n=g*n+n:=gH _ _
       omega
      have h2:=hfin (g*n+a+1) h1;have h3:(g*n+a+1)*n=(g*n+a)*n+n:=gH _ _
      omega
     have hgn:g*n+a<18446744073709551616:=by
      have:g*n<=42*42:=ka (by omega) hn;omega
     have e4:op2 xN (op2 yR (cst (.int 2)) (gv 1)) (op2 yR (op2 xN (op2 yR (gv 6) (gv 1)) (gv 8)) (gv 1)) [.pu (.int c1),.pu (.int (n:Int)),.pu (.int (s:Int)),.ow ((List.range (n*(2+n*s))).map λi=>fr (Q i)),o1,.ow ((List.range g).map λg=>y4 n λa b=>Q (2*n+(g*n+a)*n+b)),.pu (.int (g:Int)),.ow ((List.range a).map λa=>yE n λb=>Q (2*n+(g*n+a)*n+b)),.pu (.int (a:Int)),o7]
       =some (.int ((2*n+(g*n+a)*n:Nat):Int)):=by
      have m1:op2 yR (cst (.int 2)) (gv 1) [.pu (.int c1),.pu (.int (n:Int)),.pu (.int (s:Int)),.ow ((List.range (n*(2+n*s))).map λi=>fr (Q i)),o1,.ow ((List.range g).map λg=>y4 n λa b=>Q (2*n+(g*n+a)*n+b)),.pu (.int (g:Int)),.ow ((List.range a).map λa=>yE n λb=>Q (2*n+(g*n+a)*n+b)),.pu (.int (a:Int)),o7]=some (.int ((2*n:Nat):Int)):=by
       refine(zc rfl rfl).trans ((UB (j:=n) (by omega)).trans ?_);rw[mR];rfl
      have m2:op2 xN (op2 yR (gv 6) (gv 1)) (gv 8) [.pu (.int c1),.pu (.int (n:Int)),.pu (.int (s:Int)),.ow ((List.range (n*(2+n*s))).map λi=>fr (Q i)),o1,.ow ((List.range g).map λg=>y4 n λa b=>Q (2*n+(g*n+a)*n+b)),.pu (.int (g:Int)),.ow ((List.range a).map λa=>yE n λb=>Q (2*n+(g*n+a)*n+b)),.pu (.int (a:Int)),o7]=some (.int ((g*n+a:Nat):Int)):=by
       refine(zc ((zc rfl rfl).trans (UB (j:=n) (by omega))) rfl).trans ?_;rw[pV,mR];rfl
      refine(zc m1 ((zc m2 rfl).trans (UB (j:=n) (by omega)))).trans ?_;rw[<-Int.natCast_mul];show some (PyData.int _)=_
      rw[<-Int.natCast_add]
     refine⟨_,_,rfl,(zy (zG e4)).trans (Jj (d:=yE n λb=>Q (2*n+(g*n+a)*n+b)) rfl ?_ (by rw[qe,qA];omega)),.pu (.int (a:Int)),.pu (.int ((2*n+(g*n+a)*n:Nat):Int)),?_⟩
     ·refine(zd (zk (yc (zdQ rfl (zcb rfl) (zcb (i:=((2*n+(g*n+a)*n+n:Nat):Int)) ?_))) rfl)).trans ?_
      ·show some (PyData.int (((2*n+(g*n+a)*n:Nat):Int)+(n:Int)))=_
       rw[<-Int.natCast_add]
      ·rw[Z9 _ hlt];rfl
     ·rw[<-Ul];rfl
   refine⟨_,_,rfl,(zy rfl).trans ((zy e3).trans (Jj (d:=y4 n λa b=>Q (2*n+(g*n+a)*n+b)) rfl rfl (by rw[qe,qA];omega))),.pu (.int (g:Int)),.ow ((List.range n).map λa=>yE n λb=>Q (2*n+(g*n+a)*n+b)),o6,o7,?_⟩
   ·rw[<-Ul];rfl
 refine⟨λa=>Q a,λg a b=>Q (2*n+(g*n+a)*n+b),λa=>Q (n+a),ya rfl ?_,⟨λa _=>hQ' _,λg a b _ _ _=>hQ' _,λa _=>hQ' _⟩⟩;rw[h0];refine(zy (ρ':=[.pu (.int c),.pu (.int (n:Int)),.pu (.int (s:Int)),.ow [],.no,.no,.no,.no,.no,.no]) rfl).trans ((zy e1).trans ((zy (ρ':=[.pu (.int c1),.pu (.int (n:Int)),.pu (.int (s:Int)),.ow ((List.range (n*(2+n*s))).map λi=>fr (Q i)),o1,.ow [],.no,.no,.no,.no]) rfl).trans ((zy e2).trans (zO ?_))));have h2n:2*n<=n*(2+n*s):=by have:=hfin 0 (kE _);omega
 refine(WB (x:=yE n λa=>Q a) (y:=VV n s λg a b=>Q (2*n+(g*n+a)*n+b)) (z:=yE n λa=>Q (n+a)) ?_ ?_ ?_).trans rfl
 ·refine(zd (zk (yc (zdQ rfl rfl (zcb rfl))) rfl)).trans ?_;rw[zdP _ (by omega)];rfl
 ·rfl
 ·refine(zd (zk (yc (zdQ rfl (zcb rfl) (zcb (i:=((n+n:Nat):Int)) ?_))) rfl)).trans ?_
  ·refine(zc rfl rfl).trans ((UB (j:=n) (by omega)).trans ?_);rw[show(2:Int)*(n:Int)=((n+n:Nat):Int) by omega]
  ·rw[Z9 _ (by omega)];rfl
theorem Jx{α β:Type}{h:α->Option β}{f:α->β}:∀{xs:List α},(∀x∈xs,h x=some (f x))->vf h xs=some (xs.map f)
 |[],_=>rfl
 |x::r,hf=>by
  show(h x).bind (λy=>(vf h r).map (y::·))=_
  rw[hf x qZ,qk,Jx λy hy=>hf y (qz _ hy)];rfl
theorem uq{α β γ:Type}{h:β->Option γ}{e:α->β}:∀{xs:List α},vf h (xs.map e)=vf (λx=>h (e x)) xs
 |[]=>rfl
 |x::r=>by
  show(h (e x)).bind (λy=>(vf h (r.map e)).map (y::·))=_
  rw[uq];rfl
def yf{T:Nat}{F:LNt}{fi:RLx}{b:PyData->Ro->Option Ro}{fe:RPx}{ρ:Ro}{α:Type}{xs:List α}{e d:α->PyData}(h1:fi ρ=some (xs.map e))(hl:xs.length<=16777216)(h2:∀x∈xs,(b (e x) (compEnv T F ρ)).bind fe=some (d x)):zU T F fi b fe ρ=some (xs.map d):=by
 unfold zU;rw[h1,qk,qf (by rw[qe];exact hl),uq];exact Jx h2
def jO{T:Nat}{F:LNt}{g:RLx}{b:PyData->Ro->Option Ro}{fe:RPx}{ρ:Ro}{n:Nat}{d:Nat->PyData}(h1:g ρ=some [.int (n:Int)])(hl:n<=16777216)(h2:∀i,i<n->(b (.int (i:Int)) (compEnv T F ρ)).bind fe=some (d i)):zU T F (yW g) b fe ρ=some ((List.range n).map d):=by
 refine yf (xs:=List.range n) (e:=λi:Nat=>PyData.int (0+(i:Int))) (UP h1 (by omega)) (by simpa using hl) λi hi=>?_
 rw[Int.zero_add];exact h2 i (qL.mp hi)
def we{g:RPx}{ρ:Ro}{ds:LPd}(h:g ρ=some (.tuple ds)):yw g ρ=some ds:=by
 unfold yw;rw[h]
def jK{g:RPx}{ρ:Ro}{ds:LPd}(h:g ρ=some (.list ds)):yw g ρ=some ds:=by
 unfold yw;rw[h]
def zds{t:Bool}{n k l:Nat}{r:Q1x}{M:Q2x}(hn:n<=42)(hr:∀a,a<n->Sk k (r a))(hM:∀a b,a<n->b<n->Sk l (M a b))(hk:k+l<=399):vi [qd t n r,y4 n M]=some ((List.range n).map λb=>fr (led n r M b)):=by
 obtain⟨ρ1,e1,o,rfl⟩:=uR (n:=n) (g:=aC (zf yl (aC (gv 0) a0)) a0) (bd:=bN 3)
  (b:=apS 2 (zf jT (aC (gv 0) (aC (yo (zU 1 [1,3] (yW (aC (zf yl (aC (gv 0) a0)) a0)) (bN 0) (op2 ixD (op2 ixD (gv 1) (gv 0)) (gv 2)))) a0))))
  (ρ0:=[.pu (qd t n r),.pu (y4 n M),.ow [],.no])
  (λi ρ=>∃o,ρ=[.pu (qd t n r),.pu (y4 n M),.ow ((List.range i).map λb=>fr (led n r M b)),o]) (zk ((zd rfl).trans (VQ t n r)) rfl) (by omega) ⟨.no,rfl⟩
  λb ρ hb ⟨o,e⟩=>by
   subst e;refine⟨_,_,rfl,Jj (d:=fr (led n r M b)) rfl ?_ (by rw[qe,qA];omega),.pu (.int (b:Int)),by rw[<-Ul];rfl⟩;refine(zd (xs:=[qd t n r,qd false n λa=>M a b]) (zk rfl (zk (yc (jO (n:=n) (zk ((zd rfl).trans (VQ t n r)) rfl) (by omega) λa ha=>?_)) rfl))).trans (Zr hn hk λa ha=>⟨(hr a ha).bq (by omega),(hM a b ha hb).bq (by omega),(hr a ha).mul (hM a b ha hb)⟩);exact(zc ((zc rfl rfl).trans (zll ha)) rfl).trans (UZ (t:=true) hb)
 refine vp rfl ?_;exact(zy (ρ':=[.pu (qd t n r),.pu (y4 n M),.ow [],.no]) rfl).trans ((zy e1).trans (vz rfl))
def jM{n s:Nat}{fi:Q1x}{st:Q3x}{la:Q1x}:ixD (zv n s fi st la) (.int 0)=some (yE n fi):=rfl
def vM{n s:Nat}{fi:Q1x}{st:Q3x}{la:Q1x}:ixD (zv n s fi st la) (.int 1)=some (VV n s st):=rfl
def JC{n s:Nat}{fi:Q1x}{st:Q3x}{la:Q1x}:ixD (zv n s fi st la) (.int 2)=some (yE n la):=rfl
def zes{f:Ro->Option Bool}{ρ:Ro}{b:Bool}(h:f ρ=some b):ZK f ρ=some (!b):=by
 unfold ZK;rw[h];rfl
def zhT{f g:Ro->Option Bool}{ρ:Ro}{b:Bool}(h:f ρ=some false)(h2:g ρ=some b):orT f g ρ=some b:=by
 unfold orT;rw[h,qk,qq qF];exact h2
def zj9{f g:Ro->Option Bool}{ρ:Ro}(h:f ρ=some true):orT f g ρ=some true:=by
 unfold orT;rw[h,qk,qf rfl]
def zk0{f g:Ro->Option Bool}{ρ:Ro}{b:Bool}(h:f ρ=some true)(h2:g ρ=some b):za6 f g ρ=some b:=by
 unfold za6;rw[h,qk,qf rfl];exact h2
def zkM{f g:Ro->Option Bool}{ρ:Ro}(h:f ρ=some false):za6 f g ρ=some false:=by
 unfold za6;rw[h,qk,qq qF]
def zgp{f g:RPx}{ρ:Ro}{d:PdX}(h:f ρ=some (.bool true))(h2:g ρ=some d):zfJ f g ρ=some d:=by
 unfold zfJ;rw[h];exact h2
def xT(n:Nat)(d:Nat->PyData):yl [.tuple ((List.range n).map d)]=some (.int (n:Int)):=by
 show some (PyData.int ((((List.range n).map d).length:Nat):Int))=_
 rw[qe,qA]
def jU(ns:List Int)(i:Nat):∃c:Int,zM [.list (ns.map PyData.int),.int (i:Int)]=some (.int c):=by
 by_cases h:i<ns.length
 ·refine⟨ns[i],ya rfl ?_⟩;refine Y1 ((vb (zE (show _=some (PyData.bool true) from ?_))).trans (zO ?_))
  ·refine qM some (qM PyData.bool (qB ?_));rw[qe];omega
  ·refine(zc (x:=.list (ns.map PyData.int)) (y:=.int (i:Int)) rfl rfl).trans ?_;show atI (ns.map PyData.int) (i:Int)=_
   refine U1 ?_;rw[qo,qp h];rfl
 ·refine⟨0,ya rfl ?_⟩;refine(zy ((jD (zE (show _=some (PyData.bool false) from ?_))).trans rfl)).trans (zO rfl);refine qM some (qM PyData.bool (qI ?_));rw[qe];omega
def Zz{n:Nat}{f:Q1x}{c:Rat}(hn:n<=1000)(h:∀i,i<n->Bq 4000 (f i))(hc:Bq 4000 c):u7 [yE n f,fr c]=some (yE n λi=>f i*c):=by
 refine ya rfl (zO ?_);refine(zd (xs:=[.list ((List.range n).map λi=>fr (f i*c))]) (zk (yc (yf (xs:=List.range n) (e:=λi=>fr (f i)) (d:=λi=>fr (f i*c)) rfl (by simpa using qw hn (by decide)) λi hi=>?_)) rfl)).trans rfl;exact(zd (g:=aC (gv 0) (aC (gv 1) a0)) (ρ:=[.pu (fr (f i)),.pu (fr c)]) rfl).trans (zhN (h i (qL.mp hi)) hc)
def zlE{i:Nat}{f:RPx}{ρ:Ro}{ds es:LPd}(h1:gk i ρ=some ds)(h2:f ρ=some (.tuple es))(h3:ds.length+es.length<=16777216):exT i f ρ=some (.nx (ρ.set i (.ow (ds++es)))):=by
 unfold exT;rw[h1,qk,h2];show(if ds.length+es.length<=16777216 then _ else _)=_
 rw[qf h3]
def zl2{it:RLx}{bd:PyData->Ro->Option Ro}{b:RFx}{n:Nat}{d:Nat->PyData}{ρ0:Ro}(P:Nat->Ro->Prop)(hi:it ρ0=some ((List.range n).map d))(h0:P 0 ρ0)(h:∀i ρ,i<n->P i ρ->∃ρ1 ρ2,bd (d i) ρ=some ρ1/\b ρ1=some (.nx ρ2)/\P (i+1) ρ2):∃ρ',jw it bd b ρ0=some (.nx ρ')/\P n ρ':=by
 have:=UI P hi h0 (bd:=bd) (b:=b) λi x ρ e p=>by
  rw[qo] at e;obtain⟨j,hj,rfl⟩:=map_some e;have hi:i<n:=by
   have:=(qm.mp hj).1;simpa using this
  rw[ke hi] at hj;cases hj;exact h i ρ hi p
 rw[qe,qA] at this;exact this
def V6{n m s:Nat}{fi gi:Q1x}{st su:Q3x}{la lb:Q1x}:vK [zv n s fi st la,zv m s gi su lb]=some .none:=by
 refine zkE (ρ:=[.pu (zv n s fi st la),.pu (zv m s gi su lb),.pu (.int (s:Int)),.pu (.int (s:Int))]) rfl ?_;refine(zy (zG ((zd (zk ((zc rfl rfl).trans vM) rfl)).trans (xT s _)))).trans ((zy (zG ((zd (zk ((zc rfl rfl).trans vM) rfl)).trans (xT s _)))).trans ?_);refine(jD (zE ((zc rfl rfl).trans ((vQ _ _).trans ?_)))).trans rfl;rw[qB rfl];rfl
def JV(d e:Nat->PyData)(n:Nat):UD ((List.range n).map d) ((List.range n).map e)=(List.range n).map λi=>.tuple [d i,e i]:=by
 unfold UD;rw[List.zip_map',k6];rfl
def zi6{g:RLx}{ρ:Ro}{xs ys:LPd}(h:g ρ=some [.tuple xs,.tuple ys]):Uu true true g ρ=some (UD xs ys):=by
 unfold Uu;rw[h];rfl
theorem jE(f:Q1x)(a:Nat):∀m,sumTo (a+m) f=sumTo a f+sumTo m (λj=>f (a+j))
 |0=>by show sumTo a f=sumTo a f+0;grind
 |m+1=>by
  show sumTo (a+m) f+f (a+m)=sumTo a f+(sumTo m (λj=>f (a+j))+f (a+m))
  rw[jE f a m];grind
def Sk.den{k:Nat}{q:Rat}(h:Sk k q):q.den ∣ 6 ^ k:=InB.den h
def sz6{k:Nat}(hk:k<=1300):Sz (6 ^ k):=by
 refine Sz.mono (n:=2 ^ (3*k)) ?_ (Sz.WJ (by omega));rw[pN];exact gN (by decide) k
noncomputable def sqD(t:Bool)(xs:LPd):PyData:=match t with |true=>.tuple xs|false=>.list xs
def zjD{g:RPx}{ρ:Ro}{t:Bool}{ds:LPd}(h:g ρ=some (sqD t ds)):yw g ρ=some ds:=by
 cases t
 ·exact jK h
 ·exact we h
def Jg{t:Bool}{qs:List Rat}{M:Nat}(hM:0<M)(sM:Sz M)(h:∀q∈qs,q.den ∣ M):xi [sqD t (qs.map fr)]=some (.int (jW qs:Int)):=by
 obtain⟨ρ1,e1,o,rfl⟩:=UI (ds:=qs.map fr) (it:=yw (gv 0)) (bd:=bN 2)
  (b:=zT 1 (op2 yR (gv 1) (op2 yj (op2 ixD (gv 2) (cst (.int 1))) (zf yZ (aC (gv 1) (aC (op2 ixD (gv 2) (cst (.int 1))) a0))))))
  (ρ0:=[.pu (sqD t (qs.map fr)),.pu (.int 1),.no]) (λi ρ=>∃o,ρ=[.pu (sqD t (qs.map fr)),.pu (.int (jW (qs.take i):Int)),o]) (zjD rfl) ⟨.no,rfl⟩
  λi d ρ hd ⟨o,e⟩=>by
   subst e;rw[qo] at hd;obtain⟨q,hq,rfl⟩:=map_some hd;have hdM:=h q (qP hq);have hL:jW (qs.take i) ∣ M:=Yb _ λz hz=>h z (List.mem_of_mem_take hz)
   have hd0:=Zt q;have bd:intBits (q.den:Int)<=4000:=sM.bits (gM hM hdM)
   have bL:intBits (jW (qs.take i):Int)<=4000:=sM.bits (gM hM hL);obtain⟨l1,_⟩:=zba (t:=(jW (qs.take i):Int)) hd0 (qw bd (by decide));have hg:=vY (t:=(jW (qs.take i):Int)) hd0
   refine⟨_,_,rfl,zG (d:=.int (jW (qs.take (i+1)):Int)) ?_,.pu (fr q),rfl⟩;refine(zc rfl ((zc ((zc rfl rfl).trans (ix1 q)) ((zd (zk rfl (zk ((zc rfl rfl).trans (ix1 q)) rfl))).trans (va _ _))).trans (ji (by omega) l1))).trans ((xk (jG bL (intBits_fdiv_le bd))).trans ?_);rw[zgW,mD,hq];exact qM (λz:Nat=>some (PyData.int (z:Int))) (zf7 (qs.take i) q).symm
 refine ya rfl ?_;refine(zy (ρ':=[.pu (sqD t (qs.map fr)),.pu (.int 1),.no]) rfl).trans ((zy e1).trans (zO ?_));rw[qe,hJ];rfl
def U9{t:Bool}{n:Nat}{f:Q1x}{B:Nat}(hn:n<=1000)(hB:0<B)(sB:Sz B)(hf:∀i,i<n->(f i).den ∣ B/\intBits (f i).num<=4000):jf [qd t n f,.int (B:Int)]=some ((List.range n).map λi=>.int (x6 (f i) B)):=by
 refine vp rfl (vz ?_);refine yf (xs:=List.range n) (e:=λi=>fr (f i)) ?_ (by simpa using qw hn (by decide)) λi hi=>?_
 ·cases t
  ·exact jK rfl
  ·exact we rfl
 ·have hi:=qL.mp hi;have⟨hd,hb⟩:=hf i hi
  have bd:intBits ((f i).den:Int)<=4000:=sB.bits (gM hB hd);have lg:=Wz (Zt (f i)) bd
  rw[<-zgJ];show op2 yR (op2 ixD (gv 0) (cst (.int 0))) (op2 yj (gv 1) (op2 ixD (gv 0) (cst (.int 1)))) [.pu (fr (f i)),.pu (.int (B:Int))]=_
  exact(zc ((zc rfl rfl).trans (ix0 (f i))) ((zc rfl ((zc rfl rfl).trans (ix1 (f i)))).trans (ji (Zt _) (by omega)))).trans (xk (jG hb (intBits_fdiv_le (show intBits (B:Int)<=4000 from sB))))
noncomputable def xK(n:Nat)(f:Z1x):List PyData:=(List.range n).map λi=>.int (f i)
def zea(n:Nat)(f:Z1x):vf zff (xK n f)=some ((List.range n).map f):=by
 unfold xK;rw[uq];exact Jx λ_ _=>rfl
def zet{g:RLx}{ρ:Ro}{xs ys:LPd}(h:g ρ=some [.list xs,.list ys]):Uu false false g ρ=some (UD xs ys):=by
 unfold Uu;rw[h];rfl
def UU{F:LNt}{ρ:Ro}{x y:PdX}{fe:RPx}:(b2 (bN 0) (bN 1) (.tuple [x,y]) (compEnv 2 F ρ)).bind fe=fe (.pu x::.pu y::F.map λj=>(ρ[j]?).getD .no):=rfl
def yG{F:LNt}{ρ:Ro}{x:PdX}{fe:RPx}:(bN 0 x (compEnv 1 F ρ)).bind fe=fe (.pu x::F.map λj=>(ρ[j]?).getD .no):=rfl
def zjk{n:Nat}{f g:Z1x}(ρ:Ro)(h0:ρ=[.pu (.list (xK n f)),.pu (.list (xK n g))]):Uu false false (aC (gv 0) (aC (gv 1) a0)) ρ=some ((List.range n).map λi=>.tuple [.int (f i),.int (g i)]):=by
 subst h0;exact(zet rfl).trans (qM some (JV _ _ n))
def zaw{n b:Nat}{f:Q2x}(hn:n<=1000)(hb:b<n):Vo [y4 n f,.int (b:Int)]=some (yE n λa=>f a b):=by
 refine ya rfl (zO ?_);refine(zd (xs:=[.list ((List.range n).map λa=>fr (f a b))]) (zk (yc (yf (xs:=List.range n) (e:=λa=>yE n (f a)) rfl (by simpa using qw hn (by decide)) λa ha=>?_)) rfl)).trans rfl;show op2 ixD (gv 0) (gv 1) [.pu (yE n (f a)),.pu (.int (b:Int))]=_
 exact(zc rfl rfl).trans (UZ (t:=true) hb)
noncomputable def wD(n:Nat)(f:Q2x)(i:Nat):List Rat:=(List.range i).flatMap λa=>(List.range n).map (f a)
def Zc(n:Nat)(f:Q2x)(i:Nat):wD n f (i+1)=wD n f i++(List.range n).map (f i):=by
 unfold wD;rw[gQ,nX];simp
def zfU{n:Nat}{f:Q2x}{i:Nat}{q:Rat}(h:q∈wD n f i):∃a b,a<i/\b<n/\q=f a b:=by
 unfold wD at h;have⟨a,ha,h⟩:=pL.mp h;have⟨b,hb,e⟩:=ky.mp h;exact⟨a,b,qL.mp ha,qL.mp hb,e.symm⟩
def zfu{n:Nat}{f:Q2x}{i a b:Nat}(ha:a<i)(hb:b<n):f a b∈wD n f i:=by
 unfold wD;exact List.mem_flatMap.mpr ⟨a,qL.mpr ha,ky.mpr ⟨b,qL.mpr hb,rfl⟩⟩
theorem zat(n:Nat)(f:Q2x):∀i,(wD n f i).length=i*n
 |0=>by simp[wD]
 |i+1=>by
  rw[Zc,qy,zat n f i,gH];simp
def xb(n:Nat)(f:Q2x):Nat:=jW (wD n f n)
def wsD(n:Nat)(f:Q2x):PyData:=.tuple [.list ((List.range n).map λb=>.list (xK n λa=>x6 (f a b) (xb n f))),.int (xb n f:Int)]
def uL{n M N:Nat}{f:Q2x}(hn:n<=42)(hM:0<M)(sM:Sz M)(sN:Sz N)(h:∀a b,a<n->b<n->InB M N (f a b)):xP [y4 n f]=some (wsD n f)/\0<xb n f/\xb n f ∣ M/\∀a b,a<n->b<n->(f a b).den ∣ xb n f:=by
 have hd:∀q∈wD n f n,q.den ∣ M:=λq hq=>by
  obtain⟨a,b,ha,hb,rfl⟩:=zfU hq;exact(h a b ha hb).den
 have hp:0<xb n f:=zcz _;have hv:xb n f ∣ M:=Yb _ hd
 have hdv:∀a b,a<n->b<n->(f a b).den ∣ xb n f:=λa b ha hb=>zbP _ _ (zfu ha hb)
 refine⟨?_,hp,hv,hdv⟩;obtain⟨ρ1,e1,o,rfl⟩:=zl2 (n:=n) (d:=λa=>yE n (f a)) (it:=yw (gv 0)) (bd:=bN 2) (b:=exT 1 (gv 2)) (ρ0:=[.pu (y4 n f),.ow [],.no,.no,.no])
  (λi ρ=>∃o,ρ=[.pu (y4 n f),.ow ((wD n f i).map fr),o,.no,.no]) rfl ⟨.no,rfl⟩
  λi ρ hi ⟨o,e⟩=>by
   subst e;refine⟨_,_,rfl,zlE (es:=(List.range n).map λb=>fr (f i b)) rfl rfl ?_,.pu (yE n (f i)),?_⟩
   ·rw[qe,qe,qA,zat]
    have:i*n<=42*42:=ka (by omega) hn;omega
   ·rw[Zc,qR,k6];rfl
 refine ya rfl ?_;refine(zy (ρ':=[.pu (y4 n f),.ow [],.no,.no,.no]) rfl).trans ((zy e1).trans ((zy (zG (d:=.int (xb n f:Int)) ?_)).trans ((zy (yO (d:=(List.range n).map λb=>.list (xK n λa=>x6 (f a b) (xb n f))) ?_)).trans ?_)))
 ·show((xi [.list ((wD n f n).map fr)]).bind λr=>if zhq r=true then some r else none)=_
  rw[show xi [.list ((wD n f n).map fr)]=some (.int (xb n f:Int)) from Jg (t:=false) hM sM hd];rfl
 ·refine jO (n:=n) (zk ((zd rfl).trans (xT n _)) rfl) (by omega) λb hb=>?_
  refine yc (ρ:=[.pu (.int (b:Int)),.pu (y4 n f),.pu (.int (xb n f:Int))]) ((xE (zk ((zd rfl).trans (zaw (by omega) hb)) rfl)).trans ?_);exact U9 (t:=true) (by omega) hp (Sz.mono (gM hM hv) sM) λa ha=>⟨hdv a b ha hb,((h a b ha hb).bq sM sN).n⟩
 ·exact zO (zc3 rfl rfl)
def YB{q:Rat}{M B C:Nat}{t:Int}(h:InB M C q)(hB:B ∣ M)(e:(t:Rat)=q*(B:Rat)):t.natAbs<=C:=by
 have⟨x,ex,hx⟩:=h.ex;obtain⟨c,rfl⟩:=hB;have hc:0<c:=Nat.pos_of_mul_pos_left h.pos;have e1:(t:Rat)*(c:Rat)=(x:Rat):=by
  rw[e,<-ex,mP];grind
 have e2:t*(c:Int)=x:=by
  have:((t*(c:Int):Int):Rat)=(x:Rat):=by
   rw[kf,kz];exact e1
  exact Rat.intCast_inj.mp this
 have e3:t.natAbs*c=x.natAbs:=by
  rw[<-e2,q9];rfl
 have:t.natAbs<=t.natAbs*c:=nj _ hc;omega
end L2.Fu
namespace L2.Fu
open PySem WS WD
def zbI{h:LPx}{g:RLx}{ρ:Ro}{xs:LPd}{r:PdX}(h1:g ρ=some xs)(h2:h xs=some r)(h3:zhq r=true):Wk h g ρ=some r:=by
 unfold Wk;rw[h1,qk,h2,qk,qf h3]
def Vc{i:Int}{m:Nat}(hm:0<m):∃r:Nat,r<m/\yy (.int i) (.int (m:Int))=some (.int (r:Int)):=by
 have⟨r,hr,e⟩:=xy i hm;exact⟨r,hr,(xf (by omega)).trans (by rw[e])⟩
end L2.Fu
namespace L2.Fu
open PySem WS WD
open PySem.Builtin.Int (intBits)
theorem jL:∀n,sumTo n (λ_=>(0:Rat))=0
 |0=>rfl
 |n+1=>by
  show sumTo n (λ_=>(0:Rat))+0=0
  rw[jL n];grind
def zhd{n:Nat}{f:Q2x}(hn:n<=1000):ZC [y4 n f]=some (y4 n λa b=>f b a):=by
 refine ya rfl (zO ?_);refine(zd (xs:=[.list ((List.range n).map λb=>yE n λa=>f a b)]) (zk (yc (jO (n:=n) (zk ((zd rfl).trans (xT n _)) rfl) (by omega) λb hb=>?_)) rfl)).trans rfl;exact yG.trans ((zd rfl).trans (zaw hn hb))
noncomputable def jn(n:Nat)(f g:Q1x):Nat->Rat:=λx=>if x<n then f x else g (x - n)
def zdq{n x:Nat}{f g:Q1x}(h:x<n):jn n f g x=f x:=qf h
def zbK{n x:Nat}{f g:Q1x}:jn n f g (n+x)=g x:=by
 unfold jn;rw[qq (by omega),show n+x - n=x by omega]
def VN{α:Type}(n m:Nat)(d f g:Nat->α)(h1:∀i,i<n->f i=d i)(h2:∀i,i<m->g i=d (n+i)):(List.range n).map f++(List.range m).map g=(List.range (n+m)).map d:=by
 rw[List.range_add,qR,k6];congr 1
 ·exact k7 λi hi=>h1 i (qL.mp hi)
 ·exact k7 λi hi=>h2 i (qL.mp hi)
def wI{n m:Nat}{f g:Q1x}(h:n+m<=16777216):Ji (yE n f) (yE m g)=some (yE (n+m) (jn n f g)):=by
 show(if ((List.range n).map λi=>fr (f i)).length+((List.range m).map λi=>fr (g i)).length<=16777216 then some (PyData.tuple _) else none)=_
 rw[qf (by rw[qe,qe,qA,qA];exact h)];exact qM some (qM PyData.tuple (VN n m (λi=>fr (jn n f g i)) _ _ (λi hi=>by rw[zdq hi]) λi hi=>by rw[zbK]))
theorem Zq(d:PdX):∀n,(List.replicate n [d]).flatten=(List.range n).map λ_=>d
 |0=>rfl
 |n+1=>by
  rw[List.replicate_succ',List.flatten_append,Zq d n,gQ,qR];rfl
def Zd{n:Nat}(hn:n<=1000):ue [.int (n:Int)]=some (yE n λ_=>0):=by
 refine ya rfl (zO ?_);refine(zc (x:=.tuple [fr 0]) (y:=.int (n:Int)) rfl rfl).trans ?_;unfold ziX;dsimp only;rw[qf ⟨by simp,by omega,by omega,by simp;omega⟩,kb,Zq];rfl
def jnM(n:Nat)(f:Q2x)(c:Q2x)(g:Q2x):Nat->Nat->Rat:=λx=>if x<n then jn n (f x) (c x) else jn n (λ_=>0) (g (x - n))
def ziO{g:RLx}{ρ:Ro}{xs ys:LPd}(h:g ρ=some [.tuple xs,.list ys]):Uu true false g ρ=some (UD xs ys):=by
 unfold Uu;rw[h];rfl
def zfg{f g:RLx}{ρ:Ro}{x y:LPd}(h1:f ρ=some x)(h2:g ρ=some y)(h3:x.length+y.length<=16777216):zfY f g ρ=some (x++y):=by
 unfold zfY;rw[h1,qk,h2,qk,qf h3]
def W9{n m:Nat}{f c g:Q2x}(hn:n<=42)(hm:m<=42):w6 [y4 n f,.list ((List.range n).map λa=>yE m (c a)),y4 m g]=some (y4 (n+m) (jnM n f c g)):=by
 have e1:zU 2 [] (Uu true false (aC (gv 0) (aC (gv 1) a0))) (b2 (bN 0) (bN 1)) (op2 Ji (gv 0) (gv 1)) [.pu (y4 n f),.pu (.list ((List.range n).map λa=>yE m (c a))),.pu (y4 m g),.no,.no]=some ((List.range n).map λa=>yE (n+m) (jn n (f a) (c a))):=yf (xs:=List.range n) (e:=λa=>.tuple [yE n (f a),yE m (c a)]) ((ziO rfl).trans (qM some (JV _ _ n))) (by rw[qA];omega) λa ha=>UU.trans ((zc rfl rfl).trans (wI (by omega)))
 have e2:∀o,zU 1 [0] (yw (gv 2)) (bN 0) (op2 Ji (zf ue (aC (zf yl (aC (gv 1) a0)) a0)) (gv 0)) [.pu (y4 n f),.pu (.list ((List.range n).map λa=>yE m (c a))),.pu (y4 m g),o,.no]=some ((List.range m).map λb=>yE (n+m) (jn n (λ_=>0) (g b))):=λo=>
  yf (xs:=List.range m) (e:=λb=>yE m (g b)) rfl (by rw[qA];omega) λb hb=>yG.trans ((zc ((zd (zk ((zd rfl).trans (xT n _)) rfl)).trans (Zd (by omega))) rfl).trans (wI (by omega)))
 refine ya rfl ?_;refine(zy (yO e1)).trans ((zy (yO (e2 _))).trans (zO ?_));refine(zd (zk (yc (zfg rfl rfl (by rw[qe,qe,qA,qA];omega))) rfl)).trans ?_;refine qM some (qM PyData.tuple (VN n m _ _ _ (λa ha=>?_) λb hb=>?_))
 ·unfold jnM;rw[qf ha]
 ·unfold jnM;rw[qq (by omega),show n+b - n=b by omega]
end L2.Fu
namespace L2.Fu
open PySem PySem.Spec PyProof.Rows
section
variable{X:Cx}
theorem zag:∀{xs:List V} {us:LVl} (k:Nat),Vals xs us->Vals (xs.take k) (us.take k)
 |_,_,0,_=>.nil
 |_,_,_+1,.nil=>.nil
 |_,_,k+1,.cons h q=>.cons h (zag k q)
theorem zac:∀{xs:List V} {us:LVl} (k:Nat),Vals xs us->Vals (xs.drop k) (us.drop k)
 |_,_,0,q=>q
 |_,_,_+1,.nil=>.nil
 |_,_,k+1,.cons _ q=>zac k q
def zjK:V->List V->Hp->VK->Prop:=λx vs H Q=>∃l xs i y,x=.ref l/\vs=[.int i,y]/\H l=some (.lst xs)/\0<=i/\i<2 ^ 63/\xs.length<sizeLine/\Q .non (upd H l (.lst (xs.take i.toNat++y::xs.drop i.toNat)))
def ziw(its:LVl)(i:Int)(h:0<=i)(u:Value):(its.toArray.extract 0 (if i<0 then (i+((its.toArray.size:Nat):Int)).toNat else min i.toNat its.toArray.size)).push u++its.toArray.extract (if i<0 then (i+((its.toArray.size:Nat):Int)).toNat else min i.toNat its.toArray.size)=(its.take i.toNat++u::its.drop i.toNat).toArray:=by
 rw[qq (by omega)];apply Array.toList_inj.mp;rw[Array.toList_append,Array.toList_push,Array.toList_extract,Array.toList_extract,p4,p4,qD,Nat.sub_zero,List.drop_zero,kU];by_cases hh:i.toNat<=its.length
 ·rw[nG hh];have k:=ny (l:=its.drop i.toNat) (i:=its.length - i.toNat) (by rw[nk];exact qr _);simp[k]
 ·rw[Nat.min_eq_right (by omega)];rw[ny (show its.length<=i.toNat by omega),List.drop_of_length_le (show its.length<=i.toNat by omega)];simp
def zgj:MtM X "list.insert" zjK:=by
 intro pins s σ H x vs v us Q I rx rv h;obtain⟨l,xs,i,y,rfl,rfl,hH,h1,h2,hz,q⟩:=h;cases rx;obtain⟨u,w,rfl,ru,rw'⟩:=rv.two;obtain⟨t,rfl⟩:=ru;have⟨z,its,n,r,hl,e⟩:=I.zaC hH;have hfit:¬(!Builtin.List.listFitsIndex i)=true:=by
  rw[fitsIndex_both (by omega) h2];exact qF
 have hsz:its.toArray.size<=sizeLine:=by rw[qD];omega
 refine gX F.slot_list_insert ⟨_,e,rfl⟩ F.entry_list_insert (F.args_list_insert_3 _ _ _) (AutoSeq1.list_insert_list_int_val_1 l its.toArray n i t w hfit hsz) ⟨e,?_⟩;refine⟨.non,_,I.lset (its':=its.take i.toNat++w::its.drop i.toNat) hH e (ziw its i h1 w) ((zag _ r).append (.cons rw' (zac _ r))) ?_,rfl,q⟩;rw[qy,qS,kR,nk];omega
variable{e ei:Expr}{pos apos cpos p1:Pos}
theorem Z5{K:FRx}{H:Hp}:∀{xs:List V} {ds:LPd} (k:Nat),Reps K H xs ds->Reps K H (xs.take k) (ds.take k)
 |_,_,0,_=>.nil
 |_,_,_+1,.nil=>.nil
 |_,_,k+1,.cons h q=>.cons h (Z5 k q)
theorem ZU{K:FRx}{H:Hp}:∀{xs:List V} {ds:LPd} (k:Nat),Reps K H xs ds->Reps K H (xs.drop k) (ds.drop k)
 |_,_,0,q=>q
 |_,_,_+1,.nil=>.nil
 |_,_,k+1,.cons _ q=>ZU k q
def inS(i:Nat)(fi f:RPx):RFx:=λρ=>(gk i ρ).bind λds=>match fi ρ with
 |some (.int k)=>(f ρ).bind λd=>if 0<=k/\k<9223372036854775808/\ds.length<16777216 then some (.nx (ρ.set i (.ow (ds.take k.toNat++d::ds.drop k.toNat)))) else none
 |_=>none
def ZY(i:Nat){x:Str}{fi f:RPx}(hi:FE X ei fi)(he:FE X e f)(hN:X.N[i]?=some x:=by rfl)(hv:Vis X.env.scope x:=by trivial)(hd:NDx x:=by decide)(hcd:NCx x:=by decide)(hbase:ABx X (.Name x p1) "insert":=by rfl)(hfew:FWx X cpos [ei,e]:=by rfl)(hline:(apos.endLine==cpos.line)=true:=by rfl)(hs:starEach [ei,e] X.env=(false,eval ei X.env)::starEach [e] X.env:=by rfl)(hs2:SEx X e []:=by rfl)(hpl:(backTo cpos (starEach [e] X.env)).any (·.1)=false:=by rfl)(hsw:swapsWith (.Call (.Attribute (.Name x p1) "insert" apos) [ei,e] [] cpos) none pos.line X.env=pure false:=by rfl):FS X (.Expr (.Call (.Attribute (.Name x p1) "insert" apos) [ei,e] [] cpos) pos) (inS i fi f):=by
 have⟨t,p,q⟩:=he;have⟨ti,pi,qi⟩:=hi;refine⟨_,vW (Jp kx PySem.F.slot_list_insert PySem.F.type_list_insert zgj (yu hN hv hd hcd) (yU pi (yU p xW hs2) hs) hbase hfew hline hs hpl) hsw,λH0 os0 D σ H os ρ r R e k=>?_⟩;have⟨ds,e1,e⟩:=bind_some e;split at e
 ·rename_i n e3;have⟨d,e2,e⟩:=bind_some e;split at e
  ·rename_i hl;obtain⟨hl1,hl2,hl⟩:=hl;cases e;have g:=vR e1;have⟨a,xs,h1,h2,h3,h4⟩:=R.rel.ow i ds g
   refine⟨_,h1,.inl ⟨rfl,_,SqL.of h3⟩,qi σ H os ρ _ _ R.rel e3 λv H' s rv=>?_⟩;refine q σ H' os ρ _ _ (R.same s).rel e2 λv2 H2 s2 rv2=>?_
   cases rv;refine⟨a,xs,n,v2,rfl,rfl,s2 _ _ (s _ _ h3),hl1,hl2,by rw[h4.length];exact hl,?_⟩;refine k _ _ os (((R.same s).same s2).chg g h1 ((Z5 _ ((h4.same (zl s os)).same (zl s2 os))).append (.cons rv2 (ZU _ ((h4.same (zl s os)).same (zl s2 os)))))) ?_;rw[yP h2];exact λp o h=>zl s2 os _ _ (zl s os _ _ h)
  ·cases e
 ·cases e
end
section
variable{X:Cx}{a b e:Expr}{f g:RPx}{pos p p2:Pos}
noncomputable def zgF:PyData->PyData->Option (List PyData)
 | .list xs,.list ys=>if xs.length+ys.length<=16777216 then some (xs++ys) else none
 |_,_=>none
def zkt(K:FRx):R2:=λx y H Q=>∃l b xs zs,x=.ref l/\y=.ref b/\SqL K H l xs/\SqL K H b zs/\xs.length+zs.length<=sizeLine/\∀p,H p=none->Q (.ref p) (upd H p (.lst (xs++zs)))
def zdN(l b:AdX)(us vs:Array Value)(n m:Nat)(so sp:Array (Option Value))(hz:us.size+vs.size<=sizeLine):Meets (Builtin.«list.__add__» ⟨[.ref l,.ref b],[]⟩) (λ_ R s=>s.heap.get? l=some { cls:=.type "list",dict:=none,data:=.seq us n,slots:=so }/\
   s.heap.get? b=some { cls:=.type "list",dict:=none,data:=.seq vs m,slots:=sp }/\
   R (.ok (.ret (Value.ref s.heap.objs.size))) { s with heap:=s.heap.push { cls:=.type "list",data:=.seq (us++vs) } }):=by
 refine .of_wp λprog w A R s h=>?_
 have⟨hp,g,d,tk,os⟩:=s;obtain⟨q1,q2,h⟩:=h;have f1:=mS;have f2:=AutoSeq1.sub_tuple_tuple
 have f3:=AutoSeq1.sub_list_list;have f4:=AutoSeq1.sub_tuple_list
 have f5:=AutoSeq1.sub_list_tuple;wp_walk using AutoSeq1.wpAny_loadPart' q1,AutoSeq1.wpAny_loadPart' q2;exact⟨_,rfl,h⟩
def zaj{h:Heap}{l:AdX}{its:Array Value}(pl:PlainL h l its):∃n sl,h.get? l=some { cls:=.type "list",dict:=none,data:=.seq its n,slots:=sl }:=by
 have⟨o,n,e,hc,hd,hs⟩:=pl;have⟨c,d,t,sl⟩:=o;dsimp only at hc hd hs;subst hc hd hs;exact⟨n,sl,e⟩
def ziD:OpR X (binaryOp .Add) (zkt X.K):=by
 intro pins s σ H x y v u Q I rx ry h;obtain⟨l,b,xs,zs,rfl,rfl,hH,hB,hz,q⟩:=h;cases rx;cases ry;have⟨its,r,pl,z⟩:=I.list hH;have⟨its2,r2,pl2,z2⟩:=I.list hB;have⟨n,sl,e⟩:=zaj pl;have⟨n2,sl2,e2⟩:=zaj pl2;have hl:=r.length;have hl2:=r2.length
 refine pX ⟨_,e,rfl⟩ ⟨_,e2,rfl⟩ noFill_list_add seq_list_add F.slot_list_add F.entry_list_add (F.args_list_add_2 _ _) (zdN l b _ _ n n2 sl sl2 (by rw[qD,qD];omega)) ⟨e,e2,?_⟩;have ea:its.toArray++its2.toArray=(its++its2).toArray:=by simp
 rw[ea];exact⟨.ref _,_,I.lnew (t':=s.toks) (r.append r2) (by rw[qy];omega),rfl,q _ I.fresh⟩
def zju{K:FRx}:R2L K (zkt K) zgF:=by
 intro x y H os d e c Q al r1 r2 h k;unfold zgF at h;split at h
 ·split at h
  ·rename_i hc;cases h;obtain⟨l,xs,rfl,h1,q1⟩:=r1.lst;obtain⟨b,zs,rfl,h2,q2⟩:=r2.lst;refine⟨l,b,xs,zs,rfl,rfl,h1,h2,by rw[q1.length,q2.length];exact hc,λp hp=>?_⟩;have s:=yg hp (.lst (xs++zs));exact k p (xs++zs) _ hp s zJ (wu hp (q1.append q2))
  ·cases h
 ·cases h
end
end L2.Fu
namespace L2
open PySem PySem.Spec PyProof.Rows
def zfq{prog:Program}{w:World}{A:Around}{t:Bool}(hh:A.handled=none)(it a:AdX)(hne:a≠it)(vs:Array Value):Draws prog w A it [it,a] vs.size (λi v=>vs[i]?=some v) (λi h=>xh t h it a i/\xm t h a vs) where
 live:=λ_ _ st=>by
  have⟨o,ho,_⟩:=st.1.obj;exact⟨o,ho⟩
 frame:=λ_ _ _ st hk=>⟨st.1.stay λo e=>hk it (by simp) o e,st.2.stay λo e=>hk a (by simp) o e⟩
 item:=λi s Q E hi st hQ=>by
  refine JW st.1 st.2 (v:=vs[i]) (by simp[hi]) λh' d hs=>?_
  exact hQ _ h' s.toks (by simp[hi]) ⟨d,st.2.stay λo e=>hs.extBut _ _ hne e⟩ hs
 done:=λs Q E st hE=>JK hh st.1 st.2 (by simp) hE
def zf5{prog:Program}{w:World}{A:Around}{t:Bool}(hh:A.handled=none)(it a:AdX)(vs:Array Value)(n:Nat)(hv:vs[n]?=none):Draws prog w A it [it,a] n (λ_ _=>False) (λi h=>i=n/\xh t h it a n/\xm t h a vs) where
 live:=λ_ _ st=>by
  have⟨o,ho,_⟩:=st.2.1.obj;exact⟨o,ho⟩
 frame:=λ_ _ _ st hk=>⟨st.1,st.2.1.stay λo e=>hk it (by simp) o e,st.2.2.stay λo e=>hk a (by simp) o e⟩
 item:=λi s Q E hi st hQ=>absurd st.1 (by omega)
 done:=λs Q E st hE=>JK hh st.2.1 st.2.2 hv hE
abbrev en1(t:Bool)(h:Heap)(a:AdX):Heap:=h.push { cls:=.type (um t),data:=.fields #[.ref a,.int 0 0] }
abbrev en2(t:Bool)(h:Heap)(a:AdX):Heap:=(en1 t h a).push { cls:=.type "enumerate",data:=.fields #[.none,.bool false,.ref h.objs.size,rawInt 0,.none,.none] }
def zk3(t:Bool)(a:AdX)(vs:Array Value):Meets (Builtin.«enumerate.__new__» ⟨[.type "enumerate",.ref a],[]⟩) (λ_ R s=>xm t s.heap a vs/\
   R (.ok (.ret (.ref (en1 t s.heap a).objs.size))) { s with heap:=en2 t s.heap a }):=.of_wp λprog w A R s h=>by
  have⟨hp,g,d,tk,os⟩:=s;obtain⟨c1,h⟩:=h;have hsub:=sub_enumerate;have q1:xm t (Shared.heap ⟨hp,g,d,tk,os⟩) a vs:=c1
  wp_walk using Jw q1
  refine wpAny_stack_any λst=>qT ?_
  split
  ·rename_i c _ _ _ _ _;cases (c==Value.type "enumerate")<;>(wp_walk using Jw q1;exact⟨_,rfl,h⟩)
  ·wp_walk using Jw q1
   exact⟨_,rfl,h⟩
def ziG{prog:Program}{w:World}{A:Around}{E:VSx}{s:ShX}{t:Bool}{a:AdX}{vs:Array Value}{Q:VSx}(c:xm t s.heap a vs)(h:∀h',IsEnum h' (s.heap.objs.size+1) s.heap.objs.size 0 .none->xh t h' s.heap.objs.size a 0->
   (∀c o,s.heap.get? c=some o->h'.get? c=some o)->Q (.ref (s.heap.objs.size+1)) { s with heap:=h' }):wpAny (model prog w) A (call (.type "enumerate") [.ref a]) Q E s:=by
 refine callType_new F.called_enumerate (by decide) (F.typeCall_enumerate_1 _) (F.newCall_enumerate_1 _) (λobj=>F.args_object_init_2 obj _) F.entry_enumerate_new (zk3 t a vs) ⟨c,?_⟩;have z1:(en1 t s.heap a).objs.size=s.heap.objs.size+1:=gc ..;have g2:(en2 t s.heap a).get? (en1 t s.heap a).objs.size=some _:=qH _ rfl
 have g1:(en2 t s.heap a).get? s.heap.objs.size=some _:=qj _ (qH _ rfl);show _/\_
 rw[z1] at g2 ⊢;exact⟨⟨_,g2,rfl⟩,h _ g2 (Zg g1) λc o q=>qj _ (qj _ q)⟩
def Ite(K:FRx)(t:Bool)(a:AdX):It:=⟨λi H=>∃xs x,SqB K t H a xs/\xs[i]?=some x,
  λi H v H'=>∃p,v=.ref p/\H p=none/\∀xs x,SqB K t H a xs->xs[i]?=some x->H'=upd H p (.tup [.int (i:Int),x]),
  λi H=>∃xs,SqB K t H a xs/\xs.length<=i⟩
structure zm3(t:Bool)(e it a:AdX)(i:Nat)(h:Heap):Prop where
 en:∃old,IsEnum h e it (i:Int) old
 dr:xh t h it a i
def zfO{P:Program}{w:World}{K:FRx}{es:List Expr}{kk:Nat}{tp:Pos}{t:Bool}{e it a:AdX}(hei:e≠it)(hae:a≠e)(hai:a≠it):Turn P w K (.Tuple es kk tp) (Ite K t a) [e,it] e (λi h=>zm3 t e it a i h) where
 mem:=by simp
 obj:=λi h S c hc=>by
  simp only [qu,kQ,mw] at hc;rcases hc with rfl|rfl
  ·have⟨old,q⟩:=S.en;exact⟨_,q,λv q=>by cases q⟩
  ·exact S.dr.obj
 keep:=λi h h' S k=>by
  have⟨old,q⟩:=S.en;exact⟨⟨old,k e (by simp) _ q⟩,S.dr.stay λo q=>k it (by simp) o q⟩
 item:=λX hp hw hK hc i pins s σ H E I hf S go=>by
  subst hp hw hK;have⟨xs,x,h1,hx⟩:=go;have⟨us,ru,c1⟩:=I.sqB h1;have⟨u,eu,hu⟩:=wZ ru hx;have⟨old,he⟩:=S.en;have hlt:i<us.toArray.size:=(Array.getElem?_eq_some_iff.mp eu).1;refine wpAny_pyNext_enum_itemD (zfq (t:=t) (A:=X.A.in1) (I.ok.hd hc) it a hai us.toArray) he ⟨S.dr,c1⟩ hlt hei (by simp[hei,gu hae]) λx' h' tk hx' q1 q2 q3 q4 q5=>⟨_,rfl,?_⟩
  rw[eu] at hx';cases hx';refine wpAny_letOwnedTupleGo_enum q1 λh'' z2 hs=>?_
  have ne1:s.heap.objs.size≠e:=mV (qK he);have ne2:s.heap.objs.size≠it:=by have⟨o,q,_⟩:=S.dr.obj;exact mV (qK q)
  have I1:Inv X pins σ H { s with heap:=h'',toks:=tk+1 }:=I.moved (ch:=[e,it]) (λc hc'=>hf c hc') λc o hc' q=>by
   simp only [qu,kQ,mw,not_or] at hc';exact hs.extBut _ _ hc'.1 (q5 c o hc'.1 hc'.2 q)
  have fT:uC X pins H s.heap.objs.size:=I.zaB (qr _) (I.hok.fresh (qr _));have pT:=hs.extBut _ _ ne1 q3
  have I2:Inv X pins σ (upd H s.heap.objs.size (.tup [.int (i:Int),x])) { s with heap:=h'',toks:=tk+1 }:=by
   refine I1.adopt fT ⟨by show 2<=sizeLine;decide,[.int (i:Int) tk,u],.cons ⟨_,rfl⟩ (.cons hu .nil),?_⟩;exact⟨_,pT,rfl,_,rfl⟩
  refine⟨.ref s.heap.objs.size,_,I2,rfl,⟨_,rfl,fT.1,λxs' x' g1 ex=>?_⟩,?_,λc hc'=>?_⟩
  ·rw[I.zbc g1 h1] at ex;rw[hx] at ex;cases ex;rfl
  ·exact⟨⟨_,by have:=z2;rw[show((i+1:Nat):Int)=(i:Int)+1 from rfl];exact this⟩,q2.1.stay λo q=>hs.extBut _ _ (gu hei) q⟩
  ·have ne:c≠s.heap.objs.size:=by
    simp only [qu,kQ,mw] at hc';rcases hc' with rfl|rfl
    ·exact ne1.symm
    ·exact ne2.symm
   rw[zN ne];exact(hf c hc').1
 done:=λX hp hw hK hc i pins s σ H E I hf S st=>by
  subst hp hw hK;have⟨xs,h1,hend⟩:=st;have⟨us,ru,c1⟩:=I.sqB h1;have l1:=ru.length;have⟨old,he⟩:=S.en
  refine wpAny_pyNext_enum_endD (zf5 (t:=t) (A:=X.A.in1) (I.ok.hd hc) it a us.toArray i (by simp;omega)) he ⟨rfl,S.dr,c1⟩ λh' q=>⟨rfl,?_⟩
  exact I.moved (t':=s.toks) (ch:=[it]) (λc hc'=>hf c (by simp at hc';simp[hc'])) λc o hc' e=>q c o (by simpa using hc') e
 self:=λA i s Q E S q=>by
  have⟨old,he⟩:=S.en;exact wpAny_pyIter_enum he q
def zaS:bootBuiltins "enumerate"=some (.type "enumerate"):=by decide+kernel
def zmA(K:FRx)(t:Bool)(ta:TA):TI:=λσ H R=>ta σ H λvs H1=>∃a,vs=[.ref a]/\(∃xs,SqB K t H1 a xs)/\R (Ite K t a) H1
def ziq{X:Cx}{es:List Expr}{kk:Nat}{tp:Pos}(t:Bool){a:Expr}{ta:TA}{p pos:Pos}(hg:Gl X "enumerate")(hm:X.mg "enumerate"=none)(ha:PA X [a] ta)(hs:starEach [a] X.env=[(false,eval a X.env)]:=by rfl):PI X (.Tuple es kk tp) (.Call (.Name "enumerate" p) [a] [] pos) (zmA X.K t ta):=by
 intro pins s σ H R I h;refine Call_ (UJ I hg hm zaS (gy (thn (ha pos pins s σ H _ I h) λus s1 ⟨vs,H1,I1,r1,q1⟩=>?_) (by rw[hs];rfl) (by rfl)));have⟨a',e,⟨xs,h1⟩,q⟩:=q1;subst e;obtain⟨u,rfl,ru⟩:=vals1 r1;cases (show u=Value.ref a' from ru);have⟨its,_,c1⟩:=I1.sqB h1;refine ziG c1 λh' S d hk=>?_
 have I2:Inv X pins σ H1 { s1 with heap:=h',toks:=s1.toks }:=I1.kept hk;refine wpAny_pyIter_enum S ?_;have lt:=c1.lt
 refine⟨_,_,_,_,H1,rfl,I2,zfO (t:=t) (e:=s1.heap.objs.size+1) (it:=s1.heap.objs.size) (a:=a') (Nat.succ_ne_self _) (kO (mC lt)) (kO lt),⟨⟨_,S⟩,d⟩,λc hc=>?_,q⟩;simp only [qu,kQ,mw] at hc;have ge:s1.heap.objs.size<=c:=by
  rcases hc with rfl|rfl
  ·exact g9 _ 1
  ·exact qr _
 exact I1.zaB ge (I1.hok.fresh ge)
end L2
namespace L2.Fu
open PySem PySem.Spec PyProof.Rows
noncomputable def Wg(xs:LPd):List PyData:=xs.mapIdx λi d=>.tuple [.int (i:Int),d]
def zfW{xs:LPd}{i:Nat}{d:PdX}(h:(Wg xs)[i]?=some d):∃x,xs[i]?=some x/\d=.tuple [.int (i:Int),x]:=by
 unfold Wg at h;rw[nO] at h;have⟨z,e1,e2⟩:=map_some h;exact⟨z,e1,e2.symm⟩
def zdb{K:FRx}{G G0:Hp}{t:Bool}{a:AdX}{xs:List V}{ds:LPd}(h1:SqB K t G a xs)(r1:Reps K G0 xs ds):Walks K G G0 (Ite K t a) (Wg ds):=by
 intro H1 os1 al s s0;have k1:SqB K t H1 a xs:=s.sqB h1;refine⟨λi d hd=>?_,?_⟩
 ·obtain⟨d1,g1,rfl⟩:=zfW hd;have⟨v1,e1,q1⟩:=r1.getD g1;refine⟨⟨xs,v1,k1,e1⟩,λx H2 hy=>?_⟩;obtain⟨p,rfl,hp,hy⟩:=hy;have e:=hy xs v1 k1 e1;subst e;have s2:=yg hp (.tup [.int (i:Int),v1])
  refine⟨s2,.tup (SqT.of ?_) (.cons (.int _) (.cons ((q1.same s0).same (zl s2 os1)) .nil))⟩;rw[zq (al.new hp)];exact zJ
 ·refine⟨xs,k1,?_⟩;rw[r1.length];simp[Wg]
def ze5(t:Bool)(g:RLx):RLx:=λρ=>match g ρ with
 |some [x]=>match kindOf x with
  |some (k,xs)=>if k=t then some (Wg xs) else none
  |_=>none
 |_=>none
end L2.Fu
namespace L2.Fu
open PySem PySem.Spec PyProof.Rows
section
variable{X:Cx}
def zhW:bootBuiltins "any"=some (.builtin "any"):=by decide+kernel
noncomputable def Ur:PyData->Option Bool
 | .bool b=>some b
 |_=>none
def zbL:List PyData->Option PyData
 |[.list ds]=>(vf Ur ds).map λbs=>.bool (bs.any id)
 |_=>none
theorem UO{K:FRx}{H:Hp}:∀{ds:LPd} {xs:List V} {bs:List Bool},Reps K H xs ds->vf Ur ds=some bs->xs=bs.map V.bl
 |[],_,_,r,h=>by cases r;cases h;rfl
 |d::r,_,_,q,h=>by
  cases q with
  |cons h1 h2=>
   have⟨y,e1,h⟩:=bind_some h;have⟨ys,e2,e3⟩:=map_some h;subst e3;rw[UO h2 e2];cases d<;>cases e1
   cases h1;rfl
theorem Us:∀{bs:List Bool} {us:LVl},Vals (bs.map V.bl) us->us=bs.map Value.bool
 |[],_,.nil=>rfl
 |b::bs,_,.cons h r=>by
  rw[Us r,show _=Value.bool b from h];rfl
def any_range(bs:List Bool):((List.range bs.length).any λi=>(bs[i]?).getD false)=bs.any id:=by
 rw[Bool.eq_iff_iff,List.any_eq_true,List.any_eq_true];constructor
 ·rintro⟨i,hi,h⟩;have hl:=qL.mp hi;rw[qp hl,pK] at h;exact⟨_,gO hl,h⟩
 ·rintro⟨b,hb,h⟩;obtain⟨i,hi,rfl⟩:=List.mem_iff_getElem.mp hb;exact⟨i,qL.mpr hi,by rw[qp hi];exact h⟩
def zb2(hc:X.calm=true):vh X (.builtin "any") (λxs H Q=>∃(p:AdX)(bs:List Bool),xs=[.ref p]/\SqL X.K H p (bs.map V.bl)/\Q (.bl (bs.any id)) H):=by
 intro pins s σ H xs us Q I r h;obtain⟨p,bs,rfl,hS,q⟩:=h;obtain⟨u,rfl,ru⟩:=vals1 r;cases ru;have⟨its,rv,pl,hz⟩:=I.list hS;have hL:=pl.isList;rw[Us rv] at hL;have hlt:p<s.heap.objs.size:=by have⟨_,e,_⟩:=hL;exact qK e
 refine call_any_walk (nD hL ?_);refine⟨s.heap.objs.size,[s.heap.objs.size,p],[s.heap.objs.size],(bs.map Value.bool).toArray.size,_,_,λi=>(bs[i]?).getD false,rfl,PySem.Walks.list (A:=X.A.in1) (I.ok.hd hc) _ p (kO hlt) (bs.map Value.bool).toArray,⟨⟨_,qH _ rfl,rfl,rfl⟩,hL.push _⟩,λi v s' Q' E' hP hQ=>?_,λh' tk hk=>?_⟩
 ·have hP':(bs.map Value.bool)[i]?=some v:=by simpa using hP
  rw[qo] at hP';obtain⟨b,e,rfl⟩:=map_some hP';simp only [e,pK] at hQ;exact hZ hQ
 ·rw[qD,qe,any_range];refine⟨.bl _,H,I.kept (t':=tk) λb o e=>hk b o (λhm=>?_) (qj _ e),rfl,q⟩;rw[qE.mp hm] at e;exact kW _ (qK e)
def zkn{K:FRx}:CRF K (λxs H Q=>∃(p:AdX)(bs:List Bool),xs=[.ref p]/\SqL K H p (bs.map V.bl)/\Q (.bl (bs.any id)) H) zbL:=by
 intro xs H os ds c Q al rv h k;unfold zbL at h;split at h
 ·obtain⟨bs,e1,rfl⟩:=map_some h;obtain⟨v,rfl,r⟩:=rv.one;obtain⟨a,ys,rfl,hS,r⟩:=r.lst;cases UO r e1;exact⟨a,bs,rfl,hS,k _ H (Same.refl H) (.bl _)⟩
 ·cases h
end
end L2.Fu
namespace L2
open PySem PySem.Spec PyProof.Rows
theorem zbx{prog:Program}{w:World}{A:Around}{R:Result->Shared->Prop}{s:ShX}{elt target iter c:Expr}{scope:Scope}{pos:Pos}{it acc:Value}{env:Env}(I:Nat->Shared->Prop)(turn:∀n s,I n s->wpAny (model prog w) A (pyNext it) (λr t1=>match r with
   |none=>R (.ok .next) t1
   |some v=>wpAny (model prog w) A (letOwnedTupleGo target it v) (λ_ t2=>wpAny (model prog w) A (assign target env v) (λ_ t3=>wpAny (model prog w) A (isTrue c env (eval c env)) (λok t31=>
     if ok=true then wpAny (model prog w) A (eval elt env) (λx t4=>wpAny (model prog w) A (call (.builtin "list.append") [acc,x]) (λ_ t5=>∃m,m<n/\I m t5) (λ_ _=>False) t4) (λ_ _=>False) t31
     else ∃m,m<n/\I m t31) (λ_ _=>False) t3) (λ_ _=>False) t2) (λ_ _=>False) t1) (λ_ _=>False) s)(n:Nat)(h:I n s):codeAny (model prog w) A (.compLoop (.ListComp elt [⟨target,iter,[c],0⟩] scope pos) 0 it acc env) R s:=by
 refine codeAny_loop rfl I (λn s hI=>?_) n h;show wpAny _ _ ((compTurn (.ListComp elt [⟨target,iter,[c],0⟩] scope pos) 0 it acc env).onRaise (λx=>do noteFrame x env;theTreesLotGoes x)) _ _ s
 refine wpAny_noted ?_;rw[compTurn_list];refine qt (nH (qt (k9 (turn n s hI) (λr t1 h1=>?_) λ_ _ z=>z.elim)));cases r with
 |none=>exact qT h1
 |some v=>
  refine qt (k9 h1 (λ_ t2 h2=>?_) λ_ _ z=>z.elim);refine qt (k9 h2 (λ_ t3 h3=>?_) λ_ _ z=>z.elim);refine qt ?_;rw[mQ];refine qt ?_;rw[qf rfl];refine qt (k9 h3 (λok t31 h31=>?_) λ_ _ z=>z.elim);refine qT ?_;dsimp only;rw[nQ];refine qT ?_;cases ok with
  |true=>
   rw[qf rfl] at h31 ⊢;exact qt (qt (k9 h31 (λx t4 h4=>qt (k9 h4 (λ_ t5 h5=>qT (qT ⟨rfl,h5⟩)) λ_ _ z=>z.elim)) λ_ _ z=>z.elim))
  |false=>
   rw[qq qF] at h31 ⊢;exact qT ⟨rfl,h31⟩
def zfd(T:Nat)(F:LNt)(g:TG)(tc:TT)(te:TE)(k:Addr->Hp->Prop)(σ:St)(H1:Hp)(D:AdX)(J:It):Prop:=∃W:Nat->Nat->St->Hp->Prop,(∃m,W 0 m (Uy T F σ) (upd H1 D (.lst [])))/\∀i m σ' H',W i m σ' H'->
  (J.stop i H'/\k D H')\/(J.go i H'/\∃N:St->Hp->Prop,(∀σ2 H2,N σ2 H2->∃m',m'<m/\W (i+1) m' σ2 H2)/\
   ∀x H2,J.yld i H' x H2->g x σ' H2 λσ2 H3=>tc σ2 H3 λok H31=>if ok=true then te σ2 H31 λv H4=>∃xs,H4 D=some (.lst xs)/\xs.length<sizeLine/\N σ2 (upd H4 D (.lst (xs++[v]))) else N σ2 H31)
def zaV(T:Nat)(F:LNt)(wi:TI)(g:TG)(tc:TT)(te:TE)(k:Addr->Hp->Prop):St->Hp->Prop:=λσ H=>wi σ H λJ H1=>∀D,H1 D=none->zfd T F g tc te k σ H1 D J
section
variable{X:Cx}{elt tg iter c:Expr}{scope:Scope}{pos:Pos}{Ts:LSr}{F:LNt}{wi:TI}{g:TG}{tc:TT}{te:TE}
def Y0{cl:LSA}{use:Option (Value->Sem Unit)}{Q:VSx}{pins:PNx}{s:ShX}{σ:St}{H:Hp}{k:Addr->Hp->Prop}(hc:X.calm=true)(hi:PI X tg iter wi)(S:yb X scope)(hF:∀j∈F,∃x,X.N[j]?=some x/\scope.names.lookup x=some .free)(hg:∀cl C ex s H,PG (zV X (Ts++F.map λj=>X.N.getD j "") scope cl C ex s H) tg g)(he:∀cl C ex s H,PE (zV X (Ts++F.map λj=>X.N.getD j "") scope cl C ex s H) elt te)(ht:∀cl C ex s H,PT (zV X (Ts++F.map λj=>X.N.getD j "") scope cl C ex s H) c tc)(ko:Ug scope X.env cl)(I:Inv X pins σ H s)(h:zaV Ts.length F wi g tc te k σ H)(fin:∀(s':ShX)(H':Hp)(D C:AdX)(m:Str->Option Value),Inv X pins σ H' s'->uC X pins H' C->s'.heap.Ns C m->k D H'->compPost (model X.prog X.w) X.A X.xe use Q (.ref D) C (.ok .next) s'):wpAny (model X.prog X.w) X.A (eval iter X.env) (λx s₁=>wpAny (model X.prog X.w) X.A (pyIter x) (λit s₂=>wpAny (model X.prog X.w) X.A (newList []) (λacc s₃=>
   wpAny (model X.prog X.w) X.A (newFunctionEnv scope X.env.globals cl [] X.env.qual none .none (some X.env)) (λcenv s₄=>
    codeAny (model X.prog X.w) X.A (.compStart (.ListComp elt [⟨tg,iter,[c],0⟩] scope pos) 0 it acc { cenv with scope:=relabel scope X.env }) (compPost (model X.prog X.w) X.A X.xe use Q acc cenv.locals) s₄) X.xe s₃) X.xe s₂) X.xe s₁) X.xe s:=by
 refine thn (hi pins s σ H _ I h) λv s1 h1=>thn h1 λitv s2 h2=>?_
 obtain⟨it,fp,tn,J,H2,rfl,I2,T,st2,f2,hW⟩:=h2;refine nE (wpAny_newFunctionEnv S.nocell (by intro y hy;simp at hy) (λh₁ hns₁ hsb₁=>?_) S.kind);dsimp only at hns₁ hsb₁ ⊢;have fresh2:H2 s2.heap.objs.size=none:=I2.hok.fresh (qr _);have⟨W,⟨m0,w0⟩,turn⟩:=hW s2.heap.objs.size fresh2
 generalize hD:s2.heap.objs.size=D at*;have I3:Inv X pins σ (upd H2 D (.lst [])) { s2 with heap:=s2.heap.push { cls:=.type "list",dict:=none,data:=.seq ([]:LVl).toArray } }:=by
  refine I2.laid (t':=s2.toks) (λb u e=>qj _ e) (nv hD) ?_;refine⟨by simp,[],0,.nil,?_⟩;rw[<-hD];exact qH _ rfl
 generalize hS3:({ s2 with heap:=s2.heap.push { cls:=.type "list",dict:=none,data:=.seq ([]:LVl).toArray } }:ShX)=s3 at*;have hh3:s3.heap=s2.heap.push { cls:=.type "list",dict:=none,data:=.seq ([]:LVl).toArray }:=by rw[<-hS3]
 have objs:∀b∈fp,∃o,s3.heap.get? b=some o:=λb hb=>by
  have⟨o,e,_⟩:=T.obj _ _ st2 b hb;exact⟨o,by rw[hh3];exact qj _ e⟩
 have neD:∀b∈fp,b≠D:=λb hb z=>by
  have⟨o,e,_⟩:=T.obj _ _ st2 b hb;have e1:=qK e;rw[hD,z] at e1;exact kW _ e1
 have f3:∀b∈fp,uC X pins (upd H2 D (.lst [])) b:=λb hb=>⟨by rw[zN (neD b hb)];exact(f2 b hb).1,(f2 b hb).2⟩
 have hsb:Heap.SameBut s3.heap.objs.size (s3.heap.push { cls:=.type "dict",data:=.dict #[] }) h₁:=by
  rw[<-hS3];exact hsb₁
 have hns:h₁.Ns s3.heap.objs.size (λ_=>none):=by
  rw[<-hS3];exact hns₁
 have keep:∀b o,s3.heap.get? b=some o->h₁.get? b=some o:=λb o e=>hsb.extBut b o (kO (qK e)) (qj _ e)
 have IY:=zdI (Ts:=Ts) (F:=F) (tk:=s3.toks) I3 S ko f3 objs hF hns keep;have tn1:tn 0 h₁:=T.keep _ _ _ st2 λb hb o e=>keep b o (by rw[hh3];exact qj _ e)
 have stat:∀{H':Hp},(∀b∈fp,H' b=none)->∀b∈fp,uC (zV X (Ts++F.map λj=>X.N.getD j "") scope cl s3.heap.objs.size fp s3 (upd H2 D (.lst []))) [] H' b:=λhn b hb=>
  ⟨hn b hb,(IY.ok.exf b hb).1,IY.ok.exfs b hb,.inl hb,(IY.ok.exf b hb).2,λp hp=>absurd (show p∈([]:PNx) from hp) (by simp)⟩
 have back:∀{σ':St} {H':Hp} {s':ShX},Inv (zV X (Ts++F.map λj=>X.N.getD j "") scope cl s3.heap.objs.size fp s3 (upd H2 D (.lst []))) [] σ' H' s'->k D H'->compPost (model X.prog X.w) X.A X.xe use Q (.ref D) s3.heap.objs.size (.ok .next) s':=λ{σ' H' s'} J' q=>by
  have hI:Inv X pins σ H' s':=by
   have⟨hh,gg,dd,tt,os'⟩:=s';have ho:os'=s3.os:=J'.os;subst ho;exact I3.call (h':=hh) (g':=gg) (d':=dd) (t':=tt) (ch:=fp) J'.base J'.hok J'.bare λb hb=>⟨(f3 b hb).2.2.2.1,(f3 b hb).2.1,(f3 b hb).2.2.2.2.1,(f3 b hb).2.2.2.2.2⟩
  have⟨m,hm,_⟩:=J'.loc;exact fin s' H' D s3.heap.objs.size m hI (I3.zaB (qr _) J'.free) hm q
 have loop:∀s4:Shared,s4={ s3 with heap:=h₁,toks:=s3.toks }->
   codeAny (model X.prog X.w) X.A (.compLoop (.ListComp elt [⟨tg,iter,[c],0⟩] scope pos) 0 (.ref it) (.ref D) (compEnvC scope cl s3.heap.objs.size X.env)) (compPost (model X.prog X.w) X.A X.xe use Q (.ref D) s3.heap.objs.size) s4:=by
  rintro s4 rfl;refine zbx (λn s'=>∃i σ' H',Inv (zV X (Ts++F.map λj=>X.N.getD j "") scope cl s3.heap.objs.size fp s3 (upd H2 D (.lst []))) [] σ' H' s'/\tn i s'.heap/\(∀b∈fp,H' b=none)/\W i n σ' H') ?_ m0
   ⟨0,_,_,IY,tn1,λb hb=>(f3 b hb).1,w0⟩
  rintro n s5 ⟨i,σ5,H5,I5,st5,fr5,w5⟩;rcases turn i n σ5 H5 w5 with⟨stop,qn⟩|⟨go,N,hN,step⟩
  ·refine thn (T.done (zV X (Ts++F.map λj=>X.N.getD j "") scope cl s3.heap.objs.size fp s3 (upd H2 D (.lst []))) rfl rfl rfl hc i [] s5 σ5 H5 _ I5 (stat fr5) st5 stop) λr s6 ⟨hr,I6⟩=>?_
   subst hr;exact back I6 qn
  ·refine thn (T.item (zV X (Ts++F.map λj=>X.N.getD j "") scope cl s3.heap.objs.size fp s3 (upd H2 D (.lst []))) rfl rfl rfl hc i [] s5 σ5 H5 _ I5 (stat fr5) st5 go) λr s6 ⟨u,hr,h6⟩=>?_
   subst hr;refine thn h6 λ_ s7 ⟨x,H7,I7,r7,y7,st7,fr7⟩=>?_
   have I7':=I7.pinned (stat fr7) (T.obj _ _ st7);refine thn (hg cl _ fp s3 _ _ s7 σ5 H7 x u _ I7' r7 (step x H7 y7)) λ_ s8 ⟨σ8,H8,I8,q8⟩=>?_
   refine thn (ht cl _ fp s3 _ _ s8 σ8 H8 _ I8 q8) λok s81 ⟨H81,I81,q81⟩=>?_
   cases ok with
   |true=>
    rw[qf rfl] at q81 ⊢;refine thn (he cl _ fp s3 _ _ s81 σ8 H81 _ I81 q81) λev s9 ⟨y,H9,I9,r9,xs,hx,hz,n9⟩=>?_
    refine thn (vZ _ s9 σ8 H9 (.ref D) [y] (.ref D) [ev] (λ_ H'=>N σ8 H') I9 rfl (.cons r9 .nil) ⟨D,xs,y,rfl,rfl,hx,hz,n9⟩) λ_ s10 ⟨z,H10,I10,_,n10⟩=>?_
    have⟨m',hm,w10⟩:=hN σ8 H10 n10;refine⟨m',hm,i+1,σ8,H10,I10.ux,T.keep _ _ _ st7 λb hb o e=>(I10.pin (b,o) (qQ _ (qQ _ (je hb e)))).1,λb hb=>?_,w10⟩;have⟨o,e,d⟩:=T.obj _ _ st7 b hb;exact(I10.pin (b,o) (qQ _ (qQ _ (je hb e)))).2.1
   |false=>
    rw[qq qF] at q81 ⊢;have⟨m',hm,w10⟩:=hN σ8 H81 q81;refine⟨m',hm,i+1,σ8,H81,I81.ux,T.keep _ _ _ st7 λb hb o e=>(I81.pin (b,o) (qQ _ (qQ _ (je hb e)))).1,λb hb=>?_,w10⟩;have⟨o,e,d⟩:=T.obj _ _ st7 b hb;exact(I81.pin (b,o) (qQ _ (qQ _ (je hb e)))).2.1
 subst hS3;subst hD;exact codeAny_compStart_list (loop _ rfl) (T.self _ 0 _ _ _ tn1 (loop _ rfl))
def zf8(hc:X.calm=true)(hi:PI X tg iter wi)(S:yb X scope)(hF:∀j∈F,∃x,X.N[j]?=some x/\scope.names.lookup x=some .free)(hg:∀cl C ex s H,PG (zV X (Ts++F.map λj=>X.N.getD j "") scope cl C ex s H) tg g)(he:∀cl C ex s H,PE (zV X (Ts++F.map λj=>X.N.getD j "") scope cl C ex s H) elt te)(ht:∀cl C ex s H,PT (zV X (Ts++F.map λj=>X.N.getD j "") scope cl C ex s H) c tc)(hs:FSx X iter:=by exact λ_=>rfl):PE X (.ListComp elt [⟨tg,iter,[c],0⟩] scope pos) (λσ H Q=>zaV Ts.length F wi g tc te (λD H'=>Q (.ref D) H') σ H):=by
 intro pins s σ H Q I h;obtain⟨cl,hcl,ko⟩:=Ja (UG I S);rw[eval_ListComp];refine mB (use:=none) rfl hs hcl S.kind S.loc (Y0 (use:=none) hc hi S hF hg he ht ko I h λs' H' D C m I' fC hm q=>?_);refine⟨m,hm,λh' hs'=>⟨.ref D,H',?_,rfl,q⟩⟩;exact I'.turned (t':=s'.toks) (λb o hb e=>hs'.extBut b o hb e) fC.1 fC.2.1 fC.2.2.2.1 fC.2.2.2.2.1 fC.2.2.2.2.2
def ziI(T:Nat)(F:LNt)(wi:TI)(g:TG)(tc:TT)(te:TE)(i:Nat):TS:=λD σ H=>zaV T F wi g tc te (λl H'=>D.nx (σ.set i (some (.ref l))) H') σ H
def U4{x:Str}{pos' spos:Pos}{i:Nat}(hN:X.N.Nodup)(hi':X.N[i]?=some x)(hx:X.env.scope.names.lookup x=some .local)(hc:X.calm=true)(hi:PI X tg iter wi)(S:yb X scope)(hF:∀j∈F,∃x,X.N[j]?=some x/\scope.names.lookup x=some .free)(hg:∀cl C ex s H,PG (zV X (Ts++F.map λj=>X.N.getD j "") scope cl C ex s H) tg g)(he:∀cl C ex s H,PE (zV X (Ts++F.map λj=>X.N.getD j "") scope cl C ex s H) elt te)(ht:∀cl C ex s H,PT (zV X (Ts++F.map λj=>X.N.getD j "") scope cl C ex s H) c tc)(hsw:swapsWith (.ListComp elt [⟨tg,iter,[c],0⟩] scope pos) (some (.Name x pos')) spos.line X.env=pure true:=by rfl)(hs:FSx X iter:=by exact λ_=>rfl):PS X (.Assign [.Name x pos'] (.ListComp elt [⟨tg,iter,[c],0⟩] scope pos) spos) (ziI Ts.length F wi g tc te i):=by
 intro pins s σ H D I h;obtain⟨cl,hcl,ko⟩:=Ja (UG I S);rw[exec_Assign_Name_used _ _ _ _ hsw];refine qt (nH (qt ?_));show wpAny _ X.A (do let _ <-comprehension (.ListComp elt [⟨tg,iter,[c],0⟩] scope pos) scope X.env _ (newList []) false (eval iter X.env) (some (assign (.Name x pos') X.env))) _ _ s
 refine qt (k9 (mB (use:=some (assign (.Name x pos') X.env)) (Q:=λ_ s'=>SP X pins D .next s') rfl hs hcl S.kind S.loc
  (Y0 (use:=some (assign (.Name x pos') X.env)) hc hi S hF hg he ht ko I h λs' H' l C m I' fC hm q=>?_)) (λ_ s' hq=>qT (qT hq)) λ_ _ e=>e)
 show wpAny _ X.A (assign (.Name x pos') X.env (.ref l)) _ _ s'
 refine pW (VB I' hN hi' (.inl hx) (show RelV (.ref l) (.ref l) from rfl) (λs2 I2 hsame=>?_) (.inr hx));have⟨a,hsb,ha⟩:=hsame;have neC:C≠a:=by
  rcases ha with rfl|ha
  ·exact fC.2.1
  ·exact λz=>fC.2.2.2.2.1 x a ha z.symm
 have hm2:s2.heap.Ns C m:=hm.sameBut hsb neC;refine⟨m,hm2,λh' hs'=>⟨_,H',?_,q⟩⟩;exact I2.turned (t':=s2.toks) (λb o hb e=>hs'.extBut b o hb e) fC.1 fC.2.1 fC.2.2.2.1 fC.2.2.2.2.1 fC.2.2.2.2.2
end
end L2
namespace L2.Fu
open PySem PySem.Spec PyProof.Rows
noncomputable def wH{α β:Type}(h:α->Option (Option β)):List α->Option (List β)
 |[]=>some []
 |d::r=>(h d).bind λo=>(wH h r).map λys=>match o with |some y=>y::ys|none=>ys
def uH(T:Nat)(F:LNt)(fi:RLx)(b:PyData->Ro->Option Ro)(fc:Ro->Option Bool)(fe:RPx):RLx:=λρ=>
 (fi ρ).bind λds=>if ds.length<=16777216 then wH (λd=>(b d (compEnv T F ρ)).bind λρ1=>(fc ρ1).bind λok=>if ok then (fe ρ1).map some else some none) ds else none
def tFT(K:FRx)(f:Ro->Option Bool):TT:=λσ H Q=>∃os ρ b,xl K H os σ ρ/\f ρ=some b/\∀H',Same H H'->Q b H'
def FT.pt{X:Cx}{e:Expr}{f:Ro->Option Bool}(h:FT X e f):PT X e (tFT X.K f):=by
 have⟨t,p,q⟩:=h;intro pins s σ H Q I z;have⟨os,ρ,d,R,e1,k⟩:=z;exact p pins s σ H Q I (q σ H os ρ d Q R e1 k)
def JB{K:FRx}{T:Nat}{F:LNt}{b:PyData->Ro->Option Ro}{fc:Ro->Option Bool}{fe:RPx}{σ:St}{ρ:Ro}{H1:Hp}{os:LAd}{D:AdX}{is:LNt}{k:Addr->Hp->Prop}{J:It}{ds rs:LPd}(his:∀i∈is,i<T)(R:xl K H1 os σ ρ)(hn:ds.length<=16777216)(hD:H1 D=none)(W:Walks K H1 (offs H1 os) J ds)(hm:wH (λd=>(b d (compEnv T F ρ)).bind λρ1=>(fc ρ1).bind λok=>if ok then (fe ρ1).map some else some none) ds=some rs)(fin:∀H' xs,Same H1 H'->H' D=some (.lst xs)->Reps K (offs H' (D::os)) xs rs->k D H'):zfd T F (gF K is b) (tFT K fc) (tF K fe) k σ H1 D J:=by
 have so:∀H',Same H1 H'->Same (offs H1 os) (offs H' (D::os)):=λH' s c o z=>by
  by_cases hb:c∈os
  ·rw[yS hb] at z;cases z
  ·rw[zq hb] at z;rw[zq]
   ·exact s c o z
   ·intro w;rcases qu.mp w with w|w
    ·rw[w,hD] at z;cases z
    ·exact hb w
 have al:∀H' xs,Same H1 H'->H' D=some (.lst xs)->Al H' (D::os):=λH' xs s hx a ha=>by
  rcases qu.mp ha with z|z
  ·subst z;exact⟨_,hx⟩
  ·have⟨o,e⟩:=R.al a z;exact⟨o,s _ _ e⟩
 refine⟨λi m σ' H'=>m=ds.length - i/\i<=ds.length/\(∃ts:St,ts.length=T/\σ'=ts++F.map λj=>(σ[j]?).join)/\Same H1 H'/\∃xs done rest,H' D=some (.lst xs)/\xs.length<=i/\Reps K (offs H' (D::os)) xs done/\wH (λd=>(b d (compEnv T F ρ)).bind λρ1=>(fc ρ1).bind λok=>if ok then (fe ρ1).map some else some none) (ds.drop i)=some rest/\done++rest=rs,
  ⟨ds.length,rfl,kE _,⟨List.replicate T none,by simp,rfl⟩,yg hD _,[],[],rs,zJ,qr _,.nil,hm,rfl⟩,?_⟩
 rintro i m σ' H' ⟨rfl,hi,⟨ts,hts,rfl⟩,sm,xs,done,rest,hx,hl,rp,hf,hdr⟩;obtain⟨w1,w2⟩:=W H' (D::os) (al H' xs sm hx) sm (so H' sm);by_cases hlt:i<ds.length
 ·obtain⟨d,hd⟩:∃d,ds[i]?=some d:=⟨_,qp hlt⟩;have⟨g1,g2⟩:=w1 i d hd;have ed:ds.drop i=d::ds.drop (i+1):=by
   rw[gG hlt];rw[qp hlt] at hd;cases hd;rfl
  rw[ed] at hf;have⟨o,e,hf⟩:=bind_some hf;have⟨ys,hf2,ho⟩:=map_some hf;have⟨ρ',e1,e2⟩:=bind_some e;have⟨ok,e3,e4⟩:=bind_some e2;refine .inr ⟨g1,λσ2 H2=>i+1<=ds.length/\(∃ts:St,ts.length=T/\σ2=ts++F.map λj=>(σ[j]?).join)/\Same H1 H2/\∃xs done rest,H2 D=some (.lst xs)/\xs.length<=i+1/\Reps K (offs H2 (D::os)) xs done/\wH (λd=>(b d (compEnv T F ρ)).bind λρ1=>(fc ρ1).bind λok=>if ok then (fe ρ1).map some else some none) (ds.drop (i+1))=some rest/\done++rest=rs,?_,?_⟩
  ·rintro σ2 H2 ⟨h1,h2,h3,h4⟩;exact⟨ds.length - (i+1),by omega,rfl,h1,h2,h3,h4⟩
  ·intro x H2 hy;have⟨s2,rx⟩:=g2 x H2 hy;refine⟨D::os,d,compEnv T F ρ,ρ',rx,e1,λσ2 st=>?_⟩;have R2:xl K H2 (D::os) (ts++F.map λj=>(σ[j]?).join) (compEnv T F ρ):=Yh T F R hD (sm.trans s2) (s2 _ _ hx) hts;have hts2:∃ts':St,ts'.length=T/\σ2=ts'++F.map λj=>(σ[j]?).join:=st.tail his hts rfl
   refine⟨D::os,ρ',ok,R2.sets st,e3,λH31 s31=>?_⟩;cases ok with
   |true=>
    rw[qf rfl] at e4 ⊢;have⟨r,e5,e6⟩:=map_some e4;subst e6;refine⟨D::os,ρ',r,(R2.sets st).same s31,e5,λv H4 s4 rv=>?_⟩;refine⟨xs,s4 _ _ (s31 _ _ (s2 _ _ hx)),?_,hlt,hts2,(((sm.trans s2).trans s31).trans s4).JU hD _,xs++[v],done++[r],ys,zJ,by rw[qy];exact mI hl,?_,hf2,?_⟩
    ·show xs.length<16777216
     omega
    ·rw[jx];exact(rp.same (zl ((s2.trans s31).trans s4) _)).append (.cons rv .nil)
    ·rw[<-hdr,<-ho,kU];rfl
   |false=>
    rw[qq qF] at e4 ⊢;cases e4;refine⟨hlt,hts2,(sm.trans s2).trans s31,xs,done,ys,s31 _ _ (s2 _ _ hx),Nat.le_succ_of_le hl,rp.same (zl (s2.trans s31) _),hf2,?_⟩;rw[<-hdr,<-ho]
 ·have e:i=ds.length:=by omega
  subst e;rw[mJ] at hf;cases hf;rw[kg] at hdr;subst hdr;exact .inl ⟨w2,fin H' xs sm hx rp⟩
section
variable{X:Cx}{elt tg iter c:Expr}{scope:Scope}{pos:Pos}{Ts:LSr}{F:LNt}{is:LNt}{fi:RLx}{b:PyData->Ro->Option Ro}{fc:Ro->Option Bool}{fe:RPx}
def zf6(hc:X.calm=true)(hi:FIB X tg iter fi)(S:yb X scope)(hF:∀j∈F,∃x,X.N[j]?=some x/\scope.names.lookup x=some .free)(hg:∀cl C ex s H,FG (zV X (Ts++F.map λj=>X.N.getD j "") scope cl C ex s H) tg is b)(ht:∀cl C ex s H,FT (zV X (Ts++F.map λj=>X.N.getD j "") scope cl C ex s H) c fc)(he:∀cl C ex s H,FE (zV X (Ts++F.map λj=>X.N.getD j "") scope cl C ex s H) elt fe)(his:∀i∈is,i<Ts.length:=by decide)(hs:FSx X iter:=by exact λ_=>rfl):FL X (.ListComp elt [⟨tg,iter,[c],0⟩] scope pos) (uH Ts.length F fi b fc fe):=by
 have⟨wi,pi,qi⟩:=hi;refine⟨_,zf8 (Ts:=Ts) (F:=F) (g:=gF X.K is b) (tc:=tFT X.K fc) (te:=tF X.K fe) hc pi S hF hg (λcl C ex s H=>(he cl C ex s H).pe) (λcl C ex s H=>(ht cl C ex s H).pt) hs,λσ H os ρ rs Q R q k=>?_⟩;have⟨ds,e1,q⟩:=bind_some q;split at q
 ·rename_i hl;refine qi σ H os ρ ds _ R e1 λJ H' s W D hD=>?_
  exact JB his (R.same s) hl hD W q λH2 xs s2 hx r=>k D xs H2 (s.free hD) (s.trans s2) hx r
 ·cases q
def zgb(i:Nat){x:Str}{pos' spos:Pos}(hN:X.N.Nodup)(hc:X.calm=true)(hi:FIB X tg iter fi)(S:yb X scope)(hF:∀j∈F,∃x,X.N[j]?=some x/\scope.names.lookup x=some .free)(hg:∀cl C ex s H,FG (zV X (Ts++F.map λj=>X.N.getD j "") scope cl C ex s H) tg is b)(ht:∀cl C ex s H,FT (zV X (Ts++F.map λj=>X.N.getD j "") scope cl C ex s H) c fc)(he:∀cl C ex s H,FE (zV X (Ts++F.map λj=>X.N.getD j "") scope cl C ex s H) elt fe)(his:∀i∈is,i<Ts.length:=by decide)(hi':X.N[i]?=some x:=by rfl)(hx:X.env.scope.names.lookup x=some .local:=by rfl)(hsw:swapsWith (.ListComp elt [⟨tg,iter,[c],0⟩] scope pos) (some (.Name x pos')) spos.line X.env=pure true:=by rfl)(hs:FSx X iter:=by exact λ_=>rfl):FS X (.Assign [.Name x pos'] (.ListComp elt [⟨tg,iter,[c],0⟩] scope pos) spos) (x5 i (uH Ts.length F fi b fc fe)):=by
 have⟨wi,pi,qi⟩:=hi;refine⟨_,U4 (Ts:=Ts) (F:=F) (g:=gF X.K is b) (tc:=tFT X.K fc) (te:=tF X.K fe) hN hi' hx hc pi S hF hg (λcl C ex s H=>(he cl C ex s H).pe) (λcl C ex s H=>(ht cl C ex s H).pt) hsw hs,λH0 os0 D σ H os ρ r R q k=>?_⟩;have⟨ds,e1,q⟩:=bind_some q;cases q;have⟨es,e1,q⟩:=bind_some e1;split at q
 ·rename_i hl;refine qi σ H os ρ es _ R.rel e1 λJ H' s W D hD=>?_
  exact JB his (R.rel.same s) hl hD W q λH2 xs s2 hx r=>k _ _ _ (R.ZA (s.free hD) (s.trans s2) hx r) (vj (s.free hD) (s.trans s2))
 ·cases q
end
section
variable{X:Cx}{e:Expr}{pos apos cpos p1:Pos}
noncomputable def znm:PyData->PyData->Option PyData
 | .str a,.int k=>if 1<k/\k<=1000/\0<a.length/\a.length<=1000 then some (.str ⟨(List.replicate k.toNat a.cps).foldl (·++·) #[]⟩) else none
 |_,_=>none
def ppS(i:Nat)(f:RPx):RFx:=λρ=>(gk i ρ).bind λds=>match f ρ with
 |some (.int k)=>if 0<=k/\k<ds.length/\ds.length<=16777216 then some (.nx (ρ.set i (.ow (ds.eraseIdx k.toNat)))) else none
 |_=>none
theorem vk{K:FRx}{H:Hp}:∀{xs:List V} {ds:LPd} (j:Nat),Reps K H xs ds->Reps K H (xs.eraseIdx j) (ds.eraseIdx j)
 |_,_,_,.nil=>.nil
 |_,_,0,.cons _ q=>q
 |_,_,j+1,.cons h q=>.cons h (vk j q)
def zja(i:Nat){x:Str}{f:RPx}(he:FE X e f)(hN:X.N[i]?=some x:=by rfl)(hv:Vis X.env.scope x:=by trivial)(hd:NDx x:=by decide)(hcd:NCx x:=by decide)(hbase:ABx X (.Name x p1) "pop":=by rfl)(hfew:FWx X cpos [e]:=by rfl)(hline:(apos.endLine==cpos.line)=true:=by rfl)(hs:SEx X e []:=by rfl)(hsw:swapsWith (.Call (.Attribute (.Name x p1) "pop" apos) [e] [] cpos) none pos.line X.env=pure false:=by rfl):FS X (.Expr (.Call (.Attribute (.Name x p1) "pop" apos) [e] [] cpos) pos) (ppS i f):=by
 have⟨t,p,q⟩:=he;refine⟨_,vW (Jp kx gS gR Jk (yu hN hv hd hcd) (yU p xW hs) hbase hfew hline hs) hsw,λH0 os0 D σ H os ρ r R e k=>?_⟩;have⟨ds,e1,e⟩:=bind_some e;split at e
 ·rename_i n e3;split at e
  ·rename_i hl;have⟨hl1,hl2,hl3⟩:=hl;cases e;have g:=vR e1;have⟨a,xs,h1,h2,h3,h4⟩:=R.rel.ow i ds g
   have hlen:=h4.length;refine⟨_,h1,.inl ⟨rfl,_,SqL.of h3⟩,q σ H os ρ _ _ R.rel e3 λv H' s rv=>?_⟩;cases rv;have hlt:n.toNat<xs.length:=by omega
   refine⟨a,xs,n,n.toNat,xs[n.toNat],rfl,rfl,s _ _ h3,by omega,by omega,?_,qp hlt,?_⟩
   ·unfold seqIndex?;dsimp only;rw[qq (by omega:¬n<0),qf (by rw[hV];exact⟨qB hl1,qB (by omega)⟩)]
   ·refine k _ _ os ((R.same s).chg g h1 (vk _ (h4.same (zl s os)))) ?_;rw[yP h2];exact zl s os
  ·cases e
 ·cases e
end
def zd1:bootBuiltins "max"=some (.builtin "max"):=by decide+kernel
def zly:bootBuiltins "min"=some (.builtin "min"):=by decide+kernel
def US:RFx:=(sq (x5 2 (zh3 (vo (aC (zf ue (aC (zf yl (aC (gv 1) a0)) a0)) a0)) (zf yl (aC (gv 0) a0))))
 (frS 2 (retS (zf w6 (aC (gv 0) (aC (gv 2) (aC (gv 1) a0)))))))
def uY:LPx:=fnF 3 2 US
def zcj:RFx:=(sq (x5 2 (zU 2 [] (Uu true true (aC (op2 ixD (gv 0) (cst (.int 1))) (aC (op2 ixD (gv 1) (cst (.int 1))) a0))) (b2 (bN 0) (bN 1)) (zf uY (aC (gv 0) (aC (gv 1) a0)))))
 (retS (xu (aC (op2 Ji (op2 ixD (gv 0) (cst (.int 0))) (op2 ixD (gv 1) (cst (.int 0)))) (aC (zf yk (aC (gb 2) a0)) (aC (op2 Ji (op2 ixD (gv 0) (cst (.int 2))) (op2 ixD (gv 1) (cst (.int 2)))) a0))))))
def Ze:LPx:=fnF 3 2 zcj
end L2.Fu
namespace L2.Fu
open PySem WS WD
open PySem.Builtin.Int (intBits)
def zeD{f:RLx}{g:RPx}{ρ:Ro}{d:PdX}{n:Nat}(h1:f ρ=some [d])(h2:g ρ=some (.int (n:Int)))(hn:n<=1000):zh3 f g ρ=some ((List.range n).map λ_=>d):=by
 unfold zh3;rw[h1,qk,h2];dsimp only;rw[qf (by refine⟨?_,?_,?_⟩<;>first |omega|simp;omega),kb,Zq]
def J0{g:RLx}{ρ:Ro}{ds:LPd}(h:g ρ=some ds)(hl:ds.length<=16777216):vo g ρ=some ds:=by
 unfold vo;rw[h,qk,qf hl]
def ZI{n m:Nat}{f g:Q2x}(hn:n<=42)(hm:m<=42):uY [y4 n f,y4 m g]=some (y4 (n+m) (jnM n f (λ_ _=>0) g)):=by
 refine ya rfl ?_;refine(zy (yO (d:=(List.range n).map λ_=>yE m λ_=>0) ?_)).trans ?_
 ·refine zeD (d:=yE m λ_=>0) ?_ ((zd rfl).trans (xT n _)) (by omega);exact J0 (zk ((zd (zk ((zd rfl).trans (xT m _)) rfl)).trans (Zd (by omega))) rfl) (by show 1<=16777216;decide)
 ·exact zO ((zd rfl).trans (W9 hn hm))
def jo(n:Nat)(st su:Q3x):Nat->Nat->Nat->Rat:=λg=>jnM n (st g) (λ_ _=>0) (su g)
def zfV{n m s:Nat}{fi gi:Q1x}{st su:Q3x}{la lb:Q1x}(hn:n<=42)(hm:m<=42)(hs:s<=42):Ze [zv n s fi st la,zv m s gi su lb]=some (zv (n+m) s (jn n fi gi) (jo n st su) (jn n la lb)):=by
 refine ya rfl ?_;refine(zy (yO (d:=(List.range s).map λg=>y4 (n+m) (jo n st su g)) ?_)).trans (zO ?_)
 ·refine yf (xs:=List.range s) (e:=λg=>.tuple [y4 n (st g),y4 m (su g)]) ((zi6 (zk ((zc rfl rfl).trans vM) (zk ((zc rfl rfl).trans vM) rfl))).trans (qM some (JV _ _ s))) (by simpa using qw hs (by decide)) λg hg=>?_
  exact UU.trans ((zd rfl).trans (ZI hn hm))
 ·exact(WB ((zc ((zc rfl rfl).trans jM) ((zc rfl rfl).trans jM)).trans (wI (by omega))) ((zd rfl).trans rfl) ((zc ((zc rfl rfl).trans JC) ((zc rfl rfl).trans JC)).trans (wI (by omega)))).trans rfl
theorem Yu{n m:Nat}{st su:Q3x}{la lb:Q1x}:∀(ws:LNt)(r u v:Q1x),(∀x,x<n+m->r x=jn n u v x)->wt (n+m) (jo n st su) r (jn n la lb) ws=wt n st u la ws+wt m su v lb ws
 |[],r,u,v,h=>by
  show sumTo (n+m) (λx=>r x*jn n la lb x)=sumTo n (λx=>u x*la x)+sumTo m (λx=>v x*lb x)
  rw[jE,zm n (g:=λx=>u x*la x) λx hx=>by rw[h x (by omega),zdq hx,zdq hx],zm m (g:=λx=>v x*lb x) λx hx=>by rw[h _ (by omega),zbK,zbK]]
 |g::ws,r,u,v,h=>by
  show wt (n+m) (jo n st su) (led (n+m) r (jo n st su g)) (jn n la lb) ws=wt n st (led n u (st g)) la ws+wt m su (led m v (su g)) lb ws
  refine Yu ws _ _ _ λx hx=>?_
  show sumTo (n+m) (λa=>r a*jo n st su g a x)=_
  rw[jE];have c1:∀a,a<n->jo n st su g a=jn n (st g a) λ_=>0:=λa ha=>qf ha
  have c2:∀b,jo n st su g (n+b)=jn n (λ_=>0) (su g b):=λb=>by
   unfold jo jnM;rw[qq (by omega),show n+b - n=b by omega]
  by_cases hxn:x<n
  ·rw[zdq hxn,zm n (g:=λa=>u a*st g a x) λa ha=>by rw[h a (by omega),zdq ha,c1 a ha,zdq hxn],zm m (g:=λ_=>0) λb hb=>by rw[c2,zdq hxn];grind,jL];show led n u (st g) x+0=led n u (st g) x
   grind
  ·obtain⟨y,rfl⟩:∃y,x=n+y:=⟨x - n,by omega⟩;rw[zbK,zm n (g:=λ_=>0) λa ha=>by rw[c1 a ha,zbK];grind,jL,zm m (g:=λb=>v b*su g b y) λb hb=>by rw[h _ (by omega),zbK,c2,zbK]];show 0+led m v (su g) y=led m v (su g) y
   grind
section
variable{n m s s':Nat}{fi gi:Q1x}{st su:Q3x}{la lb:Q1x}
def zaX{ρ:Ro}{i:Nat}(h:gv i ρ=some (zv n s fi st la)):zf yl (aC (op2 ixD (gv i) (cst (.int 1))) a0) ρ=some (.int (s:Int)):=(zd (zk ((zc h rfl).trans vM) rfl)).trans (xT s _)
end
end L2.Fu
namespace L2.Fu
open PySem PySem.Spec PyProof.Rows
def UQ:RFx:=(sq (zT 2 (zf yk (aC (yo (zU 1 [] (yw (op2 ixD (gv 0) (cst (.int 0)))) (bN 0) (xu (aC (cst (.int 0)) (aC (cst (.int 1)) a0))))) a0)))
 (sq (zT 3 (zf yk (aC (yo (zU 1 [] (yw (op2 ixD (gv 1) (cst (.int 0)))) (bN 0) (xu (aC (cst (.int 0)) (aC (cst (.int 1)) a0))))) a0)))
 (sq (x5 4 (vo a0))
 (sq (jw (yW (aC (zf yl (aC (op2 ixD (gv 0) (cst (.int 1))) a0)) a0)) (bN 5) (sq (x5 6 (zU 1 [3] (yw (op2 ixD (op2 ixD (gv 0) (cst (.int 1))) (gv 5))) (bN 0) (op2 Ji (gv 0) (gv 1))))
 (apS 4 (zf yk (aC (yo (zfY (gk 6) (zU 1 [2] (yw (op2 ixD (op2 ixD (gv 1) (cst (.int 1))) (gv 5))) (bN 0) (op2 Ji (gv 1) (gv 0))))) a0)))))
 (retS (xu (aC (op2 Ji (op2 ixD (gv 0) (cst (.int 0))) (op2 ixD (gv 1) (cst (.int 0)))) (aC (zf yk (aC (gb 4) a0)) (aC (op2 Ji (op2 ixD (gv 0) (cst (.int 2))) (op2 ixD (gv 1) (cst (.int 2)))) a0)))))))))
def xS:LPx:=fnF 7 2 UQ
def uj:RFx:=(sq (x5 4 (yQ ju (aC (gv 0) a0)))
 (sq (siS 4 (gv 2) (zf xG (aC (op2 ixD (gb 4) (gv 2)) (aC (zf yC (aC (gv 3) (aC (op2 ixD (gb 4) (gv 1)) a0))) a0))))
 (Uo (gk 4))))
def yY:LLx:=fnL 5 4 uj
def Wy:RFx:=(sq (zT 4 (xu (aC (op2 VR (cst (.int 0)) (op2 ixD (gv 3) (cst (.int 0)))) (aC (op2 ixD (gv 3) (cst (.int 1))) a0))))
 (sq (x5 5 (yQ yY (aC (op2 ixD (gv 0) (cst (.int 0))) (aC (gv 1) (aC (gv 2) (aC (gv 3) a0))))))
 (sq (x5 6 (yQ yY (aC (op2 ixD (gv 0) (cst (.int 2))) (aC (gv 2) (aC (gv 1) (aC (gv 4) a0))))))
 (sq (x5 7 (vo a0))
 (sq (jw (yw (op2 ixD (gv 0) (cst (.int 1)))) (bN 8) (sq (x5 9 (zU 1 [1,2,3] (yw (gv 8)) (bN 0) (yo (yQ yY (aC (gv 0) (aC (gv 1) (aC (gv 2) (aC (gv 3) a0))))))))
 (sq (siS 9 (gv 1) (yo (zU 1 [1,2,4,9] (yW (aC (zf yl (aC (gb 9) a0)) a0)) (bN 0) (zf xG (aC (op2 ixD (op2 ixD (gb 4) (gv 1)) (gv 0)) (aC (zf yC (aC (gv 3) (aC (op2 ixD (op2 ixD (gb 4) (gv 2)) (gv 0)) a0))) a0))))))
 (apS 7 (zf yk (aC (yo (zU 1 [] (yw (gb 9)) (bN 0) (zf yk (aC (gv 0) a0)))) a0))))))
 (retS (xu (aC (zf yk (aC (gb 5) a0)) (aC (zf yk (aC (gb 7) a0)) (aC (zf yk (aC (gb 6) a0)) a0))))))))))
def wO:LPx:=fnF 10 4 Wy
def zaq:RFx:=(sq (zT 3 (zf yl (aC (op2 ixD (gv 0) (cst (.int 0))) a0)))
 (sq (zT 4 (zf yl (aC (op2 ixD (gv 0) (cst (.int 1))) a0)))
 (sq (ifS (zB (op2 gtI (gv 2) (cst (.int 0)))) (sq (zT 5 (zf yr (aC (gv 1) (aC (gv 2) (aC (gv 4) a0)))))
 (sq (zT 6 (zf yk (aC (yo (zU 1 [] (yW (aC (gv 2) a0)) (bN 0) (xu (aC (cst (.int 0)) (aC (cst (.int 1)) a0))))) a0)))
 (ifS (zB (op2 eqD (op2 yy (gv 1) (cst (.int 2))) (cst (.int 0)))) (zT 0 (zf xS (aC (gv 0) (aC (xu (aC (gv 6) (aC (op2 ixD (gv 5) (cst (.int 1))) (aC (op2 ixD (gv 5) (cst (.int 2))) a0)))) a0)))) (zT 0 (zf xS (aC (gv 0) (aC (xu (aC (op2 ixD (gv 5) (cst (.int 0))) (aC (op2 ixD (gv 5) (cst (.int 1))) (aC (gv 6) a0)))) a0))))))) s0)
 (sq (zT 3 (op2 xN (gv 3) (gv 2)))
 (sq (jw (yW (aC (cst (.int 3)) a0)) (bN 7) (sq (zT 1 (op2 yy (op2 xN (op2 yR (gv 1) (cst (.int 48271))) (cst (.int 31))) (cst (.int 2147483647))))
 (sq (zT 8 (op2 yy (op2 yj (gv 1) (cst (.int 5))) (zf maxD (aC (cst (.int 1)) (aC (gv 3) a0)))))
 (sq (zT 9 (op2 yy (op2 yj (gv 1) (cst (.int 35))) (zf maxD (aC (cst (.int 1)) (aC (gv 3) a0)))))
 (ifS (zB (op2 neD (gv 8) (gv 9))) (zT 0 (zf wO (aC (gv 0) (aC (gv 8) (aC (gv 9) (aC (zf yK (aC (op2 yj (gv 1) (cst (.int 300))) a0)) a0)))))) s0)))))
 (retS (gv 0)))))))
def Wa:LPx:=fnF 10 3 zaq
end L2.Fu
namespace L2.Fu
open PySem PySem.Spec PyProof.Rows WS WD
def zgz{i:Nat}{fi f:RPx}{ρ:Ro}{ds:LPd}{d:PdX}{a:Nat}(h1:gk i ρ=some ds)(h2:f ρ=some d)(h3:fi ρ=some (.int (a:Int)))(h4:a<ds.length):siS i fi f ρ=some (.nx (ρ.set i (.ow (ds.set a d)))):=by
 unfold siS;rw[h1,qk,h2,qk,h3];show(ixN ds.length (a:Int)).bind _=_
 have e:ixN ds.length (a:Int)=some a:=by
  unfold ixN;rw[qf (by omega),qf (by omega)];simp
 rw[e];rfl
def set_range{α:Type}(n p:Nat)(f:Nat->α)(x:α):((List.range n).map f).set p x=(List.range n).map λi=>if i=p then x else f i:=by
 refine kT λi=>?_
 rw[gK,qo,qo,qe,qA];by_cases hi:i<n
 ·rw[ke hi];by_cases hip:p=i
  ·subst hip;rw[qf rfl,qf hi];show some x=some (if p=p then x else f p)
   rw[qf rfl]
  ·rw[qq hip];show some (f i)=some (if i=p then x else f i)
   rw[qq (gu hip)]
 ·rw[kN (l:=List.range n) (by simpa using qW hi)];by_cases hip:p=i
  ·subst hip;rw[qf rfl,qq hi];rfl
  ·rw[qq hip];rfl
section
variable{n m s:Nat}{fi gi:Q1x}{st su:Q3x}{la lb:Q1x}
def JM{n i:Nat}{d:Nat->PyData}(h:i<n):ixD (.list ((List.range n).map d)) (.int (i:Int))=some (d i):=U1 (by rw[qo,ke h];rfl)
def wV(hn:n<=42)(hm:m<=42)(hs:s<=42):xS [zv n s fi st la,zv m s gi su lb]=some (zv (n+m) s (jn n fi gi) (jo n st su) (jn n la lb)):=by
 have nz:∀(k:Nat)(f:Q1x)(it:RPx)(ρ:Ro),k<=42->it ρ=some (yE k f)->zf yk (aC (yo (zU 1 [] (yw it) (bN 0) (xu (aC (cst (.int 0)) (aC (cst (.int 1)) a0))))) a0) ρ=some (yE k λ_=>0):=λk f it ρ hk h=>
  (zd (xs:=[.list ((List.range k).map λ_=>fr 0)]) (zk (yc (yf (xs:=List.range k) (e:=λi=>fr (f i)) (we h) (by rw[qA];omega) λi _=>yG.trans rfl)) rfl)).trans rfl
 obtain⟨ρ1,e1,o5,o6,rfl⟩:=uR (n:=s) (g:=aC (zf yl (aC (op2 ixD (gv 0) (cst (.int 1))) a0)) a0) (bd:=bN 5)
  (b:=sq (x5 6 (zU 1 [3] (yw (op2 ixD (op2 ixD (gv 0) (cst (.int 1))) (gv 5))) (bN 0) (op2 Ji (gv 0) (gv 1))))
   (apS 4 (zf yk (aC (yo (zfY (gk 6) (zU 1 [2] (yw (op2 ixD (op2 ixD (gv 1) (cst (.int 1))) (gv 5))) (bN 0) (op2 Ji (gv 1) (gv 0))))) a0))))
  (ρ0:=[.pu (zv n s fi st la),.pu (zv m s gi su lb),.pu (yE n λ_=>0),.pu (yE m λ_=>0),.ow [],.no,.no])
  (λi ρ=>∃o5 o6,ρ=[.pu (zv n s fi st la),.pu (zv m s gi su lb),.pu (yE n λ_=>0),.pu (yE m λ_=>0),.ow ((List.range i).map λg=>y4 (n+m) (jo n st su g)),o5,o6])
  (zk ((zd (zk ((zc rfl rfl).trans vM) rfl)).trans (xT s _)) rfl) (by omega) ⟨.no,.no,rfl⟩ λg ρ hg ⟨o5,o6,q⟩=>by
   subst q;refine⟨_,_,rfl,(zy (yO (d:=(List.range n).map λa=>yE (n+m) (jn n (st g a) λ_=>0)) ?_)).trans (Jj (d:=y4 (n+m) (jo n st su g)) rfl ?_ (by rw[qe,qA];omega)),.pu (.int (g:Int)),.ow ((List.range n).map λa=>yE (n+m) (jn n (st g a) λ_=>0)),?_⟩
   ·exact yf (xs:=List.range n) (e:=λa=>yE n (st g a)) (we ((zc ((zc rfl rfl).trans vM) rfl).trans (zbG hg))) (by rw[qA];omega) λa _=>yG.trans ((zc rfl rfl).trans (wI (by omega)))
   ·refine(zd (xs:=[.list ((List.range (n+m)).map λx=>yE (n+m) (jo n st su g x))]) (zk (yc ?_) rfl)).trans rfl;refine(zfg rfl (yf (xs:=List.range m) (e:=λb=>yE m (su g b)) (d:=λb=>yE (n+m) (jn n (λ_=>0) (su g b))) (we ((zc ((zc rfl rfl).trans vM) rfl).trans (zbG hg))) (by rw[qA];omega) λb _=>yG.trans ((zc rfl rfl).trans (wI (by omega)))) (by rw[qe,qe,qA,qA];omega)).trans (qM some ?_);refine VN n m _ _ _ (λi hi=>?_) λi hi=>?_
    ·show _=yE (n+m) (jnM n (st g) (λ_ _=>0) (su g) i)
     unfold jnM;rw[qf hi]
    ·show _=yE (n+m) (jnM n (st g) (λ_ _=>0) (su g) (n+i))
     unfold jnM;rw[qq (by omega),show n+i - n=i by omega]
   ·rw[gQ,qR];rfl
 refine ya rfl ?_;refine(zy (zG (nz n fi _ _ hn ((zc rfl rfl).trans jM)))).trans ((zy (zG (nz m gi _ _ hm ((zc rfl rfl).trans jM)))).trans ((zy (yO (d:=[]) rfl)).trans ((zy e1).trans (zO ?_))));exact(WB ((zc ((zc rfl rfl).trans jM) ((zc rfl rfl).trans jM)).trans (wI (by omega))) ((zd rfl).trans rfl) ((zc ((zc rfl rfl).trans JC) ((zc rfl rfl).trans JC)).trans (wI (by omega)))).trans rfl
noncomputable def trn(i j:Nat)(c:Rat)(f:Q1x):Nat->Rat:=λx=>if x=j then f j+c*f i else f x
def wX{t:Bool}{i j:Nat}{c:Rat}{f:Q1x}{k:Nat}(hn:n<=42)(hi:i<n)(hj:j<n)(hk:k<=300)(hf:∀x,x<n->Sk k (f x))(hc:Sk 1 c):yY [qd t n f,.int (i:Int),.int (j:Int),fr c]=some ((List.range n).map λx=>fr (trn i j c f x)):=by
 have hl:ju [qd t n f]=some ((List.range n).map λx=>fr (f x)):=by cases t<;>rfl
 refine vp rfl ?_;refine(zy (yO ((xE rfl).trans hl))).trans ((zy (zgz (a:=j) (d:=fr (f j+c*f i)) rfl ?_ rfl (by rw[qe,qA];exact hj))).trans (vz ?_))
 ·exact(zd (zk ((zc rfl rfl).trans (JM hj)) (zk ((zd (zk rfl (zk ((zc rfl rfl).trans (JM hi)) rfl))).trans (uF (hc.bq (by omega)) ((hf i hi).bq (by omega)))) rfl))).trans (Jn ((hf j hj).bq (by omega)) ((hc.mul (hf i hi)).bq (by omega)))
 ·rw[set_range];show some _=_
  refine qM some (k7 λx _=>?_);unfold trn;by_cases q:x=j
  ·rw[qf q,qf q]
  ·rw[qq q,qq q]
def zlK{i j:Nat}{c:Rat}{f:Q1x}{k:Nat}(hi:i<n)(hj:j<n)(hf:∀x,x<n->Sk k (f x))(hc:Sk 1 c):∀x,x<n->Sk (k+2) (trn i j c f x):=λx hx=>by
 unfold trn;split
 ·have a:Sk (k+1) (c*f i):=by
   have:=hc.mul (hf i hi);rw[pG] at this;exact this
  exact((hf j hj).mono (by omega)).add a
 ·exact(hf x hx).mono (by omega)
def vB(i j:Nat)(c:Rat)(st:Q3x):Nat->Nat->Nat->Rat:=λg a b=>if a=i then trn i j c (st g i) b+-c*trn i j c (st g j) b else trn i j c (st g a) b
def zdd{k:Nat}{q:Rat}(h:Sk k q):Sk k (-q):=by
 have⟨hm,x,e,hx⟩:=h;refine⟨hm,-x,?_,by rw[nU];exact hx⟩;rw[pP];grind
def zk9(c:Rat):PyData.tuple [.int (0 - c.num),.int (c.den:Int)]=fr (-c):=by
 unfold fr;rw[Rat.neg_num,Rat.neg_den];congr 3;omega
def zic{i j:Nat}{c:Rat}{k:Nat}(hn:n<=42)(hs:s<=42)(hi:i<n)(hj:j<n)(hk:k<=300)(A:Mach n s fi st la k)(hc:Sk 1 c):wO [zv n s fi st la,.int (i:Int),.int (j:Int),fr c]=some (zv n s (trn i j c fi) (vB i j c st) (trn j i (-c) la)):=by
 obtain⟨ρ1,e1,o8,o9,rfl⟩:=UI (ds:=(List.range s).map λg=>y4 n (st g)) (it:=yw (op2 ixD (gv 0) (cst (.int 1)))) (bd:=bN 8)
  (b:=sq (x5 9 (zU 1 [1,2,3] (yw (gv 8)) (bN 0) (yo (yQ yY (aC (gv 0) (aC (gv 1) (aC (gv 2) (aC (gv 3) a0))))))))
   (sq (siS 9 (gv 1) (yo (zU 1 [1,2,4,9] (yW (aC (zf yl (aC (gb 9) a0)) a0)) (bN 0) (zf xG (aC (op2 ixD (op2 ixD (gb 4) (gv 1)) (gv 0)) (aC (zf yC (aC (gv 3) (aC (op2 ixD (op2 ixD (gb 4) (gv 2)) (gv 0)) a0))) a0))))))
   (apS 7 (zf yk (aC (yo (zU 1 [] (yw (gb 9)) (bN 0) (zf yk (aC (gv 0) a0)))) a0)))))
  (ρ0:=[.pu (zv n s fi st la),.pu (.int (i:Int)),.pu (.int (j:Int)),.pu (fr c),.pu (fr (-c)),.ow ((List.range n).map λx=>fr (trn i j c fi x)),.ow ((List.range n).map λx=>fr (trn j i (-c) la x)),.ow [],.no,.no])
  (λg ρ=>∃o8 o9,ρ=[.pu (zv n s fi st la),.pu (.int (i:Int)),.pu (.int (j:Int)),.pu (fr c),.pu (fr (-c)),.ow ((List.range n).map λx=>fr (trn i j c fi x)),.ow ((List.range n).map λx=>fr (trn j i (-c) la x)),.ow ((List.range g).map λg=>y4 n (vB i j c st g)),o8,o9])
  (we ((zc rfl rfl).trans vM)) ⟨.no,.no,rfl⟩ λg d ρ hd ⟨o8,o9,q⟩=>by
   subst q;rw[qo] at hd;obtain⟨g',hg',rfl⟩:=map_some hd;have hgs:g'<s:=qL.mp (qP hg')
   have:g'=g:=by
    obtain⟨h1,h2⟩:=qm.mp hg';rw[List.getElem_range] at h2;exact h2.symm
   subst this;have R:∀a,a<n->∀x,x<n->Sk (k+2) (trn i j c (st g' a) x):=λa ha=>zlK hi hj (λx hx=>A.st g' a x hgs ha hx) hc
   refine⟨_,_,rfl,(zy (yO (d:=(List.range n).map λa=>.list ((List.range n).map λx=>fr (trn i j c (st g' a) x))) ?_)).trans ((zy (zgz (a:=i) (d:=.list ((List.range n).map λb=>fr (trn i j c (st g' i) b+-c*trn i j c (st g' j) b))) rfl (yc ?_) rfl (by rw[qe,qA];exact hi))).trans (Jj (d:=y4 n (vB i j c st g')) rfl ?_ ?_)),.pu (y4 n (st g')),.ow (((List.range n).map λa=>PyData.list ((List.range n).map λx=>fr (trn i j c (st g' a) x))).set i (.list ((List.range n).map λb=>fr (trn i j c (st g' i) b+-c*trn i j c (st g' j) b)))),?_⟩
   ·exact yf (xs:=List.range n) (e:=λa=>yE n (st g' a)) rfl (by rw[qA];omega) λa ha=>yG.trans (yc ((xE rfl).trans (wX (t:=true) hn hi hj hk (λx hx=>A.st g' a x hgs (qL.mp ha) hx) hc)))
   ·refine jO (n:=n) (zk ((zd rfl).trans (show yl [.list ((List.range n).map _)]=_ from ?_)) rfl) (by omega) λb hb=>yG.trans ?_
    ·show some (PyData.int (((List.range n).map _).length:Int))=_
     rw[qe,qA]
    ·exact(zd (zk ((zc ((zc rfl rfl).trans (JM hi)) rfl).trans (JM hb)) (zk ((zd (zk rfl (zk ((zc ((zc rfl rfl).trans (JM hj)) rfl).trans (JM hb)) rfl))).trans (uF ((zdd hc).bq (by omega)) ((R j hj b hb).bq (by omega)))) rfl))).trans (Jn ((R i hi b hb).bq (by omega)) (((zdd hc).mul (R j hj b hb)).bq (by omega)))
   ·rw[set_range];refine(zd (xs:=[.list ((List.range n).map λa=>yE n (vB i j c st g' a))]) (zk (yc (yf (xs:=List.range n) (e:=λa=>if a=i then PyData.list ((List.range n).map λb=>fr (trn i j c (st g' i) b+-c*trn i j c (st g' j) b)) else PyData.list ((List.range n).map λx=>fr (trn i j c (st g' a) x))) rfl (by rw[qA];omega) λa ha=>yG.trans ?_)) rfl)).trans rfl;show zf yk (aC (gv 0) a0) [.pu (if a=i then _ else _)]=some (yE n λb=>vB i j c st g' a b)
    unfold vB;by_cases q:a=i
    ·rw[qf q];refine((zd rfl).trans rfl).trans ?_;show some (PyData.tuple _)=some (PyData.tuple _)
     refine qM (λl=>some (PyData.tuple l)) (k7 λb _=>?_);exact qM fr (qf q).symm
    ·rw[qq q];refine((zd rfl).trans rfl).trans ?_;show some (PyData.tuple _)=some (PyData.tuple _)
     refine qM (λl=>some (PyData.tuple l)) (k7 λb _=>?_);exact qM fr (qq q).symm
   ·rw[qe,qA];omega
   ·rw[gQ,qR];rfl
 rw[qe,qA] at e1;refine ya rfl ?_;refine(zy (zG (d:=fr (-c)) ((zc3 (x:=.int (0 - c.num)) (y:=.int (c.den:Int)) rfl rfl).trans (qM some (zk9 c))))).trans ?_;refine(zy (yO ((xE (zk ((zc rfl rfl).trans jM) rfl)).trans (wX (t:=true) hn hi hj hk A.fi hc)))).trans ?_;refine(zy (yO ((xE (zk ((zc rfl rfl).trans JC) rfl)).trans (wX (t:=true) hn hj hi hk A.la (zdd hc))))).trans ?_;refine(zy (yO (d:=[]) rfl)).trans ((zy e1).trans (zO ?_));exact(WB ((zd rfl).trans rfl) ((zd rfl).trans rfl) ((zd rfl).trans rfl)).trans rfl
end
section
variable{n m s:Nat}{fi gi:Q1x}{st su:Q3x}{la lb:Q1x}
theorem wx(F:Q1x)(G:Rat){p:Nat}:∀n,p<n->sumTo n (λa=>if a=p then F a+G else F a)=sumTo n F+G
 |0,h=>absurd h (kX _)
 |n+1,h=>by
  show sumTo n (λa=>if a=p then F a+G else F a)+(if n=p then F n+G else F n)=(sumTo n F+F n)+G
  by_cases e:n=p
  ·subst e;rw[qf rfl,zm n (g:=F) λi hi=>qq (by omega)];grind
  ·rw[qq e,wx F G n (by omega)];grind
def zad{i j:Nat}{c:Rat}(hi:i<n)(hj:j<n)(hij:i≠j)(r:Q1x)(g:Nat):∀b,led n (trn i j c r) (vB i j c st g) b=trn i j c (led n r (st g)) b:=λb=>by
 have e1:led n (trn i j c r) (vB i j c st g) b=sumTo n λa=>r a*trn i j c (st g a) b:=by
  show sumTo n (λa=>trn i j c r a*vB i j c st g a b)=_
  have q:∀a,trn i j c r a*vB i j c st g a b=if a=i then (λa=>if a=j then r a*trn i j c (st g a) b+c*r i*trn i j c (st g j) b else r a*trn i j c (st g a) b) a+-(c*r i*trn i j c (st g j) b) else (λa=>if a=j then r a*trn i j c (st g a) b+c*r i*trn i j c (st g j) b else r a*trn i j c (st g a) b) a:=λa=>by
   show(if a=j then r j+c*r i else r a)*(if a=i then trn i j c (st g i) b+-c*trn i j c (st g j) b else trn i j c (st g a) b)=_
   by_cases q1:a=i
   ·subst q1;rw[qq hij,qf rfl,qf rfl];show _=(if a=j then _ else _)+_
    rw[qq hij];grind
   ·rw[qq q1,qq q1];show _=if a=j then _ else _
    by_cases q2:a=j
    ·subst q2;rw[qf rfl,qf rfl];grind
    ·rw[qq q2,qq q2]
  rw[zm n λa _=>q a,wx _ _ n hi,wx (λa=>r a*trn i j c (st g a) b) _ n hj];grind
 rw[e1];show _=if b=j then _ else _
 by_cases q:b=j
 ·subst q;rw[qf rfl,zm n (g:=λa=>r a*st g a b+r a*st g a i*c) λa _=>by
   show r a*(if b=b then st g a b+c*st g a i else st g a b)=_
   rw[qf rfl];grind,VP,yt]
  show led n r (st g) b+led n r (st g) i*c=_
  grind
 ·rw[qq q];exact zm n λa _=>by
   show r a*(if b=j then st g a j+c*st g a i else st g a b)=_
   rw[qq q]
theorem zc7{i j:Nat}{c:Rat}(hi:i<n)(hj:j<n)(hij:i≠j):∀(ws:LNt)(r:Q1x),wt n (vB i j c st) (trn i j c r) (trn j i (-c) la) ws=wt n st r la ws
 |[],r=>by
  show sumTo n (λa=>trn i j c r a*trn j i (-c) la a)=sumTo n λa=>r a*la a
  have q:∀a,trn i j c r a*trn j i (-c) la a=if a=i then (λa=>if a=j then r a*la a+c*r i*la j else r a*la a) a+-(c*r i*la j) else (λa=>if a=j then r a*la a+c*r i*la j else r a*la a) a:=λa=>by
   show(if a=j then r j+c*r i else r a)*(if a=i then la i+-c*la j else la a)=_
   by_cases q1:a=i
   ·subst q1;rw[qq hij,qf rfl,qf rfl];show _=(if a=j then _ else _)+_
    rw[qq hij];grind
   ·rw[qq q1,qq q1];show _=if a=j then _ else _
    by_cases q2:a=j
    ·subst q2;rw[qf rfl,qf rfl];grind
    ·rw[qq q2,qq q2]
  rw[zm n λa _=>q a,wx _ _ n hi,wx (λa=>r a*la a) _ n hj];grind
 |g::ws,r=>by
  show wt n (vB i j c st) (led n (trn i j c r) (vB i j c st g)) (trn j i (-c) la) ws=wt n st (led n r (st g)) la ws
  rw[show led n (trn i j c r) (vB i j c st g)=trn i j c (led n r (st g)) from funext λb=>zad hi hj hij r g b];exact zc7 hi hj hij ws _
theorem J9:∀(ws:LNt)(r:Q1x),(∀x,x<n->r x=0)->wt n st r la ws=0
 |[],r,h=>by
  show sumTo n (λa=>r a*la a)=0
  rw[zm n (g:=λ_=>0) λa ha=>by rw[h a ha];exact kC _,jL]
 |g::ws,r,h=>by
  show wt n st (led n r (st g)) la ws=0
  refine J9 ws _ λx _=>?_
  show sumTo n (λa=>r a*st g a x)=0
  rw[zm n (g:=λ_=>0) λa ha=>by rw[h a ha];exact kC _,jL]
def zaJ(ws:LNt)(r:Q1x):wt n st r (λ_=>0) ws=0:=by
 show sumTo n (λa=>xw n st r ws a*0)=0
 rw[zm n (g:=λ_=>0) λa _=>gp _,jL]
end
end L2.Fu
namespace WD.DT
theorem yv{f g:Z1x}:∀n,(∀i,i<n->f i=g i)->yq n f=yq n g
 |0,_=>rfl
 |n+1,h=>by
  show yq n f+f n=yq n g+g n
  rw[yv n λi hi=>h i (mC hi),h n (kI n)]
theorem v3:∀n,yq n (λ_=>0)=0
 |0=>rfl
 |n+1=>by
  show yq n (λ_=>0)+0=0
  rw[v3 n];rfl
theorem Va(f:Z1x):∀n,yq n (λi=>- f i)=- yq n f
 |0=>rfl
 |n+1=>by
  show yq n (λi=>- f i)+- f n=-(yq n f+f n)
  rw[Va f n];omega
theorem Yq(f g:Z1x):∀n,yq n (λi=>f i+g i)=yq n f+yq n g
 |0=>rfl
 |n+1=>by
  show yq n (λi=>f i+g i)+(f n+g n)=(yq n f+f n)+(yq n g+g n)
  rw[Yq f g n];omega
theorem ud(c:Int)(f:Z1x):∀n,yq n (λi=>c*f i)=c*yq n f
 |0=>by
  show(0:Int)=c*0
  rw[hU]
 |n+1=>by
  show yq n (λi=>c*f i)+c*f n=c*(yq n f+f n)
  rw[ud c f n,Int.mul_add]
theorem VL(f:Nat->Nat->Int)(m:Nat):∀n,yq n (λa=>yq m λb=>f a b)=yq m λb=>yq n λa=>f a b
 |0=>(v3 m).symm
 |n+1=>by
  show yq n (λa=>yq m λb=>f a b)+yq m (λb=>f n b)=yq m λb=>yq n (λa=>f a b)+f n b
  rw[VL f m n,Yq]
theorem Z0(f:Z1x){j:Nat}:∀n,j<n->yq n (λi=>if i=j then f i else 0)=f j
 |0,h=>absurd h (kX _)
 |n+1,h=>by
  show yq n (λi=>if i=j then f i else 0)+(if n=j then f n else 0)=f j
  by_cases e:n=j
  ·subst e;rw[qf rfl,yv n (g:=λ_=>0) λi hi=>qq (by omega),v3];omega
  ·rw[qq e,Z0 f n (by omega)];omega
theorem ZX(g:Z1x){j:Nat}:∀m,j<=m->yq m g=yq (m+1) λk=>if k=j then 0 else g (if k<j then k else k - 1)
 |0,h=>by
  have:j=0:=by omega
  subst this;rfl
 |m+1,h=>by
  show yq m g+g m=yq (m+1) (λk=>if k=j then 0 else g (if k<j then k else k - 1))+(if m+1=j then 0 else g (if m+1<j then m+1 else m+1 - 1))
  by_cases e:m+1=j
  ·rw[qf e,yv (m+1) (g:=g) λi hi=>by rw[qq (by omega),qf (by omega)]];show _=yq m g+g m+0
   omega
  ·rw[qq e,qq (by omega),<-ZX g m (by omega)];rfl
noncomputable def sg(j:Nat):Int:=if j % 2=0 then 1 else -1
def zeK(j:Nat):sg (j+1)=- sg j:=by
 unfold sg;by_cases h:j % 2=0
 ·rw[qf h,qq (by omega)]
 ·rw[qq h,qf (by omega)];rfl
def zhY(j:Nat):sg j*sg j=1:=by
 unfold sg;split<;>rfl
theorem erase_comm{α:Type}:∀(S:List α)(j k:Nat),k<j->(S.eraseIdx j).eraseIdx k=(S.eraseIdx k).eraseIdx (j - 1)
 |[],_,_,_=>rfl
 |x::S,0,k,h=>absurd h (kX _)
 |x::S,j+1,0,h=>rfl
 |x::S,j+1,k+1,h=>by
  show x::(S.eraseIdx j).eraseIdx k=(x::S.eraseIdx k).eraseIdx (j+1 - 1)
  have e:j+1 - 1=(j - 1)+1:=by omega
  rw[e,erase_comm S j k (by omega)];rfl
def zdn(S:LNt){j k:Nat}(hk:k≠j):(S.eraseIdx j).getD (if k<j then k else k - 1) 0=S.getD k 0:=by
 rw[kv,kv,List.getElem?_eraseIdx];by_cases h:k<j
 ·rw[qf h,qf h]
 ·rw[qq h,qq (by omega),show k - 1+1=k by omega]
noncomputable def det:List (Nat->Int)->List Nat->Int
 |[],_=>1
 |r::R,S=>yq S.length λj=>sg j*(r (S.getD j 0)*det R (S.eraseIdx j))
def zeZ(r r':Z1x)(R:LZr)(S:LNt):det (r::r'::R) S=yq S.length λj=>yq S.length λk=>if k=j then 0 else
  sg j*sg (if k<j then k else k - 1)*(r (S.getD j 0)*r' (S.getD k 0))*det R ((S.eraseIdx j).eraseIdx (if k<j then k else k - 1)):=by
 show yq S.length (λj=>sg j*(r (S.getD j 0)*det (r'::R) (S.eraseIdx j)))=_
 refine yv _ λj hj=>?_
 have e:det (r'::R) (S.eraseIdx j)=yq (S.length - 1) λk=>sg k*(r' ((S.eraseIdx j).getD k 0)*det R ((S.eraseIdx j).eraseIdx k)):=by
  show yq (S.eraseIdx j).length _=_
  rw[gB hj]
 rw[e,ZX _ (j:=j) (S.length - 1) (by omega),show S.length - 1+1=S.length by omega,<-Int.mul_assoc,<-ud];refine yv _ λk hk=>?_
 by_cases h:k=j
 ·rw[qf h,qf h,hU]
 ·rw[qq h,qq h,zdn S h];generalize sg (if k<j then k else k - 1)=a;generalize det R _=d;grind
def zci(r r':Z1x)(R:LZr)(S:LNt):det (r::r'::R) S=- det (r'::r::R) S:=by
 rw[zeZ r r',zeZ r' r,VL,<-Va];refine yv _ λk hk=>?_
 rw[<-Va];refine yv _ λj hj=>?_
 by_cases h:k=j
 ·subst h;rw[qf rfl,qf rfl];rfl
 ·rw[qq h,qq (gu h)];by_cases hl:k<j
  ·rw[qf hl,qq (by omega),erase_comm S j k hl];obtain⟨i,rfl⟩:∃i,j=i+1:=⟨j - 1,by omega⟩;rw[show i+1 - 1=i by omega,zeK];generalize det R _=d;grind
  ·have hl:j<k:=by omega
   rw[qq (by omega),qf hl,erase_comm S k j hl];obtain⟨i,rfl⟩:∃i,k=i+1:=⟨k - 1,by omega⟩;rw[show i+1 - 1=i by omega,zeK];generalize det R _=d;grind
theorem zeO{r:Z1x}:∀{R:LZr} (S:LNt),r∈R->det (r::R) S=0
 |[],_,h=>by cases h
 |b::R,S,h=>by
  rcases qu.mp h with z|z
  ·subst z
   have:=zci r r R S;omega
  ·rw[zci];show -(yq S.length λj=>sg j*(b (S.getD j 0)*det (r::R) (S.eraseIdx j)))=0
   rw[yv S.length (g:=λ_=>0) λj hj=>by rw[zeO _ z,hU,hU],v3];rfl
def vec(R:LZr)(S:LNt)(x:Nat):Int:=yq S.length λj=>if S.getD j 0=x then sg j*det R (S.eraseIdx j) else 0
def zbs{n:Nat}{S:LNt}(R:LZr)(r:Z1x)(h:∀x∈S,x<n):yq n (λx=>vec R S x*r x)=det (r::R) S:=by
 have e:∀x,vec R S x*r x=yq S.length λj=>if x=S.getD j 0 then r x*(sg j*det R (S.eraseIdx j)) else 0:=λx=>by
  unfold vec;rw[Int.mul_comm,<-ud];refine yv _ λj _=>?_
  by_cases q:S.getD j 0=x
  ·rw[qf q,qf q.symm]
  ·rw[qq q,qq (gu q),hU]
 rw[yv n λx _=>e x,VL];refine yv _ λj hj=>?_
 rw[Z0 _ n (h _ ?_)]
 ·generalize det R _=d;grind
 ·rw[kv,qp hj];exact gO hj
def zcA{n:Nat}{S:LNt}{R:LZr}{r:Z1x}(h:∀x∈S,x<n)(hr:r∈R):yq n (λx=>vec R S x*r x)=0:=by
 rw[zbs R r h,zeO S hr]
def zeQ{R:LZr}{S:LNt}{x:Nat}(h:x∉S):vec R S x=0:=by
 unfold vec;rw[yv S.length (g:=λ_=>0) λj hj=>qq λq=>h ?_,v3];rw[<-q,kv,qp hj];exact gO hj
def zb9{R:LZr}{T:LNt}{f:Nat}(h:f∉T):vec R (T++[f]) f=sg T.length*det R T:=by
 unfold vec;rw[qy];show yq T.length (λj=>if (T++[f]).getD j 0=f then sg j*det R ((T++[f]).eraseIdx j) else 0)+(if (T++[f]).getD T.length 0=f then sg T.length*det R ((T++[f]).eraseIdx T.length) else 0)=_
 rw[yv T.length (g:=λ_=>0) λj hj=>qq λq=>h ?_,v3,qf,pz (qr _),gA]
 ·rw[show[f].eraseIdx 0=[] from rfl,kg];omega
 ·rw[kv,qx (qr _),gA];rfl
 ·rw[<-q,kv,qJ hj,qp hj];exact gO hj
abbrev dt(n:Nat)(f g:Z1x):Int:=yq n λx=>f x*g x
abbrev dq(n:Nat)(f g:Q1x):Rat:=sumTo n λx=>f x*g x
noncomputable abbrev rt(f:Z1x):Nat->Rat:=λx=>(f x:Rat)
def Je{n:Nat}(f g:Z1x):dq n (rt f) (rt g)=((dt n f g:Int):Rat):=by
 unfold dq dt rt;rw[Jo];exact zm n λi _=>(kf _ _).symm
def zgT{n:Nat}(a b:Int)(f g h:Z1x):dt n (λx=>a*f x - b*g x) h=a*dt n f h - b*dt n g h:=by
 unfold dt;rw[<-ud,<-ud,Int.sub_eq_add_neg,<-Va,<-Yq];exact yv n λi _=>by grind
def zaP{n:Nat}(a:Int)(f h:Z1x):dt n (λx=>a*f x) h=a*dt n f h:=by
 unfold dt;rw[<-ud];exact yv n λi _=>by grind
def Yd{n:Nat}{f f' h:Z1x}(e:∀x,x<n->f x=f' x):dt n f h=dt n f' h:=yv n λi hi=>by rw[e i hi]
theorem xr:∀n,sumTo n (λ_=>(0:Rat))=0
 |0=>rfl
 |n+1=>by
  show sumTo n (λ_=>(0:Rat))+0=0
  rw[xr n];grind
theorem u5(f:Q2x)(m:Nat):∀n,sumTo n (λa=>sumTo m λb=>f a b)=sumTo m λb=>sumTo n λa=>f a b
 |0=>(xr m).symm
 |n+1=>by
  show sumTo n (λa=>sumTo m λb=>f a b)+sumTo m (λb=>f n b)=sumTo m λb=>sumTo n (λa=>f a b)+f n b
  rw[u5 f m n,VP]
theorem wd(f:Q1x){j:Nat}:∀n,j<n->(∀i,i<n->i≠j->f i=0)->sumTo n f=f j
 |0,h,_=>absurd h (kX _)
 |n+1,h,k=>by
  show sumTo n f+f n=f j
  by_cases e:n=j
  ·subst e;rw[zm n (g:=λ_=>0) λi hi=>k i (by omega) (by omega),xr];grind
  ·rw[wd f n (by omega) λi hi=>k i (by omega),k n (by omega) e];grind
theorem zao(u v:Q1x):∀n,sumTo n u - sumTo n v=sumTo n λx=>u x - v x
 |0=>by
  show(0:Rat) - 0=0
  grind
 |n+1=>by
  have:=zao u v n;show(sumTo n u+u n) - (sumTo n v+v n)=sumTo n (λx=>u x - v x)+(u n - v n)
  rw[<-this];grind
def YT{n:Nat}(a b:Rat)(f g h:Q1x):dq n (λx=>a*f x - b*g x) h=a*dq n f h - b*dq n g h:=by
 have e1:a*sumTo n (λx=>f x*h x)=sumTo n λx=>f x*h x*a:=by rw[yt];exact gx _ _
 have e2:b*sumTo n (λx=>g x*h x)=sumTo n λx=>g x*h x*b:=by rw[yt];exact gx _ _
 show sumTo n (λx=>(a*f x - b*g x)*h x)=a*sumTo n (λx=>f x*h x) - b*sumTo n (λx=>g x*h x)
 rw[e1,e2,zao];exact zm n λi _=>by clear e1 e2;grind
def In(n:Nat)(R:LZr)(x:Q1x):Prop:=∀w:Nat->Rat,(∀r∈R,dq n w (rt r)=0)->dq n w x=0
structure Sp(n:Nat)(R:LZr)(T F:LNt)(C:LZr)(d:Int):Prop where
 d0:d≠0
 mem:∀x,x∈T++F↔x<n
 nd:(T++F).Nodup
 lenC:C.length=F.length
 ex:∃e:Int,e*e=1/\d=e*det R T/\∀(i:Nat)(c:Z1x)(f:Nat),C[i]?=some c->F[i]?=some f->∀x,x<n->c x=e*sg T.length*vec R (T++[f]) x
 ind:∀w:Nat->Rat,(∀x,x<n->x∉T->w x=0)->(∀r∈R,dq n w (rt r)=0)->∀x,x<n->w x=0
section
variable{n:Nat}{R:LZr}{T F:LNt}{C:LZr}{d:Int}
def Sp.free(h:Sp n R T F C d){i f:Nat}(hf:F[i]?=some f):f<n/\f∉T:=by
 have hm:f∈F:=qP hf;exact⟨(h.mem f).mp (qg.mpr (.inr hm)),λz=>(k5.mp h.nd).2.2 f z f hm rfl⟩
def Sp.lt(h:Sp n R T F C d){i f:Nat}(hf:F[i]?=some f):∀x∈T++[f],x<n:=λx hx=>by
 rcases qg.mp hx with z|z
 ·exact(h.mem x).mp (qg.mpr (.inl z))
 ·rw[qE.mp z];exact(h.free hf).1
def Sp.at(h:Sp n R T F C d){i f:Nat}{c:Z1x}(hc:C[i]?=some c)(hf:F[i]?=some f):c f=d:=by
 have⟨e,e1,e2,e3⟩:=h.ex;have⟨h1,h2⟩:=h.free hf;rw[e3 i c f hc hf f h1,zb9 h2,e2]
 have:=zhY T.length;grind
def Sp.out(h:Sp n R T F C d){i f x:Nat}{c:Z1x}(hc:C[i]?=some c)(hf:F[i]?=some f)(hx:x<n)(ht:x∉T)(hne:x≠f):c x=0:=by
 have⟨e,e1,e2,e3⟩:=h.ex;rw[e3 i c f hc hf x hx,zeQ (λz=>?_),hU];rcases qg.mp z with z|z
 ·exact ht z
 ·exact hne (qE.mp z)
def Sp.orth(h:Sp n R T F C d){i f:Nat}{c r:Z1x}(hc:C[i]?=some c)(hf:F[i]?=some f)(hr:r∈R):dt n c r=0:=by
 have⟨e,e1,e2,e3⟩:=h.ex;rw[Yd (f':=λx=>(e*sg T.length)*vec R (T++[f]) x) λx hx=>e3 i c f hc hf x hx,zaP,show dt n (vec R (T++[f])) r=0 from zcA (h.lt hf) hr,hU]
def Vy{α:Type}{l:List α}{i:Nat}{a b:α}(h:l[i]?=some a):l.getD i b=a:=by
 rw[kv,h];rfl
def zkb{l:LNt}(h:l.Nodup){i j a b:Nat}(ha:l[i]?=some a)(hb:l[j]?=some b)(hij:i≠j):a≠b:=λe=>by
 subst e;obtain⟨hi,e1⟩:=qm.mp ha;obtain⟨hj,e2⟩:=qm.mp hb;rcases Nat.lt_or_gt_of_ne hij with q|q
 ·exact gE.mp h i j hi hj q (e1.trans e2.symm)
 ·exact gE.mp h j i hj hi q (e2.trans e1.symm)
def Sp.ndF(h:Sp n R T F C d):F.Nodup:=(k5.mp h.nd).2.1
noncomputable def xB(i:Nat):Nat->Int:=λx=>if x=i then 1 else 0
def zdz(n:Nat):Sp n [] [] (List.range n) ((List.range n).map xB) 1 where
 d0:=by decide
 mem:=λx=>by simp
 nd:=by simpa using List.nodup_range
 lenC:=by simp
 ex:=⟨1,rfl,rfl,λi c f hc hf x hx=>by
  rw[qo] at hc;obtain⟨hi,e⟩:=qm.mp hf;rw[hf] at hc;cases hc;show xB f x=1*1*(0+(if f=x then sg 0*1 else 0))
  unfold xB;by_cases q:x=f
  ·rw[qf q,qf q.symm];rfl
  ·rw[qq q,qq (gu q)];rfl⟩
 ind:=λw h _ x hx=>h x hx (by simp)
def Sp.holds(h:Sp n R T F C d)(x:Q1x):(∀c∈C,dq n (rt c) x=0)↔In n R x:=by
 constructor
 ·intro hc w hw;have hz:(d:Rat)≠0:=λz=>h.d0 (by exact_mod_cast z)
  have key:∀y,y<n->(d:Rat)*w y - 1*sumTo F.length (λi=>w (F.getD i 0)*((C.getD i λ_=>0) y:Rat))=0:=by
   refine h.ind _ (λy hy ht=>?_) λr hr=>?_
   ·have hyF:y∈F:=by
     rcases qg.mp ((h.mem y).mpr hy) with z|z
     ·exact absurd z ht
     ·exact z
    obtain⟨k,hk⟩:=ku hyF;obtain⟨hkl,_⟩:=qm.mp hk;obtain⟨c,hck⟩:∃c,C[k]?=some c:=⟨_,qp (by rw[h.lenC];exact hkl)⟩;rw[wd _ (j:=k) _ hkl λi hi hik=>?_]
    ·rw[Vy hk,Vy hck];show(d:Rat)*w y - 1*(w y*(c y:Rat))=0
     rw[h.at hck hk];grind
    ·obtain⟨c',hci⟩:∃c,C[i]?=some c:=⟨_,qp (by rw[h.lenC];exact hi)⟩;obtain⟨f',hfi⟩:∃f,F[i]?=some f:=⟨_,qp hi⟩;rw[Vy (l:=C) hci];show _*((c' y:Int):Rat)=0
     rw[h.out hci hfi hy ht (zkb h.ndF hk hfi (gu hik))];exact gp _
   ·rw[YT];rw[hw r hr]
    have:dq n (λy=>sumTo F.length λi=>w (F.getD i 0)*((C.getD i λ_=>0) y:Rat)) (rt r)=0:=by
     unfold dq;rw[zm n (g:=λy=>sumTo F.length λi=>w (F.getD i 0)*((C.getD i λ_=>0) y:Rat)*(rt r) y) λy _=>(yt _ _ _).symm,u5,zm F.length (g:=λ_=>0) λi hi=>?_,xr];obtain⟨c',hci⟩:∃c,C[i]?=some c:=⟨_,qp (by rw[h.lenC];exact hi)⟩;obtain⟨f',hfi⟩:∃f,F[i]?=some f:=⟨_,qp hi⟩;rw[Vy (l:=C) hci];show sumTo n (λy=>w (F.getD i 0)*(c' y:Rat)*(r y:Rat))=0
     rw[zm n (g:=λy=>((c' y:Rat)*(r y:Rat))*w (F.getD i 0)) λy _=>by grind,yt];have e:sumTo n (λy=>(c' y:Rat)*(r y:Rat))=dq n (rt c') (rt r):=rfl;rw[e,Je,h.orth hci hfi hr];exact kC _
    rw[this];grind
  have e1:(d:Rat)*dq n w x - 1*dq n (λy=>sumTo F.length λi=>w (F.getD i 0)*((C.getD i λ_=>0) y:Rat)) x=0:=by
   rw[<-YT];unfold dq;rw[zm n (g:=λ_=>0) λy hy=>(qM (·*_) (key y hy)).trans (kC _),xr]
  have e2:dq n (λy=>sumTo F.length λi=>w (F.getD i 0)*((C.getD i λ_=>0) y:Rat)) x=0:=by
   unfold dq;rw[zm n (g:=λy=>sumTo F.length λi=>w (F.getD i 0)*((C.getD i λ_=>0) y:Rat)*x y) λy _=>(yt _ _ _).symm,u5,zm F.length (g:=λ_=>0) λi hi=>?_,xr];obtain⟨c',hci⟩:∃c,C[i]?=some c:=⟨_,qp (by rw[h.lenC];exact hi)⟩;rw[Vy (l:=C) hci];show sumTo n (λy=>w (F.getD i 0)*(c' y:Rat)*x y)=0
   rw[zm n (g:=λy=>((c' y:Rat)*x y)*w (F.getD i 0)) λy _=>by grind,yt];have e:sumTo n (λy=>(c' y:Rat)*x y)=dq n (rt c') x:=rfl;rw[e,hc c' (qP hci)];exact kC _
  rw[e2] at e1;have e3:(d:Rat)*dq n w x=0:=by grind
  rcases kH.mp e3 with z|z
  ·exact absurd z hz
  ·exact z
 ·intro hx c hc;obtain⟨i,hi⟩:=ku hc;obtain⟨hil,_⟩:=qm.mp hi;obtain⟨f,hf⟩:∃f,F[i]?=some f:=⟨_,qp (by rw[<-h.lenC];exact hil)⟩;exact hx (rt c) λr hr=>by rw[Je,h.orth hi hf hr];rfl
noncomputable def nar(p d s:Int)(g c:Z1x):Nat->Int:=λx=>(p*c x - s*g x).fdiv d
def Sp.ind'(h:Sp n R T F C d){i g:Nat}{cg r:Z1x}(hc:C[i]?=some cg)(hg:F[i]?=some g)(hp:dt n cg r≠0):∀w:Nat->Rat,(∀x,x<n->x∉T++[g]->w x=0)->(∀ρ∈r::R,dq n w (rt ρ)=0)->∀x,x<n->w x=0:=by
 intro w hs ho;have⟨g1,g2⟩:=h.free hg;have hz:(d:Rat)≠0:=λz=>h.d0 (by exact_mod_cast z)
 have hpz:((dt n cg r:Int):Rat)≠0:=λz=>hp (by exact_mod_cast z)
 have key:∀x,x<n->(d:Rat)*w x - w g*(rt cg) x=0:=by
  refine h.ind _ (λx hx ht=>?_) λρ hr=>?_
  ·by_cases q:x=g
   ·subst q;show(d:Rat)*w x - w x*((cg x:Int):Rat)=0
    rw[h.at hc hg];grind
   ·show(d:Rat)*w x - w g*((cg x:Int):Rat)=0
    rw[h.out hc hg hx ht q,hs x hx λz=>by
     rcases qg.mp z with z|z
     ·exact ht z
     ·exact q (qE.mp z)]
    show(d:Rat)*0 - w g*0=0
    grind
  ·rw[YT,ho ρ (.tail _ hr),Je,h.orth hc hg hr];show(d:Rat)*0 - w g*0=0
   grind
 have e:(d:Rat)*dq n w (rt r) - w g*dq n (rt cg) (rt r)=0:=by
  rw[<-YT];unfold dq;rw[zm n (g:=λ_=>0) λy hy=>(qM (·*_) (key y hy)).trans (kC _),xr]
 rw[ho r (.head _),Je] at e;have e2:w g*((dt n cg r:Int):Rat)=0:=by grind
 have wg:w g=0:=by
  rcases kH.mp e2 with z|z
  ·exact z
  ·exact absurd z hpz
 intro x hx
 have:=key x hx;rw[wg] at this;have e3:(d:Rat)*w x=0:=by grind
 rcases kH.mp e3 with z|z
 ·exact absurd z hz
 ·exact z
def zcf{α:Type}(l:List α)(i j:Nat):(l.eraseIdx i)[j]?=l[if j<i then j else j+1]?:=by
 rw[List.getElem?_eraseIdx];by_cases h:j<i
 ·rw[qf h,qf h]
 ·rw[qq h,qq h]
theorem YW{α:Type}{a:α}:∀(l:List α)(i:Nat),l[i]?=some a->(a::l.eraseIdx i).Perm l
 |[],i,h=>by simp at h
 |x::l,0,h=>by
  have:x=a:=by simpa using h
  subst this;exact List.Perm.refl _
 |x::l,i+1,h=>by
  have ih:=YW l i (by simpa using h);exact(List.Perm.swap x a _).trans (ih.cons x)
def Sp.nar(h:Sp n R T F C d){i g:Nat}{cg r:Z1x}(hc:C[i]?=some cg)(hg:F[i]?=some g)(hp:dt n cg r≠0){e:Int}(e2:d=e*det R T)(e3:∀(i:Nat)(c:Z1x)(f:Nat),C[i]?=some c->F[i]?=some f->∀x,x<n->c x=e*sg T.length*vec R (T++[f]) x){k f:Nat}{c:Z1x}(hk:C[k]?=some c)(hf:F[k]?=some f)(hki:k≠i):∀x,x<n->DT.nar (dt n cg r) d (dt n c r) cg c x=e*sg T.length*sg (T++[g]).length*vec (r::R) (T++[g]++[f]) x:=by
 have hfg:f≠g:=zkb h.ndF hf hg hki;have⟨f1,f2⟩:=h.free hf
 have⟨g1,g2⟩:=h.free hg;have hfT:f∉T++[g]:=λz=>by
  rcases qg.mp z with z|z
  ·exact f2 z
  ·exact hfg (qE.mp z)
 have hlt:∀x∈T++[g]++[f],x<n:=λx hx=>by
  rcases qg.mp hx with z|z
  ·exact h.lt hg x z
  ·rw[qE.mp z];exact f1
 have ep:dt n cg r=e*sg T.length*det (r::R) (T++[g]):=by
  rw[Yd (f':=λx=>(e*sg T.length)*vec R (T++[g]) x) λx hx=>e3 i cg g hc hg x hx,zaP,show dt n (vec R (T++[g])) r=det (r::R) (T++[g]) from zbs R r (h.lt hg)]
 have key:=h.ind' hc hg hp (λx=>((d*(e*sg T.length*sg (T++[g]).length*vec (r::R) (T++[g]++[f]) x) - 1*(dt n cg r*c x - dt n c r*cg x):Int):Rat)) (λx hx ht=>?_) (λρ hr=>?_)
 ·intro x hx;have q:d*(e*sg T.length*sg (T++[g]).length*vec (r::R) (T++[g]++[f]) x) - 1*(dt n cg r*c x - dt n c r*cg x)=0:=by exact_mod_cast key x hx
  unfold DT.nar;rw[show dt n cg r*c x - dt n c r*cg x=d*(e*sg T.length*sg (T++[g]).length*vec (r::R) (T++[g]++[f]) x) by omega];exact m9 _ h.d0
 ·have q:d*(e*sg T.length*sg (T++[g]).length*vec (r::R) (T++[g]++[f]) x) - 1*(dt n cg r*c x - dt n c r*cg x)=0:=by
   have htT:x∉T:=λz=>ht (qg.mpr (.inl z))
   have hxg:x≠g:=λz=>ht (qg.mpr (.inr (by rw[z];exact .head _)))
   by_cases hxf:x=f
   ·subst hxf;rw[zb9 hfT,h.at hk hf,h.out hc hg hx htT hxg,ep]
    have:=zhY (T++[g]).length;generalize det (r::R) (T++[g])=D at*;generalize sg (T++[g]).length=a at*;grind
   ·rw[zeQ (λz=>?_),h.out hk hf hx htT hxf,h.out hc hg hx htT hxg]
    ·simp
    ·rcases qg.mp z with z|z
     ·exact ht z
     ·exact hxf (qE.mp z)
  exact_mod_cast q
 ·have q:dt n (λx=>d*(e*sg T.length*sg (T++[g]).length*vec (r::R) (T++[g]++[f]) x) - 1*(dt n cg r*c x - dt n c r*cg x)) ρ=0:=by
   rw[zgT d 1 (λx=>e*sg T.length*sg (T++[g]).length*vec (r::R) (T++[g]++[f]) x) (λx=>dt n cg r*c x - dt n c r*cg x) ρ,zgT,zaP,show dt n (vec (r::R) (T++[g]++[f])) ρ=0 from zcA hlt hr];rcases qu.mp hr with z|z
   ·subst z;rw[Int.mul_comm (dt n c ρ)];simp
   ·rw[h.orth hk hf z,h.orth hc hg z];simp
  have:=Je (n:=n) (λx=>d*(e*sg T.length*sg (T++[g]).length*vec (r::R) (T++[g]++[f]) x) - 1*(dt n cg r*c x - dt n c r*cg x)) ρ;rw[q] at this;exact this
def Sp.take(h:Sp n R T F C d){i g:Nat}{cg r:Z1x}(hc:C[i]?=some cg)(hg:F[i]?=some g)(hp:dt n cg r≠0):Sp n (r::R) (T++[g]) (F.eraseIdx i) ((C.eraseIdx i).map λc=>DT.nar (dt n cg r) d (dt n c r) cg c) (dt n cg r):=by
 have⟨e,e1,e2,e3⟩:=h.ex;obtain⟨hi,eg⟩:=qm.mp hg;have pm:(T++[g]++F.eraseIdx i).Perm (T++F):=by
  rw[kU];refine List.Perm.append_left T ?_;exact YW F i hg
 refine⟨hp,λx=>?_,pm.nodup_iff.mpr h.nd,?_,⟨e*sg T.length,?_,?_,λj c' f hj hf x hx=>?_⟩,h.ind' hc hg hp⟩
 ·rw[pm.mem_iff];exact h.mem x
 ·rw[qe,gB hi,gB (by rw[h.lenC];exact hi),h.lenC]
 ·have:=zhY T.length;grind
 ·rw[Yd (f':=λx=>(e*sg T.length)*vec R (T++[g]) x) λx hx=>e3 i cg g hc hg x hx,zaP,show dt n (vec R (T++[g])) r=det (r::R) (T++[g]) from zbs R r (h.lt hg)]
 ·rw[zcf] at hf;rw[qo,zcf] at hj;cases hk:C[if j<i then j else j+1]? with
  |none=>rw[hk] at hj;cases hj
  |some c=>
   rw[hk] at hj;cases hj;exact h.nar hc hg hp e2 e3 hk hf (by split<;>omega) x hx
end
noncomputable def cd(s:Nat)(w:LNt):Nat:=w.foldl (λc a=>c*s+a+1) 0
def JX(s:Nat)(w:LNt)(a:Nat):cd s (w++[a])=cd s w*s+a+1:=by
 unfold cd;rw[List.foldl_append];rfl
def zke(s:Nat)(hs:0<s)(w:LNt)(a:Nat):cd s w<cd s (w++[a]):=by
 rw[JX]
 have:cd s w<=cd s w*s:=nj _ hs;omega
def zi8{s:Nat}{v w:LNt}(h:cd s v<cd s w){a b:Nat}(ha:a<s):cd s (v++[a])<cd s (w++[b]):=by
 rw[JX,JX]
 have:(cd s v+1)*s<=cd s w*s:=gJ _ h;rw[Nat.add_mul] at this;omega
def zjM(w:LNt):w=[]\/∃v a,w=v++[a]:=by
 rcases List.eq_nil_or_concat w with h|⟨v,a,h⟩
 ·exact .inl h
 ·exact .inr ⟨v,a,by rw[h,List.concat_eq_append]⟩
noncomputable def queue(s:Nat)(kept:List (List Nat)):List (List Nat):=[]::kept.flatMap λv=>(List.range s).map λa=>v++[a]
def W8(s:Nat)(kept:List (List Nat))(u:LNt):queue s (kept++[u])=queue s kept++(List.range s).map λa=>u++[a]:=by
 unfold queue;rw[nX];simp
def zau{s:Nat}{kept:List (List Nat)}{u:LNt}:u∈queue s kept↔u=[]\/∃v∈kept,∃a,a<s/\u=v++[a]:=by
 unfold queue;rw[qu,List.mem_flatMap];constructor
 ·rintro(h|⟨v,hv,h⟩)
  ·exact .inl h
  ·obtain⟨a,ha,rfl⟩:=ky.mp h;exact .inr ⟨v,hv,a,qL.mp ha,rfl⟩
 ·rintro(h|⟨v,hv,a,ha,rfl⟩)
  ·exact .inl h
  ·exact .inr ⟨v,hv,ky.mpr ⟨a,qL.mpr ha,rfl⟩⟩
def zaY{s:Nat}{kept:List (List Nat)}(h:kept.Pairwise λv w=>cd s v<cd s w):(queue s kept).Pairwise λv w=>cd s v<cd s w:=by
 unfold queue;rw[List.pairwise_cons];constructor
 ·intro u hu;have⟨v,hv,h⟩:=pL.mp hu;obtain⟨a,ha,rfl⟩:=ky.mp h;rw[JX];show 0<_
  omega
 ·rw[List.pairwise_flatMap];constructor
  ·intro v hv;rw[List.pairwise_map];refine List.Pairwise.imp ?_ List.pairwise_lt_range;intro a b hab;rw[JX,JX];omega
  ·refine List.Pairwise.imp ?_ h;intro v w hvw x hx y hy;obtain⟨a,ha,rfl⟩:=ky.mp hx;obtain⟨b,hb,rfl⟩:=ky.mp hy;exact zi8 hvw (qL.mp ha)
def InK(n s:Nat)(row:List Nat->Nat->Rat)(kept:List (List Nat))(B:Nat)(x:Q1x):Prop:=∀w:Nat->Rat,(∀v∈kept,cd s v<B->dq n w (row v)=0)->dq n w x=0
section
variable{n s:Nat}{st:Q3x}{fi:Q1x}{kept:List (List Nat)}
def VX(v:LNt)(a:Nat):xw n st fi (v++[a])=led n (xw n st fi v) (st a):=by
 rw[Wi];rfl
structure Rc(n s:Nat)(st:Q3x)(fi:Q1x)(kept:List (List Nat))(a:Nat):Prop where
 le:a<=(queue s kept).length
 srt:kept.Pairwise λv w=>cd s v<cd s w
 sub:∀v∈kept,∃i,i<a/\(queue s kept)[i]?=some v
 ok:∀(i:Nat)(u:LNt),i<a->(queue s kept)[i]?=some u->InK n s (xw n st fi) kept (cd s u+1) (xw n st fi u)
def zlV:Rc n s st fi [] 0:=⟨kE _,.nil,λ_ h=>(by cases h),λ_ _ h=>absurd h (kX _)⟩
def Rc.ahead(h:Rc n s st fi kept a){u:LNt}(hu:(queue s kept)[a]?=some u):∀v∈kept,cd s v<cd s u:=λv hv=>by
 have⟨i,hi,e⟩:=h.sub v hv;obtain⟨h1,e1⟩:=qm.mp e;obtain⟨h2,e2⟩:=qm.mp hu
 have:=gE.mp (zaY h.srt) i a h1 h2 hi;rw[e1,e2] at this;exact this
def Rc.skip(h:Rc n s st fi kept a){u:LNt}(hu:(queue s kept)[a]?=some u)(hin:∀w:Nat->Rat,(∀v∈kept,dq n w (xw n st fi v)=0)->dq n w (xw n st fi u)=0):Rc n s st fi kept (a+1):=by
 obtain⟨h2,e2⟩:=qm.mp hu;refine⟨h2,h.srt,λv hv=>?_,λi x hi hx=>?_⟩
 ·have⟨i,hi,e⟩:=h.sub v hv;exact⟨i,by omega,e⟩
 ·by_cases q:i=a
  ·subst q;rw[hu] at hx;cases hx;exact λw hw=>hin w λv hv=>hw v hv (mC (h.ahead hu v hv))
  ·exact h.ok i x (by omega) hx
def Rc.keep(h:Rc n s st fi kept a){u:LNt}(hu:(queue s kept)[a]?=some u):Rc n s st fi (kept++[u]) (a+1):=by
 obtain⟨h2,e2⟩:=qm.mp hu;have old:∀i,i<(queue s kept).length->(queue s (kept++[u]))[i]?=(queue s kept)[i]?:=λi hi=>by rw[W8,qJ hi]
 have more:∀B x,InK n s (xw n st fi) kept B x->InK n s (xw n st fi) (kept++[u]) B x:=λB x q w hw=>q w λv hv hl=>hw v (qg.mpr (.inl hv)) hl
 refine⟨?_,?_,λv hv=>?_,λi x hi hx=>?_⟩
 ·rw[W8,qy];omega
 ·rw[List.pairwise_append];exact⟨h.srt,List.pairwise_singleton _ _,λv hv w hw=>by rw[qE.mp hw];exact h.ahead hu v hv⟩
 ·rcases qg.mp hv with z|z
  ·have⟨i,hi,e⟩:=h.sub v z;exact⟨i,by omega,by rw[old i (by omega)];exact e⟩
  ·rw[qE.mp z];exact⟨a,kI a,by rw[old a h2];exact hu⟩
 ·rw[old i (by omega)] at hx;by_cases q:i=a
  ·subst q;rw[hu] at hx;cases hx;exact λw hw=>hw u (qg.mpr (.inr (.head _))) (kI _)
  ·exact more _ _ (h.ok i x (by omega) hx)
def Rc.short(h:Rc n s st fi kept a)(hs:0<s):∀(i:Nat)(v:LNt),kept[i]?=some v->v.length<=i:=by
 intro i;induction i using Nat.strongRecOn with
 |_ i ih=>
  intro v hv;obtain⟨j,hj,e⟩:=h.sub v (qP hv);rcases zau.mp (qP e) with q|⟨μ,hμ,b,hb,q⟩
  ·subst q;exact kE _
  ·subst q;obtain⟨k,hk⟩:=ku hμ;obtain⟨h1,e1⟩:=qm.mp hk;obtain⟨h2,e2⟩:=qm.mp hv;have hlt:=zke s hs μ b;have hki:k<i:=by
    rcases Nat.lt_trichotomy k i with q|q|q
    ·exact q
    ·subst q;rw[hk] at hv
     have:=qX hv;rw[<-this] at hlt;omega
    ·have:=gE.mp h.srt i k h2 h1 q;rw[e1,e2] at this;omega
   have:=ih k hki μ hk;rw[qy];show μ.length+1<=i
   omega
def Rc.signs(h:Rc n s st fi kept a)(hs:0<s):∀(i:Nat)(v:LNt),kept[i]?=some v->∀g∈v,g<s:=by
 intro i;induction i using Nat.strongRecOn with
 |_ i ih=>
  intro v hv;obtain⟨j,hj,e⟩:=h.sub v (qP hv);rcases zau.mp (qP e) with q|⟨μ,hμ,b,hb,q⟩
  ·subst q;exact λg hg=>by cases hg
  ·subst q;obtain⟨k,hk⟩:=ku hμ;obtain⟨h1,e1⟩:=qm.mp hk;obtain⟨h2,e2⟩:=qm.mp hv;have hlt:=zke s hs μ b;have hki:k<i:=by
    rcases Nat.lt_trichotomy k i with q|q|q
    ·exact q
    ·subst q;rw[hk] at hv
     have:=qX hv;rw[<-this] at hlt;omega
    ·have:=gE.mp h.srt i k h2 h1 q;rw[e1,e2] at this;omega
   intro g hg;rcases qg.mp hg with z|z
   ·exact ih k hki μ hk g z
   ·rw[qE.mp z];exact hb
end
structure RS(n s:Nat)(st:Q3x)(fi:Q1x)(W:List (List Nat))(Rw:LZr)(T F:LNt)(C:LZr)(d:Int)(a:Nat):Prop where
 sp:Sp n Rw.reverse T F C d
 rc:Rc n s st fi W a
 len:W.length=Rw.length
 lenT:T.length=Rw.length
 mult:∀(i:Nat)(w:LNt)(r:Z1x),W[i]?=some w->Rw[i]?=some r->∃c:Rat,c≠0/\∀x,x<n->(r x:Rat)=c*xw n st fi w x
section
variable{n s:Nat}{st:Q3x}{fi la:Q1x}{W:List (List Nat)}{Rw:LZr}{T F:LNt}{C:LZr}{d:Int}{a:Nat}
def zkV:RS n s st fi [] [] [] (List.range n) ((List.range n).map xB) 1 0:=⟨zdz n,zlV,rfl,rfl,λi w r h=>(by simp at h)⟩
def Y9{c:Rat}{r:Z1x}{f w:Q1x}(h:∀x,x<n->(r x:Rat)=c*f x):dq n w (rt r)=c*dq n w f:=by
 show sumTo n (λx=>w x*(r x:Rat))=c*sumTo n λx=>w x*f x
 rw[zm n (g:=λx=>w x*f x*c) λx hx=>by rw[h x hx];grind,yt];exact gx _ _
def zbr(f g:Q1x):dq n f g=dq n g f:=zm n λx _=>gx _ _
def RS.orth(h:RS n s st fi W Rw T F C d a)(w:Q1x):(∀v∈W,dq n w (xw n st fi v)=0)↔∀r∈Rw.reverse,dq n w (rt r)=0:=by
 constructor
 ·intro q r hr;obtain⟨i,hi⟩:=ku (gh.mp hr);obtain⟨hl,_⟩:=qm.mp hi;obtain⟨v,hv⟩:∃v,W[i]?=some v:=⟨_,qp (by rw[h.len];exact hl)⟩;have⟨c,hc,e⟩:=h.mult i v r hv hi;rw[Y9 e,q v (qP hv)];exact gp _
 ·intro q v hv;obtain⟨i,hi⟩:=ku hv;obtain⟨hl,_⟩:=qm.mp hi;obtain⟨r,hr⟩:∃r,Rw[i]?=some r:=⟨_,qp (by rw[<-h.len];exact hl)⟩;have⟨c,hc,e⟩:=h.mult i v r hi hr
  have:=q r (List.mem_reverse.mpr (qP hr));rw[Y9 e] at this;rcases kH.mp this with z|z
  ·exact absurd z hc
  ·exact z
def RS.skip(h:RS n s st fi W Rw T F C d a){u:LNt}{r:Z1x}{c:Rat}(hu:(queue s W)[a]?=some u)(hc:c≠0)(e:∀x,x<n->(r x:Rat)=c*xw n st fi u x)(hz:∀k∈C,dt n k r=0):RS n s st fi W Rw T F C d (a+1):=by
 refine⟨h.sp,h.rc.skip hu λw hw=>?_,h.len,h.lenT,h.mult⟩
 have:=(h.sp.holds (rt r)).mp (λk hk=>by rw[Je,hz k hk];rfl) w ((h.orth w).mp hw);rw[Y9 e] at this;rcases kH.mp this with z|z
 ·exact absurd z hc
 ·exact z
def RS.keep(h:RS n s st fi W Rw T F C d a){u:LNt}{r cg:Z1x}{c:Rat}{i g:Nat}(hu:(queue s W)[a]?=some u)(hc:c≠0)(e:∀x,x<n->(r x:Rat)=c*xw n st fi u x)(hi:C[i]?=some cg)(hg:F[i]?=some g)(hp:dt n cg r≠0):RS n s st fi (W++[u]) (Rw++[r]) (T++[g]) (F.eraseIdx i) ((C.eraseIdx i).map λc=>nar (dt n cg r) d (dt n c r) cg c) (dt n cg r) (a+1):=by
 refine⟨?_,h.rc.keep hu,by rw[qy,qy,h.len];rfl,by rw[qy,qy,h.lenT];rfl,λj v ρ hv hρ=>?_⟩
 ·rw[List.reverse_append];exact h.sp.take hi hg hp
 ·by_cases q:j<W.length
  ·rw[qJ q] at hv;rw[qJ (by rw[<-h.len];exact q)] at hρ;exact h.mult j v ρ hv hρ
  ·obtain⟨hl,_⟩:=qm.mp hv;have hj:j=W.length:=by
    rw[qy] at hl;simp at hl;omega
   subst hj;rw[qx (qr _),gA] at hv;rw[qx (by rw[h.len];exact qr _),h.len,gA] at hρ;cases hv;cases hρ;exact⟨c,hc,e⟩
def Sp.few{R:LZr}(h:Sp n R T F C d):T.length+F.length=n:=by
 have p:(T++F).Perm (List.range n):=by
  rw[List.perm_ext_iff_of_nodup h.nd List.nodup_range];intro x;rw[h.mem,List.mem_range]
 have:=p.length_eq;rw[qy,qA] at this;exact this
end
def zdE(j:Nat):(sg j).natAbs=1:=by
 unfold sg;split<;>rfl
theorem zbd{n B:Nat}:∀(R:LZr)(S:LNt),(∀r∈R,∀x,x<n->(r x).natAbs<=B)->(∀x∈S,x<n)->S.length<=n->(det R S).natAbs<=(n*B) ^ R.length
 |[],S,_,_,_=>by
  show(1:Int).natAbs<=1
  decide
 |r::R,S,hR,hS,hl=>by
  show(yq S.length λj=>sg j*(r (S.getD j 0)*det R (S.eraseIdx j))).natAbs<=_
  have h:=JA (f:=λj=>sg j*(r (S.getD j 0)*det R (S.eraseIdx j))) (B:=B*(n*B) ^ R.length) S.length λj hj=>by
   rw[q9,q9,zdE,nJ];refine ka (hR r (.head _) _ (hS _ ?_)) (zbd R _ (λq hq=>hR q (.tail _ hq)) (λx hx=>hS x (gq hx)) ?_)
   ·rw[kv,qp hj];exact gO hj
   ·rw[gB hj];omega
  refine qw h ?_;rw[qS,Nat.pow_succ,g0 ((n*B) ^ R.length),Nat.mul_assoc];exact gJ _ hl
def zjl{n B:Nat}(R:LZr)(S:LNt)(hR:∀r∈R,∀x,x<n->(r x).natAbs<=B)(hS:∀x∈S,x<n)(hl:S.length<=n)(x:Nat):(vec R S x).natAbs<=n*(n*B) ^ R.length:=by
 have h:=JA (f:=λj=>if S.getD j 0=x then sg j*det R (S.eraseIdx j) else 0) (B:=(n*B) ^ R.length) S.length λj hj=>by
  split
  ·rw[q9,zdE,nJ];refine zbd R _ hR (λx hx=>hS x (gq hx)) ?_;rw[gB hj];omega
  ·exact kE _
 exact qw h (gJ _ hl)
def zfo{e:Int}(h:e*e=1):e.natAbs=1:=by
 have:=qM Int.natAbs h;rw[q9] at this;have h1:e.natAbs*e.natAbs=1:=this;exact Nat.eq_one_of_mul_eq_one_left h1
section
variable{n B:Nat}{R:LZr}{T F:LNt}{C:LZr}{d:Int}
def Sp.znb(h:Sp n R T F C d):∀x∈T,x<n:=λx hx=>(h.mem x).mp (qg.mpr (.inl hx))
def Sp.VO(h:Sp n R T F C d)(hT:T.length<=n)(hR:∀r∈R,∀x,x<n->(r x).natAbs<=B):d.natAbs<=(n*B) ^ R.length:=by
 have⟨e,e1,e2,_⟩:=h.ex;rw[e2,q9,zfo e1,nJ];exact zbd R T hR h.znb hT
def Sp.VS(h:Sp n R T F C d)(hT:T.length+F.length=n)(hR:∀r∈R,∀x,x<n->(r x).natAbs<=B){i:Nat}{c:Z1x}(hc:C[i]?=some c):∀x,x<n->(c x).natAbs<=n*(n*B) ^ R.length:=λx hx=>by
 have⟨e,e1,e2,e3⟩:=h.ex;obtain⟨hi,_⟩:=qm.mp hc;rw[h.lenC] at hi;obtain⟨f,hf⟩:∃f,F[i]?=some f:=⟨_,qp hi⟩;rw[e3 i c f hc hf x hx,q9,q9,zfo e1,zdE,nJ];refine zjl R _ hR (h.lt hf) ?_ x;rw[qy];show T.length+1<=n
 omega
end
noncomputable def el(b:Q1x)(k:Nat)(r:Q1x):Nat->Rat:=λy=>r y - r k / b k*b y
noncomputable def pick(k:Nat):List (Nat->Rat)->Option ((Nat->Rat)×List (Nat->Rat))
 |[]=>none
 |q::Q=>if q k≠0 then some (q,Q) else (pick k Q).map λp=>(p.1,q::p.2)
noncomputable def rk:Nat->Nat->List (Nat->Rat)->Nat
 |0,_,_=>0
 |m+1,k,Q=>match pick k Q with
  |none=>rk m (k+1) Q
  |some p=>1+rk m (k+1) (p.2.map (el p.1 k))
def InQ(n:Nat)(L:LQr)(x:Q1x):Prop:=∀w:Nat->Rat,(∀l∈L,dq n w l=0)->dq n w x=0
theorem uv{k:Nat}:∀{Q:LQr},pick k Q=none->∀q∈Q,q k=0
 |[],_,q,h=>by cases h
 |p::Q,e,q,h=>by
  unfold pick at e;split at e
  ·cases e
  ·rename_i hp;have e2:pick k Q=none:=by
    cases z:pick k Q with
    |none=>rfl
    |some y=>rw[z] at e;cases e
   rcases qu.mp h with z|z
   ·rw[z];exact Classical.not_not.mp hp
   ·exact uv e2 q z
theorem uA{k:Nat}:∀{Q:LQr} {p:(Nat->Rat)×List (Nat->Rat)},pick k Q=some p->p.1 k≠0/\(p.1::p.2).Perm Q
 |[],p,e=>by cases e
 |q::Q,p,e=>by
  unfold pick at e;split at e
  ·rename_i hq;cases e;exact⟨hq,List.Perm.refl _⟩
  ·obtain⟨p',e1,e2⟩:∃p',pick k Q=some p'/\(p'.1,q::p'.2)=p:=by
    cases z:pick k Q with
    |none=>rw[z] at e;cases e
    |some y=>rw[z] at e;exact⟨y,rfl,by cases e;rfl⟩
   subst e2;have⟨h1,h2⟩:=uA e1;exact⟨h1,(List.Perm.swap q p'.1 p'.2).trans (h2.cons q)⟩
theorem Ua{k:Nat}{x:Q1x}:∀{Q:LQr} {p:(Nat->Rat)×List (Nat->Rat)},pick k Q=some p->pick k (Q++[x])=some (p.1,p.2++[x])
 |[],p,e=>by cases e
 |q::Q,p,e=>by
  unfold pick at e;show(if q k≠0 then some (q,Q++[x]) else (pick k (Q++[x])).map λp=>(p.1,q::p.2))=_
  by_cases hq:q k≠0
  ·rw[qf hq] at e ⊢;cases e;rfl
  ·rw[qq hq] at e ⊢;cases z:pick k Q with
   |none=>rw[z] at e;cases e
   |some y=>
    rw[z] at e;cases e;rw[Ua z];rfl
theorem Uc{k:Nat}{x:Q1x}:∀{Q:LQr},pick k Q=none->pick k (Q++[x])=if x k≠0 then some (x,Q) else none
 |[],_=>by
  show(if x k≠0 then some (x,[]) else (none:Option ((Nat->Rat)×List (Nat->Rat))).map _)=_
  by_cases h:x k≠0
  ·rw[qf h,qf h]
  ·rw[qq h,qq h];rfl
 |q::Q,e=>by
  have hq:¬q k≠0:=λz=>z (uv e q (.head _))
  unfold pick at e;rw[qq hq] at e;have e2:pick k Q=none:=by
   cases z:pick k Q with
   |none=>rfl
   |some y=>rw[z] at e;cases e
  show(if q k≠0 then some (q,Q++[x]) else (pick k (Q++[x])).map λp=>(p.1,q::p.2))=_
  rw[qq hq,Uc e2];by_cases h:x k≠0
  ·rw[qf h,qf h];rfl
  ·rw[qq h,qq h];rfl
def zfb{n:Nat}(w b r:Q1x)(k:Nat):dq n w (el b k r)=dq n w r - r k / b k*dq n w b:=by
 have h:=YT (n:=n) 1 (r k / b k) r b w;rw[zbr w r,zbr w b,zbr w (el b k r)];have e:dq n (el b k r) w=dq n (λx=>1*r x - r k / b k*b x) w:=zm n λx _=>by
  show(r x - r k / b k*b x)*w x=(1*r x - r k / b k*b x)*w x
  grind
 rw[e,h];grind
inductive Ech:Nat->List (Nat->Rat)->Prop
 |nil {k:Nat}:Ech k []
 |cons {k p:Nat} {b:Q1x} {P:LQr}:p<k->b p≠0->(∀y,y<p->b y=0)->Ech p P->Ech k (b::P)
def Ech.mono{k l:Nat}{P:LQr}(h:Ech k P)(hl:k<=l):Ech l P:=by
 cases h with
 |nil=>exact .nil
 |cons h1 h2 h3 h4=>exact .cons (by omega) h2 h3 h4
theorem Ech.solve{n:Nat}:∀{P:LQr} {k:Nat},Ech k P->k<=n->∀w:Nat->Rat,∃w':Nat->Rat,(∀y,k<=y->w' y=w y)/\∀b∈P,dq n w' b=0
 |[],_,_,_,w=>⟨w,λ_ _=>rfl,λb h=>by cases h⟩
 |b::P,k,h,hk,w=>by
  cases h with
  | @cons _ p _ _ h1 h2 h3 h4=>
   obtain⟨c,hc⟩:∃c:Rat,dq n (λy=>if y=p then c else w y) b=0:=by
    refine⟨w p - dq n w b / b p,?_⟩;have e:dq n (λy=>if y=p then w p - dq n w b / b p else w y) b=dq n w b+-(dq n w b / b p)*b p:=by
     generalize dq n w b / b p=t;show sumTo n (λy=>(if y=p then w p - t else w y)*b y)=sumTo n (λy=>w y*b y)+-t*b p
     have:∀m,p<m->sumTo m (λy=>(if y=p then w p - t else w y)*b y)=sumTo m (λy=>w y*b y)+-t*b p:=by
      intro m;induction m with
      |zero=>intro h;exact absurd h (kX _)
      |succ m ih=>
       intro hm;show sumTo m (λy=>(if y=p then w p - t else w y)*b y)+(if m=p then w p - t else w m)*b m=(sumTo m (λy=>w y*b y)+w m*b m)+-t*b p
       by_cases q:m=p
       ·subst q;rw[qf rfl,zm m (g:=λy=>w y*b y) λy hy=>by rw[qq (by omega)]];grind
       ·rw[qq q,ih (by omega)];grind
     exact this n (by omega)
    rw[e]
    have:dq n w b / b p*b p=dq n w b:=mj h2;grind
   obtain⟨w',hw,hP⟩:=Ech.solve (n:=n) h4 (show p<=n by omega) λy=>if y=p then c else w y
   refine⟨w',λy hy=>?_,λq hq=>?_⟩
   ·rw[hw y (by omega),qq (show ¬y=p by omega)]
   ·rcases qu.mp hq with z|z
    ·subst z;rw[<-hc];refine zm n λy _=>?_
     by_cases hy:y<p
     ·rw[h3 y hy,gp,gp]
     ·rw[hw y (by omega)]
    ·exact hP q z
structure El(n k:Nat)(L P Q:LQr):Prop where
 ech:Ech k P
 zero:∀q∈Q,∀y,y<k->q y=0
 span:∀w:Nat->Rat,(∀l∈L,dq n w l=0)↔(∀b∈P,dq n w b=0)/\∀q∈Q,dq n w q=0
def zk8{n:Nat}(L:LQr):El n 0 L [] L:=⟨.nil,λ_ _ y h=>absurd h (kX y),λw=>⟨λh=>⟨λb hb=>(by cases hb),h⟩,λh=>h.2⟩⟩
def El.skip{n k:Nat}{L P Q:LQr}(h:El n k L P Q)(e:pick k Q=none):El n (k+1) L P Q:=⟨h.ech.mono (nM k),λq hq y hy=>by
 by_cases z:y=k
 ·rw[z];exact uv e q hq
 ·exact h.zero q hq y (by omega),h.span⟩
def zlM{b r:Q1x}{k:Nat}(hb:b k≠0):el b k r k=0:=by
 show r k - r k / b k*b k=0
 rw[mj hb];grind
def zg4{b r:Q1x}{k y:Nat}(h1:r y=0)(h2:b y=0):el b k r y=0:=by
 show r y - r k / b k*b y=0
 rw[h1,h2];grind
def El.step{n k:Nat}{L P Q:LQr}(h:El n k L P Q){p:(Nat->Rat)×List (Nat->Rat)}(e:pick k Q=some p):El n (k+1) L (p.1::P) (p.2.map (el p.1 k)):=by
 have⟨h1,h2⟩:=uA e;have mb:p.1∈Q:=h2.mem_iff.mp (.head _);have mq:∀q∈p.2,q∈Q:=λq hq=>h2.mem_iff.mp (.tail _ hq)
 refine⟨.cons (kI k) h1 (h.zero p.1 mb) h.ech,λq hq y hy=>?_,λw=>?_⟩
 ·obtain⟨r,hr,rfl⟩:=ky.mp hq;by_cases z:y=k
  ·rw[z];exact zlM h1
  ·exact zg4 (h.zero r (mq r hr) y (by omega)) (h.zero p.1 mb y (by omega))
 ·rw[h.span w];constructor
  ·rintro⟨a1,a2⟩;refine⟨λb hb=>?_,λq hq=>?_⟩
   ·rcases qu.mp hb with z|z
    ·rw[z];exact a2 _ mb
    ·exact a1 b z
   ·obtain⟨r,hr,rfl⟩:=ky.mp hq;rw[zfb,a2 r (mq r hr),a2 _ mb];grind
  ·rintro⟨a1,a2⟩;refine⟨λb hb=>a1 b (.tail _ hb),λq hq=>?_⟩;rcases qu.mp (h2.mem_iff.mpr hq) with z|z
   ·rw[z];exact a1 _ (.head _)
   ·have:=a2 _ (ky.mpr ⟨q,z,rfl⟩);rw[zfb,a1 _ (.head _)] at this;grind
open Classical in
theorem zaA{n:Nat}{L:LQr}:∀(m k:Nat)(P Q:LQr)(x:Q1x),k+m=n->El n k L P Q->(∀y,y<k->x y=0)->rk m k (Q++[x])=rk m k Q+if InQ n L x then 0 else 1
 |0,k,P,Q,x,hm,h,hx=>by
  have:InQ n L x:=λw _=>by
   show sumTo n (λy=>w y*x y)=0
   rw[zm n (g:=λ_=>0) λy hy=>by rw[hx y (by omega)];exact gp _,xr]
  rw[qf this];rfl
 |m+1,k,P,Q,x,hm,h,hx=>by
  cases e:pick k Q with
  |some p=>
   have e':=Ua (x:=x) e;have⟨h1,h2⟩:=uA e
   have mb:p.1∈Q:=h2.mem_iff.mp (.head _);have l:rk (m+1) k (Q++[x])=1+rk m (k+1) ((p.2++[x]).map (el p.1 k)):=by
    show(match pick k (Q++[x]) with |none=>rk m (k+1) (Q++[x])|some p=>1+rk m (k+1) (p.2.map (el p.1 k)))=_
    rw[e']
   have r:rk (m+1) k Q=1+rk m (k+1) (p.2.map (el p.1 k)):=by
    show(match pick k Q with |none=>rk m (k+1) Q|some p=>1+rk m (k+1) (p.2.map (el p.1 k)))=_
    rw[e]
   have iff:InQ n L (el p.1 k x)↔InQ n L x:=by
    have q:∀w,(∀l∈L,dq n w l=0)->dq n w (el p.1 k x)=dq n w x:=λw hw=>by
     rw[zfb,((h.span w).mp hw).2 _ mb];grind
    exact⟨λz w hw=>by rw[<-q w hw];exact z w hw,λz w hw=>by rw[q w hw];exact z w hw⟩
   rw[l,r,qR,gr,pH,zaA m (k+1) (p.1::P) (p.2.map (el p.1 k)) (el p.1 k x) (by omega) (h.step e) λy hy=>?_]
   ·by_cases z:InQ n L x
    ·rw[qf z,qf (iff.mpr z)];omega
    ·rw[qq z,qq λq=>z (iff.mp q)];omega
   ·by_cases z:y=k
    ·rw[z];exact zlM h1
    ·exact zg4 (hx y (by omega)) (h.zero p.1 mb y (by omega))
  |none=>
   have e':=Uc (x:=x) e;have r:rk (m+1) k Q=rk m (k+1) Q:=by
    show(match pick k Q with |none=>rk m (k+1) Q|some p=>1+rk m (k+1) (p.2.map (el p.1 k)))=_
    rw[e]
   by_cases z:x k=0
   ·rw[qq λq=>q z] at e';have l:rk (m+1) k (Q++[x])=rk m (k+1) (Q++[x]):=by
     show(match pick k (Q++[x]) with |none=>rk m (k+1) (Q++[x])|some p=>1+rk m (k+1) (p.2.map (el p.1 k)))=_
     rw[e']
    rw[l,r];exact zaA m (k+1) P Q x (by omega) (h.skip e) λy hy=>by
     by_cases q:y=k
     ·rw[q];exact z
     ·exact hx y (by omega)
   ·rw[qf z] at e';have l:rk (m+1) k (Q++[x])=1+rk m (k+1) (Q.map (el x k)):=by
     show(match pick k (Q++[x]) with |none=>rk m (k+1) (Q++[x])|some p=>1+rk m (k+1) (p.2.map (el p.1 k)))=_
     rw[e']
    have same:Q.map (el x k)=Q:=by
     conv=>rhs;rw[<-List.map_id Q]
     refine k7 λq hq=>?_
     funext y
     show q y - q k / x k*x y=q y
     rw[uv e q hq];grind
    have no:¬InQ n L x:=λhin=>by
     obtain⟨w',hw,hP⟩:=Ech.solve (n:=n) h.ech (show k<=n by omega) λy=>if y=k then 1 else 0
     have hq:∀q:Nat->Rat,(∀y,y<k->q y=0)->dq n w' q=q k:=λq h0=>by
      show sumTo n (λy=>w' y*q y)=q k
      rw[wd _ (j:=k) n (by omega) λy hy hne=>?_]
      ·rw[hw k (qr k),qf rfl];grind
      ·by_cases hlt:y<k
       ·rw[h0 y hlt,gp]
       ·rw[hw y (by omega),qq hne,kC]
     have:=hin w' ((h.span w').mpr ⟨hP,λq hm=>by rw[hq q (h.zero q hm)];exact uv e q hm⟩);rw[hq x hx] at this;exact z this
    rw[l,r,same,qq no];omega
open Classical in
def zfK{n:Nat}(L:LQr)(x:Q1x):rk n 0 (L++[x])=rk n 0 L+if InQ n L x then 0 else 1:=zaA n 0 [] L x (by omega) (zk8 L) λy h=>absurd h (kX y)
def zfv{n:Nat}(L:LQr)(x:Q1x):rk n 0 (L++[x])=rk n 0 L↔InQ n L x:=by
 classical
 rw[zfK];by_cases z:InQ n L x
 ·rw[qf z];exact⟨λ_=>z,λ_=>rfl⟩
 ·rw[qq z];exact⟨λq=>absurd q (by omega),λq=>absurd q z⟩
structure Eb(n B X:Nat)(Q:LQr)(R:LZr)(T F:LNt)(C:LZr)(d:Int):Prop where
 sp:Sp n R T F C d
 rb:∀r∈R,∀x,x<n->(r x).natAbs<=B
 lenT:R.length=T.length
 qs:∀q∈Q,∃(l:Z1x)(M:Nat),0<M/\M<=X/\(∀x,x<n->(l x).natAbs<=B)/\(∀t∈T,q t=0)/\∀w:Nat->Rat,(∀r∈R,dq n w (rt r)=0)->dq n w (rt l)=(M:Rat)*dq n w q
def zkz{n B X:Nat}{L:LQr}(h:∀q∈L,∃(l:Z1x)(M:Nat),0<M/\M<=X/\∀x,x<n->(l x).natAbs<=B/\(l x:Rat)=(M:Rat)*q x):Eb n B X L [] [] (List.range n) ((List.range n).map xB) 1 where
 sp:=zdz n
 rb:=λr hr=>by cases hr
 lenT:=rfl
 qs:=λq hq=>by
  have⟨l,M,h1,h2,h3⟩:=h q hq;refine⟨l,M,h1,h2,λx hx=>(h3 x hx).1,λt ht=>(by cases ht),λw _=>?_⟩;show sumTo n (λx=>w x*(l x:Rat))=(M:Rat)*sumTo n λx=>w x*q x
  rw[zm n (g:=λx=>w x*q x*(M:Rat)) λx hx=>by rw[(h3 x hx).2];grind,yt];exact gx _ _
section
variable{n B X:Nat}{Q:LQr}{R:LZr}{T F:LNt}{C:LZr}{d:Int}
def Eb.dot(h:Eb n B X Q R T F C d){q:Q1x}(hT:∀t∈T,q t=0){i f:Nat}{c:Z1x}(hc:C[i]?=some c)(hf:F[i]?=some f):dq n (rt c) q=(d:Rat)*q f:=by
 have⟨f1,f2⟩:=h.sp.free hf;show sumTo n (λx=>(c x:Rat)*q x)=_
 rw[wd _ n f1 λx hx hne=>?_,h.sp.at hc hf];by_cases ht:x∈T
 ·rw[hT x ht,gp]
 ·rw[h.sp.out hc hf hx ht hne];exact kC _
def Eb.zj5(h:Eb n B X Q R T F C d){i f:Nat}{c:Z1x}(hc:C[i]?=some c)(hf:F[i]?=some f):∀r∈R,dq n (rt c) (rt r)=0:=λr hr=>by
 rw[Je,h.sp.orth hc hf hr];rfl
def zlB{n K B:Nat}{c l:Z1x}(hc:∀x,x<n->(c x).natAbs<=K)(hl:∀x,x<n->(l x).natAbs<=B):(dt n c l).natAbs<=n*(K*B):=by
 have:∀m,m<=n->(dt m c l).natAbs<=m*(K*B):=by
  intro m;induction m with
  |zero=>intro _;exact kE _
  |succ m ih=>
   intro hm;show(dt m c l+c m*l m).natAbs<=_
   have h1:=ih (by omega);have h2:(c m*l m).natAbs<=K*B:=by
    rw[q9];exact ka (hc m (by omega)) (hl m (by omega))
   rw[gH];omega
 exact this n (qr n)
def Eb.num(h:Eb n B X Q R T F C d){q:Q1x}(hq:q∈Q):∃M:Nat,0<M/\M<=X/\∀x,x<n->∃S:Int,q x*((M:Rat)*(d:Rat))=(S:Rat)/\S.natAbs<=n*((n*(n*B) ^ R.length)*B):=by
 have⟨l,M,h1,h2,h3,h4,h5⟩:=h.qs q hq;refine⟨M,h1,h2,λx hx=>?_⟩;rcases qg.mp ((h.sp.mem x).mpr hx) with z|z
 ·exact⟨0,by rw[h4 x z];exact kC _,kE _⟩
 ·obtain⟨i,hi⟩:=ku z;have hi':i<C.length:=by rw[h.sp.lenC];exact(qm.mp hi).1
  have hc:C[i]?=some C[i]:=qp hi';refine⟨dt n C[i] l,?_,zlB (h.sp.VS h.sp.few h.rb hc) h3⟩;have e1:=h5 (rt C[i]) (h.zj5 hc hi)
  rw[h.dot h4 hc hi,Je] at e1;rw[e1];grind
def Eb.znf(h:Eb n B X Q R T F C d):R.length<=n:=by
 have:=h.sp.few
 have:=h.lenT;omega
def Eb.dabs(h:Eb n B X Q R T F C d):d.natAbs<=(n*B) ^ R.length:=h.sp.VO (by have:=h.sp.few;omega) h.rb
def Eb.step(h:Eb n B X Q R T F C d){k:Nat}(hk:k<n){p:(Nat->Rat)×List (Nat->Rat)}(e:pick k Q=some p):∃R' T' F' C' d',Eb n B X (p.2.map (el p.1 k)) R' T' F' C' d'/\R'.length=R.length+1:=by
 have⟨h1,h2⟩:=uA e;have mb:p.1∈Q:=h2.mem_iff.mp (.head _);have mq:∀q∈p.2,q∈Q:=λq hq=>h2.mem_iff.mp (.tail _ hq)
 have⟨l,M,M0,MX,lB,lT,lw⟩:=h.qs p.1 mb;have kF:k∈F:=(qg.mp ((h.sp.mem k).mpr hk)).resolve_left λz=>h1 (lT k z)
 obtain⟨i,hi⟩:=ku kF;have hi':i<C.length:=by rw[h.sp.lenC];exact(qm.mp hi).1
 have hc:C[i]?=some C[i]:=qp hi';have hM:(M:Rat)≠0:=xV M0
 have hd:(d:Rat)≠0:=λz=>h.sp.d0 (by exact_mod_cast z)
 have e1:=lw (rt C[i]) (h.zj5 hc hi);rw[h.dot lT hc hi,Je] at e1;have hp:dt n C[i] l≠0:=λz=>by
  rw[z] at e1;rcases kH.mp (show(M:Rat)*((d:Rat)*p.1 k)=0 from e1.symm) with z|z
  ·exact hM z
  ·rcases kH.mp z with z|z
   ·exact hd z
   ·exact h1 z
 refine⟨_,_,_,_,_,⟨h.sp.take hc hi hp,λr hr x hx=>?_,by rw[qS,qy,h.lenT];rfl,λq hq=>?_⟩,rfl⟩
 ·rcases qu.mp hr with z|z
  ·rw[z];exact lB x hx
  ·exact h.rb r z x hx
 ·obtain⟨r,hr,rfl⟩:=ky.mp hq;obtain⟨l',M',a1,a2,a3,a4,a5⟩:=h.qs r (mq r hr);refine⟨l',M',a1,a2,a3,λt ht=>?_,λw hw=>?_⟩
  ·rcases qg.mp ht with z|z
   ·exact zg4 (a4 t z) (lT t z)
   ·rw[qE.mp z];exact zlM h1
  ·have w1:=a5 w λr' hr'=>hw r' (.tail _ hr')
   have w2:=lw w λr' hr'=>hw r' (.tail _ hr')
   rw[hw l (.head _)] at w2;have w3:dq n w p.1=0:=(kH.mp w2.symm).resolve_left hM;rw[w1,zfb,w3];grind
end
noncomputable def lsum(f:Q1x):List Nat->Rat
 |[]=>0
 |j::r=>f j+lsum f r
noncomputable def zgZ(n:Nat)(st:Q3x)(la:Q1x):List Nat->Nat->Rat
 |[]=>la
 |g::v=>λa=>sumTo n λb=>st g a b*zgZ n st la v b
section
variable{n s:Nat}{st:Q3x}{fi la:Q1x}
theorem uV(st:Q3x)(la:Q1x):∀v:List Nat,xw n (λg a b=>st g b a) la v.reverse=zgZ n st la v
 |[]=>rfl
 |g::v=>by
  rw[List.reverse_cons,VX,uV st la v];funext a;exact zm n λb _=>gx _ _
end
end WD.DT
namespace L2.Fu
open PySem PySem.Spec PyProof.Rows
def ug:RFx:=(sq (zT 1 (cst (.int 0)))
 (sq (jw (yw (gv 0)) (bN 2) (zT 1 (zf yZ (aC (gv 2) (aC (gv 1) a0)))))
 (sq (ifS (zB (op2 ltI (gv 1) (cst (.int 2)))) (Uo (yQ ju (aC (gv 0) a0))) s0)
 (Uo (zU 1 [1] (yw (gv 0)) (bN 0) (op2 yj (gv 0) (gv 1)))))))
def xp:LLx:=fnL 3 1 ug
def Wd:RFx:=(Uo (yQ xp (aC (yo (yQ jf (aC (gv 0) (aC (zf xi (aC (gv 0) a0)) a0)))) a0)))
def zZ:LLx:=fnL 1 1 Wd
def YH:RFx:=(sq (x5 2 (zh3 (vo (aC (cst (.int 0)) a0)) (gv 1)))
 (sq (siS 2 (gv 0) (cst (.int 1)))
 (Uo (gk 2))))
def wo:LLx:=fnL 3 2 YH
def Y4:RFx:=(Uo (zU 2 [1,3,4] (Uu false false (aC (gv 0) (aC (gv 2) a0))) (b2 (bN 0) (bN 1)) (op2 yj (op2 VR (op2 yR (gv 3) (gv 0)) (op2 yR (gv 2) (gv 1))) (gv 4))))
def uB:LLx:=fnL 5 5 Y4
def Vv:RFx:=(sq (exS (zf vK (aC (gv 0) (aC (gv 1) a0))))
 (retS (zf Ze (aC (gv 0) (aC (xu (aC (op2 ixD (gv 1) (cst (.int 0))) (aC (op2 ixD (gv 1) (cst (.int 1))) (aC (zf u7 (aC (op2 ixD (gv 1) (cst (.int 2))) (aC (cst (.tuple [.int (-1),.int 1])) a0))) a0)))) a0)))))
def jr:LPx:=fnF 2 2 Vv
inductive Fs where
 |pu (d:PdX)|ow (ds:LPd)|ob (C:AdX) (fs:List (Str×Fs))
mutual
inductive FOk(K:FRx)(H:Hp)(os:LAd):V->Fs->List Addr->Prop
 |pu {v:V} {d:PdX}:Rep K (offs H os) v d->FOk K H os v (.pu d) []
 |ow {a:AdX} {xs:List V} {ds:LPd}:H a=some (.lst xs)->Reps K (offs H os) xs ds->FOk K H os (.ref a) (.ow ds) [a]
 |ob {p C dx:AdX} {vs:List (Str×V)} {fs:List (Str×Fs)} {A:LAd}:H p=some (.ins C dx vs)->xg K H os vs fs A->FOk K H os (.ref p) (.ob C fs) (p::A)
inductive xg(K:FRx)(H:Hp)(os:LAd):List (Str×V)->List (Str×Fs)->List Addr->Prop
 |nil:xg K H os [] [] []
 |cons {x:Str} {v:V} {c:Fs} {vs:List (Str×V)} {fs:List (Str×Fs)} {A B:LAd}:FOk K H os v c A->xg K H os vs fs B->xg K H os ((x,v)::vs) ((x,c)::fs) (A++B)
end
section
variable{K:FRx}{H H':Hp}{os os':LAd}
mutual
theorem FOk.keep(s:Same (offs H os) (offs H' os')):∀{v:V} {c:Fs} {A:LAd},FOk K H os v c A->(∀a∈A,H' a=H a)->FOk K H' os' v c A
 |_,_,_,.pu r,_=>.pu (r.same s)
 |_,_,_,.ow h r,q=>.ow (by rw[q _ (.head _)];exact h) (r.same s)
 |_,_,_,.ob h r,q=>.ob (by rw[q _ (.head _)];exact h) (xg.keep s r λa ha=>q a (.tail _ ha))
theorem xg.keep(s:Same (offs H os) (offs H' os')):∀{vs:List (Str×V)} {fs:List (Str×Fs)} {A:LAd},xg K H os vs fs A->(∀a∈A,H' a=H a)->xg K H' os' vs fs A
 |_,_,_,.nil,_=>.nil
 |_,_,_,.cons h r,q=>.cons (FOk.keep s h λa ha=>q a (qg.mpr (.inl ha))) (xg.keep s r λa ha=>q a (qg.mpr (.inr ha)))
end
mutual
theorem FOk.has:∀{v:V} {c:Fs} {A:LAd},FOk K H os v c A->∀a∈A,∃o,H a=some o
 |_,_,_,.pu _,a,h=>by cases h
 |_,_,_,.ow h _,a,ha=>by rw[qE.mp ha];exact⟨_,h⟩
 |_,_,_,.ob h r,a,ha=>by
  rcases qu.mp ha with z|z
  ·rw[z];exact⟨_,h⟩
  ·exact xg.has r a z
theorem xg.has:∀{vs:List (Str×V)} {fs:List (Str×Fs)} {A:LAd},xg K H os vs fs A->∀a∈A,∃o,H a=some o
 |_,_,_,.nil,a,h=>by cases h
 |_,_,_,.cons h r,a,ha=>by
  rcases qg.mp ha with z|z
  ·exact FOk.has h a z
  ·exact xg.has r a z
end
def FOk.same(e:Same H H'){v:V}{c:Fs}{A:LAd}(h:FOk K H os v c A):FOk K H' os v c A:=h.keep (zl e os) λa ha=>by
 have⟨o,q⟩:=h.has a ha;rw[q];exact e a o q
noncomputable def fld(x:Str):List (Str×Fs)->Option Fs
 |[]=>none
 |(y,c)::fs=>if x=y then some c else fld x fs
theorem xg.look{x:Str}:∀{vs:List (Str×V)} {fs:List (Str×Fs)} {A:LAd} {c:Fs},xg K H os vs fs A->fld x fs=some c->∃v B,vs.lookup x=some v/\FOk K H os v c B/\∀a∈B,a∈A
 |_,_,_,_,.nil,q=>by cases q
 |_,_,_,c,@xg.cons _ _ _ y v c' vs fs A B h r,q=>by
  unfold fld at q;by_cases z:x=y
  ·rw[qf z] at q;cases q;refine⟨v,A,?_,h,λa ha=>qg.mpr (.inl ha)⟩;rw[kj,show(x==y)=true from gL.mpr z]
  ·rw[qq z] at q;have⟨v',B',h1,h2,h3⟩:=xg.look r q;refine⟨v',B',?_,h2,λa ha=>qg.mpr (.inr (h3 a ha))⟩;rw[kj,show(x==y)=false from kK.mpr z];exact h1
theorem xg.nolook{x:Str}:∀{vs:List (Str×V)} {fs:List (Str×Fs)} {A:LAd},xg K H os vs fs A->fld x fs=none->vs.lookup x=none
 |_,_,_,.nil,_=>rfl
 |_,_,_,@xg.cons _ _ _ y v c' vs fs A B h r,q=>by
  unfold fld at q;by_cases z:x=y
  ·rw[qf z] at q;cases q
  ·rw[qq z] at q;rw[kj,show(x==y)=false from kK.mpr z];exact xg.nolook r q
end
structure vL(K:FRx)(C:AdX)(ℓ:Nat)(H:Hp)(os:LAd)(σ:St)(ρ:Ro)(fs:List (Str×Fs)):Prop where
 rel:xl K H os σ ρ
 ob:∃p A,σ[ℓ]?=some (some (.ref p))/\FOk K H os (.ref p) (.ob C fs) A/\∀a∈A,a∈os
def vL.same{K:FRx}{C:AdX}{ℓ:Nat}{H H':Hp}{os:LAd}{σ:St}{ρ:Ro}{fs:List (Str×Fs)}(h:vL K C ℓ H os σ ρ fs)(e:Same H H'):vL K C ℓ H' os σ ρ fs:=by
 have⟨p,A,h1,h2,h3⟩:=h.ob;exact⟨h.rel.same e,p,A,h1,h2.same e,h3⟩
abbrev Ob:=List (Str×Fs)
abbrev OPx:=Ro->Ob->Option PyData
abbrev OLx:=Ro->Ob->Option (List PyData)
abbrev MFx:=Ob->List PyData->Option (PyData×Ob)
def GE(X:Cx)(C:AdX)(ℓ:Nat)(e:Expr)(f:Ro->Ob->Option PyData):Prop:=∃t:TE,PE X e t/\∀(σ:St)(H:Hp)(os:LAd)(ρ:Ro)(fs:Ob)(d:PdX)(Q:VK),vL X.K C ℓ H os σ ρ fs->f ρ fs=some d->(∀v H',Same H H'->Rep X.K (offs H' os) v d->Q v H')->t σ H Q
def GB(X:Cx)(C:AdX)(ℓ:Nat)(e:Expr)(f:OPx):Prop:=∃t:TE,PE X e t/\∀(σ:St)(H:Hp)(os:LAd)(ρ:Ro)(fs:Ob)(d:PdX)(Q:VK),vL X.K C ℓ H os σ ρ fs->f ρ fs=some d->(∀v H',Same H H'->jH X.K H' os v d->Q v H')->t σ H Q
def GL(X:Cx)(C:AdX)(ℓ:Nat)(e:Expr)(f:OLx):Prop:=∃t:TE,PE X e t/\∀(σ:St)(H:Hp)(os:LAd)(ρ:Ro)(fs:Ob)(ds:LPd)(Q:VK),vL X.K C ℓ H os σ ρ fs->f ρ fs=some ds->
  (∀a xs H',H a=none->Same H H'->H' a=some (.lst xs)->Reps X.K (offs H' (a::os)) xs ds->Q (.ref a) H')->t σ H Q
def GT(X:Cx)(C:AdX)(ℓ:Nat)(e:Expr)(f:Ro->Ob->Option Bool):Prop:=∃t:TT,PT X e t/\∀(σ:St)(H:Hp)(os:LAd)(ρ:Ro)(fs:Ob)(b:Bool)(Q:Bool->Hp->Prop),vL X.K C ℓ H os σ ρ fs->f ρ fs=some b->(∀H',Same H H'->Q b H')->t σ H Q
section
variable{X:Cx}{C:AdX}{ℓ:Nat}{e a b:Expr}{pos:Pos}
def FE.ge{f:RPx}(h:FE X e f):GE X C ℓ e (λρ _=>f ρ):=by
 have⟨t,p,q⟩:=h;exact⟨t,p,λσ H os ρ fs d Q R e k=>q σ H os ρ d Q R.rel e k⟩
def FB.gb{f:RPx}(h:FB X e f):GB X C ℓ e (λρ _=>f ρ):=by
 have⟨t,p,q⟩:=h;exact⟨t,p,λσ H os ρ fs d Q R e k=>q σ H os ρ d Q R.rel e k⟩
def FL.gl{f:RLx}(h:FL X e f):GL X C ℓ e (λρ _=>f ρ):=by
 have⟨t,p,q⟩:=h;exact⟨t,p,λσ H os ρ fs d Q R e k=>q σ H os ρ d Q R.rel e k⟩
def FT.gt{f:Ro->Option Bool}(h:FT X e f):GT X C ℓ e (λρ _=>f ρ):=by
 have⟨t,p,q⟩:=h;exact⟨t,p,λσ H os ρ fs d Q R e k=>q σ H os ρ d Q R.rel e k⟩
def GE.gb{f:OPx}(h:GE X C ℓ e f):GB X C ℓ e f:=by
 have⟨t,p,q⟩:=h;exact⟨t,p,λσ H os ρ fs d Q R e k=>q σ H os ρ fs d Q R e λv H' s r=>k v H' s (.inl r)⟩
def gf(x:Str):OPx:=λ_ fs=>match fld x fs with |some (.pu d)=>some d|_=>none
def gg(x:Str):OPx:=λ_ fs=>match fld x fs with |some (.pu d)=>some d|some (.ow ds)=>some (.list ds)|_=>none
def zaH{x f:Str}{p:Pos}(cl:Cls X.K C)(na:zS X.K C f)(hN:X.N[ℓ]?=some x:=by rfl)(hv:Vis X.env.scope x:=by trivial)(hd:NDx x:=by decide)(hcd:NCx x:=by decide)(hb:ABx X (.Name x p) f:=by rfl):GE X C ℓ (.Attribute (.Name x p) f pos) (gf f):=by
 refine⟨_,wY (yu (i:=ℓ) hN hv hd hcd) hb,λσ H os ρ fs d Q R e k=>?_⟩;have⟨q,A,h1,h2,h3⟩:=R.ob;cases h2 with
 |ob hp r=>
  unfold gf at e;split at e
  ·rename_i d' ef;cases e;have⟨v,B,l,o,_⟩:=r.look ef;cases o with
   |pu rv=>exact⟨_,h1,_,_,_,_,_,rfl,hp,cl,na,l,k _ H (Same.refl H) rv⟩
  ·cases e
def wz{x f:Str}{p:Pos}(cl:Cls X.K C)(na:zS X.K C f)(hN:X.N[ℓ]?=some x:=by rfl)(hv:Vis X.env.scope x:=by trivial)(hd:NDx x:=by decide)(hcd:NCx x:=by decide)(hb:ABx X (.Name x p) f:=by rfl):GB X C ℓ (.Attribute (.Name x p) f pos) (gg f):=by
 refine⟨_,wY (yu (i:=ℓ) hN hv hd hcd) hb,λσ H os ρ fs d Q R e k=>?_⟩;have⟨q,A,h1,h2,h3⟩:=R.ob;cases h2 with
 |ob hp r=>
  unfold gg at e;split at e
  ·rename_i d' ef;cases e;have⟨v,B,l,o,_⟩:=r.look ef;cases o with
   |pu rv=>exact⟨_,h1,_,_,_,_,_,rfl,hp,cl,na,l,k _ H (Same.refl H) (.inl rv)⟩
  ·rename_i ds ef;cases e;have⟨v,B,l,o,_⟩:=r.look ef;cases o with
   |ow ha rv=>exact⟨_,h1,_,_,_,_,_,rfl,hp,cl,na,l,k _ H (Same.refl H) (.inr ⟨_,_,_,rfl,rfl,ha,rv⟩)⟩
  ·cases e
end
structure MSt(K:FRx)(C:AdX)(ℓ:Nat)(H0:Hp)(os0:LAd)(p:AdX)(H:Hp)(os:LAd)(σ:St)(ρ:Ro)(fs:Ob):Prop where
 sr:SRo K H0 os0 H os σ ρ
 self:σ[ℓ]?=some (some (.ref p))
 ob:∃A,FOk K H os (.ref p) (.ob C fs) A/\A.Nodup/\(∀a∈A,a∈os/\H0 a=none)/\∀(j:Nat)(c:Sl),ρ[j]?=some c->isM c=true->∀a∈A,σ[j]?≠some (some (.ref a))
inductive Flo where
 |nx (ρ:Ro) (fs:Ob)|rt (d:PdX) (fs:Ob)|rf (d:PdX)
abbrev OFx:=Ro->Ob->Option Flo
structure zcM(K:FRx)(C:AdX)(H0:Hp)(os0:LAd)(p:AdX)(H:Hp)(os:LAd)(fs:Ob):Prop where
 sm:Same H0 H
 sub:∀a∈os0,a∈os
 new:∀a∈os,a∈os0\/H0 a=none
 al:Al H os
 ob:∃A,FOk K H os (.ref p) (.ob C fs) A/\A.Nodup/\∀a∈A,a∈os/\H0 a=none
def ZP(K:FRx)(C:AdX)(ℓ:Nat)(H0:Hp)(os0:LAd)(p:AdX)(D:Ends):Flo->Prop
 | .nx ρ fs=>∀σ H os,MSt K C ℓ H0 os0 p H os σ ρ fs->D.nx σ H
 | .rt d fs=>∀v H os,zcM K C H0 os0 p H os fs->Rep K (offs H os) v d->D.rt v H
 | .rf d=>∀v H,Same H0 H->Rep K (offs H os0) v d->D.rt v H
def OS(X:Cx)(C:AdX)(ℓ:Nat)(st:Stmt)(f:OFx):Prop:=∃t:TS,PS X st t/\∀(H0:Hp)(os0:LAd)(p:AdX)(D:Ends)(σ:St)(H:Hp)(os:LAd)(ρ:Ro)(fs:Ob)(r:Flo),MSt X.K C ℓ H0 os0 p H os σ ρ fs->f ρ fs=some r->ZP X.K C ℓ H0 os0 p D r->t D σ H
def OSs(X:Cx)(C:AdX)(ℓ:Nat)(sts:List Stmt)(f:OFx):Prop:=∃t:TS,PSs X sts t/\∀(H0:Hp)(os0:LAd)(p:AdX)(D:Ends)(σ:St)(H:Hp)(os:LAd)(ρ:Ro)(fs:Ob)(r:Flo),MSt X.K C ℓ H0 os0 p H os σ ρ fs->f ρ fs=some r->ZP X.K C ℓ H0 os0 p D r->t D σ H
section
variable{K:FRx}{C:AdX}{ℓ:Nat}{H0 H H':Hp}{os0 os:LAd}{p:AdX}{σ:St}{ρ:Ro}{fs:Ob}
def MSt.v7(h:MSt K C ℓ H0 os0 p H os σ ρ fs):vL K C ℓ H os σ ρ fs:=by
 have⟨A,h1,h2,h3,h4⟩:=h.ob;exact⟨h.sr.rel,p,A,h.self,h1,λa ha=>(h3 a ha).1⟩
def MSt.same(h:MSt K C ℓ H0 os0 p H os σ ρ fs)(e:Same H H'):MSt K C ℓ H0 os0 p H' os σ ρ fs:=by
 have⟨A,h1,h2,h3,h4⟩:=h.ob;exact⟨h.sr.same e,h.self,A,h1.same e,h2,h3,h4⟩
def MSt.end(h:MSt K C ℓ H0 os0 p H os σ ρ fs):zcM K C H0 os0 p H os fs:=by
 have⟨A,h1,h2,h3,h4⟩:=h.ob;exact⟨h.sr.sm,h.sr.sub,h.sr.new,h.sr.rel.al,A,h1,h2,h3⟩
def MSt.set(h:MSt K C ℓ H0 os0 p H os σ ρ fs){i:Nat}{v:V}{d:PdX}(hi:i≠ℓ)(r:Rep K (offs H os) v d):MSt K C ℓ H0 os0 p H os (σ.set i (some v)) (ρ.set i (.pu d)) fs:=by
 have⟨A,h1,h2,h3,h4⟩:=h.ob;refine⟨h.sr.set r,by rw[qG hi];exact h.self,A,h1,h2,h3,λj c q m a ha z=>?_⟩;have⟨hj,q⟩:=j5 q m;rw[qG hj] at z;exact h4 j c q m a ha z
def MSt.ZA(h:MSt K C ℓ H0 os0 p H os σ ρ fs){i:Nat}{a:AdX}{xs:List V}{ds:LPd}(hi:i≠ℓ)(n:H a=none)(s:Same H H')(hx:H' a=some (.lst xs))(r:Reps K (offs H' (a::os)) xs ds):MSt K C ℓ H0 os0 p H' (a::os) (σ.set i (some (.ref a))) (ρ.set i (.ow ds)) fs:=by
 have⟨A,h1,h2,h3,h4⟩:=h.ob;have nA:a∉A:=λz=>by
  have⟨o,e⟩:=h1.has a z;rw[n] at e;cases e
 refine⟨h.sr.ZA n s hx r,by rw[qG hi];exact h.self,A,h1.keep (vj n s) λb hb=>?_,h2,λb hb=>⟨qz _ (h3 b hb).1,(h3 b hb).2⟩,λj c q m b hb z=>?_⟩
 ·have⟨o,e⟩:=h1.has b hb;rw[e];exact s b o e
 ·rcases zX q with⟨rfl,hl,rfl⟩|⟨hj,q⟩
  ·rw[kn (by rw[h.sr.rel.len];exact hl)] at z;cases z;exact nA hb
  ·rw[qG hj] at z;exact h4 j c q m b hb z
def MSt.chg(h:MSt K C ℓ H0 os0 p H os σ ρ fs){i:Nat}{a:AdX}{ys:List V}{ds es:LPd}(q:ρ[i]?=some (.ow ds))(e:σ[i]?=some (some (.ref a)))(r:Reps K (offs H os) ys es):MSt K C ℓ H0 os0 p (upd H a (.lst ys)) os σ (ρ.set i (.ow es)) fs:=by
 have⟨A,h1,h2,h3,h4⟩:=h.ob;have nA:a∉A:=λz=>h4 i _ q rfl a z e
 have⟨a',xs,e',ha,hx,_⟩:=h.sr.rel.ow i ds q;rw[e] at e';cases e';refine⟨h.sr.chg q e r,h.self,A,h1.keep (by rw[yP ha];exact Same.refl _) λb hb=>by rw[zN λz=>nA (by rw[<-z];exact hb)],h2,h3,λj c q' m b hb z=>?_⟩;rcases zX q' with⟨rfl,hl,rfl⟩|⟨hj,q'⟩
 ·rw[e] at z;cases z;exact nA hb
 ·exact h4 j c q' m b hb z
end
section
variable{X:Cx}{C:AdX}{ℓ:Nat}{st:Stmt}{rest:List Stmt}{f g:OFx}{e:Expr}{pos:Pos}
noncomputable def osq(f g:OFx):OFx:=λρ fs=>match f ρ fs with |some (.nx ρ' fs')=>g ρ' fs'|r=>r
noncomputable def os0:OFx:=λρ fs=>some (.nx ρ fs)
def uX:OSs X C ℓ [] os0:=⟨_,ze1,λ_ _ _ _ _ _ _ _ _ _ R q k=>by cases q;exact k _ _ _ R⟩
def yN(h:OS X C ℓ st f):OSs X C ℓ [st] f:=by
 have⟨t,p,q⟩:=h;exact⟨t,zaK p,q⟩
def zK(h:OS X C ℓ st f)(h2:OSs X C ℓ rest g):OSs X C ℓ (st::rest) (osq f g):=by
 have⟨t,p,q⟩:=h;have⟨t2,p2,q2⟩:=h2;refine⟨_,uw p p2,λH0 os0 p D σ H os ρ fs r R e k=>?_⟩;unfold osq at e;split at e
 ·rename_i ρ' fs' e1;exact q H0 os0 p { D with nx:=t2 D } σ H os ρ fs _ R e1 λσ' H' os' R'=>q2 H0 os0 p D σ' H' os' ρ' fs' r R' e k
 ·cases r with
  |nx ρ' fs'=>rename_i hn;exact absurd e (hn ρ' fs')
  |rt d fs'=>exact q H0 os0 p { D with nx:=t2 D } σ H os ρ fs _ R e k
  |rf d=>exact q H0 os0 p { D with nx:=t2 D } σ H os ρ fs _ R e k
noncomputable def oset(i:Nat)(f:OPx):OFx:=λρ fs=>(f ρ fs).bind λd=>some (.nx (ρ.set i (.pu d)) fs)
def YD(i:Nat){x:Str}{pos':Pos}{f:OPx}(hN:X.N.Nodup)(he:GE X C ℓ e f)(h0:i≠ℓ:=by decide)(hi:X.N[i]?=some x:=by rfl)(hx:Loc X.env.scope x:=by trivial)(hs:swapsWith e (some (.Name x pos')) pos.line X.env=pure false:=by rfl)(hf:FNx X x:=by trivial):OS X C ℓ (.Assign [.Name x pos'] e pos) (oset i f):=by
 have⟨t,p,q⟩:=he;refine⟨_,wA hN hi hx p hs hf,λH0 os0 p D σ H os ρ fs r R e k=>?_⟩;have⟨d,e1,e2⟩:=bind_some e;cases e2;exact q σ H os ρ fs d _ R.v7 e1 λv H' s rv=>k _ _ _ ((R.same s).set h0 rv)
noncomputable def J7(i:Nat)(f:OLx):OFx:=λρ fs=>(f ρ fs).bind λd=>some (.nx (ρ.set i (.ow d)) fs)
def zi9(i:Nat){x:Str}{pos':Pos}{f:OLx}(hN:X.N.Nodup)(he:GL X C ℓ e f)(h0:i≠ℓ:=by decide)(hi:X.N[i]?=some x:=by rfl)(hx:Loc X.env.scope x:=by trivial)(hs:swapsWith e (some (.Name x pos')) pos.line X.env=pure false:=by rfl)(hf:FNx X x:=by trivial):OS X C ℓ (.Assign [.Name x pos'] e pos) (J7 i f):=by
 have⟨t,p,q⟩:=he;refine⟨_,wA hN hi hx p hs hf,λH0 os0 p D σ H os ρ fs r R e k=>?_⟩;have⟨d,e1,e2⟩:=bind_some e;cases e2;exact q σ H os ρ fs d _ R.v7 e1 λa xs H' n s hx rv=>k _ _ _ (R.ZA h0 n s hx rv)
noncomputable def oret(f:OPx):OFx:=λρ fs=>(f ρ fs).bind λd=>some (.rt d fs)
def wB{f:OPx}(h:GE X C ℓ e f):OS X C ℓ (.Return (some e) pos) (oret f):=by
 have⟨t,p,q⟩:=h;refine⟨_,Jy p,λH0 os0 p D σ H os ρ fs r R e k=>?_⟩;have⟨d,e1,e2⟩:=bind_some e;cases e2;exact q σ H os ρ fs d _ R.v7 e1 λv H' s rv=>k v H' os (R.same s).end rv
noncomputable def oif(c:Ro->Ob->Option Bool)(f g:OFx):OFx:=λρ fs=>(c ρ fs).bind λb=>if b then f ρ fs else g ρ fs
def zeX{c:Expr}{a b:List Stmt}{fc:Ro->Ob->Option Bool}(hc:GT X C ℓ c fc)(ha:OSs X C ℓ a f)(hb:OSs X C ℓ b g):OS X C ℓ (.If c a b pos) (oif fc f g):=by
 have⟨tc,pc,qc⟩:=hc;have⟨ta,pa,qa⟩:=ha;have⟨tb,pb,qb⟩:=hb;refine⟨_,zez pc pa pb,λH0 os0 p D σ H os ρ fs r R e k=>?_⟩;have⟨b,e1,e2⟩:=bind_some e;refine qc σ H os ρ fs b _ R.v7 e1 λH' s=>?_
 cases b with
 |true=>rw[qf rfl] at e2 ⊢;exact qa H0 os0 p D σ H' os ρ fs r (R.same s) e2 k
 |false=>rw[qq qF] at e2 ⊢;exact qb H0 os0 p D σ H' os ρ fs r (R.same s) e2 k
end
noncomputable def zP(x:Str)(c:Fs):Ob->Ob
 |[]=>[(x,c)]
 |(y,d)::fs=>if y=x then (y,c)::fs else (y,d)::zP x c fs
section
variable{K:FRx}{C:AdX}{ℓ:Nat}{H0 H H':Hp}{os0 os:LAd}{p:AdX}{σ:St}{ρ:Ro}{fs:Ob}
theorem xg.len:∀{vs:List (Str×V)} {fs:Ob} {A:LAd},xg K H os vs fs A->vs.length=fs.length
 |_,_,_,.nil=>rfl
 |_,_,_,.cons _ r=>qM (·+1) (xg.len r)
def zaU{A B:LAd}(h1:A.Nodup)(h2:B.Nodup)(h3:∀a∈A,a∉B):(A++B).Nodup:=k5.mpr ⟨h1,h2,λa ha b hb e=>h3 a ha (by rw[e];exact hb)⟩
def zld{A B:LAd}(h:(A++B).Nodup):A.Nodup:=(k5.mp h).1
def zgm{A B:LAd}(h:(A++B).Nodup):B.Nodup:=(k5.mp h).2.1
def zfM{A B:LAd}(h:(A++B).Nodup):∀a∈A,a∉B:=λa ha hb=>(k5.mp h).2.2 a ha a hb rfl
theorem xg.put{x:Str}{v:V}{c:Fs}{B:LAd}(hb:FOk K H os v c B)(ndB:B.Nodup):∀{vs:List (Str×V)} {fs:Ob} {A:LAd},xg K H os vs fs A->A.Nodup->(∀a∈B,a∉A)->∃A',xg K H os (uW x v vs) (zP x c fs) A'/\A'.Nodup/\∀a∈A',a∈A\/a∈B
 |_,_,_,.nil,_,_=>⟨B++[],.cons hb .nil,by rw[kg];exact ndB,λa ha=>.inr (by rw[kg] at ha;exact ha)⟩
 |_,_,_,@xg.cons _ _ _ y u d vs fs A0 B0 h r,nd,dj=>by
  unfold uW zP;by_cases z:y=x
  ·rw[qf z,qf z];refine⟨B++B0,.cons hb r,zaU ndB (zgm nd) λa ha hb=>dj a ha (qg.mpr (.inr hb)),λa ha=>?_⟩;rcases qg.mp ha with q|q
   ·exact .inr q
   ·exact .inl (qg.mpr (.inr q))
  ·rw[qq z,qq z];obtain⟨A',h1,h2,h3⟩:=xg.put hb ndB r (zgm nd) λa ha q=>dj a ha (qg.mpr (.inr q))
   refine⟨A0++A',.cons h h1,zaU (zld nd) h2 λa ha q=>?_,λa ha=>?_⟩
   ·rcases h3 a q with w|w
    ·exact zfM nd a ha w
    ·exact dj a w (qg.mpr (.inl ha))
   ·rcases qg.mp ha with q|q
    ·exact .inl (qg.mpr (.inl q))
    ·rcases h3 a q with w|w
     ·exact .inl (qg.mpr (.inr w))
     ·exact .inr w
def SRo.zmP(h:SRo K H0 os0 H os σ ρ){o:HO}(hp:p∈os)(h0:H0 p=none)(hs:∀(j:Nat)(c:Sl),ρ[j]?=some c->isM c=true->σ[j]?≠some (some (.ref p))):SRo K H0 os0 (upd H p o) os σ ρ:=by
 have eo:offs (upd H p o) os=offs H os:=yP hp;refine⟨⟨λi d q=>by rw[eo];exact h.rel.pu i d q,λi c q m=>?_,λb hb=>?_,h.rel.len⟩,λb o' z=>?_,h.sub,h.new,h.al0,h.own,h.ap⟩
 ·have⟨a,o',h1,h2,h3,h4⟩:=h.rel.mu i c q m;exact⟨a,o',h1,h2,by rw[zN λz=>hs i c q m (by rw[h1,z])];exact h3,by rw[eo];exact h4⟩
 ·by_cases q:b=p
  ·rw[q];exact⟨_,zJ⟩
  ·rw[zN q];exact h.rel.al b hb
 ·rw[zN λw=>by rw[w,h0] at z;cases z];exact h.sm b o' z
def SRo.grow(h:SRo K H0 os0 H os σ ρ){a:AdX}{xs:List V}{ds:LPd}(n:H a=none)(s:Same H H')(hx:H' a=some (.lst xs))(r:Reps K (offs H' (a::os)) xs ds):SRo K H0 os0 H' (a::os) σ ρ:=by
 have:=h.ZA (i:=ρ.length) n s hx r;rw[p6 (qr _),p6 (by rw[h.rel.len];exact qr _)] at this;exact this
def SRo.drop(h:SRo K H0 os0 H os σ ρ)(i:Nat):SRo K H0 os0 H os σ (ρ.set i .no):=by
 have m:∀{j:Nat} {c:Sl},(ρ.set i .no)[j]?=some c->c≠ .no->i≠j/\ρ[j]?=some c:=λ{j c} q hc=>by
  rcases zX q with⟨_,_,z⟩|z
  ·exact absurd z.symm hc
  ·exact z
 refine⟨⟨λj d q=>h.rel.pu j d (m q (by intro z;cases z)).2,λj c q hm=>h.rel.mu j c (m q (by intro z;rw[z] at hm;cases hm)).2 hm,h.rel.al,by rw[kJ];exact h.rel.len⟩,h.sm,h.sub,h.new,h.al0,λj c q hm=>h.own j c (m q (by intro z;rw[z] at hm;cases hm)).2 hm,λj k c c' hjk q1 q2 m1 m2=>h.ap j k c c' hjk (m q1 (by intro z;rw[z] at m1;cases m1)).2 (m q2 (by intro z;rw[z] at m2;cases m2)).2 m1 m2⟩
def WW{x:Str}{v:V}{c:Fs}{A B:LAd}{dx:AdX}{vs:List (Str×V)}(sr:SRo K H0 os0 H os σ ρ)(self:σ[ℓ]?=some (some (.ref p)))(hp:H p=some (.ins C dx vs))(hf:xg K H os vs fs A)(nd:(p::A).Nodup)(hA:∀a∈p::A,a∈os/\H0 a=none)(hs:∀(j:Nat)(c:Sl),ρ[j]?=some c->isM c=true->∀a∈p::A,σ[j]?≠some (some (.ref a)))(hb:FOk K H os v c B)(ndB:B.Nodup)(hB:∀a∈B,a∈os/\H0 a=none/\a∉p::A/\∀(j:Nat)(c:Sl),ρ[j]?=some c->isM c=true->σ[j]?≠some (some (.ref a))):MSt K C ℓ H0 os0 p (upd H p (.ins C dx (uW x v vs))) os σ ρ (zP x c fs):=by
 have⟨pA,ndA⟩:=km.mp nd;obtain⟨A',h1,h2,h3⟩:=xg.put (x:=x) hb ndB hf ndA λa ha q=>(hB a ha).2.2.1 (.tail _ q)
 obtain⟨hpo,hp0⟩:=hA p (.head _);have pA':p∉A':=λz=>by
  rcases h3 p z with q|q
  ·exact pA q
  ·exact(hB p q).2.2.1 (.head _)
 have all:∀a∈p::A',a∈p::A\/a∈B:=λa ha=>by
  rcases qu.mp ha with q|q
  ·exact .inl (by rw[q];exact .head _)
  ·rcases h3 a q with w|w
   ·exact .inl (.tail _ w)
   ·exact .inr w
 refine⟨sr.zmP hpo hp0 λj c q m=>hs j c q m p (.head _),self,p::A',.ob zJ (h1.keep (by rw[yP hpo];exact Same.refl _) λa ha=>zN λz=>pA' (by rw[<-z];exact ha)),km.mpr ⟨pA',h2⟩,λa ha=>?_,λj c q m a ha=>?_⟩
 ·rcases all a ha with w|w
  ·exact hA a w
  ·exact⟨(hB a w).1,(hB a w).2.1⟩
 ·rcases all a ha with w|w
  ·exact hs j c q m a w
  ·exact(hB a w).2.2.2 j c q m
end
section
variable{X:Cx}{C:AdX}{ℓ:Nat}{e:Expr}{pos pos' p0:Pos}{x f:Str}
def ofl(x:Str)(g:OPx):OFx:=λρ fs=>(g ρ fs).bind λd=>if fs.length<1000 then some (.nx ρ (zP x (.pu d) fs)) else none
def zbf{g:OPx}(cl:Cls X.K C)(na:zS X.K C f)(he:GE X C ℓ e g)(hN:X.N[ℓ]?=some x:=by rfl)(hv:Vis X.env.scope x:=by trivial)(hd:NDx x:=by decide)(hcd:NCx x:=by decide)(hs:swapsWith e (some (.Attribute (.Name x p0) f pos')) pos.line X.env=pure false:=by rfl):OS X C ℓ (.Assign [.Attribute (.Name x p0) f pos'] e pos) (ofl f g):=by
 have⟨t,pe,q⟩:=he;refine⟨_,zbj (yu (i:=ℓ) hN hv hd hcd) pe hs,λH0 os0 p D σ H os ρ fs r R e k=>?_⟩;have⟨d,e1,e2⟩:=bind_some e;split at e2
 ·rename_i hl;cases e2;refine q σ H os ρ fs d _ R.v7 e1 λv H' s rv=>?_
  have R':=R.same s;have⟨A,h1,h2,h3,h4⟩:=R'.ob
  cases h1 with
  |ob hp r=>exact⟨_,R'.self,_,_,_,_,rfl,hp,cl,na,by rw[r.len];exact hl,k _ _ _ (WW R'.sr R'.self hp r h2 h3 h4 (.pu rv) .nil λa ha=>by cases ha)⟩
 ·cases e2
def ZG(x:Str)(g:OLx):OFx:=λρ fs=>(g ρ fs).bind λd=>if fs.length<1000 then some (.nx ρ (zP x (.ow d) fs)) else none
def u3{g:OLx}(cl:Cls X.K C)(na:zS X.K C f)(he:GL X C ℓ e g)(hN:X.N[ℓ]?=some x:=by rfl)(hv:Vis X.env.scope x:=by trivial)(hd:NDx x:=by decide)(hcd:NCx x:=by decide)(hs:swapsWith e (some (.Attribute (.Name x p0) f pos')) pos.line X.env=pure false:=by rfl):OS X C ℓ (.Assign [.Attribute (.Name x p0) f pos'] e pos) (ZG f g):=by
 have⟨t,pe,q⟩:=he;refine⟨_,zbj (yu (i:=ℓ) hN hv hd hcd) pe hs,λH0 os0 p D σ H os ρ fs r R e k=>?_⟩;have⟨d,e1,e2⟩:=bind_some e;split at e2
 ·rename_i hl;cases e2;refine q σ H os ρ fs d _ R.v7 e1 λa xs H' n s hx rv=>?_
  have⟨A,h1,h2,h3,h4⟩:=R.ob;have nA:a∉A:=λz=>by
   have⟨o,e⟩:=h1.has a z;rw[n] at e;cases e
  have na0:H0 a=none:=R.sr.sm.free n;have nos:a∉os:=R.sr.rel.al.new n
  have h1':=h1.keep (vj n s) λb hb=>by
   have⟨o,e⟩:=h1.has b hb;rw[e];exact s b o e
  cases h1' with
  |ob hp r=>exact⟨_,R.self,_,_,_,_,rfl,hp,cl,na,by rw[r.len];exact hl,k _ _ _ (WW (R.sr.grow n s hx rv) R.self hp r h2 (λb hb=>⟨qz _ (h3 b hb).1,(h3 b hb).2⟩) h4 (.ow hx rv) (km.mpr ⟨by simp,.nil⟩) λb hb=>by
    rw[qE.mp hb];refine⟨.head _,na0,nA,λj c q m z=>?_⟩;have⟨b',o,w1,w2,_⟩:=R.sr.rel.mu j c q m;rw[z] at w1;cases w1;exact nos w2)⟩
 ·cases e2
def ofm(x:Str)(i:Nat):OFx:=λρ fs=>match ρ[i]? with
 |some (.ow ds)=>if fs.length<1000 then some (.nx (ρ.set i .no) (zP x (.ow ds) fs)) else none
 |_=>none
def ziA(i:Nat){y:Str}{p1:Pos}(cl:Cls X.K C)(na:zS X.K C f)(hN:X.N[ℓ]?=some x:=by rfl)(hv:Vis X.env.scope x:=by trivial)(hd:NDx x:=by decide)(hcd:NCx x:=by decide)(hN1:X.N[i]?=some y:=by rfl)(hv1:Vis X.env.scope y:=by trivial)(hd1:NDx y:=by decide)(hcd1:NCx y:=by decide)(hs:swapsWith (.Name y p1) (some (.Attribute (.Name x p0) f pos')) pos.line X.env=pure false:=by rfl):OS X C ℓ (.Assign [.Attribute (.Name x p0) f pos'] (.Name y p1) pos) (ofm f i):=by
 refine⟨_,zbj (yu (i:=ℓ) hN hv hd hcd) (yu (i:=i) hN1 hv1 hd1 hcd1) hs,λH0 os0 p D σ H os ρ fs r R e k=>?_⟩;unfold ofm at e;split at e
 ·rename_i ds ei;split at e
  ·rename_i hl;cases e;have⟨a,xs,w1,w2,w3,w4⟩:=R.sr.rel.ow i ds ei;have⟨A,h1,h2,h3,h4⟩:=R.ob;have nA:a∉A:=λz=>h4 i _ ei rfl a z w1
   have dr:∀{j:Nat} {c:Sl},(ρ.set i .no)[j]?=some c->isM c=true->i≠j/\ρ[j]?=some c:=λ{j c} q m=>by
    rcases zX q with⟨_,_,z⟩|z
    ·rw[<-z] at m;cases m
    ·exact z
   cases h1 with
   |ob hp r=>
    refine⟨_,w1,_,R.self,_,_,_,_,rfl,hp,cl,na,by rw[r.len];exact hl,k _ _ _ (WW (R.sr.drop i) R.self hp r h2 h3 (λj c q m b hb=>h4 j c (dr q m).2 m b hb) (.ow w3 w4) (km.mpr ⟨by simp,.nil⟩) λb hb=>?_)⟩;rw[qE.mp hb];exact⟨w2,R.sr.own i _ ei rfl a w1,nA,λj c q m z=>R.sr.ap i j _ c (dr q m).1 ei (dr q m).2 rfl m a w1 z⟩
  ·cases e
 ·cases e
end
section
variable{K:FRx}{C:AdX}{ℓ:Nat}{H0 H H':Hp}{os0 os:LAd}{p:AdX}{σ:St}{ρ:Ro}{fs:Ob}
theorem xg.chg{x:Str}{a:AdX}{ys:List V}{es:LPd}(ha:a∈os)(rs:Reps K (offs H os) ys es):∀{vs:List (Str×V)} {fs:Ob} {A:LAd} {ds:LPd},xg K H os vs fs A->A.Nodup->fld x fs=some (.ow ds)->vs.lookup x=some (.ref a)->
  xg K (upd H a (.lst ys)) os vs (zP x (.ow es) fs) A/\a∈A
 |_,_,_,_,.nil,_,q,_=>by cases q
 |_,_,_,ds,@xg.cons _ _ _ y u d vs fs A0 B0 h r,nd,q,l=>by
  have so:Same (offs H os) (offs (upd H a (.lst ys)) os):=by rw[yP ha];exact Same.refl _
  unfold fld at q;unfold zP;by_cases z:x=y
  ·rw[qf z] at q;rw[qf z.symm];cases q;rw[kj,show(x==y)=true from gL.mpr z] at l;cases l;cases h with
   |ow h1 h2=>exact⟨.cons (.ow zJ (by rw[yP ha];exact rs)) (r.keep so λb hb=>zN λw=>zfM nd a (.head _) (by rw[<-w];exact hb)),.head _⟩
  ·rw[qq z] at q;rw[qq (gu z)];rw[kj,show(x==y)=false from kK.mpr z] at l;obtain⟨h1,h2⟩:=xg.chg ha rs r (zgm nd) q l;exact⟨.cons (h.keep so λb hb=>zN λw=>zfM nd b hb (by rw[w];exact h2)) h1,qg.mpr (.inr h2)⟩
def MSt.lst(h:MSt K C ℓ H0 os0 p H os σ ρ fs){x:Str}{ds:LPd}(q:fld x fs=some (.ow ds)):∃dx vs a xs,H p=some (.ins C dx vs)/\vs.lookup x=some (.ref a)/\H a=some (.lst xs)/\a∈os/\Reps K (offs H os) xs ds:=by
 have⟨A,h1,h2,h3,h4⟩:=h.ob;cases h1 with
 |ob hp r=>
  have⟨v,B,l,o,hB⟩:=r.look q;cases o with
  |ow ha rv=>exact⟨_,_,_,_,hp,l,ha,(h3 _ (.tail _ (hB _ (.head _)))).1,rv⟩
def MSt.zir(h:MSt K C ℓ H0 os0 p H os σ ρ fs){x:Str}{ds es:LPd}{dx a:AdX}{vs:List (Str×V)}{ys:List V}(q:fld x fs=some (.ow ds))(hp:H p=some (.ins C dx vs))(l:vs.lookup x=some (.ref a))(rs:Reps K (offs H os) ys es):MSt K C ℓ H0 os0 p (upd H a (.lst ys)) os σ ρ (zP x (.ow es) fs):=by
 have⟨A,h1,h2,h3,h4⟩:=h.ob;cases h1 with
 | @ob _ _ _ _ _ A hp' r=>
  rw[hp] at hp';cases hp';have⟨pA,nd⟩:=km.mp h2;have⟨v,B,l',o,hB⟩:=r.look q;rw[l] at l';cases l';have aA:a∈A:=by
   cases o with
   |ow ha rv=>exact hB a (.head _)
  obtain⟨ao,a0⟩:=h3 a (.tail _ aA);have⟨r',_⟩:=r.chg ao rs nd q l;have pa:p≠a:=λz=>pA (by rw[z];exact aA)
  exact⟨h.sr.zmP ao a0 λj c q m=>h4 j c q m a (.tail _ aA),h.self,p::A,.ob (by rw[zN pa];exact hp) r',h2,h3,h4⟩
end
section
variable{X:Cx}{C:AdX}{ℓ:Nat}{e:Expr}{pos apos cpos p0 p1 p2:Pos}{x f:Str}
def oap(x:Str)(g:OPx):OFx:=λρ fs=>match fld x fs with
 |some (.ow ds)=>(g ρ fs).bind λd=>if ds.length<16777216 then some (.nx ρ (zP x (.ow (ds++[d])) fs)) else none
 |_=>none
def zg0{g:OPx}(cl:Cls X.K C)(na:zS X.K C f)(he:GE X C ℓ e g)(hN:X.N[ℓ]?=some x:=by rfl)(hv:Vis X.env.scope x:=by trivial)(hd:NDx x:=by decide)(hcd:NCx x:=by decide)(hb:ABx X (.Name x p0) f:=by rfl)(hbase:ABx X (.Attribute (.Name x p0) f p1) "append":=by rfl)(hfew:FWx X cpos [e]:=by rfl)(hline:(apos.endLine==cpos.line)=true:=by rfl)(hs:SEx X e []:=by rfl)(hsw:swapsWith (.Call (.Attribute (.Attribute (.Name x p0) f p1) "append" apos) [e] [] cpos) none pos.line X.env=pure false:=by rfl):OS X C ℓ (.Expr (.Call (.Attribute (.Attribute (.Name x p0) f p1) "append" apos) [e] [] cpos) pos) (oap f g):=by
 have⟨t,pe,q⟩:=he;refine⟨_,vW (Jp kx mh me vZ (wY (yu (i:=ℓ) hN hv hd hcd) hb) (yU pe xW hs) hbase hfew hline hs) hsw,λH0 os0 p D σ H os ρ fs r R e k=>?_⟩;unfold oap at e;split at e
 ·rename_i ds ef;have⟨d,e1,e2⟩:=bind_some e;split at e2
  ·rename_i hl;cases e2;have⟨dx,vs,a,xs,hp,l,ha,ao,rv⟩:=R.lst ef;refine⟨_,R.self,_,_,_,_,_,rfl,hp,cl,na,l,.inl ⟨rfl,_,SqL.of ha⟩,q σ H os ρ fs d _ R.v7 e1 λv H' s rd=>?_⟩;exact⟨a,xs,v,rfl,rfl,s _ _ ha,by rw[rv.length];exact hl,k _ _ os ((R.same s).zir ef (s _ _ hp) l ((rv.same (zl s os)).append (.cons rd .nil)))⟩
  ·cases e2
 ·cases e
def opo(i:Nat)(x:Str)(g:OPx):OFx:=λρ fs=>match fld x fs,g ρ fs with
 |some (.ow ds),some (.int n)=>if 0<=n/\n<ds.length/\ds.length<=16777216 then (ds[n.toNat]?).bind λd=>some (.nx (ρ.set i (.pu d)) (zP x (.ow (ds.eraseIdx n.toNat)) fs)) else none
 |_,_=>none
def zix(i:Nat){y:Str}{pos':Pos}{g:OPx}(hNd:X.N.Nodup)(cl:Cls X.K C)(na:zS X.K C f)(he:GE X C ℓ e g)(h0:i≠ℓ:=by decide)(hi:X.N[i]?=some y:=by rfl)(hx:Loc X.env.scope y:=by trivial)(hf:FNx X y:=by trivial)(hN:X.N[ℓ]?=some x:=by rfl)(hv:Vis X.env.scope x:=by trivial)(hd:NDx x:=by decide)(hcd:NCx x:=by decide)(hb:ABx X (.Name x p0) f:=by rfl)(hbase:ABx X (.Attribute (.Name x p0) f p1) "pop":=by rfl)(hfew:FWx X cpos [e]:=by rfl)(hline:(apos.endLine==cpos.line)=true:=by rfl)(hs:SEx X e []:=by rfl)(hsw:swapsWith (.Call (.Attribute (.Attribute (.Name x p0) f p1) "pop" apos) [e] [] cpos) (some (.Name y pos')) pos.line X.env=pure false:=by rfl):OS X C ℓ (.Assign [.Name y pos'] (.Call (.Attribute (.Attribute (.Name x p0) f p1) "pop" apos) [e] [] cpos) pos) (opo i f g):=by
 have⟨t,pe,q⟩:=he;refine⟨_,wA hNd hi hx (Jp kx gS gR Jk (wY (yu (i:=ℓ) hN hv hd hcd) hb) (yU pe xW hs) hbase hfew hline hs) hsw hf,λH0 os0 p D σ H os ρ fs r R e k=>?_⟩;unfold opo at e;split at e
 ·rename_i ds n ef e1;split at e
  ·rename_i hl;have⟨hl1,hl2,hl3⟩:=hl;have⟨d,e2,e3⟩:=bind_some e;cases e3;have⟨dx,vs,a,xs,hp,l,ha,ao,rv⟩:=R.lst ef;have hlen:=rv.length;refine⟨_,R.self,_,_,_,_,_,rfl,hp,cl,na,l,.inl ⟨rfl,_,SqL.of ha⟩,q σ H os ρ fs _ _ R.v7 e1 λv H' s rd=>?_⟩;cases rd;have hlt:n.toNat<xs.length:=by omega
   have⟨u,eu,ru⟩:=rv.getD e2;refine⟨a,xs,n,n.toNat,u,rfl,rfl,s _ _ ha,by omega,by omega,?_,eu,?_⟩
   ·unfold seqIndex?;dsimp only;rw[qq (by omega:¬n<0),qf (by rw[hV];exact⟨qB hl1,qB (by omega)⟩)]
   ·exact k _ _ os (((R.same s).zir ef (s _ _ hp) l (vk _ (rv.same (zl s os)))).set h0 (by rw[yP ao];exact ru.same (zl s os)))
  ·cases e
 ·cases e
noncomputable def opl(i j:Nat)(g:OPx):OFx:=λρ fs=>match ρ[j]?,g ρ fs with
 |some (.ow ds),some (.int n)=>if 0<=n/\n<ds.length/\ds.length<=16777216 then (ds[n.toNat]?).bind λd=>some (.nx ((ρ.set j (.ow (ds.eraseIdx n.toNat))).set i (.pu d)) fs) else none
 |_,_=>none
def ziQ(i j:Nat){y z:Str}{pos':Pos}{g:OPx}(hNd:X.N.Nodup)(he:GE X C ℓ e g)(h0:i≠ℓ:=by decide)(hi:X.N[i]?=some y:=by rfl)(hx:Loc X.env.scope y:=by trivial)(hf:FNx X y:=by trivial)(hN:X.N[j]?=some z:=by rfl)(hv:Vis X.env.scope z:=by trivial)(hd:NDx z:=by decide)(hcd:NCx z:=by decide)(hbase:ABx X (.Name z p1) "pop":=by rfl)(hfew:FWx X cpos [e]:=by rfl)(hline:(apos.endLine==cpos.line)=true:=by rfl)(hs:SEx X e []:=by rfl)(hsw:swapsWith (.Call (.Attribute (.Name z p1) "pop" apos) [e] [] cpos) (some (.Name y pos')) pos.line X.env=pure false:=by rfl):OS X C ℓ (.Assign [.Name y pos'] (.Call (.Attribute (.Name z p1) "pop" apos) [e] [] cpos) pos) (opl i j g):=by
 have⟨t,pe,q⟩:=he;refine⟨_,wA hNd hi hx (Jp kx gS gR Jk (yu hN hv hd hcd) (yU pe xW hs) hbase hfew hline hs) hsw hf,λH0 os0 p D σ H os ρ fs r R e k=>?_⟩;unfold opl at e;split at e
 ·rename_i ds n ef e1;split at e
  ·rename_i hl;have⟨hl1,hl2,hl3⟩:=hl;have⟨d,e2,e3⟩:=bind_some e;cases e3;have⟨a,xs,w1,ao,ha,rv⟩:=R.sr.rel.ow j ds ef;have hlen:=rv.length;refine⟨_,w1,.inl ⟨rfl,_,SqL.of ha⟩,q σ H os ρ fs _ _ R.v7 e1 λv H' s rd=>?_⟩;cases rd;have hlt:n.toNat<xs.length:=by omega
   have⟨u,eu,ru⟩:=rv.getD e2;refine⟨a,xs,n,n.toNat,u,rfl,rfl,s _ _ ha,by omega,by omega,?_,eu,?_⟩
   ·unfold seqIndex?;dsimp only;rw[qq (by omega:¬n<0),qf (by rw[hV];exact⟨qB hl1,qB (by omega)⟩)]
   ·exact k _ _ os (((R.same s).chg ef w1 (vk _ (rv.same (zl s os)))).set h0 (by rw[yP ao];exact ru.same (zl s os)))
  ·cases e
 ·cases e
end
noncomputable def isort(ns:List Int):List Int:=ns.mergeSort (λa b=>decide (a<=b))
section
variable{X:Cx}{e:Expr}{pos apos cpos p1:Pos}
noncomputable def zdT(i j:Nat)(g:RPx):RFx:=λρ=>match ρ[j]?,g ρ with
 |some (.ow ds),some (.int n)=>if 0<=n/\n<ds.length/\ds.length<=16777216 then (ds[n.toNat]?).bind λd=>some (.nx ((ρ.set j (.ow (ds.eraseIdx n.toNat))).set i (.pu d))) else none
 |_,_=>none
def zkD(i j:Nat){y z:Str}{pos':Pos}{g:RPx}(hNd:X.N.Nodup)(he:FE X e g)(hi:X.N[i]?=some y:=by rfl)(hx:Loc X.env.scope y:=by trivial)(hf:FNx X y:=by trivial)(hN:X.N[j]?=some z:=by rfl)(hv:Vis X.env.scope z:=by trivial)(hd:NDx z:=by decide)(hcd:NCx z:=by decide)(hbase:ABx X (.Name z p1) "pop":=by rfl)(hfew:FWx X cpos [e]:=by rfl)(hline:(apos.endLine==cpos.line)=true:=by rfl)(hs:SEx X e []:=by rfl)(hsw:swapsWith (.Call (.Attribute (.Name z p1) "pop" apos) [e] [] cpos) (some (.Name y pos')) pos.line X.env=pure false:=by rfl):FS X (.Assign [.Name y pos'] (.Call (.Attribute (.Name z p1) "pop" apos) [e] [] cpos) pos) (zdT i j g):=by
 have⟨t,pe,q⟩:=he;refine⟨_,wA hNd hi hx (Jp kx gS gR Jk (yu hN hv hd hcd) (yU pe xW hs) hbase hfew hline hs) hsw hf,λH0 os0 D σ H os ρ r R e k=>?_⟩;unfold zdT at e;split at e
 ·rename_i ds n ef e1;split at e
  ·rename_i hl;have⟨hl1,hl2,hl3⟩:=hl;have⟨d,e2,e3⟩:=bind_some e;cases e3;have⟨a,xs,w1,ao,ha,rv⟩:=R.rel.ow j ds ef;have hlen:=rv.length;refine⟨_,w1,.inl ⟨rfl,_,SqL.of ha⟩,q σ H os ρ _ _ R.rel e1 λv H' s rd=>?_⟩;cases rd;have⟨u,eu,ru⟩:=rv.getD e2
   refine⟨a,xs,n,n.toNat,u,rfl,rfl,s _ _ ha,by omega,by omega,?_,eu,?_⟩
   ·unfold seqIndex?;dsimp only;rw[qq (by omega:¬n<0),qf (by rw[hV];exact⟨qB hl1,qB (by omega)⟩)]
   ·refine k _ _ os (((R.same s).chg ef w1 (vk _ (rv.same (zl s os)))).set (by rw[yP ao];exact ru.same (zl s os))) ?_;rw[yP ao];exact zl s os
  ·cases e
 ·cases e
end
def GIB(X:Cx)(C:AdX)(ℓ:Nat)(tg iter:Expr)(f:OLx):Prop:=∃wi:TI,PI X tg iter wi/\∀(σ:St)(H:Hp)(os:LAd)(ρ:Ro)(fs:Ob)(ds:LPd)(R:It->Hp->Prop),vL X.K C ℓ H os σ ρ fs->f ρ fs=some ds->
  (∀J H',Same H H'->Walks X.K H' (offs H' os) J ds->R J H')->wi σ H R
def GAB(X:Cx)(C:AdX)(ℓ:Nat)(es:List Expr)(f:OLx):Prop:=∃t:TA,PA X es t/\∀(σ:St)(H:Hp)(os:LAd)(ρ:Ro)(fs:Ob)(ds:LPd)(Q:List V->Hp->Prop),vL X.K C ℓ H os σ ρ fs->f ρ fs=some ds->
  (∀vs H',Same H H'->vg X.K H' os vs ds->Q vs H')->t σ H Q
noncomputable def gA0:OLx:=λ_ _=>some []
noncomputable def gAC(f:OPx)(g:OLx):OLx:=λρ fs=>(f ρ fs).bind λx=>(g ρ fs).map (x::·)
noncomputable def gsq(g:OPx):OLx:=λρ fs=>match g ρ fs with
 |some (.list ds)=>some ds
 |some (.tuple ds)=>some ds
 |_=>none
def gzp(t1 t2:Bool)(g:OLx):OLx:=λρ fs=>match g ρ fs with
 |some [x,y]=>match kindOf x,kindOf y with
  |some (k1,xs),some (k2,ys)=>if k1=t1/\k2=t2 then some (UD xs ys) else none
  |_,_=>none
 |_=>none
section
variable{X:Cx}{C:AdX}{ℓ:Nat}{tg iter l a b e:Expr}{es tes:List Expr}{f:OPx}{g:OLx}{p pos tp:Pos}
def FIB.gib{f:RLx}(h:FIB X tg iter f):GIB X C ℓ tg iter (λρ _=>f ρ):=by
 have⟨t,p,q⟩:=h;exact⟨t,p,λσ H os ρ fs d Q R e k=>q σ H os ρ d Q R.rel e k⟩
def zeG(hl:GB X C ℓ l f):GIB X C ℓ tg l (gsq f):=by
 have⟨t,pl,ql⟩:=hl;refine⟨_,zdu pl,λσ H os ρ fs ds R rel e k=>?_⟩;unfold gsq at e;split at e
 ·rename_i es e1;cases e;refine ql σ H os ρ fs _ _ rel e1 λv H' s r=>?_
  obtain⟨a,xs,rfl,hS,r⟩:=r.lst;exact⟨_,false,rfl,⟨_,hS⟩,k _ H' s (vv (t:=false) hS r)⟩
 ·rename_i es e1;cases e;refine ql σ H os ρ fs _ _ rel e1 λv H' s r=>?_
  obtain⟨a,xs,rfl,hS,_,r⟩:=r.tup;exact⟨_,true,rfl,⟨_,hS⟩,k _ H' s (vv (t:=true) hS r)⟩
 ·cases e
def Vt:GAB X C ℓ [] gA0:=⟨_,xW,λ_ H _ _ _ _ _ _ q k=>by cases q;exact k [] H (Same.refl H) .nil⟩
def uf(ha:GB X C ℓ e f)(hr:GAB X C ℓ es g)(hs:SEx X e es:=by rfl):GAB X C ℓ (e::es) (gAC f g):=by
 have⟨ta,pa,qa⟩:=ha;have⟨tb,pb,qb⟩:=hr;refine⟨_,yU pa pb hs,λσ H os ρ fs ds Q R q k=>?_⟩;have⟨d,e1,q⟩:=bind_some q;have⟨r,e2,e3⟩:=map_some q;subst e3;exact qa σ H os ρ fs d _ R e1 λx H1 s1 r1=>qb σ H1 os ρ fs r _ (R.same s1) e2 λxs H2 s2 r2=>k _ H2 (s1.trans s2) (.cons (r1.same s2) r2)
def zj2{kk:Nat}(t1 t2:Bool)(hg:Gl X "zip")(hm:X.mg "zip"=none)(ha:GAB X C ℓ [a,b] g)(hs:starEach [a,b] X.env=[(false,eval a X.env),(false,eval b X.env)]:=by rfl)(hs2:starEach [b] X.env=[(false,eval b X.env)]:=by rfl):GIB X C ℓ (.Tuple tes kk tp) (.Call (.Name "zip" p) [a,b] [] pos) (gzp t1 t2 g):=by
 have⟨t,pa,qa⟩:=ha;refine⟨_,zhJ t1 t2 hg hm pa hs hs2,λσ H os ρ fs ds R rel e k=>?_⟩;unfold gzp at e;split at e
 ·rename_i x y e1;split at e
  ·rename_i k1 xs k2 ys e2 e3;split at e
   ·rename_i hc;cases e;obtain⟨rfl,rfl⟩:=hc;refine qa σ H os ρ fs _ _ rel e1 λvs H' s r=>?_
    obtain⟨v,u,rfl,r1,r2⟩:=r.two;obtain⟨a1,us,rfl,h1,q1⟩:=uh r1 e2;obtain⟨a2,ws,rfl,h2,q2⟩:=uh r2 e3;exact⟨a1,a2,rfl,⟨_,h1⟩,⟨_,h2⟩,k _ H' s (Z6 h1 h2 q1 q2)⟩
   ·cases e
  ·cases e
 ·cases e
end
def GJ(X:Cx)(C:AdX)(j:Nat)(e:Expr)(f:OPx):Prop:=∃t:TE,PE X e t/\∀(σ:St)(H:Hp)(os:LAd)(ρ:Ro)(fs:Ob)(p:AdX)(A:LAd)(d:PdX)(Q:VK),xl X.K H os σ ρ->σ[j]?=some (some (.ref p))->FOk X.K H os (.ref p) (.ob C fs) A->(∀a∈A,a∈os)->f ρ fs=some d->
  (∀v H',Same H H'->Rep X.K (offs H' os) v d->Q v H')->t σ H Q
def GJA(X:Cx)(C:AdX)(j:Nat)(es:List Expr)(f:OLx):Prop:=∃t:TA,PA X es t/\∀(σ:St)(H:Hp)(os:LAd)(ρ:Ro)(fs:Ob)(p:AdX)(A:LAd)(ds:LPd)(Q:List V->Hp->Prop),xl X.K H os σ ρ->σ[j]?=some (some (.ref p))->FOk X.K H os (.ref p) (.ob C fs) A->(∀a∈A,a∈os)->f ρ fs=some ds->
  (∀vs H',Same H H'->Reps X.K (offs H' os) vs ds->Q vs H')->t σ H Q
section
variable{X:Cx}{C:AdX}{ℓ:Nat}{j k k':Nat}{e:Expr}{es:List Expr}{f:OPx}{g:OLx}{p pos p0:Pos}{x:Str}{ps:LSr}
def FE.gj{f:RPx}(h:FE X e f):GJ X C j e (λρ _=>f ρ):=by
 have⟨t,p,q⟩:=h;exact⟨t,p,λσ H os ρ fs _ _ d Q R _ _ _ e k=>q σ H os ρ d Q R e k⟩
def zeY:GJA X C j [] gA0:=⟨_,xW,λ_ H _ _ _ _ _ _ _ _ _ _ _ q k=>by cases q;exact k [] H (Same.refl H) .nil⟩
def uo(ha:GJ X C j e f)(hr:GJA X C j es g)(hs:SEx X e es:=by rfl):GJA X C j (e::es) (gAC f g):=by
 have⟨ta,pa,qa⟩:=ha;have⟨tb,pb,qb⟩:=hr;refine⟨_,yU pa pb hs,λσ H os ρ fs p A ds Q R sj o oA q k=>?_⟩;have⟨d,e1,q⟩:=bind_some q;have⟨r,e2,e3⟩:=map_some q;subst e3;exact qa σ H os ρ fs p A d _ R sj o oA e1 λx H1 s1 r1=>qb σ H1 os ρ fs p A r _ (R.same s1) sj (o.same s1) oA e2 λxs H2 s2 r2=>k _ H2 (s1.trans s2) (.cons (r1.same (zl s2 os)) r2)
def zkS{n:Str}(cl:Cls X.K C)(na:zS X.K C n)(hN:X.N[j]?=some x:=by rfl)(hv:Vis X.env.scope x:=by trivial)(hd:NDx x:=by decide)(hcd:NCx x:=by decide)(hb:ABx X (.Name x p0) n:=by rfl):GJ X C j (.Attribute (.Name x p0) n pos) (gf n):=by
 refine⟨_,wY (yu (i:=j) hN hv hd hcd) hb,λσ H os ρ fs p A d Q R sj o oA e k=>?_⟩;cases o with
 |ob hp r=>
  unfold gf at e;split at e
  ·rename_i d' ef;cases e;have⟨v,B,l,o,_⟩:=r.look ef;cases o with
   |pu rv=>exact⟨_,sj,_,_,_,_,_,rfl,hp,cl,na,l,k _ H (Same.refl H) rv⟩
  ·cases e
noncomputable def gcall(h:LPx)(g:OLx):OPx:=λρ fs=>(g ρ fs).bind h
def zjJ{h:LPx}(D:xC X.prog X.w X.K X.mg X.base k x ps h)(hr:Room k' X.A)(hg:Gl X x)(ha:GJA X C j (e::es) g)(hk:k<=k':=by decide)(hdb:NDx x:=by decide)(he:SEx X e es:=by rfl)(hpl:PLx X pos es:=by rfl):GJ X C j (.Call (.Name x p) (e::es) [] pos) (gcall h g):=by
 have⟨t,pa,qa⟩:=ha;refine⟨_,VF D hr hg ur pa hk hdb he hpl,λσ H os ρ fs p A c Q R sj o oA q k=>?_⟩;have⟨ds,e1,e2⟩:=bind_some q;refine qa σ H os ρ fs p A ds _ R sj o oA e1 λvs H' s rv=>?_
 rw[kg];exact⟨os,ds,c,R.al.same s,rv,e2,λv H2 s2=>k v H2 (s.trans s2)⟩
end
def tJ(K:FRx)(C:AdX)(j:Nat)(f:OPx):TE:=λσ H Q=>∃fs os ρ d p A,xl K H os σ ρ/\σ[j]?=some (some (.ref p))/\FOk K H os (.ref p) (.ob C fs) A/\(∀a∈A,a∈os)/\f ρ fs=some d/\∀v H',Same H H'->Rep K (offs H' os) v d->Q v H'
def GJ.pe{X:Cx}{C:AdX}{j:Nat}{e:Expr}{f:OPx}(h:GJ X C j e f):PE X e (tJ X.K C j f):=by
 have⟨t,p,q⟩:=h;intro pins s σ H Q I z;have⟨fs,os,ρ,d,a,A,R,sj,o,oA,e1,k⟩:=z;exact p pins s σ H Q I (q σ H os ρ fs a A d Q R sj o oA e1 k)
def YJ{K:FRx}{T:Nat}{F:LNt}{b:PyData->Ro->Option Ro}{fe:OPx}{σ:St}{ρ:Ro}{H1:Hp}{os:LAd}{D:AdX}{is:LNt}{k:Addr->Hp->Prop}{J:It}{ds rs:LPd}{C:AdX}{fs:Ob}{j:Nat}{p:AdX}{A:LAd}(his:∀i∈is,i<T)(R:xl K H1 os σ ρ)(hj:(F[j]?).bind (λi=>(σ[i]?).join)=some (.ref p))(hO:FOk K H1 os (.ref p) (.ob C fs) A)(hOA:∀a∈A,a∈os)(hn:ds.length<=16777216)(hD:H1 D=none)(W:Walks K H1 (offs H1 os) J ds)(hm:vf (λd=>(b d (compEnv T F ρ)).bind λρ'=>fe ρ' fs) ds=some rs)(fin:∀H' xs,Same H1 H'->H' D=some (.lst xs)->Reps K (offs H' (D::os)) xs rs->k D H'):zen T F (gF K is b) (tJ K C (T+j) fe) k σ H1 D J:=by
 have hlr:=YR hm;have so:∀H',Same H1 H'->Same (offs H1 os) (offs H' (D::os)):=λH' s c o z=>by
  by_cases hb:c∈os
  ·rw[yS hb] at z;cases z
  ·rw[zq hb] at z;rw[zq]
   ·exact s c o z
   ·intro w;rcases qu.mp w with w|w
    ·rw[w,hD] at z;cases z
    ·exact hb w
 have al:∀H' xs,Same H1 H'->H' D=some (.lst xs)->Al H' (D::os):=λH' xs s hx a ha=>by
  rcases qu.mp ha with z|z
  ·subst z;exact⟨_,hx⟩
  ·have⟨o,e⟩:=R.al a z;exact⟨o,s _ _ e⟩
 refine⟨λi m σ' H'=>m=ds.length - i/\i<=ds.length/\(∃ts:St,ts.length=T/\σ'=ts++F.map λj=>(σ[j]?).join)/\Same H1 H'/\∃xs,H' D=some (.lst xs)/\Reps K (offs H' (D::os)) xs (rs.take i),
  ⟨ds.length,rfl,kE _,⟨List.replicate T none,by simp,rfl⟩,yg hD _,[],zJ,.nil⟩,?_⟩
 rintro i m σ' H' ⟨rfl,hi,⟨ts,hts,rfl⟩,sm,xs,hx,rp⟩;have hl:xs.length=i:=by
  have:=rp.length;rw[kR,hlr] at this;omega
 obtain⟨w1,w2⟩:=W H' (D::os) (al H' xs sm hx) sm (so H' sm);by_cases hlt:i<ds.length
 ·obtain⟨d,hd⟩:∃d,ds[i]?=some d:=⟨_,qp hlt⟩;have⟨g1,g2⟩:=w1 i d hd;have⟨r,hr,e⟩:=Zj hm hd;have⟨ρ',e1,e2⟩:=bind_some e;refine .inr ⟨g1,λσ2 H2=>i+1<=ds.length/\(∃ts:St,ts.length=T/\σ2=ts++F.map λj=>(σ[j]?).join)/\Same H1 H2/\∃xs,H2 D=some (.lst xs)/\Reps K (offs H2 (D::os)) xs (rs.take (i+1)),?_,?_⟩
  ·rintro σ2 H2 ⟨h1,h2,h3,h4⟩;exact⟨ds.length - (i+1),by omega,rfl,h1,h2,h3,h4⟩
  ·intro x H2 hy;have⟨s2,rx⟩:=g2 x H2 hy;refine⟨D::os,d,compEnv T F ρ,ρ',rx,e1,λσ2 st=>?_⟩;have R2:xl K H2 (D::os) (ts++F.map λj=>(σ[j]?).join) (compEnv T F ρ):=Yh T F R hD (sm.trans s2) (s2 _ _ hx) hts;have hts2:∃ts':St,ts'.length=T/\σ2=ts'++F.map λj=>(σ[j]?).join:=st.tail his hts rfl
   have sj:σ2[T+j]?=some (some (.ref p)):=by
    have⟨ts',h1,h2⟩:=hts2;rw[h2,<-h1,qx (g9 _ _),ba,qo];cases hF:F[j]? with
    |none=>rw[hF] at hj;cases hj
    |some i=>
     rw[hF] at hj;exact qM some hj
   refine⟨fs,D::os,ρ',r,p,A,R2.sets st,sj,hO.keep (so H2 (sm.trans s2)) (λb hb=>by
    have⟨o,q⟩:=hO.has b hb;rw[q];exact(sm.trans s2) b o q),(λa ha=>qz _ (hOA a ha)),e2,λv H4 s4 rv=>?_⟩
   refine⟨xs,s4 _ _ (s2 _ _ hx),?_,hlt,hts2,((sm.trans s2).trans s4).JU hD _,_,zJ,?_⟩
   ·rw[hl];show i<16777216
    omega
   ·rw[jx,mD,hr];exact(rp.same (zl (s2.trans s4) _)).append (.cons rv .nil)
 ·have e:i=ds.length:=by omega
  subst e;refine .inl ⟨w2,fin H' xs sm hx ?_⟩;rw[<-hlr,hJ] at rp;exact rp
def ocomp(T:Nat)(F:LNt)(fi:OLx)(b:PyData->Ro->Option Ro)(fe:RPx):OLx:=λρ fs=>
 (fi ρ fs).bind λds=>if ds.length<=16777216 then vf (λd=>(b d (compEnv T F ρ)).bind fe) ds else none
section
variable{X:Cx}{C:AdX}{ℓ:Nat}{elt tg iter:Expr}{scope:Scope}{pos pos' spos:Pos}{Ts:LSr}{F:LNt}{is:LNt}{fi:OLx}{b:PyData->Ro->Option Ro}{fe:RPx}{x:Str}
def zjo(i:Nat)(hN:X.N.Nodup)(hc:X.calm=true)(hi:GIB X C ℓ tg iter fi)(S:yb X scope)(hF:∀j∈F,∃x,X.N[j]?=some x/\scope.names.lookup x=some .free)(hg:∀cl C ex s H,FG (zV X (Ts++F.map λj=>X.N.getD j "") scope cl C ex s H) tg is b)(he:∀cl C ex s H,FE (zV X (Ts++F.map λj=>X.N.getD j "") scope cl C ex s H) elt fe)(his:∀i∈is,i<Ts.length:=by decide)(h0:i≠ℓ:=by decide)(hi':X.N[i]?=some x:=by rfl)(hx:X.env.scope.names.lookup x=some .local:=by rfl)(hsw:swapsWith (.ListComp elt [⟨tg,iter,[],0⟩] scope pos) (some (.Name x pos')) spos.line X.env=pure true:=by rfl)(hs:FSx X iter:=by exact λ_=>rfl):OS X C ℓ (.Assign [.Name x pos'] (.ListComp elt [⟨tg,iter,[],0⟩] scope pos) spos) (J7 i (ocomp Ts.length F fi b fe)):=by
 have⟨wi,pi,qi⟩:=hi;refine⟨_,uD (Ts:=Ts) (F:=F) (g:=gF X.K is b) (te:=tF X.K fe) hN hi' hx hc pi S hF hg (λcl C ex s H=>(he cl C ex s H).pe) hsw hs,λH0 os0 p D σ H os ρ fs r R q k=>?_⟩;have⟨ds,e1,q⟩:=bind_some q;cases q;have⟨es,e1,q⟩:=bind_some e1;split at q
 ·rename_i hl;refine qi σ H os ρ fs es _ R.v7 e1 λJ H' s W D hD=>?_
  exact u9 his (R.sr.rel.same s) hl hD W q λH2 xs s2 hx r=>k _ _ _ (R.ZA h0 (s.free hD) (s.trans s2) hx r)
 ·cases q
def u0(T:Nat)(F:LNt)(fi:OLx)(b:PyData->Ro->Option Ro)(fe:OPx):OLx:=λρ fs=>
 (fi ρ fs).bind λds=>if ds.length<=16777216 then vf (λd=>(b d (compEnv T F ρ)).bind λρ'=>fe ρ' fs) ds else none
def zhb(i j:Nat){fe:OPx}(hN:X.N.Nodup)(hc:X.calm=true)(hi:GIB X C ℓ tg iter fi)(S:yb X scope)(hF:∀j∈F,∃x,X.N[j]?=some x/\scope.names.lookup x=some .free)(hj:F[j]?=some ℓ)(hg:∀cl C ex s H,FG (zV X (Ts++F.map λj=>X.N.getD j "") scope cl C ex s H) tg is b)(he:∀cl C' ex s H,GJ (zV X (Ts++F.map λj=>X.N.getD j "") scope cl C' ex s H) C (Ts.length+j) elt fe)(his:∀i∈is,i<Ts.length:=by decide)(h0:i≠ℓ:=by decide)(hi':X.N[i]?=some x:=by rfl)(hx:X.env.scope.names.lookup x=some .local:=by rfl)(hsw:swapsWith (.ListComp elt [⟨tg,iter,[],0⟩] scope pos) (some (.Name x pos')) spos.line X.env=pure true:=by rfl)(hs:FSx X iter:=by exact λ_=>rfl):OS X C ℓ (.Assign [.Name x pos'] (.ListComp elt [⟨tg,iter,[],0⟩] scope pos) spos) (J7 i (u0 Ts.length F fi b fe)):=by
 have⟨wi,pi,qi⟩:=hi;refine⟨_,uD (Ts:=Ts) (F:=F) (g:=gF X.K is b) (te:=tJ X.K C (Ts.length+j) fe) hN hi' hx hc pi S hF hg (λcl C ex s H=>(he cl C ex s H).pe) hsw hs,λH0 os0 p D σ H os ρ fs r R q k=>?_⟩;have⟨ds,e1,q⟩:=bind_some q;cases q;have⟨es,e1,q⟩:=bind_some e1;split at q
 ·rename_i hl;refine qi σ H os ρ fs es _ R.v7 e1 λJ H' s W D hD=>?_
  have⟨A,h1,_,h3,_⟩:=R.ob;exact YJ his (R.sr.rel.same s) (by rw[hj];show(σ[ℓ]?).join=_;rw[R.self];rfl) (h1.same s) (λa ha=>(h3 a ha).1) hl hD W q λH2 xs s2 hx r=>k _ _ _ (R.ZA h0 (s.free hD) (s.trans s2) hx r)
 ·cases q
end
section
variable{X:Cx}{C:AdX}{ℓ:Nat}{e:Expr}{pos apos cpos p0 p1 q0 q1:Pos}{apos' cpos':Pos}{x f h:Str}
def zg9(x y:Str)(g:OPx):OFx:=λρ fs=>match fld y fs,g ρ fs with
 |some (.ow ds),some (.int n)=>if 0<=n/\n<ds.length/\ds.length<=16777216 then (ds[n.toNat]?).bind λd=>match fld x (zP y (.ow (ds.eraseIdx n.toNat)) fs) with
  |some (.ow es)=>if es.length<16777216 then some (.nx ρ (zP x (.ow (es++[d])) (zP y (.ow (ds.eraseIdx n.toNat)) fs))) else none
  |_=>none else none
 |_,_=>none
def zkU{g:OPx}(cl:Cls X.K C)(na:zS X.K C f)(nh:zS X.K C h)(he:GE X C ℓ e g)(hfh:¬f=h:=by decide)(hN:X.N[ℓ]?=some x:=by rfl)(hv:Vis X.env.scope x:=by trivial)(hd:NDx x:=by decide)(hcd:NCx x:=by decide)(hb:ABx X (.Name x p0) f:=by rfl)(hb':ABx X (.Name x q0) h:=by rfl)(hbase:ABx X (.Attribute (.Name x p0) f p1) "append":=by rfl)(hbase':ABx X (.Attribute (.Name x q0) h q1) "pop":=by rfl)(hfew':FWx X cpos' [e]:=by rfl)(hline':(apos'.endLine==cpos'.line)=true:=by rfl)(hs':SEx X e []:=by rfl)(hfew:((backTo cpos (starEach [.Call (.Attribute (.Attribute (.Name x q0) h q1) "pop" apos') [e] [] cpos'] X.env)).all (λx=>!x.1)&&(backToKw cpos (keywordEach [] X.env)).all (λx=>x.1.isSome)
   &&decide ([(.Call (.Attribute (.Attribute (.Name x q0) h q1) "pop" apos') [e] [] cpos':Expr)].length+([]:List Keyword).length+(if ([]:List Keyword).isEmpty then 0 else 1)<30))=true:=by rfl)(hline:(apos.endLine==cpos.line)=true:=by rfl)(hs:starEach [.Call (.Attribute (.Attribute (.Name x q0) h q1) "pop" apos') [e] [] cpos'] X.env=(false,eval (.Call (.Attribute (.Attribute (.Name x q0) h q1) "pop" apos') [e] [] cpos') X.env)::starEach [] X.env:=by rfl)(hsw:swapsWith (.Call (.Attribute (.Attribute (.Name x p0) f p1) "append" apos) [.Call (.Attribute (.Attribute (.Name x q0) h q1) "pop" apos') [e] [] cpos'] [] cpos) none pos.line X.env=pure false:=by rfl):OS X C ℓ (.Expr (.Call (.Attribute (.Attribute (.Name x p0) f p1) "append" apos) [.Call (.Attribute (.Attribute (.Name x q0) h q1) "pop" apos') [e] [] cpos'] [] cpos) pos) (zg9 f h g):=by
 have⟨t,pe,q⟩:=he;refine⟨_,vW (Jp kx mh me vZ (wY (yu (i:=ℓ) hN hv hd hcd) hb)
  (yU (Jp kx gS gR Jk (wY (yu (i:=ℓ) hN hv hd hcd) hb') (yU pe xW hs') hbase' hfew' hline' hs') xW hs) hbase hfew hline hs) hsw,λH0 os0 p D σ H os ρ fs r R e k=>?_⟩
 unfold zg9 at e;split at e
 ·rename_i ds n ef e1;split at e
  ·rename_i hl;have⟨hl1,hl2,hl3⟩:=hl;have⟨d,e2,e3⟩:=bind_some e;split at e3
   ·rename_i es ef2;split at e3
    ·rename_i hl4;cases e3;have ef2':fld f fs=some (.ow es):=by
      have:∀l:Ob,fld f (zP h (.ow (ds.eraseIdx n.toNat)) l)=fld f l:=by
       intro l;induction l with
       |nil=>
        show(if f=h then _ else none)=none
        rw[qq hfh]
       |cons y l ih=>
        obtain⟨y,c⟩:=y;unfold zP;by_cases z:y=h
        ·rw[qf z];show(if f=y then _ else fld f l)=if f=y then _ else fld f l
         rw[qq (by rw[z];exact hfh),qq (by rw[z];exact hfh)]
        ·rw[qq z];show(if f=y then some c else fld f (zP h _ l))=if f=y then some c else fld f l
         rw[ih]
      rw[<-this fs];exact ef2
     have⟨dx,vs,a,xs,hp,l,ha,ao,rv⟩:=R.lst ef2';have⟨dx2,vs2,a2,xs2,hp2,l2,ha2,ao2,rv2⟩:=R.lst ef;rw[hp] at hp2;cases hp2;have hlen:=rv2.length;refine⟨_,R.self,_,_,_,_,_,rfl,hp,cl,na,l,.inl ⟨rfl,_,SqL.of ha⟩,_,R.self,_,_,_,_,_,rfl,hp,cl,nh,l2,.inl ⟨rfl,_,SqL.of ha2⟩,q σ H os ρ fs _ _ R.v7 e1 λv H' s rd=>?_⟩;cases rd;have⟨u,eu,ru⟩:=rv2.getD e2
     have R1:=(R.same s).zir ef (s _ _ hp) l2 (vk n.toNat (rv2.same (zl s os)));have⟨dx3,vs3,a3,xs3,hp3,l3,ha3,ao3,rv3⟩:=R1.lst ef2
     have pa:p≠a2:=λz=>by
      have w1:=s _ _ hp;rw[z,s _ _ ha2] at w1;cases w1
     rw[zN pa,s _ _ hp] at hp3;cases hp3;rw[l] at l3;cases l3;refine⟨a2,xs2,n,n.toNat,u,rfl,rfl,s _ _ ha2,by omega,by omega,?_,eu,?_⟩
     ·unfold seqIndex?;dsimp only;rw[qq (by omega:¬n<0),qf (by rw[hV];exact⟨qB hl1,qB (by omega)⟩)]
     ·refine⟨a,xs3,u,rfl,rfl,ha3,by rw[rv3.length];exact hl4,k _ _ os (R1.zir ef2 (by rw[zN pa];exact s _ _ hp) l (rv3.append (.cons ?_ .nil)))⟩;rw[yP ao2];exact ru.same (zl s os)
    ·cases e3
   ·cases e3
  ·cases e
 ·cases e
end
def spM(K:FRx)(C:AdX)(h:MFx):Sp:=λvs H Q _=>∃p us os ds fs d fs' A,vs=.ref p::us/\FOk K H os (.ref p) (.ob C fs) A/\A.Nodup/\(∀a∈A,a∈os)/\Al H os/\Reps K (offs H os) us ds/\h fs ds=some (d,fs')/\
 ∀v H' os' A',Same (offs H A) H'->Al H' os'->FOk K H' os' (.ref p) (.ob C fs') A'->A'.Nodup->(∀a∈A',a∈os'/\offs H A a=none)->(∀a∈os,a∈A\/a∈os')->(∀a∈os',a∈os\/offs H A a=none)->Rep K (offs H' os') v d->Q v H'
noncomputable def fnM(n m:Nat)(b:OFx)(fs:Ob)(ds:LPd):Option (PyData×Ob):=if ds.length=m then (match b (.no::(ds.map Sl.pu++List.replicate (n - (m+1)) .no)) fs with
  |some (.rt d fs')=>some (d,fs')
  |some (.nx _ fs')=>some (.none,fs')
  |_=>none) else none
def vU(K:FRx)(C:AdX)(m qual:Str)(st:Stmt):Prop:=∃f fd,Fun K m qual st f fd/\Meth K C m f
def Met(P:Program)(w:World)(K:FRx)(mg:Str->Option Value)(base:Heap)(k:Nat)(C:AdX)(m:Str)(ps:LSr)(h:MFx):Prop:=∃f fd,wk P w K mg base CX0 k f fd ps (spM K C h)/\Binds K fd ps []/\Meth K C m f
section
variable{P:Program}{w:World}{K:FRx}{mg:Str->Option Value}{base:Heap}{C:AdX}{ℓ:Nat}
def VM{N:LSr}{H:Hp}{os:LAd}{p:AdX}{us:List V}{ds:LPd}{fs:Ob}{A:LAd}(al:Al H os)(r:Reps K (offs H os) us ds)(o:FOk K H os (.ref p) (.ob C fs) A)(nd:A.Nodup)(hA:∀a∈A,a∈os)(m:Nat)(hm:ds.length=m)(hN:m<N.length):MSt K C 0 (offs H A) (os.filter λa=>a∉A) p H os (start N (.ref p::us)) (.no::(ds.map Sl.pu++List.replicate (N.length - (m+1)) .no)) fs:=by
 have hl:=r.length;have no:∀(i:Nat)(c:Sl),(Sl.no::(ds.map Sl.pu++List.replicate (N.length - (m+1)) .no))[i]?=some c->isM c=true->False:=λi c q m=>by
  cases i with
  |zero=>cases q;cases m
  |succ i=>
   rw[kY] at q;by_cases hi:i<ds.length
   ·rw[qJ (by simpa using hi),qo] at q;have⟨d,_,e2⟩:=map_some q;subst e2;cases m
   ·rw[qx (by simpa using qW hi),kh] at q;split at q
    ·cases q;cases m
    ·cases q
 refine⟨⟨⟨λi d q=>?_,λi c q m=>(no i c q m).elim,al,?_⟩,xx H A,λa h=>(qO.mp h).1,λa h=>?_,λa h=>?_,λi c q m=>(no i c q m).elim,λi j c c' _ q _ m=>(no i c q m).elim⟩,rfl,A,o,nd,λa ha=>⟨hA a ha,yS ha⟩,λj c q m=>(no j c q m).elim⟩
 ·cases i with
  |zero=>cases q
  |succ i=>
   rw[kY] at q;unfold start;by_cases hi:i<ds.length
   ·rw[qJ (by simpa using hi),qo] at q;have⟨c,e1,e2⟩:=map_some q;cases e2;have⟨v,e3,e4⟩:=r.getD e1;refine⟨v,?_,e4⟩;rw[qJ (by rw[qe,qS,hl];omega),qo,kY,e3];rfl
   ·rw[qx (by simpa using qW hi),kh] at q;split at q<;>cases q
 ·unfold start;simp[hl,hm]
 ·by_cases z:a∈A
  ·exact .inr (yS z)
  ·exact .inl (qO.mpr ⟨h,by simpa using z⟩)
 ·have⟨h1,h2⟩:=qO.mp h;have z:a∉A:=by simpa using h2
  rw[zq z];exact al a h1
def Met.mk{x qual:Str}{st:Stmt}{N ps:LSr}{k m:Nat}{b:OFx}(h:vU K C x qual st)(S:zD N ps (ze st))(hb:∀(kV doc pm:Value)(an:Option Addr)(cdv ct:Value)(us:LVl),us.length=ps.length->bindArgs (W.fnOf x qual (jl st) (yV st) (ze st) .none kV doc pm an cdv ct) ⟨us,[]⟩=pure (ps.zip us))(hm:ps.length=m+1)(hN:m<N.length)(hbody:∀(f:AdX)(cdv:Value)(A:Around)(outer:List Env)(s:ShX)(H:Hp)(E:XK),Room k (A.deeper (envOfC qual (ze st) s.heap.objs.size f cdv))->
   OSs (Vr CX0 P w K mg base N qual (ze st) f cdv A outer s H E).nox C 0 (yV st) b):Met P w K mg base (k+1) C x ps (fnM N.length m b):=by
 have⟨f,fd,F,M⟩:=h;refine⟨f,fd,F.ok S (λvs H Q E q=>?_) (λcdv A outer s H vs Q E hr q=>?_),F.binds hb,M⟩
 ·obtain⟨p,us,os,ds,fs,d,fs',A,rfl,_,_,_,_,r,e,_⟩:=q;unfold fnM at e;split at e
  ·rename_i hl;rw[qS,r.length,hl,hm]
  ·cases e
 ·have⟨t,pp,q'⟩:=hbody f cdv A outer s H E hr;obtain⟨p,us,os,ds,fs,d,fs',A,rfl,o,nd,hA,al,r,e,kk⟩:=q;unfold fnM at e;split at e
  ·rename_i hl;refine⟨t,pp,?_⟩;have R:=VM (N:=N) al r o nd hA m hl hN;have go:∀v H' os',zcM K C (offs H A) (os.filter λa=>a∉A) p H' os' fs'->Rep K (offs H' os') v d->Q v H':=λv H' os' M rv=>by
    have⟨A',o',nd',hA'⟩:=M.ob;refine kk v H' os' A' M.sm M.al o' nd' hA' (λa ha=>?_) (λa ha=>?_) rv
    ·by_cases z:a∈A
     ·exact .inl z
     ·exact .inr (M.sub a (qO.mpr ⟨ha,by simpa using z⟩))
    ·rcases M.new a ha with z|z
     ·exact .inl (qO.mp z).1
     ·exact .inr z
   split at e
   ·rename_i d' fs'' e1;cases e;exact q' _ _ _ _ _ H os _ _ _ R e1 λv H' os' M rv=>go v H' os' M rv
   ·rename_i ρ' fs'' e1;cases e;exact q' _ _ _ _ _ H os _ _ _ R e1 λσ' H' os' R'=>go _ H' os' R'.end .non
   ·cases e
  ·cases e
end
section
variable{X:Cx}{a:Expr}{p pos tp:Pos}{tes:List Expr}{kk:Nat}{ga:RLx}
def zhm(t:Bool)(hg:Gl X "enumerate")(hm:X.mg "enumerate"=none)(ha:FAB X [a] ga)(hs:starEach [a] X.env=[(false,eval a X.env)]:=by rfl):FIB X (.Tuple tes kk tp) (.Call (.Name "enumerate" p) [a] [] pos) (ze5 t ga):=by
 have⟨ta,pa,qa⟩:=ha;refine⟨_,ziq t hg hm pa hs,λσ H os ρ ds R rel e k=>?_⟩;unfold ze5 at e;split at e
 ·rename_i x e1;split at e
  ·rename_i k1 xs e2;split at e
   ·rename_i hc;cases e;subst hc;refine qa σ H os ρ _ _ rel e1 λvs H' s r=>?_
    obtain⟨v,rfl,r1⟩:=r.one;obtain⟨a1,us,rfl,h1,q1⟩:=uh r1 e2;exact⟨a1,rfl,⟨_,h1⟩,k _ H' s (zdb h1 q1)⟩
   ·cases e
  ·cases e
 ·cases e
end
def W7(T:Nat)(F:LNt)(fi:OLx)(b:PyData->Ro->Option Ro)(fc:Ro->Option Bool)(fe:RPx):OLx:=λρ fs=>
 (fi ρ fs).bind λds=>if ds.length<=16777216 then wH (λd=>(b d (compEnv T F ρ)).bind λρ1=>(fc ρ1).bind λok=>if ok then (fe ρ1).map some else some none) ds else none
section
variable{X:Cx}{C:AdX}{ℓ:Nat}{elt tg iter c:Expr}{scope:Scope}{pos pos' spos:Pos}{Ts:LSr}{F:LNt}{is:LNt}{fi:OLx}{b:PyData->Ro->Option Ro}{fc:Ro->Option Bool}{fe:RPx}{x:Str}
def zgg(i:Nat)(hN:X.N.Nodup)(hc:X.calm=true)(hi:GIB X C ℓ tg iter fi)(S:yb X scope)(hF:∀j∈F,∃x,X.N[j]?=some x/\scope.names.lookup x=some .free)(hg:∀cl C ex s H,FG (zV X (Ts++F.map λj=>X.N.getD j "") scope cl C ex s H) tg is b)(ht:∀cl C ex s H,FT (zV X (Ts++F.map λj=>X.N.getD j "") scope cl C ex s H) c fc)(he:∀cl C ex s H,FE (zV X (Ts++F.map λj=>X.N.getD j "") scope cl C ex s H) elt fe)(his:∀i∈is,i<Ts.length:=by decide)(h0:i≠ℓ:=by decide)(hi':X.N[i]?=some x:=by rfl)(hx:X.env.scope.names.lookup x=some .local:=by rfl)(hsw:swapsWith (.ListComp elt [⟨tg,iter,[c],0⟩] scope pos) (some (.Name x pos')) spos.line X.env=pure true:=by rfl)(hs:FSx X iter:=by exact λ_=>rfl):OS X C ℓ (.Assign [.Name x pos'] (.ListComp elt [⟨tg,iter,[c],0⟩] scope pos) spos) (J7 i (W7 Ts.length F fi b fc fe)):=by
 have⟨wi,pi,qi⟩:=hi;refine⟨_,U4 (Ts:=Ts) (F:=F) (g:=gF X.K is b) (tc:=tFT X.K fc) (te:=tF X.K fe) hN hi' hx hc pi S hF hg (λcl C ex s H=>(he cl C ex s H).pe) (λcl C ex s H=>(ht cl C ex s H).pt) hsw hs,λH0 os0 p D σ H os ρ fs r R q k=>?_⟩;have⟨ds,e1,q⟩:=bind_some q;cases q;have⟨es,e1,q⟩:=bind_some e1;split at q
 ·rename_i hl;refine qi σ H os ρ fs es _ R.v7 e1 λJ H' s W D hD=>?_
  exact JB his (R.sr.rel.same s) hl hD W q λH2 xs s2 hx r=>k _ _ _ (R.ZA h0 (s.free hD) (s.trans s2) hx r)
 ·cases q
end
section
variable{K:FRx}{C C2:AdX}{ℓ:Nat}{H0 H H':Hp}{os0 os os':LAd}{p q:AdX}{σ:St}{ρ:Ro}{fs:Ob}
structure Left(H:Hp)(os B:LAd)(H':Hp)(os':LAd):Prop where
 sm:Same (offs H B) H'
 al:Al H' os'
 sub:∀a∈os,a∈B\/a∈os'
 new:∀a∈os',a∈os\/offs H B a=none
def Left.data{B:LAd}(h:Left H os B H' os')(hB:∀a∈B,a∈os):Same (offs H os) (offs H' os'):=λb o z=>by
 by_cases hb:b∈os
 ·rw[yS hb] at z;cases z
 ·rw[zq hb] at z;have nB:b∉B:=λw=>hb (hB b w)
  have e:offs H B b=some o:=by rw[zq nB];exact z
  rw[zq]
  ·exact h.sm b o e
  ·intro w;rcases h.new b w with u|u
   ·exact hb u
   ·rw[e] at u;cases u
def Left.cell{B:LAd}(h:Left H os B H' os'){a:AdX}{o:HO}(hB:a∉B)(e:H a=some o):H' a=some o:=h.sm a o (by rw[zq hB];exact e)
def SRo.left(h:SRo K H0 os0 H os σ ρ){B:LAd}(l:Left H os B H' os')(hB:∀a∈B,a∈os/\H0 a=none)(hs:∀(j:Nat)(c:Sl),ρ[j]?=some c->isM c=true->∀a∈B,σ[j]?≠some (some (.ref a))):SRo K H0 os0 H' os' σ ρ:=by
 have sd:=l.data λa ha=>(hB a ha).1
 refine⟨⟨λi d q=>?_,λi c q m=>?_,l.al,h.rel.len⟩,λb o z=>?_,λa ha=>?_,λa ha=>?_,h.al0,h.own,h.ap⟩
 ·have⟨v,h1,h2⟩:=h.rel.pu i d q;exact⟨v,h1,h2.same sd⟩
 ·have⟨a,o,h1,h2,h3,h4⟩:=h.rel.mu i c q m;have nB:a∉B:=λw=>hs i c q m a w h1
  refine⟨a,o,h1,?_,l.cell nB h3,h4.same sd⟩;rcases l.sub a h2 with w|w
  ·exact absurd w nB
  ·exact w
 ·refine l.cell (λw=>?_) (h.sm b o z);rw[(hB b w).2] at z;cases z
 ·rcases l.sub a (h.sub a ha) with w|w
  ·have⟨o,e⟩:=h.al0 a ha;rw[(hB a w).2] at e;cases e
  ·exact w
 ·rcases l.new a ha with w|w
  ·exact h.new a w
  ·by_cases z:a∈B
   ·exact .inr (hB a z).2
   ·rw[zq z] at w;exact .inr (h.sm.free w)
theorem xg.nest{x:Str}{gs gs':Ob}{B B':LAd}(sd:Same (offs H os) (offs H' os'))(hc:∀a o,a∉B->H a=some o->H' a=some o)(o':FOk K H' os' (.ref q) (.ob C2 gs') B')(ndB':B'.Nodup):∀{vs:List (Str×V)} {fs:Ob} {A:LAd},xg K H os vs fs A->A.Nodup->(∀a∈A,a∉B->a∉B')->fld x fs=some (.ob C2 gs)->vs.lookup x=some (.ref q)->(∀{v:V} {D:LAd},FOk K H os v (.ob C2 gs) D->v=.ref q->D=B)->
   ∃A',xg K H' os' vs (zP x (.ob C2 gs') fs) A'/\A'.Nodup/\∀a∈A',(a∈A/\a∉B)\/a∈B'
 |_,_,_,.nil,_,_,e,_,_=>by cases e
 |_,_,_,@xg.cons _ _ _ y u d vs fs A0 B0 h r,nd,dj,e,l,un=>by
  have kp:∀{A:LAd},(∀a∈A,a∉B)->(∀a∈A,∃o,H a=some o)->∀a∈A,H' a=H a:=λnB has a ha=>by
   have⟨o,w⟩:=has a ha;rw[w];exact hc a o (nB a ha) w
  unfold fld at e;unfold zP;by_cases z:x=y
  ·rw[qf z] at e;rw[qf z.symm];cases e;rw[kj,show(x==y)=true from gL.mpr z] at l;cases l;have eB:A0=B:=un h rfl;subst eB;have nB:∀a∈B0,a∉A0:=λa ha w=>zfM nd a w ha
   refine⟨B'++B0,.cons o' (r.keep sd (kp nB r.has)),zaU ndB' (zgm nd) λa ha w=>dj a (qg.mpr (.inr w)) (nB a w) ha,λa ha=>?_⟩;rcases qg.mp ha with w|w
   ·exact .inr w
   ·exact .inl ⟨qg.mpr (.inr w),nB a w⟩
  ·rw[qq z] at e;rw[qq (gu z)];rw[kj,show(x==y)=false from kK.mpr z] at l;have l:vs.lookup x=some (.ref q):=l;have⟨v,D,l',o2,hD⟩:=r.look e
   rw[l] at l';cases l';have eB:D=B:=un o2 rfl;subst eB;have nB:∀a∈A0,a∉D:=λa ha w=>zfM nd a ha (hD a w)
   obtain⟨A',h1,h2,h3⟩:=xg.nest sd hc o' ndB' r (zgm nd) (λa ha=>dj a (qg.mpr (.inr ha))) e l un;refine⟨A0++A',.cons (h.keep sd (kp nB h.has)) h1,zaU (zld nd) h2 λa ha w=>?_,λa ha=>?_⟩
   ·rcases h3 a w with u|u
    ·exact zfM nd a ha u.1
    ·exact dj a (qg.mpr (.inl ha)) (nB a ha) u
   ·rcases qg.mp ha with w|w
    ·exact .inl ⟨qg.mpr (.inl w),nB a w⟩
    ·rcases h3 a w with u|u
     ·exact .inl ⟨qg.mpr (.inr u.1),u.2⟩
     ·exact .inr u
mutual
theorem FOk.uniq:∀{v:V} {c:Fs} {A B:LAd},FOk K H os v c A->FOk K H os v c B->A=B
 |_,_,_,_,.pu _,.pu _=>rfl
 |_,_,_,_,.ow _ _,.ow _ _=>rfl
 |_,_,_,_,.ob h r,.ob h' r'=>by
  rw[h] at h';cases h';exact qM _ (xg.uniq r r')
theorem xg.uniq:∀{vs:List (Str×V)} {fs:Ob} {A B:LAd},xg K H os vs fs A->xg K H os vs fs B->A=B
 |_,_,_,_,.nil,.nil=>rfl
 |_,_,_,_,.cons h r,.cons h' r'=>by rw[FOk.uniq h h',xg.uniq r r']
end
def MSt.nest(h:MSt K C ℓ H0 os0 p H os σ ρ fs){x:Str}{gs gs':Ob}{B B':LAd}{dx:AdX}{vs:List (Str×V)}(e:fld x fs=some (.ob C2 gs))(hp:H p=some (.ins C dx vs))(l:vs.lookup x=some (.ref q))(o:FOk K H os (.ref q) (.ob C2 gs) B)(L:Left H os B H' os')(o':FOk K H' os' (.ref q) (.ob C2 gs') B')(nd':B'.Nodup)(hB':∀a∈B',a∈os'/\offs H B a=none):MSt K C ℓ H0 os0 p H' os' σ ρ (zP x (.ob C2 gs') fs):=by
 have⟨A,h1,h2,h3,h4⟩:=h.ob;cases h1 with
 | @ob _ _ _ _ _ A hp' r=>
  rw[hp] at hp';cases hp';have⟨pA,nd⟩:=km.mp h2;have⟨v,B0,l',o0,hB0⟩:=r.look e;rw[l] at l';cases l';have eB:=o0.uniq o;subst eB;have BA:∀a∈B0,a∈p::A:=λa ha=>.tail _ (hB0 a ha)
  have pB:p∉B0:=λw=>pA (hB0 p w)
  have sd:=L.data λa ha=>(h3 a (BA a ha)).1
  have dj:∀a∈p::A,a∉B0->a∉B':=λa ha nB w=>by
   have:=(hB' a w).2;rw[zq nB] at this;rcases qu.mp ha with z|z
   ·rw[z,hp] at this;cases this
   ·have⟨o,e⟩:=r.has a z;rw[e] at this;cases this
  obtain⟨A',k1,k2,k3⟩:=xg.nest sd (λa o nB e=>L.cell nB e) o' nd' r nd (λa ha=>dj a (.tail _ ha)) e l λ{v D} w z=>by
   subst z;exact w.uniq o0
  have pA':p∉A':=λw=>by
   rcases k3 p w with u|u
   ·exact pA u.1
   ·exact dj p (.head _) pB u
  have nB':∀a∈B',H0 a=none:=λa ha=>by
   have:=(hB' a ha).2;by_cases z:a∈B0
   ·exact(h3 a (BA a z)).2
   ·rw[zq z] at this;exact h.sr.sm.free this
  have ins:∀a∈p::A,a∉B0->a∈os':=λa ha nB=>by
   rcases L.sub a (h3 a ha).1 with w|w
   ·exact absurd w nB
   ·exact w
  refine⟨h.sr.left L (λa ha=>h3 a (BA a ha)) λj c q m a ha=>h4 j c q m a (BA a ha),h.self,p::A',.ob (L.cell pB hp) k1,km.mpr ⟨pA',k2⟩,λa ha=>?_,λj c q m a ha=>?_⟩
  ·rcases qu.mp ha with z|z
   ·rw[z];exact⟨ins p (.head _) pB,(h3 p (.head _)).2⟩
   ·rcases k3 a z with u|u
    ·exact⟨ins a (.tail _ u.1) u.2,(h3 a (.tail _ u.1)).2⟩
    ·exact⟨(hB' a u).1,nB' a u⟩
  ·rcases qu.mp ha with z|z
   ·rw[z];exact h4 j c q m p (.head _)
   ·rcases k3 a z with u|u
    ·exact h4 j c q m a (.tail _ u.1)
    ·intro w;have⟨b,o,w1,w2,w3,_⟩:=h.sr.rel.mu j c q m;rw[w] at w1;cases w1;by_cases y:a∈B0
     ·exact h4 j c q m a (BA a y) w
     ·have:=(hB' a u).2;rw[zq y,w3] at this;cases this
end
theorem xg.zhA{K:FRx}{H:Hp}{os:LAd}{x:Str}:∀{vs:List (Str×V)} {fs:Ob} {A:LAd} {c:Fs},xg K H os vs fs A->A.Nodup->fld x fs=some c->∃v B,vs.lookup x=some v/\FOk K H os v c B/\B.Nodup/\∀a∈B,a∈A
 |_,_,_,_,.nil,_,q=>by cases q
 |_,_,_,c,@xg.cons _ _ _ y v c' vs fs A B h r,nd,q=>by
  unfold fld at q;by_cases z:x=y
  ·rw[qf z] at q;cases q;refine⟨v,A,?_,h,zld nd,λa ha=>qg.mpr (.inl ha)⟩;rw[kj,show(x==y)=true from gL.mpr z]
  ·rw[qq z] at q;obtain⟨v',B',h1,h2,h3,h4⟩:=xg.zhA r (zgm nd) q;refine⟨v',B',?_,h2,h3,λa ha=>qg.mpr (.inr (h4 a ha))⟩;rw[kj,show(x==y)=false from kK.mpr z];exact h1
def GA(X:Cx)(C:AdX)(ℓ:Nat)(es:List Expr)(f:OLx):Prop:=∃t:TA,PA X es t/\∀(σ:St)(H:Hp)(os:LAd)(ρ:Ro)(fs:Ob)(ds:LPd)(Q:List V->Hp->Prop),vL X.K C ℓ H os σ ρ fs->f ρ fs=some ds->
  (∀vs H',Same H H'->Reps X.K (offs H' os) vs ds->Q vs H')->t σ H Q
def GM(X:Cx)(C:AdX)(ℓ:Nat)(e:Expr)(f:Ro->Ob->Option (PyData×Ob)):Prop:=∃t:TE,PE X e t/\∀(H0:Hp)(os0:LAd)(p:AdX)(σ:St)(H:Hp)(os:LAd)(ρ:Ro)(fs:Ob)(d:PdX)(fs':Ob)(Q:VK),MSt X.K C ℓ H0 os0 p H os σ ρ fs->f ρ fs=some (d,fs')->
  (∀v H' os',MSt X.K C ℓ H0 os0 p H' os' σ ρ fs'->Rep X.K (offs H' os') v d->Q v H')->t σ H Q
section
variable{X:Cx}{C C2:AdX}{ℓ:Nat}{e:Expr}{es:List Expr}{f:OPx}{g:OLx}{pos apos p0 p1:Pos}{x y m:Str}{k k':Nat}{ps:LSr}
def wb:GA X C ℓ [] gA0:=⟨_,xW,λ_ H _ _ _ _ _ _ q k=>by cases q;exact k [] H (Same.refl H) .nil⟩
def xI(ha:GE X C ℓ e f)(hr:GA X C ℓ es g)(hs:SEx X e es:=by rfl):GA X C ℓ (e::es) (gAC f g):=by
 have⟨ta,pa,qa⟩:=ha;have⟨tb,pb,qb⟩:=hr;refine⟨_,yU pa pb hs,λσ H os ρ fs ds Q R q k=>?_⟩;have⟨d,e1,q⟩:=bind_some q;have⟨r,e2,e3⟩:=map_some q;subst e3;exact qa σ H os ρ fs d _ R e1 λx H1 s1 r1=>qb σ H1 os ρ fs r _ (R.same s1) e2 λxs H2 s2 r2=>k _ H2 (s1.trans s2) (.cons (r1.same (zl s2 os)) r2)
def gmn(C2:AdX)(y m:Str)(h:MFx)(g:OLx):Ro->Ob->Option (PyData×Ob):=λρ fs=>match fld y fs with
 |some (.ob C' gs)=>if C'=C2/\(fld m gs).isNone=true then (g ρ fs).bind λds=>(h gs ds).map λr=>(r.1,zP y (.ob C2 r.2) fs) else none
 |_=>none
def ziT{pl:Sem Bool}{h:MFx}(cl:Cls X.K C)(na:zS X.K C y)(cl2:Cls X.K C2)(M:Met X.prog X.w X.K X.mg X.base k C2 m ps h)(hr:Room k' X.A)(ha:GA X C ℓ (e::es) g)(hk:k<=k':=by decide)(hN:X.N[ℓ]?=some x:=by rfl)(hv:Vis X.env.scope x:=by trivial)(hd:NDx x:=by decide)(hcd:NCx x:=by decide)(hb:ABx X (.Name x p0) y:=by rfl)(hst:SEx X e es:=by rfl)(hpl:PLx X pos es:=by rfl)(ht:eval (.Call (.Attribute (.Attribute (.Name x p0) y p1) m apos) (e::es) [] pos) X.env=(do
   let ov <-eval (.Attribute (.Name x p0) y p1) X.env
   standAt apos.atName
   let (f,first) <-holding [ov] (getMethod ov m pl)
   callWith pos f first (backTo pos (starEach (e::es) X.env)) (backToKw pos (keywordEach [] X.env))):=by rfl):GM X C ℓ (.Call (.Attribute (.Attribute (.Name x p0) y p1) m apos) (e::es) [] pos) (gmn C2 y m h g):=by
 have⟨fa,fd,F,B,mm⟩:=M;have⟨t,pa,qa⟩:=ha;refine⟨_,W4 (pl:=pl) (wY (yu (i:=ℓ) hN hv hd hcd) hb) cl2 mm F (hr.mono hk) B .nil ur pa hst hpl ht,λH0 os0 p σ H os ρ fs d fs' Q R e kk=>?_⟩;unfold gmn at e;split at e
 ·rename_i C' gs ef;split at e
  ·rename_i hc;obtain⟨rfl,hm⟩:=hc;have⟨ds,e1,e2⟩:=bind_some e;have⟨r,e3,e4⟩:=map_some e2;cases e4;have⟨A,h1,h2,h3,h4⟩:=R.ob;cases h1 with
   |ob hp rr=>
    obtain⟨v,D,l,o,ndD,hD⟩:=rr.zhA (km.mp h2).2 ef;cases o with
    | @ob q _ dx2 vs2 _ D' hq r2=>
     refine⟨_,R.self,_,_,_,_,_,rfl,hp,cl,na,l,q,_,_,rfl,hq,r2.nolook (k8.mp hm),qa σ H os ρ fs ds _ R.v7 e1 λus H1 s1 ru=>?_⟩;rw[kg];have R1:=R.same s1;have o1:FOk X.K H1 os (.ref q) (.ob C' gs) (q::D'):=FOk.same s1 (.ob hq r2)
     refine⟨q,us,os,ds,gs,r.1,r.2,q::D',rfl,o1,ndD,λa ha=>(h3 a (.tail _ (hD a ha))).1,R1.sr.rel.al,ru,e3,λv H' os' B' sm al o' nd' hB' sub new rv=>?_⟩;exact kk v H' os' (R1.nest ef (s1 _ _ hp) l o1 ⟨sm,al,sub,new⟩ o' nd' hB') rv
  ·cases e
 ·cases e
end
section
variable{X:Cx}{C:AdX}{ℓ:Nat}{e:Expr}{pos:Pos}{f:Ro->Ob->Option (PyData×Ob)}
noncomputable def oex(f:Ro->Ob->Option (PyData×Ob)):OFx:=λρ fs=>(f ρ fs).bind λr=>some (.nx ρ r.2)
def zme(h:GM X C ℓ e f)(hs:swapsWith e none pos.line X.env=pure false:=by rfl):OS X C ℓ (.Expr e pos) (oex f):=by
 have⟨t,p,q⟩:=h;refine⟨_,vW p hs,λH0 os0 p D σ H os ρ fs r R e k=>?_⟩;have⟨d,e1,e2⟩:=bind_some e;cases e2;exact q H0 os0 p σ H os ρ fs d.1 d.2 _ R e1 λv H' os' R' _=>k _ _ _ R'
noncomputable def osm(i:Nat)(f:Ro->Ob->Option (PyData×Ob)):OFx:=λρ fs=>(f ρ fs).bind λr=>some (.nx (ρ.set i (.pu r.1)) r.2)
def WX(i:Nat){x:Str}{pos':Pos}(hN:X.N.Nodup)(he:GM X C ℓ e f)(h0:i≠ℓ:=by decide)(hi:X.N[i]?=some x:=by rfl)(hx:Loc X.env.scope x:=by trivial)(hs:swapsWith e (some (.Name x pos')) pos.line X.env=pure false:=by rfl)(hf:FNx X x:=by trivial):OS X C ℓ (.Assign [.Name x pos'] e pos) (osm i f):=by
 have⟨t,p,q⟩:=he;refine⟨_,wA hN hi hx p hs hf,λH0 os0 p D σ H os ρ fs r R e k=>?_⟩;have⟨d,e1,e2⟩:=bind_some e;cases e2;exact q H0 os0 p σ H os ρ fs d.1 d.2 _ R e1 λv H' os' R' rv=>k _ _ _ (R'.set h0 rv)
end
section
variable{X:Cx}{C C2:AdX}{ℓ:Nat}{e:Expr}{es:List Expr}{g:OLx}{pos apos p0 p1:Pos}{x y m:Str}{k k':Nat}{ps:LSr}
def zhf{pl:Sem Bool}{h:MFx}(cl:Cls X.K C)(na:zS X.K C y)(cl2:Cls X.K C2)(M:Met X.prog X.w X.K X.mg X.base k C2 m ps h)(hr:Room k' X.A)(hk:k<=k':=by decide)(hN:X.N[ℓ]?=some x:=by rfl)(hv:Vis X.env.scope x:=by trivial)(hd:NDx x:=by decide)(hcd:NCx x:=by decide)(hb:ABx X (.Name x p0) y:=by rfl)(ht:eval (.Call (.Attribute (.Attribute (.Name x p0) y p1) m apos) [] [] pos) X.env=(do
   let ov <-eval (.Attribute (.Name x p0) y p1) X.env
   standAt apos.atName
   let (f,first) <-holding [ov] (getMethod ov m pl)
   callWith pos f first (backTo pos (starEach [] X.env)) (backToKw pos (keywordEach [] X.env))):=by rfl):GM X C ℓ (.Call (.Attribute (.Attribute (.Name x p0) y p1) m apos) [] [] pos) (gmn C2 y m h gA0):=by
 have⟨fa,fd,F,B,mm⟩:=M;refine⟨_,zcE (pl:=pl) (wY (yu (i:=ℓ) hN hv hd hcd) hb) cl2 mm F (hr.mono hk) B .nil ur ht,λH0 os0 p σ H os ρ fs d fs' Q R e kk=>?_⟩;unfold gmn at e;split at e
 ·rename_i C' gs ef;split at e
  ·rename_i hc;obtain⟨rfl,hm⟩:=hc;have⟨ds,e1,e2⟩:=bind_some e;cases e1;have⟨r,e3,e4⟩:=map_some e2;cases e4;have⟨A,h1,h2,h3,h4⟩:=R.ob;cases h1 with
   |ob hp rr=>
    obtain⟨v,D,l,o,ndD,hD⟩:=rr.zhA (km.mp h2).2 ef;cases o with
    | @ob q _ dx2 vs2 _ D' hq r2=>
     refine⟨_,R.self,_,_,_,_,_,rfl,hp,cl,na,l,q,_,_,rfl,hq,r2.nolook (k8.mp hm),?_⟩;have o1:FOk X.K H os (.ref q) (.ob C' gs) (q::D'):=.ob hq r2;refine⟨q,[],os,[],gs,r.1,r.2,q::D',rfl,o1,ndD,λa ha=>(h3 a (.tail _ (hD a ha))).1,R.sr.rel.al,.nil,e3,λv H' os' B' sm al o' nd' hB' sub new rv=>?_⟩;exact kk v H' os' (R.nest ef hp l o1 ⟨sm,al,sub,new⟩ o' nd' hB') rv
  ·cases e
 ·cases e
def MSt.own{K:FRx}{H0 H H':Hp}{os0 os os':LAd}{p:AdX}{σ:St}{ρ:Ro}{fs fs':Ob}{B B':LAd}(h:MSt K C ℓ H0 os0 p H os σ ρ fs)(o:FOk K H os (.ref p) (.ob C fs) B)(L:Left H os B H' os')(o':FOk K H' os' (.ref p) (.ob C fs') B')(nd':B'.Nodup)(hB':∀a∈B',a∈os'/\offs H B a=none):MSt K C ℓ H0 os0 p H' os' σ ρ fs':=by
 have⟨A,h1,h2,h3,h4⟩:=h.ob;have eB:=h1.uniq o;subst eB;refine⟨h.sr.left L h3 h4,h.self,B',o',nd',λa ha=>⟨(hB' a ha).1,?_⟩,λj c q m a ha w=>?_⟩
 ·have:=(hB' a ha).2;by_cases z:a∈A
  ·exact(h3 a z).2
  ·rw[zq z] at this;exact h.sr.sm.free this
 ·have⟨b,o,w1,w2,w3,_⟩:=h.sr.rel.mu j c q m;rw[w] at w1;cases w1;by_cases y:a∈A
  ·exact h4 j c q m a y w
  ·have:=(hB' a ha).2;rw[zq y,w3] at this;cases this
def gms(m:Str)(h:MFx)(g:OLx):Ro->Ob->Option (PyData×Ob):=λρ fs=>if (fld m fs).isNone=true then (g ρ fs).bind λds=>h fs ds else none
def zaZ{pl:Sem Bool}{h:MFx}(cl:Cls X.K C)(M:Met X.prog X.w X.K X.mg X.base k C m ps h)(hr:Room k' X.A)(ha:GA X C ℓ (e::es) g)(hk:k<=k':=by decide)(hN:X.N[ℓ]?=some x:=by rfl)(hv:Vis X.env.scope x:=by trivial)(hd:NDx x:=by decide)(hcd:NCx x:=by decide)(hst:SEx X e es:=by rfl)(hpl:PLx X pos es:=by rfl)(ht:eval (.Call (.Attribute (.Name x p0) m apos) (e::es) [] pos) X.env=(do
   let ov <-eval (.Name x p0) X.env
   standAt apos.atName
   let (f,first) <-holding [ov] (getMethod ov m pl)
   callWith pos f first (backTo pos (starEach (e::es) X.env)) (backToKw pos (keywordEach [] X.env))):=by rfl):GM X C ℓ (.Call (.Attribute (.Name x p0) m apos) (e::es) [] pos) (gms m h g):=by
 have⟨fa,fd,F,B,mm⟩:=M;have⟨t,pa,qa⟩:=ha;refine⟨_,W4 (pl:=pl) (yu (i:=ℓ) hN hv hd hcd) cl mm F (hr.mono hk) B .nil ur pa hst hpl ht,λH0 os0 p σ H os ρ fs d fs' Q R e kk=>?_⟩;unfold gms at e;split at e
 ·rename_i hm;have⟨ds,e1,e2⟩:=bind_some e;have⟨A,h1,h2,h3,h4⟩:=R.ob;cases h1 with
  |ob hp rr=>
   refine⟨_,R.self,p,_,_,rfl,hp,rr.nolook (k8.mp hm),qa σ H os ρ fs ds _ R.v7 e1 λus H1 s1 ru=>?_⟩;rw[kg];have R1:=R.same s1;have o1:=FOk.same s1 (FOk.ob hp rr)
   refine⟨p,us,os,ds,fs,d,fs',_,rfl,o1,h2,λa ha=>(h3 a ha).1,R1.sr.rel.al,ru,e2,λv H' os' B' sm al o' nd' hB' sub new rv=>?_⟩;exact kk v H' os' (R1.own o1 ⟨sm,al,sub,new⟩ o' nd' hB') rv
 ·cases e
end
def GTM(X:Cx)(C:AdX)(ℓ:Nat)(e:Expr)(f:Ro->Ob->Option (Bool×Ob)):Prop:=∃t:TT,PT X e t/\∀(H0:Hp)(os0:LAd)(p:AdX)(σ:St)(H:Hp)(os:LAd)(ρ:Ro)(fs:Ob)(b:Bool)(fs':Ob)(Q:Bool->Hp->Prop),MSt X.K C ℓ H0 os0 p H os σ ρ fs->f ρ fs=some (b,fs')->
  (∀H' os',MSt X.K C ℓ H0 os0 p H' os' σ ρ fs'->Q b H')->t σ H Q
def GWM(X:Cx)(C:AdX)(ℓ:Nat)(e:Expr)(f:Ro->Ob->Option (Bool×Ob)):Prop:=∃t:TT,PW X e t/\∀(H0:Hp)(os0:LAd)(p:AdX)(σ:St)(H:Hp)(os:LAd)(ρ:Ro)(fs:Ob)(b:Bool)(fs':Ob)(Q:Bool->Hp->Prop),MSt X.K C ℓ H0 os0 p H os σ ρ fs->f ρ fs=some (b,fs')->
  (∀H' os',MSt X.K C ℓ H0 os0 p H' os' σ ρ fs'->Q b H')->t σ H Q
section
variable{X:Cx}{C:AdX}{ℓ:Nat}{e a b:Expr}{pos:Pos}{rest:List Expr}
noncomputable def gtF(f:Ro->Ob->Option Bool):Ro->Ob->Option (Bool×Ob):=λρ fs=>(f ρ fs).map λc=>(c,fs)
def GT.gtm{f:Ro->Ob->Option Bool}(h:GT X C ℓ e f):GTM X C ℓ e (gtF f):=by
 have⟨t,p,q⟩:=h;refine⟨t,p,λH0 os0 p σ H os ρ fs b fs' Q R e k=>?_⟩;have⟨c,e1,e2⟩:=map_some e;cases e2;exact q σ H os ρ fs _ Q R.v7 e1 λH' s=>k H' os (R.same s)
noncomputable def gvF(f:Ro->Ob->Option (PyData×Ob)):Ro->Ob->Option (Bool×Ob):=λρ fs=>match f ρ fs with |some (.bool c,fs')=>some (c,fs')|_=>none
def WT{f:Ro->Ob->Option (PyData×Ob)}(h:GM X C ℓ e f)(he:∀whole,isTrue e X.env whole=(do let v <-whole;standAt e.pos;holding [v] (truthy v)):=by intro _;rfl):GTM X C ℓ e (gvF f):=by
 have⟨t,p,q⟩:=h;refine⟨_,zid p he,λH0 os0 p σ H os ρ fs b fs' Q R e k=>?_⟩;unfold gvF at e;split at e
 ·rename_i c fs2 e1;cases e;refine q H0 os0 p σ H os ρ fs _ _ _ R e1 λv H' os' R' rv=>?_
  cases rv;exact⟨_,rfl,k H' os' R'⟩
 ·cases e
noncomputable def gnF(f:Ro->Ob->Option (Bool×Ob)):Ro->Ob->Option (Bool×Ob):=λρ fs=>(f ρ fs).map λr=>(!r.1,r.2)
def zeE{f:Ro->Ob->Option (Bool×Ob)}(h:GTM X C ℓ a f):GTM X C ℓ (.UnaryOp .Not a pos) (gnF f):=by
 have⟨t,p,q⟩:=h;refine⟨_,zhB p,λH0 os0 p σ H os ρ fs b fs' Q R e k=>?_⟩;have⟨r,e1,e2⟩:=map_some e;cases e2;exact q H0 os0 p σ H os ρ fs _ _ _ R e1 k
def GWM.gtm{f:Ro->Ob->Option (Bool×Ob)}(h:GWM X C ℓ e f):GTM X C ℓ e f:=by
 have⟨t,p,q⟩:=h;exact⟨t,p.pt,q⟩
def zhn{f:Ro->Ob->Option (Bool×Ob)}(h:GTM X C ℓ a f):GWM X C ℓ (.BoolOp .And [a] pos) f:=by
 have⟨t,p,q⟩:=h;exact⟨t,pw_and1 p,q⟩
noncomputable def gaF(f g:Ro->Ob->Option (Bool×Ob)):Ro->Ob->Option (Bool×Ob):=λρ fs=>(f ρ fs).bind λr=>if r.1 then g ρ r.2 else some (false,r.2)
def ziR{f g:Ro->Ob->Option (Bool×Ob)}(ha:GTM X C ℓ a f)(hb:GWM X C ℓ (.BoolOp .And (b::rest) pos) g):GWM X C ℓ (.BoolOp .And (a::b::rest) pos) (gaF f g):=by
 have⟨ta,pa,qa⟩:=ha;have⟨tb,pb,qb⟩:=hb;refine⟨_,pw_and pa pb,λH0 os0 p σ H os ρ fs c fs' Q R q k=>?_⟩;have⟨⟨b,fs1⟩,e1,e2⟩:=bind_some q;refine qa H0 os0 p σ H os ρ fs b fs1 _ R e1 λH' os' R'=>?_
 cases b with
 |true=>rw[qf rfl] at e2 ⊢;exact qb H0 os0 p σ H' os' ρ fs1 c fs' Q R' e2 k
 |false=>rw[qq qF] at e2 ⊢;cases e2;exact k H' os' R'
noncomputable def V0(c:Ro->Ob->Option (Bool×Ob))(f g:OFx):OFx:=λρ fs=>(c ρ fs).bind λr=>if r.1 then f ρ r.2 else g ρ r.2
def zd5{c:Expr}{a b:List Stmt}{f g:OFx}{fc:Ro->Ob->Option (Bool×Ob)}(hc:GTM X C ℓ c fc)(ha:OSs X C ℓ a f)(hb:OSs X C ℓ b g):OS X C ℓ (.If c a b pos) (V0 fc f g):=by
 have⟨tc,pc,qc⟩:=hc;have⟨ta,pa,qa⟩:=ha;have⟨tb,pb,qb⟩:=hb;refine⟨_,zez pc pa pb,λH0 os0 p D σ H os ρ fs r R e k=>?_⟩;have⟨⟨b,fs1⟩,e1,e2⟩:=bind_some e;refine qc H0 os0 p σ H os ρ fs b fs1 _ R e1 λH' os' R'=>?_
 cases b with
 |true=>rw[qf rfl] at e2 ⊢;exact qa H0 os0 p D σ H' os' ρ fs1 r R' e2 k
 |false=>rw[qq qF] at e2 ⊢;exact qb H0 os0 p D σ H' os' ρ fs1 r R' e2 k
end
noncomputable def gop(h:PyData->PyData->Option PyData)(f g:OPx):OPx:=λρ fs=>(f ρ fs).bind λx=>(g ρ fs).bind λy=>h x y
noncomputable def gbo(f:OPx):Ro->Ob->Option Bool:=λρ fs=>match f ρ fs with |some (.bool c)=>some c|_=>none
section
variable{X:Cx}{C:AdX}{ℓ:Nat}{a b e:Expr}{es:List Expr}{f g:OPx}{ga:OLx}{p pos:Pos}{x:Str}{id:String}{r:List V->Hp->VK->Prop}
def U8{h:PyData->PyData->Option PyData}{ρ:Ro}{fs:Ob}{c:PdX}(q:gop h f g ρ fs=some c):∃d e,f ρ fs=some d/\g ρ fs=some e/\h d e=some c:=by
 have⟨d,e1,q⟩:=bind_some q;have⟨e,e2,q⟩:=bind_some q;exact⟨d,e,e1,e2,q⟩
def zhI{ρ:Ro}{fs:Ob}{c:Bool}(q:gbo f ρ fs=some c):f ρ fs=some (.bool c):=by
 unfold gbo at q;split at q
 ·rename_i e;cases q;exact e
 ·cases q
def zmB{op:Operator}{r:R2}{h:PyData->PyData->Option PyData}(ho:OpR X (binaryOp op) r)(hr:R2F X.K r h)(ha:GB X C ℓ a f)(hb:GB X C ℓ b g):GE X C ℓ (.BinOp a op b pos) (gop h f g):=by
 have⟨ta,pa,qa⟩:=ha;have⟨tb,pb,qb⟩:=hb;refine⟨_,zby ho pa pb,λσ H os ρ fs c Q R q k=>?_⟩;have⟨d,e,e1,e2,e3⟩:=U8 q;refine qa σ H os ρ fs d _ R e1 λx H1 s1 r1=>qb σ H1 os ρ fs e _ (R.same s1) e2 λy H' s2 r2=>?_
 exact hr x y H' os d e c Q (R.rel.al.same (s1.trans s2)) (r1.same s2) r2 e3 λv H2 s3=>k v H2 ((s1.trans s2).trans s3)
def Z1(ha:GB X C ℓ a f)(hb:GB X C ℓ b g)(hs:W2 b):GE X C ℓ (.Subscript a b pos) (gop ixD f g):=by
 have⟨ta,pa,qa⟩:=ha;have⟨tb,pb,qb⟩:=hb;refine⟨_,zh2 zaE pa pb hs,λσ H os ρ fs c Q R q k=>?_⟩;have⟨d,e,e1,e2,e3⟩:=U8 q;refine qa σ H os ρ fs d _ R e1 λx H1 s1 r1=>qb σ H1 os ρ fs e _ (R.same s1) e2 λy H' s2 r2=>?_
 exact zki x y H' os d e c Q (R.rel.al.same (s1.trans s2)) (r1.same s2) r2 e3 λv H2 s3=>k v H2 ((s1.trans s2).trans s3)
def zlX{op:CmpOp}{r:R2}{h:PyData->PyData->Option PyData}(ho:OpR X (compareOp op) r)(hr:R2F X.K r h)(ha:GB X C ℓ a f)(hb:GB X C ℓ b g)(hm:behindInMarks op b=false):GT X C ℓ (.Compare a [op] [b] pos) (gbo (gop h f g)):=by
 have⟨ta,pa,qa⟩:=ha;have⟨tb,pb,qb⟩:=hb;refine⟨_,zeA ho pa pb hm,λσ H os ρ fs c Q R q k=>?_⟩;obtain⟨d,e,e1,e2,e3⟩:=U8 (zhI q);refine qa σ H os ρ fs d _ R e1 λx H1 s1 r1=>qb σ H1 os ρ fs e _ (R.same s1) e2 λy H' s2 r2=>?_
 refine hr x y H' os d e (.bool c) _ (R.rel.al.same (s1.trans s2)) (r1.same s2) r2 e3 λv H2 s3 rv=>?_
 cases rv;exact⟨c,rfl,k H2 ((s1.trans s2).trans s3)⟩
def zlu{op:CmpOp}{r:R2}{h:PyData->PyData->Option PyData}(ho:OpR X (compareOp op) r)(hr:R2F X.K r h)(ha:GB X C ℓ a f)(hb:GB X C ℓ b g)(hm:behindInMarks op b=false:=by rfl):GE X C ℓ (.Compare a [op] [b] pos) (gop h f g):=by
 have⟨ta,pa,qa⟩:=ha;have⟨tb,pb,qb⟩:=hb;refine⟨_,zeM ho pa pb hm,λσ H os ρ fs c Q R q k=>?_⟩;have⟨d,e,e1,e2,e3⟩:=U8 q;refine qa σ H os ρ fs d _ R e1 λx H1 s1 r1=>qb σ H1 os ρ fs e _ (R.same s1) e2 λy H' s2 r2=>?_
 exact hr x y H' os d e c Q (R.rel.al.same (s1.trans s2)) (r1.same s2) r2 e3 λv H2 s3=>k v H2 ((s1.trans s2).trans s3)
def Vf{h:LPx}(hc:vh X (.builtin id) r)(hr:CRF X.K r h)(hg:Gl X x)(hm:X.mg x=none)(hv:bootBuiltins x=some (.builtin id))(ha:GAB X C ℓ (e::es) ga)(hn:x≠"__name__":=by decide)(hdb:NDx x:=by decide)(he:SEx X e es:=by rfl)(hpl:PLx X pos es:=by rfl):GE X C ℓ (.Call (.Name x p) (e::es) [] pos) (gcall h ga):=by
 have⟨t,pa,qa⟩:=ha;refine⟨_,Yt hc hg hm hv pa hn hdb he hpl,λσ H os ρ fs c Q R q k=>?_⟩;have⟨ds,e1,e2⟩:=bind_some q;exact qa σ H os ρ fs ds _ R e1 λvs H' s rv=>hr vs H' os ds c Q (R.rel.al.same s) rv e2 λv H2 s2=>k v H2 (s.trans s2)
def zew{k k':Nat}{ps:LSr}{h:LPx}(D:xC X.prog X.w X.K X.mg X.base k x ps h)(hr:Room k' X.A)(hg:Gl X x)(ha:GA X C ℓ (e::es) ga)(hk:k<=k':=by decide)(hdb:NDx x:=by decide)(he:SEx X e es:=by rfl)(hpl:PLx X pos es:=by rfl):GE X C ℓ (.Call (.Name x p) (e::es) [] pos) (gcall h ga):=by
 have⟨t,pa,qa⟩:=ha;refine⟨_,VF D hr hg ur pa hk hdb he hpl,λσ H os ρ fs c Q R q k=>?_⟩;have⟨ds,e1,e2⟩:=bind_some q;refine qa σ H os ρ fs ds _ R e1 λvs H' s rv=>?_
 rw[kg];exact⟨os,ds,c,R.rel.al.same s,rv,e2,λv H2 s2=>k v H2 (s.trans s2)⟩
end
section
variable{X:Cx}{C:AdX}{ℓ:Nat}{pos:Pos}
noncomputable def J2(c:Ro->Ob->Option (Bool×Ob))(b:OFx):Nat->Ro->Ob->Option Flo
 |0,_,_=>none
 |n+1,ρ,fs=>(c ρ fs).bind λt=>if t.1 then (match b ρ t.2 with |some (.nx ρ' fs')=>J2 c b n ρ' fs'|r=>r) else some (.nx ρ t.2)
def owh(m:Ro->Ob->Nat)(c:Ro->Ob->Option (Bool×Ob))(b:OFx):OFx:=λρ fs=>J2 c b (m ρ fs) ρ fs
def zcS(m:Ro->Ob->Nat){c:Expr}{body:List Stmt}{fc:Ro->Ob->Option (Bool×Ob)}{fb:OFx}(hp:PassesOwn (model X.prog X.w) X.A X.env X.xe)(hc:GTM X C ℓ c fc)(hb:OSs X C ℓ body fb):OS X C ℓ (.While c body [] pos) (owh m fc fb):=by
 have⟨tc,pc,qc⟩:=hc;have⟨tb,pb,qb⟩:=hb;refine⟨_,zc5 hp pc pb,λH0 os0 p D σ H os ρ fs r R e k=>?_⟩;refine⟨λn σ' H'=>∃os' ρ' fs',MSt X.K C ℓ H0 os0 p H' os' σ' ρ' fs'/\J2 fc fb n ρ' fs'=some r,⟨m ρ fs,os,ρ,fs,R,e⟩,?_⟩;rintro n σ' H' ⟨os',ρ',fs',R',e'⟩;cases n with
 |zero=>cases e'
 |succ n=>
  have⟨⟨b,fs1⟩,e1,e2⟩:=bind_some e';refine qc H0 os0 p σ' H' os' ρ' fs' b fs1 _ R' e1 λH2 os2 R2=>?_
  cases b with
  |false=>rw[qq qF] at e2 ⊢;cases e2;exact k _ _ _ R2
  |true=>
   rw[qf rfl] at e2 ⊢;refine⟨λσ3 H3=>∃os' ρ' fs',MSt X.K C ℓ H0 os0 p H3 os' σ3 ρ' fs'/\J2 fc fb n ρ' fs'=some r,λσ3 H3 h=>⟨n,kI n,h⟩,?_⟩;split at e2
   ·rename_i ρ2 fs2 e3;exact qb H0 os0 p _ σ' H2 os2 ρ' fs1 _ R2 e3 λσ3 H3 os3 R3=>⟨os3,ρ2,fs2,R3,e2⟩
   ·cases r with
    |nx ρ2 fs2=>rename_i hn;exact absurd e2 (hn ρ2 fs2)
    |rt d fs2=>exact qb H0 os0 p _ σ' H2 os2 ρ' fs1 _ R2 e2 k
    |rf d=>exact qb H0 os0 p _ σ' H2 os2 ρ' fs1 _ R2 e2 k
end
def GIR(X:Cx)(C:AdX)(ℓ:Nat)(tg iter:Expr)(f:OLx):Prop:=∃wi:TI,PI X tg iter wi/\∀(σ:St)(H:Hp)(os:LAd)(ρ:Ro)(fs:Ob)(ds:LPd)(R:It->Hp->Prop),vL X.K C ℓ H os σ ρ fs->f ρ fs=some ds->
  (∀J H',Same H H'->(∀G G0,Walks X.K G G0 J ds)->R J H')->wi σ H R
def grn(g:OLx):OLx:=λρ fs=>match g ρ fs with
 |some [.int j]=>if -(2 ^ 62)<=j/\j<2 ^ 62 then some (jV 0 j.toNat) else none
 |_=>none
section
variable{X:Cx}{C:AdX}{ℓ:Nat}{tg a:Expr}{p pos:Pos}{g:OLx}
def zdx(hg:Gl X "range")(hm:X.mg "range"=none)(ha:GA X C ℓ [a] g)(hs:starEach [a] X.env=[(false,eval a X.env)]:=by rfl):GIR X C ℓ tg (.Call (.Name "range" p) [a] [] pos) (grn g):=by
 have⟨t,pa,qa⟩:=ha;refine⟨_,Z4 hg hm pa hs,λσ H os ρ fs ds R rel e k=>?_⟩;unfold grn at e;split at e
 ·rename_i j e1;split at e
  ·rename_i hc;cases e;refine qa σ H os ρ fs _ _ rel e1 λvs H' s r=>?_
   cases r with
   |cons h r=>cases r;cases h;exact⟨j,rfl,hc.1,hc.2,k _ H' s λG G0=>VT⟩
  ·cases e
 ·cases e
end
def MSt.sets{K:FRx}{C:AdX}{ℓ:Nat}{H0 H:Hp}{os0 os:LAd}{p:AdX}{is:LNt}{σ σ':St}{ρ ρ':Ro}{fs:Ob}(s:Sets K (offs H os) is σ ρ σ' ρ')(hi:∀i∈is,i≠ℓ)(h:MSt K C ℓ H0 os0 p H os σ ρ fs):MSt K C ℓ H0 os0 p H os σ' ρ' fs:=by
 induction s with
 |nil=>exact h
 |set r _ ih=>exact ih (λi hm=>hi i (.tail _ hm)) (h.set (hi _ (.head _)) r)
section
variable{X:Cx}{C:AdX}{ℓ:Nat}{pos:Pos}
noncomputable def vO(bd:PyData->Ro->Option Ro)(b:OFx):List PyData->Ro->Ob->Option Flo
 |[],ρ,fs=>some (.nx ρ fs)
 |d::ds,ρ,fs=>(bd d ρ).bind λρ1=>match b ρ1 fs with |some (.nx ρ2 fs2)=>vO bd b ds ρ2 fs2|r=>r
def ofor(fi:OLx)(bd:PyData->Ro->Option Ro)(b:OFx):OFx:=λρ fs=>(fi ρ fs).bind λds=>vO bd b ds ρ fs
def zls{tg iter:Expr}{body:List Stmt}{fi:OLx}{is:LNt}{bd:PyData->Ro->Option Ro}{fb:OFx}(hp:PassesOwn (model X.prog X.w) X.A X.env X.xe)(hc:X.calm=true)(hi:GIR X C ℓ tg iter fi)(hg:FG X tg is bd)(hb:OSs X C ℓ body fb)(his:∀i∈is,i≠ℓ:=by decide)(hs:FSx X iter:=by exact λ_=>rfl):OS X C ℓ (.For tg iter body [] pos) (ofor fi bd fb):=by
 have⟨wi,pi,qi⟩:=hi;have⟨tb,pb,qb⟩:=hb;refine⟨_,zeg hp hc pi hg pb hs,λH0 os0 p D σ H os ρ fs r R e k=>?_⟩;have⟨ds,e1,e2⟩:=bind_some e;refine qi σ H os ρ fs ds _ R.v7 e1 λJ H1 s1 W=>?_
 refine⟨λi m σ' H'=>m=ds.length - i/\i<=ds.length/\∃os' ρ' fs',MSt X.K C ℓ H0 os0 p H' os' σ' ρ' fs'/\vO bd fb (ds.drop i) ρ' fs'=some r,
  ⟨ds.length,rfl,kE _,os,ρ,fs,R.same s1,e2⟩,?_⟩
 rintro i m σ' H' ⟨rfl,hi,os',ρ',fs',R',e'⟩;obtain⟨w1,w2⟩:=W H' (offs H' os') H' os' R'.sr.rel.al (Same.refl _) (Same.refl _);by_cases hlt:i<ds.length
 ·obtain⟨d,hd⟩:∃d,ds[i]?=some d:=⟨_,qp hlt⟩;have⟨g1,g2⟩:=w1 i d hd;have ed:ds.drop i=d::ds.drop (i+1):=by
   rw[gG hlt];rw[qp hlt] at hd;cases hd;rfl
  rw[ed] at e';have⟨ρ1,e3,e4⟩:=bind_some e';refine .inr ⟨g1,λσ2 H2=>i+1<=ds.length/\∃os' ρ' fs',MSt X.K C ℓ H0 os0 p H2 os' σ2 ρ' fs'/\vO bd fb (ds.drop (i+1)) ρ' fs'=some r,?_,?_⟩
  ·rintro σ2 H2 ⟨h1,h2⟩;exact⟨ds.length - (i+1),by omega,rfl,h1,h2⟩
  ·intro x H2 hy;have⟨s2,rx⟩:=g2 x H2 hy;refine⟨os',d,ρ',ρ1,rx,e3,λσ2 st=>?_⟩;have R2:MSt X.K C ℓ H0 os0 p H2 os' σ2 ρ1 fs':=MSt.sets st his (R'.same s2);split at e4
   ·rename_i ρ2 fs2 e5;exact qb H0 os0 p _ σ2 H2 os' ρ1 fs' _ R2 e5 λσ3 H3 os3 R3=>⟨hlt,os3,ρ2,fs2,R3,e4⟩
   ·cases r with
    |nx ρ2 fs2=>rename_i hn;exact absurd e4 (hn ρ2 fs2)
    |rt d fs2=>exact qb H0 os0 p _ σ2 H2 os' ρ1 fs' _ R2 e4 k
    |rf d=>exact qb H0 os0 p _ σ2 H2 os' ρ1 fs' _ R2 e4 k
 ·have e:i=ds.length:=by omega
  subst e;rw[mJ] at e';cases e';exact .inl ⟨w2,k _ _ _ R'⟩
end
def Ini(P:Program)(w:World)(K:FRx)(mg:Str->Option Value)(base:Heap)(k:Nat)(C:AdX)(x:Str)(ps:LSr)(h:MFx):Prop:=∃f fd,Mk K C f/\wk P w K mg base CX0 k f fd ps (spM K C h)/\Binds K fd ps []/\mg x=some (.ref C)
def GN(X:Cx)(C:AdX)(ℓ:Nat)(C2:AdX)(e:Expr)(f:Ro->Ob->Option Ob):Prop:=∃t:TE,PE X e t/\∀(σ:St)(H:Hp)(os:LAd)(ρ:Ro)(fs gs:Ob)(Q:VK),vL X.K C ℓ H os σ ρ fs->f ρ fs=some gs->
  (∀q H' os' B,Left H os [] H' os'->FOk X.K H' os' (.ref q) (.ob C2 gs) B->B.Nodup->(∀a∈B,a∈os'/\H a=none)->Q (.ref q) H')->t σ H Q
def FN(X:Cx)(C2:AdX)(e:Expr)(f:Ro->Option Ob):Prop:=∃t:TE,PE X e t/\∀(σ:St)(H:Hp)(os:LAd)(ρ:Ro)(gs:Ob)(Q:VK),xl X.K H os σ ρ->f ρ=some gs->
  (∀q H' os' B,Left H os [] H' os'->FOk X.K H' os' (.ref q) (.ob C2 gs) B->B.Nodup->(∀a∈B,a∈os'/\H a=none)->Q (.ref q) H')->t σ H Q
section
variable{X:Cx}{C C2:AdX}{ℓ:Nat}{e:Expr}{es:List Expr}{ga:RLx}{p pos:Pos}{x:Str}{k k':Nat}{ps:LSr}
def FN.gn{f:Ro->Option Ob}(h:FN X C2 e f):GN X C ℓ C2 e (λρ _=>f ρ):=by
 have⟨t,p,q⟩:=h;exact⟨t,p,λσ H os ρ fs gs Q R e k=>q σ H os ρ gs Q R.rel e k⟩
noncomputable def fnw(h:MFx)(ga:RLx):Ro->Option Ob:=λρ=>(ga ρ).bind λds=>match h [] ds with |some (.none,gs)=>some gs|_=>none
def zaT{h:MFx}(I:Ini X.prog X.w X.K X.mg X.base k C2 x ps h)(hr:Room k' X.A)(hg:Gl X x)(ha:FA X (e::es) ga)(hk:k+1<=k':=by decide)(hdb:NDx x:=by decide)(he:SEx X e es:=by rfl)(hpl:PLx X pos es:=by rfl):FN X C2 (.Call (.Name x p) (e::es) [] pos) (fnw h ga):=by
 have⟨fa,fd,M,F,B,mx⟩:=I;have⟨t,pa,qa⟩:=ha;refine⟨_,zjA M F (hr.mono hk) hg mx B .nil ur pa hdb he hpl,λσ H os ρ gs Q R e kk=>?_⟩;have⟨ds,e1,e2⟩:=bind_some e;refine qa σ H os ρ ds _ R e1 λus H1 s1 ru q dx nq ndx dq=>?_
 split at e2
 ·rename_i gs' e3;cases e2;have al1:Al H1 os:=R.al.same s1;have nos:∀a,H1 a=none->a∉os:=λa n=>al1.new n
  have same:Same H1 (upd (upd H1 dx (.own q)) q (.ins C2 dx [])):=λb o z=>by
   rw[zN (λw=>by rw[w,nq] at z;cases z),zN (λw=>by rw[w,ndx] at z;cases z)];exact z
  have so:Same (offs H1 os) (offs (upd (upd H1 dx (.own q)) q (.ins C2 dx [])) (q::os)):=vj nq same;rw[kg];refine⟨q,us,q::os,ds,[],.none,gs,[q],rfl,.ob zJ .nil,km.mpr ⟨by simp,.nil⟩,λa ha=>by rw[qE.mp ha];exact .head _,λa ha=>?_,ru.same so,e3,λv H' os' A' sm al o' nd' hA' sub new rv=>?_⟩
  ·rcases qu.mp ha with z|z
   ·rw[z];exact⟨_,zJ⟩
   ·have⟨o,w⟩:=al1 a z;exact⟨o,same a o w⟩
  ·cases rv;have out:∀a,offs (upd (upd H1 dx (.own q)) q (.ins C2 dx [])) [q] a=none->H1 a=none:=λa z=>by
    by_cases w:a=q
    ·rw[w];exact nq
    ·rw[zq (by simpa using w)] at z;exact same.free z
   refine⟨rfl,kk q H' os' A' ⟨λb o z=>?_,al,λa ha=>.inr ?_,λa ha=>?_⟩ o' nd' λa ha=>⟨(hA' a ha).1,s1.free (out a (hA' a ha).2)⟩⟩
   ·have z1:=s1 b o z;refine sm b o ?_;rw[zq (λw=>by rw[qE.mp w,nq] at z1;cases z1)];exact same b o z1
   ·rcases sub a (.tail _ ha) with w|w
    ·exact absurd (by rw[qE.mp w] at ha;exact ha) (nos q nq)
    ·exact w
   ·rcases new a ha with w|w
    ·rcases qu.mp w with u|u
     ·right
      rw[zq (by simp),u];exact s1.free nq
     ·exact .inl u
    ·right
     rw[zq (by simp)];exact s1.free (out a w)
 ·cases e2
end
section
variable{X:Cx}{C C2:AdX}{ℓ:Nat}{e:Expr}{pos pos' p0:Pos}{x f:Str}
def Ue{H H':Hp}{os os':LAd}(L:Left H os [] H' os'):Same (offs H os) (offs H' os'):=L.data λa ha=>by cases ha
def zjF(x:Str)(C2:AdX)(g:Ro->Ob->Option Ob):OFx:=λρ fs=>(g ρ fs).bind λgs=>if fs.length<1000 then some (.nx ρ (zP x (.ob C2 gs) fs)) else none
def zjE{g:Ro->Ob->Option Ob}(cl:Cls X.K C)(na:zS X.K C f)(he:GN X C ℓ C2 e g)(hN:X.N[ℓ]?=some x:=by rfl)(hv:Vis X.env.scope x:=by trivial)(hd:NDx x:=by decide)(hcd:NCx x:=by decide)(hs:swapsWith e (some (.Attribute (.Name x p0) f pos')) pos.line X.env=pure false:=by rfl):OS X C ℓ (.Assign [.Attribute (.Name x p0) f pos'] e pos) (zjF f C2 g):=by
 have⟨t,pe,q⟩:=he;refine⟨_,zbj (yu (i:=ℓ) hN hv hd hcd) pe hs,λH0 os0 p D σ H os ρ fs r R e k=>?_⟩;have⟨gs,e1,e2⟩:=bind_some e;split at e2
 ·rename_i hl;cases e2;refine q σ H os ρ fs gs _ R.v7 e1 λq H' os' B L o nd hB=>?_
  have⟨A,h1,h2,h3,h4⟩:=R.ob;have cell:∀a∈A,H' a=H a:=λa ha=>by
   have⟨o,w⟩:=h1.has a ha;rw[w];exact L.cell (by simp) w
  have h1':=h1.keep (Ue L) cell;have sr':=R.sr.left L (λa ha=>by cases ha) λj c q m a ha=>by cases ha
  have ins:∀a∈A,a∈os':=λa ha=>by
   rcases L.sub a (h3 a ha).1 with w|w
   ·cases w
   ·exact w
  cases h1' with
  |ob hp r=>
   refine⟨_,R.self,_,_,_,_,rfl,hp,cl,na,by rw[r.len];exact hl,k _ _ _ (WW sr' R.self hp r h2 (λa ha=>⟨ins a ha,(h3 a ha).2⟩) h4 o nd λa ha=>⟨(hB a ha).1,R.sr.sm.free (hB a ha).2,λw=>?_,λj c q m w=>?_⟩)⟩
   ·have⟨o,z⟩:=h1.has a w;rw[(hB a ha).2] at z;cases z
   ·have⟨b,o,w1,w2,w3,_⟩:=R.sr.rel.mu j c q m;rw[w] at w1;cases w1;rw[(hB a ha).2] at w3;cases w3
 ·cases e2
end
def SRo.zhl{K:FRx}{H0 H:Hp}{os0 os:LAd}{σ:St}{ρ:Ro}(h:SRo K H0 os0 H os σ ρ)(i:Nat)(v:Option V):SRo K H0 os0 H os (σ.set i v) (ρ.set i .no):=by
 have m:∀{j:Nat} {c:Sl},(ρ.set i .no)[j]?=some c->c≠ .no->i≠j/\ρ[j]?=some c:=λ{j c} q hc=>by
  rcases zX q with⟨_,_,z⟩|z
  ·exact absurd z.symm hc
  ·exact z
 have nm:∀{c:Sl},isM c=true->c≠ .no:=λ{c} hm z=>by rw[z] at hm;cases hm
 refine⟨⟨λj d q=>?_,λj c q hm=>?_,h.rel.al,by rw[kJ,kJ];exact h.rel.len⟩,h.sm,h.sub,h.new,h.al0,λj c q hm a e=>?_,λj k c c' hjk q1 q2 m1 m2 a e1=>?_⟩
 ·obtain⟨hj,q⟩:=m q (by intro z;cases z);rw[qG hj];exact h.rel.pu j d q
 ·obtain⟨hj,q⟩:=m q (nm hm);rw[qG hj];exact h.rel.mu j c q hm
 ·obtain⟨hj,q⟩:=m q (nm hm);rw[qG hj] at e;exact h.own j c q hm a e
 ·obtain⟨hj,q1⟩:=m q1 (nm m1);obtain⟨hk,q2⟩:=m q2 (nm m2);rw[qG hj] at e1;rw[qG hk];exact h.ap j k c c' hjk q1 q2 m1 m2 a e1
section
variable{X:Cx}{C:AdX}{e:Expr}{rest:List Stmt}{pos:Pos}{f:Ro->Option Ob}{g:OFx}
noncomputable def zcr(i:Nat)(f:Ro->Option Ob)(g:OFx):RFx:=λρ=>(f ρ).bind λgs=>if i<ρ.length then (match g (ρ.set i .no) gs with |some (.rt d _)=>some (.rt d)|some (.rf d)=>some (.rt d)|_=>none) else none
def zeq(i:Nat){x:Str}{pos':Pos}(hN:X.N.Nodup)(he:FN X C e f)(hr:OSs X C i rest g)(hi:X.N[i]?=some x:=by rfl)(hx:Loc X.env.scope x:=by trivial)(hs:swapsWith e (some (.Name x pos')) pos.line X.env=pure false:=by rfl)(hf:FNx X x:=by trivial):FSs X (.Assign [.Name x pos'] e pos::rest) (zcr i f g):=by
 have⟨t,p,q⟩:=he;have⟨t2,p2,q2⟩:=hr;refine⟨_,uw (wA hN hi hx p hs hf) p2,λH0 os0 D σ H os ρ r R e k=>?_⟩;have⟨gs,e1,e2⟩:=bind_some e;split at e2
 ·rename_i hl;split at e2
  ·rename_i d fs' e3;cases e2;refine q σ H os ρ gs _ R.rel e1 λa H' os' B L o nd hB=>?_
   have sr':=(R.left L (λb hb=>by cases hb) λj c q m b hb=>by cases hb).zhl i (some (.ref a));refine q2 H0 os0 a D _ H' os' _ gs _ ⟨sr',kn (by rw[R.rel.len];exact hl),B,o,nd,λb hb=>⟨(hB b hb).1,R.sm.free (hB b hb).2⟩,λj c q m b hb w=>?_⟩ e3 λv H2 os2 M rv=>k v H2 M.sm (rv.same (yD M.sub))
   rcases zX q with⟨_,_,z⟩|⟨hj,q⟩
   ·rw[<-z] at m;cases m
   ·rw[qG hj] at w;have⟨b',o',w1,w2,w3,_⟩:=R.rel.mu j c q m;rw[w] at w1;cases w1;rw[(hB b hb).2] at w3;cases w3
  ·rename_i d e3;cases e2;refine q σ H os ρ gs _ R.rel e1 λa H' os' B L o nd hB=>?_
   have sr':=(R.left L (λb hb=>by cases hb) λj c q m b hb=>by cases hb).zhl i (some (.ref a));refine q2 H0 os0 a D _ H' os' _ gs _ ⟨sr',kn (by rw[R.rel.len];exact hl),B,o,nd,λb hb=>⟨(hB b hb).1,R.sm.free (hB b hb).2⟩,λj c q m b hb w=>?_⟩ e3 λv H2 sm rv=>k v H2 sm rv
   rcases zX q with⟨_,_,z⟩|⟨hj,q⟩
   ·rw[<-z] at m;cases m
   ·rw[qG hj] at w;have⟨b',o',w1,w2,w3,_⟩:=R.rel.mu j c q m;rw[w] at w1;cases w1;rw[(hB b hb).2] at w3;cases w3
  ·cases e2
 ·cases e2
end
section
variable{X:Cx}{C:AdX}{ℓ:Nat}{e:Expr}{es:List Expr}{f:OPx}{ga:OLx}{pos apos p0 p2:Pos}{x m:Str}{k k':Nat}{ps:LSr}{lo hi:Option Expr}{l h:Ro->Option (Option Int)}
noncomputable def gtp(g:OLx):OPx:=λρ fs=>(g ρ fs).bind λds=>if ds.length<=16777216 then some (.tuple ds) else none
def zle{x1}(h:GA X C ℓ es ga):GE X C ℓ (.Tuple es x1 pos) (gtp ga):=by
 have⟨t,p,q⟩:=h;refine⟨_,zdC p,λσ H os ρ fs d Q R e k=>?_⟩;have⟨ds,e1,e2⟩:=bind_some e;by_cases hl:ds.length<=16777216
 ·rw[qf hl] at e2;cases e2;refine q σ H os ρ fs ds _ R e1 λvs H' s r=>⟨by rw[r.length];exact hl,λp hp=>k _ _ (s.trans (yg hp _)) (.tup (SqT.of ?_) (r.same (zl (yg hp _) os)))⟩
  rw[zq ((R.rel.al.same s).new hp)];exact zJ
 ·rw[qq hl] at e2;cases e2
noncomputable def glF(f:OLx):OPx:=λρ fs=>(f ρ fs).map .list
def GL.ge{f:OLx}(h:GL X C ℓ e f):GE X C ℓ e (glF f):=by
 have⟨t,h1,h2⟩:=h;refine⟨t,h1,λσ H os ρ fs d Q R q k=>?_⟩;have⟨ds,e1,e2⟩:=map_some q;subst e2;refine h2 σ H os ρ fs ds Q R e1 λa xs H' n s hx r=>k _ H' s (.lst (SqL.of ?_) (r.same (yD λb hb=>qz _ hb)))
 rw[zq (R.rel.al.new n)];exact hx
def gsl(f:OPx)(l h:Ro->Option (Option Int)):OLx:=λρ fs=>match f ρ fs with
 |some (.list ds)=>(l ρ).bind λlo=>(h ρ).bind λhi=>some (cut ds lo hi)
 |_=>none
def zib(ha:GB X C ℓ e f)(hl:FO X lo l)(hh:FO X hi h):GL X C ℓ (.Subscript e (.Slice lo hi none p2) pos) (gsl f l h):=by
 have⟨ta,pa,qa⟩:=ha;have⟨tl,pl,ql⟩:=hl;have⟨th,ph,qh⟩:=hh;refine⟨_,zcw zeh pa pl ph,λσ H os ρ fs c Q R q k=>?_⟩;unfold gsl at q;split at q
 ·rename_i ds e1;have⟨a,e2,q⟩:=bind_some q;have⟨b,e3,q⟩:=bind_some q;cases q;refine qa σ H os ρ fs _ _ R e1 λv H1 s1 r1=>ql σ H1 os ρ a _ (R.rel.same s1) e2 λH2 s2=>qh σ H2 os ρ b _ (R.rel.same (s1.trans s2)) e3 λH3 s3=>?_
  obtain⟨p,xs,rfl,hS,r⟩:=(r1.same (s2.trans s3)).lst;exact⟨p,xs,rfl,hS,λq hq=>k q _ _ ((s1.trans s2).trans s3 |>.free hq) (((s1.trans s2).trans s3).trans (yg hq _)) zJ (wu hq (zb1 r a b))⟩
 ·cases q
def zcW{pl:Sem Bool}{h:MFx}(cl:Cls X.K C)(M:Met X.prog X.w X.K X.mg X.base k C m ps h)(hr:Room k' X.A)(hk:k<=k':=by decide)(hN:X.N[ℓ]?=some x:=by rfl)(hv:Vis X.env.scope x:=by trivial)(hd:NDx x:=by decide)(hcd:NCx x:=by decide)(ht:eval (.Call (.Attribute (.Name x p0) m apos) [] [] pos) X.env=(do
   let ov <-eval (.Name x p0) X.env
   standAt apos.atName
   let (f,first) <-holding [ov] (getMethod ov m pl)
   callWith pos f first (backTo pos (starEach [] X.env)) (backToKw pos (keywordEach [] X.env))):=by rfl):GM X C ℓ (.Call (.Attribute (.Name x p0) m apos) [] [] pos) (gms m h gA0):=by
 have⟨fa,fd,F,B,mm⟩:=M;refine⟨_,zcE (pl:=pl) (yu (i:=ℓ) hN hv hd hcd) cl mm F (hr.mono hk) B .nil ur ht,λH0 os0 p σ H os ρ fs d fs' Q R e kk=>?_⟩;unfold gms at e;split at e
 ·rename_i hm;have⟨ds,e1,e2⟩:=bind_some e;cases e1;have⟨A,h1,h2,h3,h4⟩:=R.ob;cases h1 with
  |ob hp rr=>
   refine⟨_,R.self,p,_,_,rfl,hp,rr.nolook (k8.mp hm),?_⟩;have o1:=FOk.ob hp rr;refine⟨p,[],os,[],fs,d,fs',_,rfl,o1,h2,λa ha=>(h3 a ha).1,R.sr.rel.al,.nil,e2,λv H' os' B' sm al o' nd' hB' sub new rv=>?_⟩;exact kk v H' os' (R.own o1 ⟨sm,al,sub,new⟩ o' nd' hB') rv
 ·cases e
end
structure zfF(K:FRx)(C:AdX)(ℓ:Nat)(H:Hp)(os:LAd)(σ:St)(ρ:Ro)(fs:Ob):Prop where
 rel:xl K H os σ ρ
 ob:∃p dx vs,σ[ℓ]?=some (some (.ref p))/\H p=some (.ins C dx vs)/\∀x d,gg x ρ fs=some d->∃v,vs.lookup x=some v/\Rep K (offs H os) v d
def zfF.same{K:FRx}{C:AdX}{ℓ:Nat}{H H':Hp}{os:LAd}{σ:St}{ρ:Ro}{fs:Ob}(h:zfF K C ℓ H os σ ρ fs)(e:Same H H'):zfF K C ℓ H' os σ ρ fs:=by
 have⟨p,dx,vs,h1,h2,h3⟩:=h.ob;exact⟨h.rel.same e,p,dx,vs,h1,e _ _ h2,λx d q=>by
  have⟨v,l,r⟩:=h3 x d q;exact⟨v,l,r.same (zl e os)⟩⟩
def MSt.zne{K:FRx}{C:AdX}{ℓ:Nat}{H0 H:Hp}{os0 os:LAd}{p:AdX}{σ:St}{ρ:Ro}{fs:Ob}(h:MSt K C ℓ H0 os0 p H os σ ρ fs):∃os',zfF K C ℓ H os' σ ρ fs/\(∀a∈os0,a∈os'):=by
 have⟨A,h1,h2,h3,h4⟩:=h.ob;have sub:∀b∈os.filter (λc=>c∉A),b∈os:=λb hb=>(qO.mp hb).1
 have so:Same (offs H os) (offs H (os.filter λc=>c∉A)):=yD sub;refine⟨os.filter λc=>c∉A,⟨⟨λi d q=>?_,λi c q m=>?_,λb hb=>h.sr.rel.al b (sub b hb),h.sr.rel.len⟩,?_⟩,λa ha=>qO.mpr ⟨h.sr.sub a ha,?_⟩⟩
 ·have⟨v,w1,w2⟩:=h.sr.rel.pu i d q;exact⟨v,w1,w2.same so⟩
 ·have⟨a,o,w1,w2,w3,w4⟩:=h.sr.rel.mu i c q m;exact⟨a,o,w1,qO.mpr ⟨w2,by simpa using λz=>h4 i c q m a z w1⟩,w3,w4.same so⟩
 ·cases h1 with
  |ob hp r=>
   refine⟨p,_,_,h.self,hp,λx d q=>?_⟩;unfold gg at q;split at q
   ·rename_i d' ef;cases q;have⟨v,B,l,o,_⟩:=r.look ef;cases o with
    |pu rv=>exact⟨_,l,rv.same so⟩
   ·rename_i ds ef;cases q;have⟨v,B,l,o,hB⟩:=r.look ef;cases o with
    | @ow a0 xs0 _ ha rv=>
     have na:a0∉os.filter λc=>c∉p::_:=λz=>by
      have w:=(qO.mp z).2;simp at w;exact w.2 (hB a0 (.head _))
     exact⟨_,l,.lst (SqL.of (by rw[zq na];exact ha)) (rv.same so)⟩
   ·cases q
 ·have:a∉A:=λz=>by
   have⟨o,e⟩:=h.sr.al0 a ha;rw[(h3 a z).2] at e;cases e
  simpa using this
def GZ(X:Cx)(C:AdX)(ℓ:Nat)(e:Expr)(f:OPx):Prop:=∃t:TE,PE X e t/\∀(σ:St)(H:Hp)(os:LAd)(ρ:Ro)(fs:Ob)(d:PdX)(Q:VK),zfF X.K C ℓ H os σ ρ fs->f ρ fs=some d->(∀v H',Same H H'->Rep X.K (offs H' os) v d->Q v H')->t σ H Q
def GZA(X:Cx)(C:AdX)(ℓ:Nat)(es:List Expr)(f:OLx):Prop:=∃t:TA,PA X es t/\∀(σ:St)(H:Hp)(os:LAd)(ρ:Ro)(fs:Ob)(ds:LPd)(Q:List V->Hp->Prop),zfF X.K C ℓ H os σ ρ fs->f ρ fs=some ds->(∀vs H',Same H H'->Reps X.K (offs H' os) vs ds->Q vs H')->t σ H Q
section
variable{X:Cx}{C:AdX}{ℓ:Nat}{e:Expr}{es:List Expr}{f:OPx}{g:OLx}{pos p0:Pos}{x n:Str}
def FE.gz{f:RPx}(h:FE X e f):GZ X C ℓ e (λρ _=>f ρ):=by
 have⟨t,p,q⟩:=h;exact⟨t,p,λσ H os ρ fs d Q R e k=>q σ H os ρ d Q R.rel e k⟩
def zlp(cl:Cls X.K C)(na:zS X.K C n)(hN:X.N[ℓ]?=some x:=by rfl)(hv:Vis X.env.scope x:=by trivial)(hd:NDx x:=by decide)(hcd:NCx x:=by decide)(hb:ABx X (.Name x p0) n:=by rfl):GZ X C ℓ (.Attribute (.Name x p0) n pos) (gg n):=by
 refine⟨_,wY (yu (i:=ℓ) hN hv hd hcd) hb,λσ H os ρ fs d Q R e k=>?_⟩;have⟨p,dx,vs,h1,h2,h3⟩:=R.ob;have⟨v,l,r⟩:=h3 n d e;exact⟨_,h1,_,_,_,_,_,rfl,h2,cl,na,l,k v H (Same.refl H) r⟩
def ziH:GZA X C ℓ [] gA0:=⟨_,xW,λ_ H _ _ _ _ _ _ q k=>by cases q;exact k [] H (Same.refl H) .nil⟩
def zce(ha:GZ X C ℓ e f)(hr:GZA X C ℓ es g)(hs:SEx X e es:=by rfl):GZA X C ℓ (e::es) (gAC f g):=by
 have⟨ta,pa,qa⟩:=ha;have⟨tb,pb,qb⟩:=hr;refine⟨_,yU pa pb hs,λσ H os ρ fs ds Q R q k=>?_⟩;have⟨d,e1,q⟩:=bind_some q;have⟨r,e2,e3⟩:=map_some q;subst e3;exact qa σ H os ρ fs d _ R e1 λx H1 s1 r1=>qb σ H1 os ρ fs r _ (R.same s1) e2 λxs H2 s2 r2=>k _ H2 (s1.trans s2) (.cons (r1.same (zl s2 os)) r2)
def zlj{x1}(h:GZA X C ℓ es g):GZ X C ℓ (.Tuple es x1 pos) (gtp g):=by
 have⟨t,p,q⟩:=h;refine⟨_,zdC p,λσ H os ρ fs d Q R e k=>?_⟩;have⟨ds,e1,e2⟩:=bind_some e;by_cases hl:ds.length<=16777216
 ·rw[qf hl] at e2;cases e2;refine q σ H os ρ fs ds _ R e1 λvs H' s r=>⟨by rw[r.length];exact hl,λp hp=>k _ _ (s.trans (yg hp _)) (.tup (SqT.of ?_) (r.same (zl (yg hp _) os)))⟩
  rw[zq ((R.rel.al.same s).new hp)];exact zJ
 ·rw[qq hl] at e2;cases e2
noncomputable def Zf(f:OPx):OFx:=λρ fs=>(f ρ fs).bind λd=>some (.rf d)
def zjv(h:GZ X C ℓ e f):OS X C ℓ (.Return (some e) pos) (Zf f):=by
 have⟨t,p,q⟩:=h;refine⟨_,Jy p,λH0 os0 p D σ H os ρ fs r R e k=>?_⟩;have⟨d,e1,e2⟩:=bind_some e;cases e2;have⟨os',Z,sub⟩:=R.zne;exact q σ H os' ρ fs d _ Z e1 λv H' s rv=>k v H' (R.sr.sm.trans s) (rv.same (yD sub))
end
def WO(K:FRx)(mg:Str->Option Value)(C:AdX)(y x qual:Str)(st:Stmt):Prop:=∃f fd,Fun K x qual st f fd/\Mk K C f/\mg y=some (.ref C)
section
variable{P:Program}{w:World}{K:FRx}{mg:Str->Option Value}{base:Heap}{C:AdX}
def Ini.mk{x y qual:Str}{st:Stmt}{N ps:LSr}{k m:Nat}{b:OFx}(h:WO K mg C y x qual st)(S:zD N ps (ze st))(hb:∀(kV doc pm:Value)(an:Option Addr)(cdv ct:Value)(us:LVl),us.length=ps.length->bindArgs (W.fnOf x qual (jl st) (yV st) (ze st) .none kV doc pm an cdv ct) ⟨us,[]⟩=pure (ps.zip us))(hm:ps.length=m+1)(hN:m<N.length)(hbody:∀(f:AdX)(cdv:Value)(A:Around)(outer:List Env)(s:ShX)(H:Hp)(E:XK),Room k (A.deeper (envOfC qual (ze st) s.heap.objs.size f cdv))->
   OSs (Vr CX0 P w K mg base N qual (ze st) f cdv A outer s H E).nox C 0 (yV st) b):Ini P w K mg base (k+1) C y ps (fnM N.length m b):=by
 have⟨f,fd,F,M,my⟩:=h;refine⟨f,fd,M,F.ok S (λvs H Q E q=>?_) (λcdv A outer s H vs Q E hr q=>?_),F.binds hb,my⟩
 ·obtain⟨p,us,os,ds,fs,d,fs',A,rfl,_,_,_,_,r,e,_⟩:=q;unfold fnM at e;split at e
  ·rename_i hl;rw[qS,r.length,hl,hm]
  ·cases e
 ·have⟨t,pp,q'⟩:=hbody f cdv A outer s H E hr;obtain⟨p,us,os,ds,fs,d,fs',A,rfl,o,nd,hA,al,r,e,kk⟩:=q;unfold fnM at e;split at e
  ·rename_i hl;refine⟨t,pp,?_⟩;have R:=VM (N:=N) al r o nd hA m hl hN;have go:∀v H' os',zcM K C (offs H A) (os.filter λa=>a∉A) p H' os' fs'->Rep K (offs H' os') v d->Q v H':=λv H' os' M rv=>by
    have⟨A',o',nd',hA'⟩:=M.ob;refine kk v H' os' A' M.sm M.al o' nd' hA' (λa ha=>?_) (λa ha=>?_) rv
    ·by_cases z:a∈A
     ·exact .inl z
     ·exact .inr (M.sub a (qO.mpr ⟨ha,by simpa using z⟩))
    ·rcases M.new a ha with z|z
     ·exact .inl (qO.mp z).1
     ·exact .inr z
   split at e
   ·rename_i d' fs'' e1;cases e;exact q' _ _ _ _ _ H os _ _ _ R e1 λv H' os' M rv=>go v H' os' M rv
   ·rename_i ρ' fs'' e1;cases e;exact q' _ _ _ _ _ H os _ _ _ R e1 λσ' H' os' R'=>go _ H' os' R'.end .non
   ·cases e
  ·cases e
end
theorem Z8:∀(us:LVl)(k:Nat),(∀(i:Nat)(v:Value),us[i]?=some v->∃t,v=Value.int (0+((k+i:Nat):Int)) t)->Vals ((List.range' k us.length).map λi:Nat=>V.int (0+i)) us
 |[],_,_=>.nil
 |u::us,k,h=>by
  have⟨t,e⟩:=h 0 u rfl;exact .cons ⟨t,by rw[e];simp⟩ (Z8 us (k+1) λi v hv=>by
   obtain⟨t,e⟩:=h (i+1) v (by simpa using hv);exact⟨t,by rw[e,show k+(i+1)=k+1+i by omega]⟩)
def zhe{us:LVl}{n:Nat}(hn:us.length=n)(h:∀(i:Nat)(v:Value),us[i]?=some v->∃t,v=Value.int (0+(i:Int)) t):Vals ((List.range n).map λi:Nat=>V.int (0+i)) us:=by
 rw[<-hn,List.range_eq_range'];exact Z8 us 0 λi v hv=>by
  have⟨t,e⟩:=h i v hv;exact⟨t,by rw[e,mU]⟩
theorem zcV{K:FRx}{G:Hp}:∀l:List Nat,Reps K G (l.map λi:Nat=>V.int (0+i)) (l.map λi:Nat=>PyData.int (0+i))
 |[]=>.nil
 |_::l=>.cons (.int _) (zcV l)
section
variable{X:Cx}
def zgr:vh X (.type "range") (λxs H Q=>∃j:Int,xs=[.int j]/\∀l,H l=none->Q (.ref l) (upd H l (.rng 0 j))):=by
 intro pins s σ H xs us Q I r h;obtain⟨j,rfl,q⟩:=h;obtain⟨u,rfl,t,rfl⟩:=vals1 r;refine call_range_1 ⟨.ref s.heap.objs.size,_,I.laid (o:=.rng 0 j) (t':=s.toks+1+1) (λc o e=>qj _ e) (qr _) ⟨_,_,_,qH _ rfl⟩,rfl,q _ (I.hok.fresh (qr _))⟩
def ZM(hc:X.calm=true):vh X (.type "list") (λxs H Q=>∃p,∃j:Int,xs=[.ref p]/\H p=some (.rng 0 j)/\-(2 ^ 62)<=j/\j<=16777216/\∀l,H l=none->Q (.ref l) (upd H l (.lst ((List.range j.toNat).map λi:Nat=>V.int (0+i))))):=by
 intro pins s σ H xs us Q I r h;obtain⟨p,j,rfl,hp,h1,h2,q⟩:=h;obtain⟨u,rfl,ru⟩:=vals1 r;cases ru;obtain⟨t,u,v,hR⟩:vC X.prog X.w H s.heap p (.rng 0 j):=I.hok p _ hp;refine call_list_range (I.ok.hd hc) hR (small_one (by omega) (by omega) h1 (by omega)) (n:=j.toNat) (by rw[rangeSize_one];split<;>omega) (by omega) λh' tk acc' c' hk hS' hacc=>?_
 refine⟨.ref s.heap.objs.size,_,I.laid (o:=.lst ((List.range j.toNat).map λi:Nat=>V.int (0+i))) (t':=tk) hk (qr _) ⟨?_,acc'.toList,c',?_,?_⟩,rfl,q _ (I.hok.fresh (qr _))⟩
 ·rw[qe,qA]
  have:=YX;show j.toNat<=16777216
  omega
 ·exact zhe (by rw[nZ];exact hacc.1) λi v hv=>by
   obtain⟨t,e⟩:=hacc.2 i v (by simpa using hv);exact⟨t,by rw[e];simp⟩
 ·simpa using hS'
def ziM(g:RLx):RLx:=λρ=>match g ρ with
 |some [.int j]=>if -(2 ^ 62)<=j/\j<=16777216 then some (jV 0 j.toNat) else none
 |_=>none
def zlT{a:Expr}{p p' pos pos':Pos}{g:RLx}(hc:X.calm=true)(hg:Gl X "range")(hm:X.mg "range"=none)(hg2:Gl X "list")(hm2:X.mg "list"=none)(ha:FA X [a] g)(hs:SEx X a []:=by rfl)(hp1:(backTo pos' (starEach [] X.env)).any (·.1)=false:=by rfl)(hs2:starEach [(.Call (.Name "range" p') [a] [] pos':Expr)] X.env=(false,eval (.Call (.Name "range" p') [a] [] pos') X.env)::starEach [] X.env:=by rfl)(hp2:(backTo pos (starEach [] X.env)).any (·.1)=false:=by rfl):FL X (.Call (.Name "list" p) [.Call (.Name "range" p') [a] [] pos'] [] pos) (ziM g):=by
 have⟨t,pa,qa⟩:=ha;refine⟨_,JP (ZM hc) hg2 hm2 vc (yU (JP zgr hg hm boot_range pa (by decide) (by decide) hs hp1) xW hs2) (by decide) (by decide) hs2 hp2,λσ H os ρ ds Q R e k=>?_⟩;unfold ziM at e;split at e
 ·rename_i j e1;split at e
  ·rename_i hj;cases e;refine qa σ H os ρ _ _ R e1 λvs H1 s1 rv=>?_
   cases rv with
   |cons h r=>
    cases r;cases h;refine⟨j,rfl,λl hl=>⟨l,j,rfl,zJ,hj.1,hj.2,λl2 hl2=>?_⟩⟩;have s2:Same H1 (upd H1 l (.rng 0 j)):=yg hl _;have s3:=yg hl2 (.lst ((List.range j.toNat).map λi:Nat=>V.int (0+i)))
    exact k l2 _ _ (s1.free (s2.free hl2)) (s1.trans (s2.trans s3)) zJ (zcV _)
  ·cases e
 ·cases e
end
def lF(h:LLx):LPx:=λds=>(h ds).map PyData.list
def xY.df{P:Program}{w:World}{K:FRx}{mg:Str->Option Value}{base:Heap}{k:Nat}{x:Str}{ps:LSr}{h:LLx}(D:xY P w K mg base k x ps h):xC P w K mg base k x ps (lF h):=by
 have⟨f,fd,F,r⟩:=D;refine⟨f,fd,F.imp λvs H Q E q=>?_,r⟩;have⟨os,ds,r,al,rv,e,kk⟩:=q;have⟨es,e1,e2⟩:=map_some e;subst e2;refine⟨os,ds,es,al,rv,e1,λa xs H' n s hx r=>kk _ H' s (.lst (SqL.of ?_) (r.same (yD λb hb=>qz _ hb)))⟩;rw[zq (al.new n)];exact hx
def NT:Nat->Type
 |0=>PyData
 |n+1=>List (NT n)
noncomputable def toD:(n:Nat)->NT n->PyData
 |0,d=>d
 |n+1,xs=>.list ((show List (NT n) from xs).map (toD n))
mutual
inductive NOk(K:FRx)(H:Hp)(os:LAd):(n:Nat)->V->NT n->List Addr->Prop
 |d {v:V} {d:PdX}:Rep K (offs H os) v d->NOk K H os 0 v (show NT 0 from d) []
 |l {n:Nat} {a:AdX} {vs:List V} {xs:List (NT n)} {A:LAd}:H a=some (.lst vs)->xH K H os n vs xs A->NOk K H os (n+1) (.ref a) (show NT (n+1) from xs) (a::A)
inductive xH(K:FRx)(H:Hp)(os:LAd):(n:Nat)->List V->List (NT n)->List Addr->Prop
 |nil {n:Nat}:xH K H os n [] [] []
 |cons {n:Nat} {v:V} {x:NT n} {vs:List V} {xs:List (NT n)} {A B:LAd}:NOk K H os n v x A->xH K H os n vs xs B->xH K H os n (v::vs) (x::xs) (A++B)
end
section
variable{K:FRx}{H H':Hp}{os os':LAd}
mutual
theorem NOk.keep(s:Same (offs H os) (offs H' os')):∀{n:Nat} {v:V} {x:NT n} {A:LAd},NOk K H os n v x A->(∀a∈A,H' a=H a)->NOk K H' os' n v x A
 |_,_,_,_,.d r,_=>.d (r.same s)
 |_,_,_,_,.l h r,q=>.l (by rw[q _ (.head _)];exact h) (xH.keep s r λa ha=>q a (.tail _ ha))
theorem xH.keep(s:Same (offs H os) (offs H' os')):∀{n:Nat} {vs:List V} {xs:List (NT n)} {A:LAd},xH K H os n vs xs A->(∀a∈A,H' a=H a)->xH K H' os' n vs xs A
 |_,_,_,_,.nil,_=>.nil
 |_,_,_,_,.cons h r,q=>.cons (NOk.keep s h λa ha=>q a (qg.mpr (.inl ha))) (xH.keep s r λa ha=>q a (qg.mpr (.inr ha)))
end
mutual
theorem NOk.has:∀{n:Nat} {v:V} {x:NT n} {A:LAd},NOk K H os n v x A->∀a∈A,∃o,H a=some o
 |_,_,_,_,.d _,a,h=>by cases h
 |_,_,_,_,.l h r,a,ha=>by
  rcases qu.mp ha with z|z
  ·rw[z];exact⟨_,h⟩
  ·exact xH.has r a z
theorem xH.has:∀{n:Nat} {vs:List V} {xs:List (NT n)} {A:LAd},xH K H os n vs xs A->∀a∈A,∃o,H a=some o
 |_,_,_,_,.nil,a,h=>by cases h
 |_,_,_,_,.cons h r,a,ha=>by
  rcases qg.mp ha with z|z
  ·exact NOk.has h a z
  ·exact xH.has r a z
end
mutual
theorem NOk.rep(sub:∀a∈os',a∈os):∀{n:Nat} {v:V} {x:NT n} {A:LAd},NOk K H os n v x A->(∀a∈A,a∉os')->Rep K (offs H os') v (toD n x)
 |_,_,_,_,.d r,_=>r.same (yD sub)
 |_,_,_,_,.l h r,q=>.lst (SqL.of (by rw[zq (q _ (.head _))];exact h)) (xH.rep sub r λa ha=>q a (.tail _ ha))
theorem xH.rep(sub:∀a∈os',a∈os):∀{n:Nat} {vs:List V} {xs:List (NT n)} {A:LAd},xH K H os n vs xs A->(∀a∈A,a∉os')->Reps K (offs H os') vs (xs.map (toD n))
 |_,_,_,_,.nil,_=>.nil
 |_,_,_,_,.cons h r,q=>.cons (NOk.rep sub h λa ha=>q a (qg.mpr (.inl ha))) (xH.rep sub r λa ha=>q a (qg.mpr (.inr ha)))
end
theorem xH.len:∀{n:Nat} {vs:List V} {xs:List (NT n)} {A:LAd},xH K H os n vs xs A->vs.length=xs.length
 |_,_,_,_,.nil=>rfl
 |_,_,_,_,.cons _ r=>by rw[qS,qS,xH.len r]
theorem xH.at:∀{n:Nat} {vs:List V} {xs:List (NT n)} {A:LAd} {i:Nat} {x:NT n},xH K H os n vs xs A->A.Nodup->xs[i]?=some x->∃v B,vs[i]?=some v/\NOk K H os n v x B/\B.Nodup/\(∀a∈B,a∈A)/\
  ∀(H':Hp)(y:NT n),Same (offs H os) (offs H' os)->(∀a∈A,a∉B->H' a=H a)->NOk K H' os n v y B->xH K H' os n vs (xs.set i y) A
 |_,_,_,_,_,_,.nil,_,e=>by simp at e
 |n,_,_,_,0,x,@xH.cons _ _ _ _ v x' vs xs A B h r,nd,e=>by
  have e:x'=x:=by simpa using e
  subst e;have⟨n1,n2,n3⟩:=k5.mp nd;refine⟨v,A,rfl,h,n1,λa ha=>qg.mpr (.inl ha),λH' y s q o=>.cons o (r.keep s λa ha=>q a (qg.mpr (.inr ha)) λz=>n3 a z a ha rfl)⟩
 |n,_,_,_,i+1,x,@xH.cons _ _ _ _ v x' vs xs A B h r,nd,e=>by
  have⟨n1,n2,n3⟩:=k5.mp nd;obtain⟨w,D,h1,h2,h3,h4,h5⟩:=xH.at (i:=i) r n2 (by simpa using e);refine⟨w,D,by simpa using h1,h2,h3,λa ha=>qg.mpr (.inr (h4 a ha)),λH' y s q o=>.cons (h.keep s λa ha=>q a (qg.mpr (.inl ha)) λz=>n3 a ha a (h4 a z) rfl) (h5 H' y s (λa ha hn=>q a (qg.mpr (.inr ha)) hn) o)⟩
end
noncomputable def zge:(n:Nat)->NT (n+1)->List Nat->Option (List PyData)
 |0,xs,[]=>some xs
 |n+1,xs,i::p=>((show List (NT (n+1)) from xs)[i]?).bind λy=>zge n y p
 |_,_,_=>none
noncomputable def ZF:(n:Nat)->NT (n+1)->List Nat->List PyData->NT (n+1)
 |0,_,_,ds=>ds
 |n+1,xs,i::p,ds=>match (show List (NT (n+1)) from xs)[i]? with
  |some y=>(show List (NT (n+1)) from xs).set i (ZF n y p ds)
  |none=>xs
 |_+1,xs,[],_=>xs
inductive vN(H:Hp):V->List Nat->V->Prop
 |nil (v:V):vN H v [] v
 |cons {a:AdX} {vs:List V} {i:Nat} {w c:V} {p:LNt}:H a=some (.lst vs)->vs[i]?=some w->vN H w p c->vN H (.ref a) (i::p) c
section
variable{K:FRx}{H:Hp}{os:LAd}
theorem NOk.path:∀(n:Nat) {v:V} {x:NT (n+1)} {A:LAd} {p:LNt} {ds:LPd},NOk K H os (n+1) v x A->A.Nodup->zge n x p=some ds->∃c ws,c∈A/\vN H v p (.ref c)/\H c=some (.lst ws)/\Reps K (offs H os) ws ds/\
  ∀(H':Hp)(ws':List V)(ds':LPd),Same (offs H os) (offs H' os)->(∀a∈A,a≠c->H' a=H a)->H' c=some (.lst ws')->Reps K (offs H' os) ws' ds'->NOk K H' os (n+1) v (ZF n x p ds') A
 |0,_,_,_,[],ds,@NOk.l _ _ _ _ a vs xs A h r,nd,e=>by
  have e:xs=ds:=by cases e;rfl
  subst e;have sp:∀{vs:List V} {xs:List (NT 0)} {A:LAd},xH K H os 0 vs xs A->Reps K (offs H os) vs xs/\A=[]:=by
   intro vs;induction vs with
   |nil=>intro xs A q;cases q;exact⟨.nil,rfl⟩
   |cons v vs ih=>
    intro xs A q;cases q with
    |cons h r=>
     cases h with
     |d h=>
      have⟨q1,q2⟩:=ih r;exact⟨.cons h q1,by rw[q2];rfl⟩
  have⟨q1,q2⟩:=sp r;subst q2;refine⟨a,vs,.head _,.nil _,h,q1,λH' ws' ds' s q hc rd=>?_⟩;have mk:∀{ws:List V} {ds:LPd},Reps K (offs H' os) ws ds->xH K H' os 0 ws (show List (NT 0) from ds) []:=by
   intro ws;induction ws with
   |nil=>intro ds q;cases q;exact .nil
   |cons w ws ih=>
    intro ds q;cases q with
    |cons h r=>exact xH.cons (A:=[]) (B:=[]) (.d h) (ih r)
  exact .l hc (mk rd)
 |0,_,_,_,_::_,_,_,_,e=>by cases e
 |n+1,_,_,_,[],_,_,_,e=>by cases e
 |n+1,_,_,_,i::p,ds,@NOk.l _ _ _ _ a vs xs A h r,nd,e=>by
  have⟨y,e1,e2⟩:=bind_some e;have⟨n1,n2⟩:=km.mp nd;have e1:xs[i]?=some y:=e1;obtain⟨w,B,h1,h2,h3,h4,h5⟩:=xH.at (i:=i) r n2 e1;have⟨c,ws,g1,g2,g3,g4,g5⟩:=NOk.path n h2 h3 e2
  refine⟨c,ws,.tail _ (h4 c g1),.cons h h1 g2,g3,g4,λH' ws' ds' s q hc rd=>?_⟩;have ep:ZF (n+1) (show NT (n+1+1) from xs) (i::p) ds'=xs.set i (ZF n y p ds'):=by
   show(match xs[i]? with |some y=>xs.set i (ZF n y p ds')|none=>xs)=_
   rw[e1]
  rw[ep];refine .l ?_ (h5 H' _ s (λb hb hn=>q b (.tail _ hb) λz=>hn (by rw[z];exact g1)) (g5 H' ws' ds' s (λb hb hne=>q b (.tail _ (h4 b hb)) hne) hc rd));rw[q a (.head _) λz=>n1 (by rw[z];exact h4 c g1)];exact h
end
def zgc{K:FRx}{H H':Hp}{os osw:LAd}{σ ts:St}{ρ:Ro}(T:Nat)(F:LNt)(R:xl K H os σ ρ)(s:Same H H')(so:Same (offs H os) (offs H' osw))(al:Al H' osw)(sub:∀a∈os,a∈osw)(ht:ts.length=T):xl K H' osw (ts++F.map λj=>(σ[j]?).join) (compEnv T F ρ):=by
 refine⟨λi d q=>?_,λi c q m=>?_,λa ha=>?_,?_⟩
 ·unfold compEnv at q;by_cases hi:i<T
  ·rw[qJ (by simpa using hi),kh,qf hi] at q;cases q
  ·rw[qx (by simpa using qW hi),gC,qo] at q;rw[qx (by rw[ht];exact qW hi),ht,qo];cases ej:F[i - T]? with
   |none=>rw[ej] at q;cases q
   |some j=>
    rw[ej] at q;cases er:ρ[j]? with
    |none=>rw[kD,er] at q;cases q
    |some c=>
     rw[kD,er] at q;have ec:c=.pu d:=qX q;subst ec;have⟨v,h1,h2⟩:=R.pu j d er
     exact⟨v,by rw[kD,h1];rfl,h2.same so⟩
 ·unfold compEnv at q;by_cases hi:i<T
  ·rw[qJ (by simpa using hi),kh,qf hi] at q;cases q;cases m
  ·rw[qx (by simpa using qW hi),gC,qo] at q;rw[qx (by rw[ht];exact qW hi),ht,qo];cases ej:F[i - T]? with
   |none=>rw[ej] at q;cases q
   |some j=>
    rw[ej] at q;cases er:ρ[j]? with
    |none=>rw[kD,er] at q;cases q;cases m
    |some c'=>
     rw[kD,er] at q;have ec:c'=c:=qX q;subst ec;have⟨a,o,h1,h2,h3,h4⟩:=R.mu j c' er m
     exact⟨a,o,by rw[kD,h1];rfl,sub a h2,s _ _ h3,h4.same so⟩
 ·exact al a ha
 ·simp[compEnv,ht]
def FNL(X:Cx)(n:Nat)(e:Expr)(f:Ro->Option (NT (n+1))):Prop:=∃t:TE,PE X e t/\∀(σ:St) (H:Hp) (os:LAd) (ρ:Ro) (x:NT (n+1)) (Q:VK),xl X.K H os σ ρ->f ρ=some x->
  (∀v H' A,Same H H'->NOk X.K H' (A++os) (n+1) v x A->A.Nodup->(∀a∈A,H a=none)->Q v H')->t σ H Q
def tNL(K:FRx)(n:Nat)(f:Ro->Option (NT (n+1))):TE:=λσ H Q=>∃os ρ x,xl K H os σ ρ/\f ρ=some x/\∀v H' A,Same H H'->NOk K H' (A++os) (n+1) v x A->A.Nodup->(∀a∈A,H a=none)->Q v H'
def FNL.pe{X:Cx}{n:Nat}{e:Expr}{f:Ro->Option (NT (n+1))}(h:FNL X n e f):PE X e (tNL X.K n f):=by
 have⟨t,p,q⟩:=h;exact λpins s σ H Q I ⟨os,ρ,x,R,e,k⟩=>p pins s σ H Q I (q σ H os ρ x Q R e k)
theorem zbT{K:FRx}{H:Hp}{os:LAd}:∀{ws:List V} {ds:LPd},Reps K (offs H os) ws ds->xH K H os 0 ws (show List (NT 0) from ds) []
 |[],_,q=>by cases q;exact .nil
 |_::_,_,q=>by
  cases q with
  |cons h r=>exact xH.cons (A:=[]) (B:=[]) (.d h) (zbT r)
def FL.fnl{X:Cx}{e:Expr}{f:RLx}(h:FL X e f):FNL X 0 e (λρ=>(f ρ).map λds=>(show NT 1 from ds)):=by
 have⟨t,p,q⟩:=h;refine⟨t,p,λσ H os ρ x Q R e k=>?_⟩;have⟨ds,e1,e2⟩:=map_some e;subst e2;exact q σ H os ρ ds Q R e1 λa xs H' n s hx r=>k _ H' [a] s (.l hx (zbT r)) (km.mpr ⟨by simp,.nil⟩) λb hb=>by rw[qE.mp hb];exact n
theorem xH.snoc{K:FRx}{H:Hp}{os:LAd}{n:Nat}{w:V}{y:NT n}{B:LAd}:∀{vs:List V} {xs:List (NT n)} {A:LAd},xH K H os n vs xs A->NOk K H os n w y B->xH K H os n (vs++[w]) (xs++[y]) (A++B)
 |_,_,_,.nil,o=>by
  have:=xH.cons (B:=[]) o .nil;rw[kg] at this;exact this
 |_,_,_,.cons h r,o=>by
  rw[kU];exact .cons h (xH.snoc r o)
theorem ZR{α β:Type}{h:α->Option β}:∀{xs:List α} {ys:List β},vf h xs=some ys->ys.length=xs.length
 |[],_,e=>by cases e;rfl
 |x::xs,ys,e=>by
  have⟨y,e1,e⟩:=bind_some e;have⟨zs,e2,e3⟩:=map_some e;subst e3;rw[qS,qS,ZR e2]
theorem Z2{α β:Type}{h:α->Option β}:∀{xs:List α} {ys:List β} {i:Nat} {x:α},vf h xs=some ys->xs[i]?=some x->∃y,ys[i]?=some y/\h x=some y
 |[],_,_,_,_,q=>by simp at q
 |z::xs,ys,i,x,e,q=>by
  have⟨y,e1,e⟩:=bind_some e;have⟨zs,e2,e3⟩:=map_some e;subst e3;cases i with
  |zero=>
   have q:z=x:=by simpa using q
   subst q;exact⟨y,rfl,e1⟩
  |succ i=>
   obtain⟨w,h1,h2⟩:=Z2 (i:=i) e2 (by simpa using q);exact⟨w,by simpa using h1,h2⟩
def zdX{K:FRx}{n T:Nat}{F:LNt}{b:PyData->Ro->Option Ro}{fe:Ro->Option (NT (n+1))}{σ:St}{ρ:Ro}{H1:Hp}{os:LAd}{D:AdX}{is:LNt}{k:Addr->Hp->Prop}{J:It}{ds:LPd}{rs:List (NT (n+1))}(his:∀i∈is,i<T)(R:xl K H1 os σ ρ)(hn:ds.length<=16777216)(hD:H1 D=none)(W:Walks K H1 (offs H1 os) J ds)(hm:vf (λd=>(b d (compEnv T F ρ)).bind fe) ds=some rs)(fin:∀H' xs A,Same H1 H'->H' D=some (.lst xs)->xH K H' (D::(A++os)) (n+1) xs rs A->A.Nodup->(∀a∈A,H1 a=none/\a≠D)->k D H'):zen T F (gF K is b) (tNL K n fe) k σ H1 D J:=by
 have hlr:=ZR hm;have so:∀H' (A:LAd),Same H1 H'->(∀a∈A,H1 a=none/\a≠D)->Same (offs H1 os) (offs H' (D::(A++os))):=λH' A s hA c o z=>by
  by_cases hb:c∈os
  ·rw[yS hb] at z;cases z
  ·rw[zq hb] at z;rw[zq]
   ·exact s c o z
   ·intro w;rcases qu.mp w with w|w
    ·rw[w,hD] at z;cases z
    ·rcases qg.mp w with w|w
     ·rw[(hA c w).1] at z;cases z
     ·exact hb w
 have al:∀H' xs (A:LAd) (ys:List (NT (n+1))) (os':LAd),Same H1 H'->H' D=some (.lst xs)->xH K H' os' (n+1) xs ys A->Al H' (D::(A++os)):=λH' xs A ys os' s hx o a ha=>by
  rcases qu.mp ha with z|z
  ·subst z;exact⟨_,hx⟩
  ·rcases qg.mp z with z|z
   ·exact o.has a z
   ·have⟨o,e⟩:=R.al a z;exact⟨o,s _ _ e⟩
 refine⟨λi m σ' H'=>m=ds.length - i/\i<=ds.length/\(∃ts:St,ts.length=T/\σ'=ts++F.map λj=>(σ[j]?).join)/\Same H1 H'/\∃xs A,H' D=some (.lst xs)/\xH K H' (D::(A++os)) (n+1) xs (rs.take i) A/\A.Nodup/\∀a∈A,H1 a=none/\a≠D,
  ⟨ds.length,rfl,kE _,⟨List.replicate T none,by simp,rfl⟩,yg hD _,[],[],zJ,.nil,.nil,λ_ h=>by cases h⟩,?_⟩
 rintro i m σ' H' ⟨rfl,hi,⟨ts,hts,rfl⟩,sm,xs,A,hx,rp,nd,hA⟩;have hl:xs.length=i:=by
  have:=rp.len;rw[kR,hlr] at this;omega
 obtain⟨w1,w2⟩:=W H' (D::(A++os)) (al H' xs A _ _ sm hx rp) sm (so H' A sm hA);by_cases hlt:i<ds.length
 ·obtain⟨d,hd⟩:∃d,ds[i]?=some d:=⟨_,qp hlt⟩;have⟨g1,g2⟩:=w1 i d hd;have⟨r,hr,e⟩:=Z2 hm hd;have⟨ρ',e1,e2⟩:=bind_some e;refine .inr ⟨g1,λσ2 H2=>i+1<=ds.length/\(∃ts:St,ts.length=T/\σ2=ts++F.map λj=>(σ[j]?).join)/\Same H1 H2/\∃xs A,H2 D=some (.lst xs)/\xH K H2 (D::(A++os)) (n+1) xs (rs.take (i+1)) A/\A.Nodup/\∀a∈A,H1 a=none/\a≠D,?_,?_⟩
  ·rintro σ2 H2 ⟨h1,h2,h3,h4⟩;exact⟨ds.length - (i+1),by omega,rfl,h1,h2,h3,h4⟩
  ·intro x H2 hy;have⟨s2,rx⟩:=g2 x H2 hy;refine⟨D::(A++os),d,compEnv T F ρ,ρ',rx,e1,λσ2 st=>?_⟩;have keepA:∀{H4:Hp},Same H' H4->∀a∈A,H4 a=H' a:=λ{H4} s a ha=>by
    have⟨o,e⟩:=rp.has a ha;rw[e];exact s a o e
   have rp2:xH K H2 (D::(A++os)) (n+1) xs (rs.take i) A:=rp.keep (zl s2 _) (keepA s2);have R2:xl K H2 (D::(A++os)) (ts++F.map λj=>(σ[j]?).join) (compEnv T F ρ):=zgc T F R (sm.trans s2) (so H2 A (sm.trans s2) hA) (al H2 xs A _ _ (sm.trans s2) (s2 _ _ hx) rp2) (λa ha=>qz _ (qg.mpr (.inr ha))) hts
   have hts2:∃ts':St,ts'.length=T/\σ2=ts'++F.map λj=>(σ[j]?).join:=st.tail his hts rfl
   refine⟨D::(A++os),ρ',r,R2.sets st,e2,λv H4 B s4 rv ndB hB=>?_⟩;have hBn:∀a∈B,H1 a=none/\a≠D:=λa ha=>⟨(sm.trans s2).free (hB a ha),λz=>by
    have:=s2 _ _ hx;rw[<-z,hB a ha] at this;cases this⟩
   have dj:∀a∈A,a∉B:=λa ha hb=>by
    have⟨o,e⟩:=rp2.has a ha;rw[hB a hb] at e;cases e
   refine⟨xs,s4 _ _ (s2 _ _ hx),?_,hlt,hts2,((sm.trans s2).trans s4).JU hD _,xs++[v],A++B,zJ,?_,k5.mpr ⟨nd,ndB,λa ha b hb z=>dj a ha (z▸hb)⟩,λa ha=>?_⟩
   ·rw[hl];show i<16777216
    omega
   ·rw[mD,hr];have em:∀a,a∈B++(D::(A++os))↔a∈D::(A++B++os):=λa=>by
     simp only [List.mem_append,qu];grind
    have su:Same (offs H4 (B++(D::(A++os)))) (offs (upd H4 D (.lst (xs++[v]))) (D::(A++B++os))):=λc o z=>by
     by_cases hc:c∈B++(D::(A++os))
     ·rw[yS hc] at z;cases z
     ·rw[zq hc] at z;rw[zq λw=>hc ((em c).mpr w),zN λw=>hc (by rw[w];simp)];exact z
    have s1:Same (offs H2 (D::(A++os))) (offs H4 (B++(D::(A++os)))):=λc o z=>by
     by_cases hc:c∈D::(A++os)
     ·rw[yS hc] at z;cases z
     ·rw[zq hc] at z;rw[zq]
      ·exact s4 c o z
      ·intro w;rcases qg.mp w with w|w
       ·rw[hB c w] at z;cases z
       ·exact hc w
    have nAD:∀a∈A,a≠D:=λa ha=>(hA a ha).2
    refine xH.snoc (rp2.keep (s1.trans su) λa ha=>?_) (rv.keep su λa ha=>?_)
    ·rw[zN (nAD a ha)];have⟨o,e⟩:=rp2.has a ha;rw[e];exact s4 a o e
    ·rw[zN (hBn a ha).2]
   ·rcases qg.mp ha with z|z
    ·exact hA a z
    ·exact hBn a z
 ·have e:i=ds.length:=by omega
  subst e;refine .inl ⟨w2,fin H' xs A sm hx ?_ nd hA⟩;rw[<-hlr,hJ] at rp;exact rp
def zcm(n T:Nat)(F:LNt)(fi:RLx)(b:PyData->Ro->Option Ro)(fe:Ro->Option (NT (n+1))):Ro->Option (NT (n+2)):=λρ=>
 (fi ρ).bind λds=>if ds.length<=16777216 then (vf (λd=>(b d (compEnv T F ρ)).bind fe) ds).map λrs=>(show NT (n+2) from rs) else none
structure NSt(K:FRx)(n ℓ:Nat)(H0:Hp)(os0:LAd)(v:V)(H:Hp)(os:LAd)(σ:St)(ρ:Ro)(x:NT (n+1)):Prop where
 sr:SRo K H0 os0 H os σ ρ
 self:σ[ℓ]?=some (some v)
 ob:∃A,NOk K H os (n+1) v x A/\A.Nodup/\(∀a∈A,a∈os/\H0 a=none)/\∀(j:Nat)(c:Sl),ρ[j]?=some c->isM c=true->∀a∈A,σ[j]?≠some (some (.ref a))
inductive NR(n:Nat) where
 |nx (ρ:Ro) (x:NT (n+1))|fz (r:Fl)
def zkh(K:FRx)(n ℓ:Nat)(H0:Hp)(os0:LAd)(G:Hp)(v:V)(D:Ends):NR n->Prop
 | .nx ρ x=>∀σ H os,NSt K n ℓ H0 os0 v H os σ ρ x->Same G (offs H os)->D.nx σ H
 | .fz r=>Jt K H0 os0 G D r
def NS(X:Cx)(n ℓ:Nat)(st:Stmt)(f:Ro->NT (n+1)->Option (NR n)):Prop:=∃t:TS,PS X st t/\∀(H0:Hp) (os0:LAd) (G:Hp) (v:V) (D:Ends) (σ:St) (H:Hp) (os:LAd) (ρ:Ro) (x:NT (n+1)) (r:NR n),NSt X.K n ℓ H0 os0 v H os σ ρ x->Same G (offs H os)->f ρ x=some r->zkh X.K n ℓ H0 os0 G v D r->t D σ H
def NSs(X:Cx)(n ℓ:Nat)(sts:List Stmt)(f:Ro->NT (n+1)->Option (NR n)):Prop:=∃t:TS,PSs X sts t/\∀(H0:Hp) (os0:LAd) (G:Hp) (v:V) (D:Ends) (σ:St) (H:Hp) (os:LAd) (ρ:Ro) (x:NT (n+1)) (r:NR n),NSt X.K n ℓ H0 os0 v H os σ ρ x->Same G (offs H os)->f ρ x=some r->zkh X.K n ℓ H0 os0 G v D r->t D σ H
section
variable{K:FRx}{n ℓ:Nat}{H0 H H':Hp}{os0 os:LAd}{v:V}{σ:St}{ρ:Ro}{x:NT (n+1)}
def NSt.same(h:NSt K n ℓ H0 os0 v H os σ ρ x)(e:Same H H'):NSt K n ℓ H0 os0 v H' os σ ρ x:=by
 have⟨A,h1,h2,h3,h4⟩:=h.ob;exact⟨h.sr.same e,h.self,A,h1.keep (zl e os) (λa ha=>by
  have⟨o,q⟩:=h1.has a ha;rw[q];exact e a o q),h2,h3,h4⟩
def NSt.set(h:NSt K n ℓ H0 os0 v H os σ ρ x){i:Nat}{u:V}{d:PdX}(hi:i≠ℓ)(r:Rep K (offs H os) u d):NSt K n ℓ H0 os0 v H os (σ.set i (some u)) (ρ.set i (.pu d)) x:=by
 have⟨A,h1,h2,h3,h4⟩:=h.ob;refine⟨h.sr.set r,by rw[qG hi];exact h.self,A,h1,h2,h3,λj c q m a ha z=>?_⟩;have⟨hj,q⟩:=j5 q m;rw[qG hj] at z;exact h4 j c q m a ha z
def NSt.put(h:NSt K n ℓ H0 os0 v H os σ ρ x){p:LNt}{ds:LPd}(e:zge n x p=some ds):∃c ws,vN H v p (.ref c)/\c∈os/\H c=some (.lst ws)/\Reps K (offs H os) ws ds/\
  ∀ws' ds',Reps K (offs H os) ws' ds'->NSt K n ℓ H0 os0 v (upd H c (.lst ws')) os σ ρ (ZF n x p ds'):=by
 have⟨A,h1,h2,h3,h4⟩:=h.ob;have⟨c,ws,g1,g2,g3,g4,g5⟩:=NOk.path n h1 h2 e;have hc:=(h3 c g1).1;refine⟨c,ws,g2,hc,g3,g4,λws' ds' r=>?_⟩;have eo:offs (upd H c (.lst ws')) os=offs H os:=yP hc
 have so:Same (offs H os) (offs (upd H c (.lst ws')) os):=by rw[eo];exact Same.refl _
 refine⟨⟨⟨λi d q=>?_,λi d q m=>?_,λa ha=>?_,h.sr.rel.len⟩,λb o z=>?_,h.sr.sub,h.sr.new,h.sr.al0,h.sr.own,h.sr.ap⟩,h.self,A,?_,h2,h3,h4⟩
 ·have⟨w,w1,w2⟩:=h.sr.rel.pu i d q;exact⟨w,w1,w2.same so⟩
 ·have⟨a,o,w1,w2,w3,w4⟩:=h.sr.rel.mu i d q m;refine⟨a,o,w1,w2,?_,w4.same so⟩;rw[zN λz=>h4 i d q m c g1 (by rw[<-z];exact w1)];exact w3
 ·by_cases z:a=c
  ·rw[z];exact⟨_,zJ⟩
  ·have⟨o,w⟩:=h.sr.rel.al a ha;exact⟨o,by rw[zN z];exact w⟩
 ·rw[zN λw=>by rw[w,(h3 c g1).2] at z;cases z];exact h.sr.sm b o z
 ·exact g5 _ ws' ds' so (λa ha hne=>zN hne) zJ (by rw[eo];exact r)
end
section
variable{X:Cx}{n ℓ:Nat}{st:Stmt}{rest:List Stmt}{f g:Ro->NT (n+1)->Option (NR n)}{e:Expr}{pos:Pos}
noncomputable def nsq(f g:Ro->NT (n+1)->Option (NR n)):Ro->NT (n+1)->Option (NR n):=λρ x=>match f ρ x with |some (.nx ρ' x')=>g ρ' x'|_=>none
def YA(h:NS X n ℓ st f)(h2:NSs X n ℓ rest g):NSs X n ℓ (st::rest) (nsq f g):=by
 have⟨t,p,q⟩:=h;have⟨t2,p2,q2⟩:=h2;refine⟨_,uw p p2,λH0 os0 G v D σ H os ρ x r R s e k=>?_⟩;unfold nsq at e;split at e
 ·rename_i ρ1 x1 e1;exact q H0 os0 G v { D with nx:=t2 D } σ H os ρ x _ R s e1 λσ' H' os' R' s'=>q2 H0 os0 G v D σ' H' os' ρ1 x1 r R' s' e k
 ·cases e
noncomputable def nset(i:Nat)(f:RPx):Ro->NT (n+1)->Option (NR n):=λρ x=>(f ρ).bind λd=>some (.nx (ρ.set i (.pu d)) x)
def zlW(i:Nat){x:Str}{pos':Pos}{f:RPx}(hN:X.N.Nodup)(he:FE X e f)(h0:i≠ℓ:=by decide)(hi:X.N[i]?=some x:=by rfl)(hx:Loc X.env.scope x:=by trivial)(hs:swapsWith e (some (.Name x pos')) pos.line X.env=pure false:=by rfl)(hf:FNx X x:=by trivial):NS X n ℓ (.Assign [.Name x pos'] e pos) (nset i f):=by
 have⟨t,p,q⟩:=he;refine⟨_,wA hN hi hx p hs hf,λH0 os0 G v D σ H os ρ x r R s e k=>?_⟩;have⟨d,e1,e2⟩:=bind_some e;cases e2;exact q σ H os ρ d _ R.sr.rel e1 λu H' s' rv=>k _ _ _ ((R.same s').set h0 rv) (s.trans (zl s' os))
end
theorem vN.same{H H':Hp}(s:Same H H'):∀{v w:V} {p:LNt},vN H v p w->vN H' v p w
 |_,_,_,.nil v=>.nil v
 |_,_,_,.cons h e r=>.cons (s _ _ h) e (r.same s)
theorem vN.det{H:Hp}:∀{v w w':V} {p:LNt},vN H v p w->vN H v p w'->w=w'
 |_,_,_,_,.nil _,.nil _=>rfl
 |_,_,_,_,.cons h e r,.cons h' e' r'=>by
  rw[h] at h';cases h';rw[e] at e';cases e';exact r.det r'
theorem vN.snoc{H:Hp}{i:Nat}:∀{v w:V} {p:LNt},vN H v (p++[i]) w->∃a vs,vN H v p (.ref a)/\H a=some (.lst vs)/\vs[i]?=some w
 |_,_,[],.cons h e (.nil _)=>⟨_,_,.nil _,h,e⟩
 |_,_,_::_,.cons h e r=>by
  have⟨a,vs,h1,h2,h3⟩:=vN.snoc r;exact⟨a,vs,.cons h e h1,h2,h3⟩
def NB(X:Cx)(ℓ:Nat)(e:Expr)(g:Ro->Option (List Nat)):Prop:=∃t:TE,PE X e t/\∀(σ:St)(H:Hp)(os:LAd)(ρ:Ro)(p:LNt)(v w:V)(Q:VK),xl X.K H os σ ρ->g ρ=some p->σ[ℓ]?=some (some v)->vN H v p w->(∀H',Same H H'->Q w H')->t σ H Q
section
variable{X:Cx}{n ℓ:Nat}{a b e base ie:Expr}{pos tpos p1:Pos}{x:Str}
noncomputable def nbI(g:Ro->Option (List Nat))(f:RPx):Ro->Option (List Nat):=λρ=>(g ρ).bind λp=>match f ρ with |some (.int i)=>if 0<=i then some (p++[i.toNat]) else none|_=>none
def ziV(hN:X.N[ℓ]?=some x:=by rfl)(hv:Vis X.env.scope x:=by trivial)(hd:NDx x:=by decide)(hcd:NCx x:=by decide):NB X ℓ (.Name x p1) (λ_=>some []):=by
 refine⟨_,yu (i:=ℓ) hN hv hd hcd,λσ H os ρ p v w Q R e h W k=>?_⟩;cases e;cases W;exact⟨_,h,k H (Same.refl H)⟩
def zmD{g:Ro->Option (List Nat)}{f:RPx}(ha:NB X ℓ a g)(hb:FE X b f)(hs:W2 b):NB X ℓ (.Subscript a b pos) (nbI g f):=by
 have⟨ta,pa,qa⟩:=ha;have⟨tb,pb,qb⟩:=hb;refine⟨_,zh2 zaE pa pb hs,λσ H os ρ p v w Q R e h W k=>?_⟩;have⟨p0,e1,e2⟩:=bind_some e;split at e2
 ·rename_i i e3;split at e2
  ·rename_i hi;cases e2;have⟨c,vs,W1,hc,hw⟩:=W.snoc;refine qa σ H os ρ p0 v _ _ R e1 h W1 λH1 s1=>qb σ H1 os ρ _ _ (R.same s1) e3 λy H2 s2 ry=>?_
   cases ry;refine⟨false,c,vs,i,w,rfl,rfl,SqL.of (s2 _ _ (s1 _ _ hc)),?_,k H2 (s1.trans s2)⟩;obtain⟨hl,_⟩:=qm.mp hw;unfold atI ixN;rw[qf hi,qf (by omega)];exact hw
  ·cases e2
 ·cases e2
def nput(fp:Ro->Option (List Nat))(fi f:RPx):Ro->NT (n+1)->Option (NR n):=λρ x=>(f ρ).bind λd=>(fp ρ).bind λp=>(zge n x p).bind λds=>match fi ρ with
 |some (.int k)=>(ixN ds.length k).bind λj=>some (.nx ρ (ZF n x p (ds.set j d)))
 |_=>none
def zk6{fp:Ro->Option (List Nat)}{fi f:RPx}(hbase:NB X ℓ base fp)(hi:FE X ie fi)(he:FE X e f)(ha:∀v,assign (.Subscript base ie tpos) X.env v=(do
   let ov <-holding [v] (eval base X.env)
   let iv <-holding [v,ov] (eval ie X.env)
   standAt tpos
   holding [v,ov,iv] (setItem ov iv v)
   release [v,ov,iv] []):=by intro _;rfl)(hs:swapsWithSole [.Subscript base ie tpos] e pos.line X.env=pure false:=by rfl)(hw:swappedStores [.Subscript base ie tpos] e X.env=pure none:=by rfl)(h1:(assignEach [.Subscript base ie tpos] X.env).map (·.2)=[assign (.Subscript base ie tpos) X.env]:=by rfl):NS X n ℓ (.Assign [.Subscript base ie tpos] e pos) (nput fp fi f):=by
 have⟨t,p,q⟩:=he;have⟨ti,pi,qi⟩:=hi;have⟨tb,pb,qb⟩:=hbase;refine⟨_,zhp p (zhV pb pi set_list ha) hs hw h1,λH0 os0 G v D σ H os ρ x r R s e k=>?_⟩;have⟨d,e1,e⟩:=bind_some e;have⟨pt,e2,e⟩:=bind_some e;have⟨ds,e3,e⟩:=bind_some e;split at e
 ·rename_i ki e4;have⟨j,e5,e⟩:=bind_some e;cases e;refine q σ H os ρ d _ R.sr.rel e1 λu H1 s1 ru=>?_
  obtain⟨c,ws,W,hc,hcw,rw_,_⟩:=(R.same s1).put e3;refine qb σ H1 os ρ pt v _ _ (R.sr.rel.same s1) e2 R.self W λH2 s2=>qi σ H2 os ρ _ _ (R.sr.rel.same (s1.trans s2)) e4 λy H3 s3 ry=>?_
  cases ry;have R3:=R.same ((s1.trans s2).trans s3);have⟨c3,ws3,W3,hc3,hcw3,rw3,put⟩:=R3.put e3
  have ec:V.ref c=V.ref c3:=(W.same (s2.trans s3)).det W3;cases ec;refine⟨c,ws3,ki,j,rfl,rfl,hcw3,by rw[rw3.length];exact e5,?_⟩;refine k _ _ os (put _ _ (Y8 (ru.same (zl (s2.trans s3) os)) j rw3)) ?_;rw[yP hc3];exact s.trans (zl ((s1.trans s2).trans s3) os)
 ·cases e
end
noncomputable def zha(n i:Nat)(f:Ro->Option (NT (n+1)))(g:Ro->NT (n+1)->Option (NR n)):RFx:=λρ=>(f ρ).bind λx=>if i<ρ.length then (match g (ρ.set i .no) x with |some (.fz r)=>some r|_=>none) else none
section
variable{X:Cx}{n:Nat}{elt tg iter:Expr}{scope:Scope}{pos pos' spos:Pos}{Ts:LSr}{F:LNt}{is:LNt}{fi:RLx}{b:PyData->Ro->Option Ro}{fe:Ro->Option (NT (n+1))}{rest:List Stmt}{g:Ro->NT (n+2)->Option (NR (n+1))}{x:Str}
def zfx(i:Nat)(hN:X.N.Nodup)(hc:X.calm=true)(hi:FIB X tg iter fi)(S:yb X scope)(hF:∀j∈F,∃x,X.N[j]?=some x/\scope.names.lookup x=some .free)(hg:∀cl C ex s H,FG (zV X (Ts++F.map λj=>X.N.getD j "") scope cl C ex s H) tg is b)(he:∀cl C ex s H,FNL (zV X (Ts++F.map λj=>X.N.getD j "") scope cl C ex s H) n elt fe)(hr:NSs X (n+1) i rest g)(his:∀i∈is,i<Ts.length:=by decide)(hi':X.N[i]?=some x:=by rfl)(hx:X.env.scope.names.lookup x=some .local:=by rfl)(hsw:swapsWith (.ListComp elt [⟨tg,iter,[],0⟩] scope pos) (some (.Name x pos')) spos.line X.env=pure true:=by rfl)(hs:FSx X iter:=by exact λ_=>rfl):FSs X (.Assign [.Name x pos'] (.ListComp elt [⟨tg,iter,[],0⟩] scope pos) spos::rest) (zha (n+1) i (zcm n Ts.length F fi b fe) g):=by
 have⟨wi,pi,qi⟩:=hi;have⟨t2,p2,q2⟩:=hr;refine⟨_,uw (uD (Ts:=Ts) (F:=F) (g:=gF X.K is b) (te:=tNL X.K n fe) hN hi' hx hc pi S hF hg (λcl C ex s H=>(he cl C ex s H).pe) hsw hs) p2,λH0 os0 D σ H os ρ r R q k=>?_⟩;have⟨y,e1,e2⟩:=bind_some q;have⟨ds,e3,e4⟩:=bind_some e1;split at e4
 ·rename_i hl;have⟨rs,e5,e6⟩:=map_some e4;subst e6;split at e2
  ·rename_i hlt;split at e2
   ·rename_i fl e7;cases e2;refine qi σ H os ρ ds _ R.rel e3 λJ H' s W D' hD=>?_
    refine zdX his (R.rel.same s) hl hD W e5 λH2 xs A s2 hx r nd hA=>?_
    have s3:Same H H2:=s.trans s2;have on:∀b,offs H [] b=H b:=λb=>zq (by simp)
    have hA':∀a∈D'::A,H a=none:=λa ha=>by
     rcases qu.mp ha with z|z
     ·rw[z];exact s.free hD
     ·exact s.free (hA a z).1
    have o:NOk X.K H2 (D'::A++os) (n+2) (.ref D') (show NT (n+2) from rs) (D'::A):=.l hx r;have L:Left H os [] H2 (D'::A++os):=⟨λb o z=>s3 b o (by rw[on] at z;exact z),λa ha=>by
     rcases qg.mp ha with w|w
     ·exact o.has a w
     ·have⟨o,w⟩:=R.rel.al a w;exact⟨o,s3 a o w⟩,λa ha=>.inr (qg.mpr (.inr ha)),λa ha=>by
     rcases qg.mp ha with w|w
     ·right;rw[on];exact hA' a w
     ·exact .inl w⟩
    have sr':=(R.left L (λb hb=>by cases hb) λj c q m b hb=>by cases hb).zhl i (some (.ref D'));refine q2 H0 os0 (offs H os) (.ref D') D _ H2 (D'::A++os) _ _ _ ⟨sr',kn (by rw[R.rel.len];exact hlt),D'::A,o,km.mpr ⟨λz=>(hA D' z).2 rfl,nd⟩,λb hb=>⟨qg.mpr (.inl hb),R.sm.free (hA' b hb)⟩,λj c q m b hb w=>?_⟩ (Ue L) e7 k;rcases zX q with⟨_,_,z⟩|⟨hj,q⟩
    ·rw[<-z] at m;cases m
    ·rw[qG hj] at w;have⟨b',o',w1,w2,w3,_⟩:=R.rel.mu j c q m;rw[w] at w1;cases w1;rw[hA' b hb] at w3;cases w3
   ·cases e2
  ·cases e2
 ·cases e4
end
section
variable{K:FRx}{ℓ:Nat}{H0 H H':Hp}{os0 os:LAd}{v:V}{σ:St}{ρ:Ro}{x:NT 2}
def Jd(x:NT 2):List PyData:=(show List (NT 1) from x).map (toD 1)
def NSt.thaw(h:NSt K 1 ℓ H0 os0 v H os σ ρ x):∃os',SRo K H0 os0 H os' σ (ρ.set ℓ (.ow (Jd x)))/\Same (offs H os) (offs H os')/\∀a∈os',a∈os:=by
 have⟨A,h1,h2,h3,h4⟩:=h.ob;cases h1 with
 | @l _ a vs xs A hx r=>
  have hl:ℓ<ρ.length:=by
   have:=(qm.mp h.self).1;rw[h.sr.rel.len] at this;exact this
  have aA:a∉A:=(km.mp h2).1;have sub:∀b∈os.filter (λc=>c∉A),b∈os:=λb hb=>(qO.mp hb).1
  have so:Same (offs H os) (offs H (os.filter λc=>c∉A)):=yD sub;have nA:∀a∈A,a∉os.filter λc=>c∉A:=λa ha w=>by
   have:=(qO.mp w).2;simp at this;exact this ha
  have rr:Reps K (offs H (os.filter λc=>c∉A)) vs (Jd xs):=r.rep sub nA;have ina:a∈os.filter λc=>c∉A:=qO.mpr ⟨(h3 a (.head _)).1,by simpa using aA⟩
  refine⟨os.filter λc=>c∉A,⟨⟨λi d q=>?_,λi c q m=>?_,λb hb=>h.sr.rel.al b (sub b hb),by rw[kJ];exact h.sr.rel.len⟩,h.sr.sm,λb hb=>qO.mpr ⟨h.sr.sub b hb,?_⟩,λb hb=>h.sr.new b (sub b hb),h.sr.al0,λi c q m b e=>?_,λi j c c' hij q1 q2 m1 m2 b z1 z2=>?_⟩,so,sub⟩
  ·have⟨_,q⟩:=Uz rfl q;have⟨w,w1,w2⟩:=h.sr.rel.pu i d q;exact⟨w,w1,w2.same so⟩
  ·rcases zX q with⟨rfl,_,rfl⟩|⟨hj,q⟩
   ·exact⟨a,_,h.self,ina,hx,rr⟩
   ·have⟨b,o,w1,w2,w3,w4⟩:=h.sr.rel.mu i c q m;exact⟨b,o,w1,qO.mpr ⟨w2,by simpa using λz:b∈A=>h4 i c q m b (qz _ z) w1⟩,w3,w4.same so⟩
  ·have:b∉A:=λz=>by
    have⟨o,e⟩:=h.sr.al0 b hb;rw[(h3 b (.tail _ z)).2] at e;cases e
   simpa using this
  ·rcases zX q with⟨rfl,_,rfl⟩|⟨hj,q⟩
   ·rw[h.self] at e;cases e;exact(h3 a (.head _)).2
   ·exact h.sr.own i c q m b e
  ·rcases zX q1 with⟨rfl,_,rfl⟩|⟨hi,q1⟩
   ·rcases zX q2 with⟨z,_,_⟩|⟨hk,q2⟩
    ·exact hij z
    ·rw[h.self] at z1;cases z1;exact h4 j c' q2 m2 a (.head _) z2
   ·rcases zX q2 with⟨rfl,_,rfl⟩|⟨hk,q2⟩
    ·rw[h.self] at z2;cases z2;exact h4 i c q1 m1 a (.head _) z1
    ·exact h.sr.ap i j c c' hij q1 q2 m1 m2 b z1 z2
end
section
variable{X:Cx}{ℓ:Nat}{st:Stmt}{rest:List Stmt}{f g:Ro->NT 2->Option (NR 1)}{e c:Expr}{pos:Pos}
def Yk(ℓ:Nat)(h:RFx):Ro->NT 2->Option (NR 1):=λρ x=>(h (ρ.set ℓ (.ow (Jd x)))).map NR.fz
def U2{h:RFx}(hr:FSs X rest h):NSs X 1 ℓ rest (Yk ℓ h):=by
 have⟨t,p,q⟩:=hr;refine⟨t,p,λH0 os0 G v D σ H os ρ x r R s e k=>?_⟩;have⟨fl,e1,e2⟩:=map_some e;subst e2;have⟨os',sr,so,_⟩:=R.thaw;exact q H0 os0 D σ H os' _ fl sr e1 (Jt.mono k (s.trans so))
noncomputable def fzq(f:Ro->NT 2->Option (NR 1))(h:RFx):Ro->NT 2->Option (NR 1):=λρ x=>match f ρ x with
 |some (.fz (.nx ρ'))=>(h ρ').map NR.fz
 |some (.fz r)=>some (.fz r)
 |_=>none
def zdL{h:RFx}(hs:NS X 1 ℓ st f)(hr:FSs X rest h):NSs X 1 ℓ (st::rest) (fzq f h):=by
 have⟨t,p,q⟩:=hs;have⟨t2,p2,q2⟩:=hr;refine⟨_,uw p p2,λH0 os0 G v D σ H os ρ x r R s e k=>?_⟩;unfold fzq at e;split at e
 ·rename_i ρ' e1;have⟨fl,e2,e3⟩:=map_some e;subst e3;exact q H0 os0 G v { D with nx:=t2 D } σ H os ρ x _ R s e1 λσ' H' os' R' s'=>q2 H0 os0 D σ' H' os' ρ' fl R' e2 (Jt.mono k s')
 ·rename_i r' hn e1;cases e;cases r' with
  |nx ρ'=>exact absurd rfl (hn ρ')
  |rt d=>exact q H0 os0 G v { D with nx:=t2 D } σ H os ρ x _ R s e1 k
  |rl d=>exact q H0 os0 G v { D with nx:=t2 D } σ H os ρ x _ R s e1 k
 ·cases e
def zcO(ℓ i:Nat)(f:RPx):Ro->NT 2->Option (NR 1):=λρ x=>(f (ρ.set ℓ (.ow (Jd x)))).bind λd=>if zhq d=true then some (.nx (ρ.set i (.pu d)) x) else none
def zjC(i:Nat){x:Str}{pos':Pos}{f:RPx}(hN:X.N.Nodup)(he:FE X e f)(h0:i≠ℓ:=by decide)(hi:X.N[i]?=some x:=by rfl)(hx:Loc X.env.scope x:=by trivial)(hs:swapsWith e (some (.Name x pos')) pos.line X.env=pure false:=by rfl)(hf:FNx X x:=by trivial):NS X 1 ℓ (.Assign [.Name x pos'] e pos) (zcO ℓ i f):=by
 have⟨t,p,q⟩:=he;refine⟨_,wA hN hi hx p hs hf,λH0 os0 G v D σ H os ρ y r R s e k=>?_⟩;have⟨d,e1,e2⟩:=bind_some e;split at e2
 ·rename_i hd;cases e2;have⟨os',sr,so,_⟩:=R.thaw;exact q σ H os' _ d _ sr.rel e1 λu H' s' rv=>k _ _ _ ((R.same s').set h0 (zgP hd rv)) (s.trans (zl s' os))
 ·cases e2
def zbF(ℓ:Nat)(c:Ro->Option Bool)(f g:Ro->NT 2->Option (NR 1)):Ro->NT 2->Option (NR 1):=λρ x=>(c (ρ.set ℓ (.ow (Jd x)))).bind λb=>if b then f ρ x else g ρ x
def zdD{a b:List Stmt}{fc:Ro->Option Bool}(hc:FT X c fc)(ha:NSs X 1 ℓ a f)(hb:NSs X 1 ℓ b g):NS X 1 ℓ (.If c a b pos) (zbF ℓ fc f g):=by
 have⟨tc,pc,qc⟩:=hc;have⟨ta,pa,qa⟩:=ha;have⟨tb,pb,qb⟩:=hb;refine⟨_,zez pc pa pb,λH0 os0 G v D σ H os ρ x r R s e k=>?_⟩;have⟨b,e1,e2⟩:=bind_some e;have⟨os',sr,so,_⟩:=R.thaw;refine qc σ H os' _ b _ sr.rel e1 λH' s'=>?_
 cases b with
 |true=>rw[qf rfl] at e2 ⊢;exact qa H0 os0 G v D σ H' os ρ x r (R.same s') (s.trans (zl s' os)) e2 k
 |false=>rw[qq qF] at e2 ⊢;exact qb H0 os0 G v D σ H' os ρ x r (R.same s') (s.trans (zl s' os)) e2 k
end
def zep(i:Nat):OFx:=λρ fs=>(gk i ρ).bind λds=>some (.rt (.list ds) fs)
section
variable{X:Cx}{C:AdX}{ℓ:Nat}{a b e:Expr}{p1 pos:Pos}
def ziy(i:Nat){x:Str}(hN:X.N[i]?=some x:=by rfl)(hv:Vis X.env.scope x:=by trivial)(hd:NDx x:=by decide)(hcd:NCx x:=by decide):OS X C ℓ (.Return (some (.Name x p1)) pos) (zep i):=by
 refine⟨_,Jy (yu hN hv hd hcd),λH0 os0 p D σ H os ρ fs r R e k=>?_⟩;have⟨ds,e1,e2⟩:=bind_some e;cases e2;have q:=vR e1;have⟨a,xs,ea,ha,hx,rx⟩:=R.sr.rel.ow i ds q
 have h0:H0 a=none:=R.sr.own i _ q rfl a ea;have⟨A,o1,o2,o3,o4⟩:=R.ob
 have hA:a∉A:=λh=>o4 i _ q rfl a h ea
 have sub:∀b∈os.filter (λb=>b≠a),b∈os:=λb hb=>(qO.mp hb).1
 have na:a∉os.filter (λb=>b≠a):=λh=>by simpa using (qO.mp h).2
 have mk:∀b∈os,b≠a->b∈os.filter (λb=>b≠a):=λb hb hn=>qO.mpr ⟨hb,by simpa using hn⟩
 refine⟨_,ea,k (.ref a) H (os.filter λb=>b≠a) ⟨R.sr.sm,λb hb=>mk b (R.sr.sub b hb) λq=>?_,λb hb=>R.sr.new b (sub b hb),λb hb=>R.sr.rel.al b (sub b hb),A,o1.keep (yD sub) (λ_ _=>rfl),o2,λb hb=>⟨mk b (o3 b hb).1 λq=>hA (q▸hb),(o3 b hb).2⟩⟩ (.lst (SqL.of (xs:=xs) (by rw[zq na];exact hx)) (rx.same (yD sub)))⟩
 have:=R.sr.al0 b hb;rw[q,h0] at this;first |exact absurd rfl this|(have⟨_,h⟩:=this;cases h)
end
structure RSt(K:FRx)(C:AdX)(ℓ:Nat)(H0:Hp)(os0:LAd)(p:AdX)(A:LAd)(fs:Ob)(H:Hp)(os:LAd)(σ:St)(ρ:Ro):Prop where
 sr:SRo K H0 os0 H os σ ρ
 self:σ[ℓ]?=some (some (.ref p))
 ob:FOk K H0 os0 (.ref p) (.ob C fs) A
 oA:∀a∈A,a∈os0
 gs:Same (offs H0 os0) (offs H os)
def zkk(K:FRx)(C:AdX)(ℓ:Nat)(H0:Hp)(os0:LAd)(p:AdX)(A:LAd)(fs:Ob)(G:Hp)(D:Ends):Fl->Prop
 | .nx ρ'=>∀σ' H' os',RSt K C ℓ H0 os0 p A fs H' os' σ' ρ'->Same G (offs H' os')->D.nx σ' H'
 | .rt d=>∀v H',Same H0 H'->Rep K (offs H' os0) v d->D.rt v H'
 | .rl ds=>∀a xs H',H0 a=none->Same H0 H'->H' a=some (.lst xs)->Reps K (offs H' (a::os0)) xs ds->D.rt (.ref a) H'
def ORd(X:Cx)(C:AdX)(ℓ:Nat)(st:Stmt)(f:Ro->Ob->Option Fl):Prop:=∃t:TS,PS X st t/\∀(H0:Hp)(os0:LAd)(p:AdX)(A:LAd)(D:Ends)(σ:St)(H:Hp)(os:LAd)(ρ:Ro)(fs:Ob)(r:Fl),RSt X.K C ℓ H0 os0 p A fs H os σ ρ->f ρ fs=some r->zkk X.K C ℓ H0 os0 p A fs (offs H os) D r->t D σ H
def ORs(X:Cx)(C:AdX)(ℓ:Nat)(sts:List Stmt)(f:Ro->Ob->Option Fl):Prop:=∃t:TS,PSs X sts t/\∀(H0:Hp)(os0:LAd)(p:AdX)(A:LAd)(D:Ends)(σ:St)(H:Hp)(os:LAd)(ρ:Ro)(fs:Ob)(r:Fl),RSt X.K C ℓ H0 os0 p A fs H os σ ρ->f ρ fs=some r->zkk X.K C ℓ H0 os0 p A fs (offs H os) D r->t D σ H
section
variable{K:FRx}{C:AdX}{ℓ:Nat}{H0 H H':Hp}{os0 os:LAd}{p:AdX}{A:LAd}{σ:St}{ρ:Ro}{fs:Ob}
def RSt.stay(h:RSt K C ℓ H0 os0 p A fs H os σ ρ):∀a∈A,H a=H0 a:=λa ha=>by
 have⟨o,q⟩:=h.ob.has a ha;rw[q];exact h.sr.sm a o q
def RSt.obH(h:RSt K C ℓ H0 os0 p A fs H os σ ρ):FOk K H os (.ref p) (.ob C fs) A:=h.ob.keep h.gs h.stay
def RSt.v7(h:RSt K C ℓ H0 os0 p A fs H os σ ρ):vL K C ℓ H os σ ρ fs:=⟨h.sr.rel,p,A,h.self,h.obH,λa ha=>h.sr.sub a (h.oA a ha)⟩
end
section
variable{X:Cx}{C:AdX}{ℓ:Nat}{st:Stmt}{rest:List Stmt}{f g:Ro->Ob->Option Fl}{a b e:Expr}{p1 pos:Pos}
noncomputable def rsq(f g:Ro->Ob->Option Fl):Ro->Ob->Option Fl:=λρ fs=>match f ρ fs with |some (.nx ρ')=>g ρ' fs|r=>r
def zjz(h:ORd X C ℓ st f):ORs X C ℓ [st] f:=by
 have⟨t,p,q⟩:=h;exact⟨t,zaK p,q⟩
noncomputable def rret(f:OPx):Ro->Ob->Option Fl:=λρ fs=>(f ρ fs).bind λd=>some (.rt d)
def zkL{f:OPx}(h:GE X C ℓ e f):ORd X C ℓ (.Return (some e) pos) (rret f):=by
 have⟨t,p,q⟩:=h;refine⟨_,Jy p,λH0 os0 p A D σ H os ρ fs r R e k=>?_⟩;have⟨d,e1,e2⟩:=bind_some e;cases e2;exact q σ H os ρ fs d _ R.v7 e1 λv H' s rv=>k v H' (R.sr.sm.trans s) (rv.same (yD R.sr.sub))
end
def zm8(K:FRx)(C:AdX)(h:Ob->List PyData->Option PyData):Sp:=λvs H Q _=>∃p us os ds fs d A,vs=.ref p::us/\FOk K H os (.ref p) (.ob C fs) A/\(∀a∈A,a∈os)/\Al H os/\Reps K (offs H os) us ds/\h fs ds=some d/\
 ∀v H',Same H H'->Rep K (offs H' os) v d->Q v H'
noncomputable def fnR(n m:Nat)(b:Ro->Ob->Option Fl)(fs:Ob)(ds:LPd):Option PyData:=if ds.length=m then (match b (.no::(ds.map Sl.pu++List.replicate (n - (m+1)) .no)) fs with
  |some (.rt d)=>some d
  |some (.rl es)=>some (.list es)
  |_=>none) else none
def zc0(P:Program)(w:World)(K:FRx)(mg:Str->Option Value)(base:Heap)(k:Nat)(C:AdX)(m:Str)(ps:LSr)(h:Ob->List PyData->Option PyData):Prop:=∃f fd,wk P w K mg base CX0 k f fd ps (zm8 K C h)/\Binds K fd ps []/\Meth K C m f
section
variable{P:Program}{w:World}{K:FRx}{mg:Str->Option Value}{base:Heap}{C:AdX}{ℓ:Nat}
def zfz{N:LSr}{H:Hp}{os:LAd}{p:AdX}{us:List V}{ds:LPd}{fs:Ob}{A:LAd}(al:Al H os)(r:Reps K (offs H os) us ds)(o:FOk K H os (.ref p) (.ob C fs) A)(hA:∀a∈A,a∈os)(m:Nat)(hm:ds.length=m)(hN:m<N.length):RSt K C 0 H os p A fs H os (start N (.ref p::us)) (.no::(ds.map Sl.pu++List.replicate (N.length - (m+1)) .no)):=by
 have hl:=r.length;have no:∀(i:Nat)(c:Sl),(Sl.no::(ds.map Sl.pu++List.replicate (N.length - (m+1)) .no))[i]?=some c->isM c=true->False:=λi c q m=>by
  cases i with
  |zero=>cases q;cases m
  |succ i=>
   rw[kY] at q;by_cases hi:i<ds.length
   ·rw[qJ (by simpa using hi),qo] at q;have⟨d,_,e2⟩:=map_some q;subst e2;cases m
   ·rw[qx (by simpa using qW hi),kh] at q;split at q
    ·cases q;cases m
    ·cases q
 refine⟨⟨⟨λi d q=>?_,λi c q m=>(no i c q m).elim,al,?_⟩,Same.refl H,λa h=>h,λa h=>.inl h,al,λi c q m=>(no i c q m).elim,λi j c c' _ q _ m=>(no i c q m).elim⟩,rfl,o,hA,Same.refl _⟩
 ·cases i with
  |zero=>cases q
  |succ i=>
   rw[kY] at q;unfold start;by_cases hi:i<ds.length
   ·rw[qJ (by simpa using hi),qo] at q;have⟨c,e1,e2⟩:=map_some q;cases e2;have⟨v,e3,e4⟩:=r.getD e1;refine⟨v,?_,e4⟩;rw[qJ (by rw[qe,qS,hl];omega),qo,kY,e3];rfl
   ·rw[qx (by simpa using qW hi),kh] at q;split at q<;>cases q
 ·unfold start;simp[hl,hm]
def zc0.mk{x qual:Str}{st:Stmt}{N ps:LSr}{k m:Nat}{b:Ro->Ob->Option Fl}(h:vU K C x qual st)(S:zD N ps (ze st))(hb:∀(kV doc pm:Value)(an:Option Addr)(cdv ct:Value)(us:LVl),us.length=ps.length->bindArgs (W.fnOf x qual (jl st) (yV st) (ze st) .none kV doc pm an cdv ct) ⟨us,[]⟩=pure (ps.zip us))(hm:ps.length=m+1)(hN:m<N.length)(hbody:∀(f:AdX)(cdv:Value)(A:Around)(outer:List Env)(s:ShX)(H:Hp)(E:XK),Room k (A.deeper (envOfC qual (ze st) s.heap.objs.size f cdv))->
   ORs (Vr CX0 P w K mg base N qual (ze st) f cdv A outer s H E).nox C 0 (yV st) b):zc0 P w K mg base (k+1) C x ps (fnR N.length m b):=by
 have⟨f,fd,F,M⟩:=h;refine⟨f,fd,F.ok S (λvs H Q E q=>?_) (λcdv A outer s H vs Q E hr q=>?_),F.binds hb,M⟩
 ·obtain⟨p,us,os,ds,fs,d,A,rfl,_,_,_,r,e,_⟩:=q;unfold fnR at e;split at e
  ·rename_i hl;rw[qS,r.length,hl,hm]
  ·cases e
 ·have⟨t,pp,q'⟩:=hbody f cdv A outer s H E hr;obtain⟨p,us,os,ds,fs,d,A,rfl,o,hA,al,r,e,kk⟩:=q;unfold fnR at e;split at e
  ·rename_i hl;refine⟨t,pp,?_⟩;have R:=zfz (N:=N) al r o hA m hl hN;split at e
   ·rename_i d' e1;cases e;exact q' _ _ _ _ _ _ H os _ _ _ R e1 λv H' s rv=>kk v H' s rv
   ·rename_i es e1;cases e;refine q' _ _ _ _ _ _ H os _ _ _ R e1 λa xs H' n s hx r=>kk _ H' s (.lst (SqL.of ?_) (r.same (yD λb hb=>qz _ hb)))
    rw[zq (al.new n)];exact hx
   ·cases e
  ·cases e
end
section
variable{X:Cx}{C:AdX}{j k k':Nat}{e:Expr}{es:List Expr}{g:OLx}{pos apos p0:Pos}{x m:Str}{ps:LSr}
def gjm(m:Str)(h:Ob->List PyData->Option PyData)(g:OLx):OPx:=λρ fs=>if (fld m fs).isNone=true then (g ρ fs).bind λds=>h fs ds else none
def zj4{pl:Sem Bool}{h:Ob->List PyData->Option PyData}(cl:Cls X.K C)(M:zc0 X.prog X.w X.K X.mg X.base k C m ps h)(hr:Room k' X.A)(ha:GJA X C j (e::es) g)(hk:k<=k':=by decide)(hN:X.N[j]?=some x:=by rfl)(hv:Vis X.env.scope x:=by trivial)(hd:NDx x:=by decide)(hcd:NCx x:=by decide)(hst:SEx X e es:=by rfl)(hpl:PLx X pos es:=by rfl)(ht:eval (.Call (.Attribute (.Name x p0) m apos) (e::es) [] pos) X.env=(do
   let ov <-eval (.Name x p0) X.env
   standAt apos.atName
   let (f,first) <-holding [ov] (getMethod ov m pl)
   callWith pos f first (backTo pos (starEach (e::es) X.env)) (backToKw pos (keywordEach [] X.env))):=by rfl):GJ X C j (.Call (.Attribute (.Name x p0) m apos) (e::es) [] pos) (gjm m h g):=by
 have⟨fa,fd,F,B,mm⟩:=M;have⟨t,pa,qa⟩:=ha;refine⟨_,W4 (pl:=pl) (yu (i:=j) hN hv hd hcd) cl mm F (hr.mono hk) B .nil ur pa hst hpl ht,λσ H os ρ fs p A d Q R sj o oA e kk=>?_⟩;unfold gjm at e;split at e
 ·rename_i hm;have⟨ds,e1,e2⟩:=bind_some e;have o0:=o;cases o with
  |ob hp rr=>
   refine⟨_,sj,p,_,_,rfl,hp,rr.nolook (k8.mp hm),qa σ H os ρ fs p _ ds _ R sj o0 oA e1 λus H1 s1 ru=>?_⟩;rw[kg];exact⟨p,us,os,ds,fs,d,_,rfl,o0.same s1,oA,R.al.same s1,ru,e2,λv H' s rv=>kk v H' (s1.trans s) rv⟩
 ·cases e
end
section
variable{X:Cx}{C:AdX}{ℓ:Nat}{elt tg iter:Expr}{scope:Scope}{pos pos' spos:Pos}{Ts:LSr}{F:LNt}{is:LNt}{fi:OLx}{b:PyData->Ro->Option Ro}{x:Str}
def zhy(j:Nat){fe:OPx}(hc:X.calm=true)(hi:GIB X C ℓ tg iter fi)(S:yb X scope)(hF:∀j∈F,∃x,X.N[j]?=some x/\scope.names.lookup x=some .free)(hj:F[j]?=some ℓ)(hg:∀cl C ex s H,FG (zV X (Ts++F.map λj=>X.N.getD j "") scope cl C ex s H) tg is b)(he:∀cl C' ex s H,GJ (zV X (Ts++F.map λj=>X.N.getD j "") scope cl C' ex s H) C (Ts.length+j) elt fe)(his:∀i∈is,i<Ts.length:=by decide)(hs:FSx X iter:=by exact λ_=>rfl):GL X C ℓ (.ListComp elt [⟨tg,iter,[],0⟩] scope pos) (u0 Ts.length F fi b fe):=by
 have⟨wi,pi,qi⟩:=hi;refine⟨_,zaQ (Ts:=Ts) (F:=F) (g:=gF X.K is b) (te:=tJ X.K C (Ts.length+j) fe) hc pi S hF hg (λcl C ex s H=>(he cl C ex s H).pe) hs,λσ H os ρ fs rs Q R q k=>?_⟩;have⟨es,e1,q⟩:=bind_some q;split at q
 ·rename_i hl;refine qi σ H os ρ fs es _ R e1 λJ H' s W D hD=>?_
  have⟨p,A,h0,h1,h3⟩:=R.ob;exact YJ his (R.rel.same s) (by rw[hj];show(σ[ℓ]?).join=_;rw[h0];rfl) (h1.same s) h3 hl hD W q λH2 xs s2 hx r=>k D xs H2 (s.free hD) (s.trans s2) hx r
 ·cases q
end
section
variable{X:Cx}
def zhS:bootBuiltins "all"=some (.builtin "all"):=by decide+kernel
def zdY:List PyData->Option PyData
 |[.list ds]=>(vf Ur ds).map λbs=>.bool (bs.all id)
 |_=>none
def all_range(bs:List Bool):((List.range bs.length).all λi=>(bs[i]?).getD false)=bs.all id:=by
 rw[Bool.eq_iff_iff,nr,nr];constructor
 ·intro h b hb;obtain⟨i,hi,rfl⟩:=List.mem_iff_getElem.mp hb
  have:=h i (qL.mpr hi);rw[qp hi] at this;exact this
 ·intro h i hi;have hl:=qL.mp hi;rw[qp hl];exact h _ (gO hl)
def zch(hc:X.calm=true):vh X (.builtin "all") (λxs H Q=>∃(p:AdX)(bs:List Bool),xs=[.ref p]/\SqL X.K H p (bs.map V.bl)/\Q (.bl (bs.all id)) H):=by
 intro pins s σ H xs us Q I r h;obtain⟨p,bs,rfl,hS,q⟩:=h;obtain⟨u,rfl,ru⟩:=vals1 r;cases ru;have⟨its,rv,pl,hz⟩:=I.list hS;have hL:=pl.isList;rw[Us rv] at hL;have hlt:p<s.heap.objs.size:=by have⟨_,e,_⟩:=hL;exact qK e
 refine call_all_walk (nD hL ?_);refine⟨s.heap.objs.size,[s.heap.objs.size,p],[s.heap.objs.size],(bs.map Value.bool).toArray.size,_,_,λi=>(bs[i]?).getD false,rfl,PySem.Walks.list (A:=X.A.in1) (I.ok.hd hc) _ p (kO hlt) (bs.map Value.bool).toArray,⟨⟨_,qH _ rfl,rfl,rfl⟩,hL.push _⟩,λi v s' Q' E' hP hQ=>?_,λh' tk hk=>?_⟩
 ·have hP':(bs.map Value.bool)[i]?=some v:=by simpa using hP
  rw[qo] at hP';obtain⟨b,e,rfl⟩:=map_some hP';simp only [e,pK] at hQ;exact hZ hQ
 ·rw[qD,qe,all_range];refine⟨.bl _,H,I.kept (t':=tk) λb o e=>hk b o (λhm=>?_) (qj _ e),rfl,q⟩;rw[qE.mp hm] at e;exact kW _ (qK e)
def zkm{K:FRx}:CRF K (λxs H Q=>∃(p:AdX)(bs:List Bool),xs=[.ref p]/\SqL K H p (bs.map V.bl)/\Q (.bl (bs.all id)) H) zdY:=by
 intro xs H os ds c Q al rv h k;unfold zdY at h;split at h
 ·obtain⟨bs,e1,rfl⟩:=map_some h;obtain⟨v,rfl,r⟩:=rv.one;obtain⟨a,ys,rfl,hS,r⟩:=r.lst;cases UO r e1;exact⟨a,bs,rfl,hS,k _ H (Same.refl H) (.bl _)⟩
 ·cases h
end
section
variable{X:Cx}{C:AdX}{ℓ:Nat}{elt tg iter:Expr}{scope:Scope}{pos:Pos}{Ts:LSr}{F:LNt}{is:LNt}{fi:OLx}{b:PyData->Ro->Option Ro}{fe:RPx}
def zjX(hc:X.calm=true)(hi:GIB X C ℓ tg iter fi)(S:yb X scope)(hF:∀j∈F,∃x,X.N[j]?=some x/\scope.names.lookup x=some .free)(hg:∀cl C ex s H,FG (zV X (Ts++F.map λj=>X.N.getD j "") scope cl C ex s H) tg is b)(he:∀cl C ex s H,FE (zV X (Ts++F.map λj=>X.N.getD j "") scope cl C ex s H) elt fe)(his:∀i∈is,i<Ts.length:=by decide)(hs:FSx X iter:=by exact λ_=>rfl):GL X C ℓ (.ListComp elt [⟨tg,iter,[],0⟩] scope pos) (ocomp Ts.length F fi b fe):=by
 have⟨wi,pi,qi⟩:=hi;refine⟨_,zaQ (Ts:=Ts) (F:=F) (g:=gF X.K is b) (te:=tF X.K fe) hc pi S hF hg (λcl C ex s H=>(he cl C ex s H).pe) hs,λσ H os ρ fs rs Q R q k=>?_⟩;have⟨es,e1,q⟩:=bind_some q;split at q
 ·rename_i hl;refine qi σ H os ρ fs es _ R e1 λJ H' s W D hD=>?_
  exact u9 his (R.rel.same s) hl hD W q λH2 xs s2 hx r=>k D xs H2 (s.free hD) (s.trans s2) hx r
 ·cases q
end
section
variable{K:FRx}{C:AdX}{ℓ:Nat}{H0 H1 H:Hp}{os0 os1 os:LAd}{p:AdX}{σ1 σ:St}{ρ1 ρ:Ro}{fs1 fs:Ob}
noncomputable def nu(H0:Hp)(os:LAd):List Addr:=os.filter λa=>(H0 a).isNone
def UK{a:AdX}:a∈nu H0 os↔a∈os/\H0 a=none:=by
 unfold nu;rw[qO,Option.isNone_iff_eq_none]
noncomputable def ol(H0:Hp)(os:LAd):List Addr:=os.filter λa=>(H0 a).isSome
def V3{a:AdX}:a∈ol H0 os↔a∈os/\H0 a≠none:=by
 unfold ol;rw[qO];cases H0 a<;>simp
def MSt.base(h:MSt K C ℓ H0 os0 p H1 os1 σ1 ρ1 fs1):MSt K C ℓ (offs H1 (nu H0 os1)) (ol H0 os1) p H1 os1 σ1 ρ1 fs1:=by
 have⟨A,h1,h2,h3,h4⟩:=h.ob;refine⟨⟨h.sr.rel,xx _ _,λa ha=>(V3.mp ha).1,λa ha=>?_,λa ha=>?_,λi c q m a e=>?_,h.sr.ap⟩,h.self,A,h1,h2,λa ha=>⟨(h3 a ha).1,yS (UK.mpr (h3 a ha))⟩,h4⟩
 ·by_cases z:H0 a=none
  ·exact .inr (yS (UK.mpr ⟨ha,z⟩))
  ·exact .inl (V3.mpr ⟨ha,z⟩)
 ·have⟨ha,z⟩:=V3.mp ha;rw[zq λw=>z (UK.mp w).2];exact h.sr.rel.al a ha
 ·have⟨b,o,w1,w2,w3,_⟩:=h.sr.rel.mu i c q m;rw[e] at w1;cases w1;exact yS (UK.mpr ⟨w2,h.sr.own i c q m a e⟩)
def zfP(h:MSt K C ℓ H0 os0 p H1 os1 σ1 ρ1 fs1)(h':MSt K C ℓ (offs H1 (nu H0 os1)) (ol H0 os1) p H os σ ρ fs):Same (offs H1 os1) (offs H os):=λb o z=>by
 have hb:b∉os1:=λw=>by rw[yS w] at z;cases z
 rw[zq hb] at z;have z1:offs H1 (nu H0 os1) b=some o:=by rw[zq λw=>hb (UK.mp w).1];exact z
 rw[zq]
 ·exact h'.sr.sm b o z1
 ·intro w;rcases h'.sr.new b w with u|u
  ·exact hb (V3.mp u).1
  ·rw[z1] at u;cases u
def JY(h:MSt K C ℓ H0 os0 p H1 os1 σ1 ρ1 fs1){a:AdX}(e:offs H1 (nu H0 os1) a=none):H0 a=none:=by
 cases z:H0 a with
 |none=>rfl
 |some o=>
  have hn:a∉nu H0 os1:=λw=>by
   rw[(UK.mp w).2] at z;cases z
  rw[zq hn,h.sr.sm a o z] at e;cases e
def V1(h:MSt K C ℓ H0 os0 p H1 os1 σ1 ρ1 fs1)(s:Same (offs H1 (nu H0 os1)) H):Same H0 H:=λb o z=>by
 refine s b o ?_;have hn:b∉nu H0 os1:=λw=>by
  rw[(UK.mp w).2] at z;cases z
 rw[zq hn];exact h.sr.sm b o z
def Ya(h:MSt K C ℓ H0 os0 p H1 os1 σ1 ρ1 fs1):∀a∈os0,a∈ol H0 os1:=λa ha=>by
 have⟨o,e⟩:=h.sr.al0 a ha;exact V3.mpr ⟨h.sr.sub a ha,by rw[e];intro z;cases z⟩
def zbN(h:MSt K C ℓ H0 os0 p H1 os1 σ1 ρ1 fs1){a:AdX}(w:a∈ol H0 os1\/offs H1 (nu H0 os1) a=none):a∈os0\/H0 a=none:=by
 rcases w with w|w
 ·have⟨w,z⟩:=V3.mp w;rcases h.sr.new a w with u|u
  ·exact .inl u
  ·exact absurd u z
 ·exact .inr (JY h w)
def MSt.back(h:MSt K C ℓ H0 os0 p H1 os1 σ1 ρ1 fs1)(h':MSt K C ℓ (offs H1 (nu H0 os1)) (ol H0 os1) p H os σ ρ fs):MSt K C ℓ H0 os0 p H os σ ρ fs:=by
 have⟨A,h1,h2,h3,h4⟩:=h'.ob;exact⟨⟨h'.sr.rel,V1 h h'.sr.sm,λa ha=>h'.sr.sub a (Ya h a ha),λa ha=>zbN h (h'.sr.new a ha),h.sr.al0,λi c q m a e=>JY h (h'.sr.own i c q m a e),h'.sr.ap⟩,h'.self,A,h1,h2,λa ha=>⟨(h3 a ha).1,JY h (h3 a ha).2⟩,h4⟩
def zcM.back(h:MSt K C ℓ H0 os0 p H1 os1 σ1 ρ1 fs1)(h':zcM K C (offs H1 (nu H0 os1)) (ol H0 os1) p H os fs):zcM K C H0 os0 p H os fs:=by
 have⟨A,h1,h2,h3⟩:=h'.ob;exact⟨V1 h h'.sm,λa ha=>h'.sub a (Ya h a ha),λa ha=>zbN h (h'.new a ha),h'.al,A,h1,h2,λa ha=>⟨(h3 a ha).1,JY h (h3 a ha).2⟩⟩
def ZP.back{D:Ends}{r:Flo}(h:MSt K C ℓ H0 os0 p H1 os1 σ1 ρ1 fs1)(k:ZP K C ℓ H0 os0 p D r):ZP K C ℓ (offs H1 (nu H0 os1)) (ol H0 os1) p D r:=by
 cases r with
 |nx ρ fs=>exact λσ H os R=>k σ H os (h.back R)
 |rt d fs=>exact λv H os M rv=>k v H os (M.back h) rv
 |rf d=>exact λv H s rv=>k v H (V1 h s) (rv.same (yD (Ya h)))
end
section
variable{X:Cx}{C:AdX}{ℓ:Nat}{pos:Pos}
def zcp(fi:RLx)(bd:PyData->Ro->Option Ro)(b:OFx):OFx:=λρ fs=>(fi ρ).bind λds=>vO bd b ds ρ fs
def zeB{tg iter:Expr}{body:List Stmt}{fi:RLx}{is:LNt}{bd:PyData->Ro->Option Ro}{fb:OFx}(hp:PassesOwn (model X.prog X.w) X.A X.env X.xe)(hc:X.calm=true)(hi:FI X tg iter fi)(hg:FG X tg is bd)(hb:OSs X C ℓ body fb)(his:∀i∈is,i≠ℓ:=by decide)(hs:FSx X iter:=by exact λ_=>rfl):OS X C ℓ (.For tg iter body [] pos) (zcp fi bd fb):=by
 have⟨wi,pi,qi⟩:=hi;have⟨tb,pb,qb⟩:=hb;refine⟨_,zeg hp hc pi hg pb hs,λH0 os0 p D σ H os ρ fs r R e k=>?_⟩;have⟨ds,e1,e2⟩:=bind_some e;refine qi σ H os ρ ds _ R.sr.rel e1 λJ H1 s1 W=>?_
 have R0:=R.same s1;have k0:=ZP.back R0 k
 refine⟨λi m σ' H'=>m=ds.length - i/\i<=ds.length/\∃os' ρ' fs',MSt X.K C ℓ (offs H1 (nu H0 os)) (ol H0 os) p H' os' σ' ρ' fs'/\vO bd fb (ds.drop i) ρ' fs'=some r,
  ⟨ds.length,rfl,kE _,os,ρ,fs,R0.base,e2⟩,?_⟩
 rintro i m σ' H' ⟨rfl,hi,os',ρ',fs',R',e'⟩;have sw:=zfP R0 R';obtain⟨w1,w2⟩:=W H' os' R'.sr.rel.al (sw.trans (xx _ _)) sw;by_cases hlt:i<ds.length
 ·obtain⟨d,hd⟩:∃d,ds[i]?=some d:=⟨_,qp hlt⟩;have⟨g1,g2⟩:=w1 i d hd;have ed:ds.drop i=d::ds.drop (i+1):=by
   rw[gG hlt];rw[qp hlt] at hd;cases hd;rfl
  rw[ed] at e';have⟨ρ1,e3,e4⟩:=bind_some e';refine .inr ⟨g1,λσ2 H2=>i+1<=ds.length/\∃os' ρ' fs',MSt X.K C ℓ (offs H1 (nu H0 os)) (ol H0 os) p H2 os' σ2 ρ' fs'/\vO bd fb (ds.drop (i+1)) ρ' fs'=some r,?_,?_⟩
  ·rintro σ2 H2 ⟨h1,h2⟩;exact⟨ds.length - (i+1),by omega,rfl,h1,h2⟩
  ·intro x H2 hy;have⟨s2,rx⟩:=g2 x H2 hy;refine⟨os',d,ρ',ρ1,rx,e3,λσ2 st=>?_⟩;have R2:MSt X.K C ℓ (offs H1 (nu H0 os)) (ol H0 os) p H2 os' σ2 ρ1 fs':=MSt.sets st his (R'.same s2);split at e4
   ·rename_i ρ2 fs2 e5;exact qb _ _ p _ σ2 H2 os' ρ1 fs' _ R2 e5 λσ3 H3 os3 R3=>⟨hlt,os3,ρ2,fs2,R3,e4⟩
   ·cases r with
    |nx ρ2 fs2=>rename_i hn;exact absurd e4 (hn ρ2 fs2)
    |rt d fs2=>exact qb _ _ p _ σ2 H2 os' ρ1 fs' _ R2 e4 k0
    |rf d=>exact qb _ _ p _ σ2 H2 os' ρ1 fs' _ R2 e4 k0
 ·have e:i=ds.length:=by omega
  subst e;rw[mJ] at e';cases e';exact .inl ⟨w2,k0 _ _ _ R'⟩
end
section
variable{X:Cx}{C:AdX}{ℓ:Nat}{e:Expr}{pos apos cpos p1:Pos}
def zgV(i:Nat)(f:OPx):OFx:=λρ fs=>(gk i ρ).bind λds=>(f ρ fs).bind λd=>if ds.length<16777216 then some (.nx (ρ.set i (.ow (ds++[d]))) fs) else none
def zlU(i:Nat){x:Str}{f:OPx}(he:GE X C ℓ e f)(hN:X.N[i]?=some x:=by rfl)(hv:Vis X.env.scope x:=by trivial)(hd:NDx x:=by decide)(hcd:NCx x:=by decide)(hbase:ABx X (.Name x p1) "append":=by rfl)(hfew:FWx X cpos [e]:=by rfl)(hline:(apos.endLine==cpos.line)=true:=by rfl)(hs:SEx X e []:=by rfl)(hsw:swapsWith (.Call (.Attribute (.Name x p1) "append" apos) [e] [] cpos) none pos.line X.env=pure false:=by rfl):OS X C ℓ (.Expr (.Call (.Attribute (.Name x p1) "append" apos) [e] [] cpos) pos) (zgV i f):=by
 have⟨t,p,q⟩:=he;refine⟨_,vW (Jp kx mh me vZ (yu hN hv hd hcd) (yU p xW hs) hbase hfew hline hs) hsw,λH0 os0 p D σ H os ρ fs r R e k=>?_⟩;have⟨ds,e1,e⟩:=bind_some e;have⟨d,e2,e⟩:=bind_some e;split at e
 ·rename_i hl;cases e;have g:=vR e1;have⟨a,xs,h1,h2,h3,h4⟩:=R.sr.rel.ow i ds g
  refine⟨_,h1,.inl ⟨rfl,_,SqL.of h3⟩,q σ H os ρ fs d _ R.v7 e2 λv H' s rv=>?_⟩;refine⟨a,xs,v,rfl,rfl,s _ _ h3,by rw[h4.length];exact hl,?_⟩;exact k _ _ os ((R.same s).chg g h1 ((h4.same (zl s os)).append (.cons rv .nil)))
 ·cases e
end
section
variable{X:Cx}{C:AdX}{ℓ k k':Nat}{e a b:Expr}{es rest:List Expr}{pos apos p0:Pos}{x m:Str}{ps:LSr}{g:OLx}
noncomputable def gre(f:OPx):Ro->Ob->Option (PyData×Ob):=λρ fs=>(f ρ fs).map λd=>(d,fs)
def GE.gm{f:OPx}(h:GE X C ℓ e f):GM X C ℓ e (gre f):=by
 have⟨t,p,q⟩:=h;refine⟨t,p,λH0 os0 p σ H os ρ fs d fs' Q R e k=>?_⟩;have⟨c,e1,e2⟩:=map_some e;cases e2;exact q σ H os ρ fs d _ R.v7 e1 λv H' s rv=>k v H' os (R.same s) rv
def zgU{pl:Sem Bool}{h:Ob->List PyData->Option PyData}(cl:Cls X.K C)(M:zc0 X.prog X.w X.K X.mg X.base k C m ps h)(hr:Room k' X.A)(ha:GA X C ℓ (e::es) g)(hk:k<=k':=by decide)(hN:X.N[ℓ]?=some x:=by rfl)(hv:Vis X.env.scope x:=by trivial)(hd:NDx x:=by decide)(hcd:NCx x:=by decide)(hst:SEx X e es:=by rfl)(hpl:PLx X pos es:=by rfl)(ht:eval (.Call (.Attribute (.Name x p0) m apos) (e::es) [] pos) X.env=(do
   let ov <-eval (.Name x p0) X.env
   standAt apos.atName
   let (f,first) <-holding [ov] (getMethod ov m pl)
   callWith pos f first (backTo pos (starEach (e::es) X.env)) (backToKw pos (keywordEach [] X.env))):=by rfl):GE X C ℓ (.Call (.Attribute (.Name x p0) m apos) (e::es) [] pos) (gjm m h g):=by
 have⟨fa,fd,F,B,mm⟩:=M;have⟨t,pa,qa⟩:=ha;refine⟨_,W4 (pl:=pl) (yu (i:=ℓ) hN hv hd hcd) cl mm F (hr.mono hk) B .nil ur pa hst hpl ht,λσ H os ρ fs d Q R e kk=>?_⟩;unfold gjm at e;split at e
 ·rename_i hm;have⟨ds,e1,e2⟩:=bind_some e;have⟨p,A,sj,o,oA⟩:=R.ob;have o0:=o;cases o with
  |ob hp rr=>
   refine⟨_,sj,p,_,_,rfl,hp,rr.nolook (k8.mp hm),qa σ H os ρ fs ds _ R e1 λus H1 s1 ru=>?_⟩;rw[kg];exact⟨p,us,os,ds,fs,d,_,rfl,o0.same s1,oA,R.rel.al.same s1,ru,e2,λv H' s rv=>kk v H' (s1.trans s) rv⟩
 ·cases e
def zkI{op}{f:Ro->Ob->Option (PyData×Ob)}(h:GM X C ℓ a f):GM X C ℓ (.BoolOp op [a] pos) f:=by
 have⟨t,p,q⟩:=h;exact⟨t,zgI p,q⟩
noncomputable def gmA(f g:Ro->Ob->Option (PyData×Ob)):Ro->Ob->Option (PyData×Ob):=λρ fs=>match f ρ fs with |some (.bool true,fs')=>g ρ fs'|some (.bool false,fs')=>some (.bool false,fs')|_=>none
def zkR{f g:Ro->Ob->Option (PyData×Ob)}(ha:GM X C ℓ a f)(hb:GM X C ℓ (.BoolOp .And (b::rest) pos) g):GM X C ℓ (.BoolOp .And (a::b::rest) pos) (gmA f g):=by
 have⟨ta,pa,qa⟩:=ha;have⟨tb,pb,qb⟩:=hb;refine⟨_,zhO pa pb,λH0 os0 p σ H os ρ fs d fs' Q R q k=>?_⟩;unfold gmA at q;split at q
 ·rename_i fs1 e1;refine qa H0 os0 p σ H os ρ fs _ _ _ R e1 λv H' os' R' rv=>?_
  cases rv;refine⟨true,rfl,?_⟩;rw[qf rfl];exact qb H0 os0 p σ H' os' ρ fs1 d fs' Q R' q k
 ·rename_i fs1 e1;cases q;refine qa H0 os0 p σ H os ρ fs _ _ _ R e1 λv H' os' R' rv=>?_
  cases rv;refine⟨false,rfl,?_⟩;rw[qq qF];exact k _ H' os' R' (.bl _)
 ·cases q
noncomputable def zcB(f:Ro->Ob->Option (PyData×Ob)):OFx:=λρ fs=>(f ρ fs).bind λr=>some (.rt r.1 r.2)
def zjn{f:Ro->Ob->Option (PyData×Ob)}(h:GM X C ℓ e f):OS X C ℓ (.Return (some e) pos) (zcB f):=by
 have⟨t,p,q⟩:=h;refine⟨_,Jy p,λH0 os0 p D σ H os ρ fs r R e k=>?_⟩;have⟨d,e1,e2⟩:=bind_some e;cases e2;exact q H0 os0 p σ H os ρ fs d.1 d.2 _ R e1 λv H' os' R' rv=>k v H' os' R'.end rv
end
abbrev zaG(P:Program)(w:World)(K:FRx)(mg:Str->Option Value)(base:Heap)(k:Nat)(C:AdX)(x:Str)(ps:LSr)(h:MFx):Prop:=Def P w K mg base CX0 k x ps (spM K C h)
section
variable{P:Program}{w:World}{K:FRx}{mg:Str->Option Value}{base:Heap}{C:AdX}
def zaG.mk{x:Str}{st:Stmt}{N ps:LSr}{k m:Nat}{b:OFx}(h:HasDef K mg x st)(S:zD N ps (ze st))(hb:∀(kV doc pm:Value)(an:Option Addr)(cdv ct:Value)(us:LVl),us.length=ps.length->bindArgs (W.fnOf x x (jl st) (yV st) (ze st) .none kV doc pm an cdv ct) ⟨us,[]⟩=pure (ps.zip us))(hm:ps.length=m+1)(hN:m<N.length)(hbody:∀(f:AdX)(cdv:Value)(A:Around)(outer:List Env)(s:ShX)(H:Hp)(E:XK),Room k (A.deeper (envOfC x (ze st) s.heap.objs.size f cdv))->
   OSs (Vr CX0 P w K mg base N x (ze st) f cdv A outer s H E).nox C 0 (yV st) b):zaG P w K mg base (k+1) C x ps (fnM N.length m b):=by
 refine Def.mk h S hb (λvs H Q E q=>?_) (λf cdv A outer s H vs Q E hr q=>?_)
 ·obtain⟨p,us,os,ds,fs,d,fs',A,rfl,_,_,_,_,r,e,_⟩:=q;unfold fnM at e;split at e
  ·rename_i hl;rw[qS,r.length,hl,hm]
  ·cases e
 ·have⟨t,pp,q'⟩:=hbody f cdv A outer s H E hr;obtain⟨p,us,os,ds,fs,d,fs',A,rfl,o,nd,hA,al,r,e,kk⟩:=q;unfold fnM at e;split at e
  ·rename_i hl;refine⟨t,pp,?_⟩;have R:=VM (N:=N) al r o nd hA m hl hN;have go:∀v H' os',zcM K C (offs H A) (os.filter λa=>a∉A) p H' os' fs'->Rep K (offs H' os') v d->Q v H':=λv H' os' M rv=>by
    have⟨A',o',nd',hA'⟩:=M.ob;refine kk v H' os' A' M.sm M.al o' nd' hA' (λa ha=>?_) (λa ha=>?_) rv
    ·by_cases z:a∈A
     ·exact .inl z
     ·exact .inr (M.sub a (qO.mpr ⟨ha,by simpa using z⟩))
    ·rcases M.new a ha with z|z
     ·exact .inl (qO.mp z).1
     ·exact .inr z
   split at e
   ·rename_i d' fs'' e1;cases e;exact q' _ _ _ _ _ H os _ _ _ R e1 λv H' os' M rv=>go v H' os' M rv
   ·rename_i ρ' fs'' e1;cases e;exact q' _ _ _ _ _ H os _ _ _ R e1 λσ' H' os' R'=>go _ H' os' R'.end .non
   ·cases e
  ·cases e
end
section
variable{X:Cx}{C:AdX}{ℓ k k':Nat}{e:Expr}{es:List Expr}{pos p p0:Pos}{x y:Str}{ps:LSr}{g:OLx}
noncomputable def gmc(h:MFx)(g:OLx):Ro->Ob->Option (PyData×Ob):=λρ fs=>(g ρ fs).bind λds=>h fs ds
def zeV{h:MFx}(D:zaG X.prog X.w X.K X.mg X.base k C x ps h)(hr:Room k' X.A)(hg:Gl X x)(ha:GA X C ℓ es g)(hk:k<=k':=by decide)(hN:X.N[ℓ]?=some y:=by rfl)(hv:Vis X.env.scope y:=by trivial)(hd:NDx y:=by decide)(hcd:NCx y:=by decide)(hdb:NDx x:=by decide)(he:starEach (.Name y p0::es) X.env=(false,eval (.Name y p0) X.env)::starEach es X.env:=by rfl)(hpl:PLx X pos es:=by rfl):GM X C ℓ (.Call (.Name x p) (.Name y p0::es) [] pos) (gmc h g):=by
 have⟨t,pa,qa⟩:=ha;refine⟨_,VF D hr hg ur (yU (yu (i:=ℓ) hN hv hd hcd) pa he) hk hdb he hpl,λH0 os0 p σ H os ρ fs d fs' Q R e kk=>?_⟩;have⟨ds,e1,e2⟩:=bind_some e;have⟨A,h1,h2,h3,h4⟩:=R.ob;refine⟨_,R.self,qa σ H os ρ fs ds _ R.v7 e1 λus H1 s1 ru=>?_⟩;show spM X.K C h ((V.ref p::us)++[]) H1 Q E0
 rw[kg];have R1:=R.same s1;have o1:=FOk.same s1 h1
 refine⟨p,us,os,ds,fs,d,fs',_,rfl,o1,h2,λa ha=>(h3 a ha).1,R1.sr.rel.al,ru,e2,λv H' os' B' sm al o' nd' hB' sub new rv=>?_⟩;exact kk v H' os' (R1.own o1 ⟨sm,al,sub,new⟩ o' nd' hB') rv
end
end L2.Fu
namespace L2.Fu
open PySem PySem.Spec PyProof.Rows
def fgc{X:Cx}{Ts:LSr}{F:LNt}{scope:Scope}(i:Nat){x:Str}{pos:Pos}(hN:decide (Ts++F.map λj=>X.N.getD j "").Nodup=true:=by rfl)(hi:(Ts++F.map λj=>X.N.getD j "")[i]?=some x:=by rfl)(hx:∀cl C,Loc (compEnvC scope cl C X.env).scope x:=by exact λ_ _=>Or.inl rfl)(hf:∀cl C,(compEnvC scope cl C X.env).scope.names.lookup x=some .local:=by exact λ_ _=>rfl)(cl C ex s H):FG (zV X (Ts++F.map λj=>X.N.getD j "") scope cl C ex s H) (.Name x pos) [i] (bN i):=z9 i (mz hN) hi (hx _ C) (.inr (hf _ C))
abbrev UM(n:Nat)(p:Value->Value->Value->Option Addr->Value->Value->List Value->Prop):Prop:=∀a b c d e f us,us.length=n->p a b c d e f us
section
variable{p:Value->Value->Value->Option Addr->Value->Value->List Value->Prop}
def um1(h:∀a b c d e f x,p a b c d e f [x]):UM 1 p:=λa b c d e f us hl=>match us,hl with |[x],_=>h a b c d e f x
def um2(h:∀a b c d e f x y,p a b c d e f [x,y]):UM 2 p:=λa b c d e f us hl=>match us,hl with |[x,y],_=>h a b c d e f x y
def um3(h:∀a b c d e f x y z,p a b c d e f [x,y,z]):UM 3 p:=λa b c d e f us hl=>match us,hl with |[x,y,z],_=>h a b c d e f x y z
end
def zeC:OFx:=osq (ZG "free" λρ x=>ziM (aC (gv 1) a0) ρ) (osq (ZG "taken" λρ x=>vo a0 ρ) (osq (ZG "checks" λρ x=>zU 1 [1] (yW (aC (gv 1) a0)) (bN 0) (yo (yQ wo (aC (gv 0) (aC (gv 1) a0)))) ρ) (ofl "pivot" λρ x=>cst (PyData.int 1) ρ)))
def wG:MFx:=fnM 2 1 zeC
def zkT:OFx:=(osq (J7 2 (ocomp 1 [1] (gsq (gg "checks")) (bN 0) (zf zQ (aC (gv 0) (aC (gv 1) a0))))) (osq (J7 3 (W7 2 [] (λρ x=>ze5 false (aC (gb 2) a0) ρ) (b2 (bN 0) (bN 1)) (zB (op2 neD (gv 1) (cst (PyData.int 0)))) (gv 0))) (osq (oif (λρ x=>zB (op2 eqD (gb 3) (yo (vo a0))) ρ) (oret λρ x=>cst (PyData.bool false) ρ) os0) (osq (oset 4 λρ x=>op2 ixD (gb 3) (cst (PyData.int 0)) ρ) (osq (opl 5 2 λρ x=>gv 4 ρ) (osq (opo 6 "checks" λρ x=>gv 4 ρ) (osq (J7 7 (u0 2 [0,5,6] (gzp false false (gAC (gg "checks") (gAC (λρ x=>gb 2 ρ) gA0))) (b2 (bN 0) (bN 1)) (gcall (lF uB) (gAC (λρ x=>gv 0 ρ) (gAC (λρ x=>gv 1 ρ) (gAC (λρ x=>gv 4 ρ) (gAC (λρ x=>gv 3 ρ) (gAC (gf "pivot") gA0)))))))) (osq (ofm "checks" 7) (osq (ofl "pivot" λρ x=>gv 5 ρ) (osq (zg9 "taken" "free" λρ x=>gv 4 ρ) (oret λρ x=>cst (PyData.bool true) ρ)))))))))))
def vF:MFx:=fnM 8 1 (zkT)
def zl3:OFx:=(oret (gop eqD (gg "free") λρ x=>yo (vo a0) ρ))
def Yw:MFx:=fnM 1 0 (zl3)
def zkG:OFx:=(osq (oif (λρ x=>zB (op2 eqD (gv 1) (xu a0)) ρ) (oret λρ x=>gv 2 ρ) os0) (oret (gcall (lF xp) (gAC (gcall (lF j7) (gAC (λρ x=>gv 2 ρ) (gAC (gop ixD (gg "steps") λρ x=>op2 ixD (gv 1) (op1 zbv (cst (PyData.int 1))) ρ) gA0))) gA0))))
def UN:MFx:=fnM 3 2 (zkG)
def zlk:OFx:=(osq (oap "words" λρ x=>gv 1 ρ) (osq (oap "rows" λρ x=>gv 2 ρ) (ofor (grn (gAC (gcall yl (gAC (gg "steps") gA0)) gA0)) (bN 3) (oap "waiting" λρ x=>xu (aC (op2 Ji (gv 1) (xu (aC (gv 3) a0))) (aC (gv 2) a0)) ρ))))
def VG:MFx:=fnM 4 2 (zlk)
def zho(CS:AdX):OFx:=(osq (owh (λx x_1=>1000000) (gaF (gtF (gbo (gop (zdg λi j=>decide (i<j)) (gf "asked") (gcall yl (gAC (gg "waiting") gA0))))) (gnF (gvF (gmn CS "span" "full" Yw gA0)))) (osq (oset 1 (gop ixD (gop ixD (gg "waiting") (gf "asked")) λρ x=>cst (PyData.int 0) ρ)) (osq (osm 2 (gms "row_led_on" UN (gAC (λρ x=>gv 1 ρ) (gAC (gop ixD (gop ixD (gg "waiting") (gf "asked")) λρ x=>cst (PyData.int 1) ρ) gA0)))) (osq (ofl "asked" (gop xN (gf "asked") λρ x=>cst (PyData.int 1) ρ)) (V0 (gvF (gmn CS "span" "take" vF (gAC (λρ x=>gv 2 ρ) gA0))) (osq (oex (gms "keep" VG (gAC (λρ x=>gv 1 ρ) (gAC (λρ x=>gv 2 ρ) gA0)))) (oret λρ x=>gv 2 ρ)) os0))))) (oret λρ x=>cst PyData.none ρ))
def jg(CS:AdX):MFx:=fnM 3 0 (zho CS)
def ze6(CS:AdX):OFx:=(osq (ZG "steps" λρ x=>zU 1 [] (yw (op2 ixD (gv 1) (cst (PyData.int 1)))) (bN 0) (op2 ixD (zf xP (aC (gv 0) a0)) (cst (PyData.int 0))) ρ) (osq (zjF "span" CS λρ x=>fnw wG (aC (zf yl (aC (op2 ixD (gv 1) (cst (PyData.int 0))) a0)) a0) ρ) (osq (ZG "words" λρ x=>vo a0 ρ) (osq (ZG "rows" λρ x=>vo a0 ρ) (osq (ZG "waiting" λρ x=>vo (aC (xu (aC (xu a0) (aC (zf (lF zZ) (aC (op2 ixD (gv 1) (cst (PyData.int 0))) a0)) a0))) a0) ρ) (ofl "asked" λρ x=>cst (PyData.int 0) ρ))))))
def JT(CS:AdX):MFx:=fnM 2 1 (ze6 CS)
def zd2(CS:AdX):RFx:=(sq (zT 2 (zf jr (aC (gv 0) (aC (gv 1) a0)))) (sq (zT 3 (zf (lF zZ) (aC (op2 ixD (gv 2) (cst (PyData.int 2))) a0))) (zcr 4 (fnw (JT CS) (aC (gv 2) a0)) (osq (osm 5 (gms "onward" (jg CS) gA0)) (osq (owh (λx x_1=>1000) (gtF λρ x=>zB (op2 Yv (gv 5) (cst PyData.none)) ρ) (osq (oif (λρ x=>zB (op2 neD (zf zQ (aC (gv 5) (aC (gv 3) a0))) (cst (PyData.int 0))) ρ) (oret (gtp (gAC (gop ixD (gg "words") λρ x=>op1 zbv (cst (PyData.int 1)) ρ) (gAC (glF (gsl (gg "rows") o0 (oS (op1 zbv (cst (PyData.int 1)))))) gA0)))) os0) (osm 5 (gms "onward" (jg CS) gA0)))) (Zf (gtp (gAC (λρ x=>cst PyData.none ρ) (gAC (gg "rows") gA0)))))))))
def jh(CS:AdX):LPx:=fnF 6 2 (zd2 CS)
def Yj(CS:AdX):RFx:=(sq (zT 2 (zf (jh CS) (aC (gv 0) (aC (gv 1) a0))))
 (sq (ifS (zB (op2 Yv (op2 ixD (gv 2) (cst (.int 0))) (cst .none))) (retS (cst .none)) s0)
 (retS (yo (zU 1 [] (yw (op2 ixD (gv 2) (cst (.int 1)))) (bN 0) (yo (zU 1 [] (yw (gv 0)) (bN 0) (xu (aC (gv 0) (aC (cst (.int 1)) a0))))))))))
def jc(CS:AdX):LPx:=fnF 3 2 (Yj CS)
def zfk:Ro->Ob->Option Fl:=rret (gcall zdY (gAC (glF (ocomp 1 [1] (gsq (gg "checks")) (bN 0) (op2 eqD (zf zQ (aC (gv 0) (aC (gv 1) a0))) (cst (.int 0))))) gA0))
def j9:Ob->List PyData->Option PyData:=fnR 2 1 zfk
def YM:OFx:=osq (J7 2 λρ _=>vo a0 ρ) (osq (zcp (yw (gv 1)) (bN 3) (osq (oset 4 λρ _=>zf (lF zZ) (aC (gv 3) a0) ρ) (V0 (gvF (gms "take" vF (gAC (λρ _=>gv 4 ρ) gA0))) (zgV 2 λρ _=>gv 4 ρ) os0))) (zep 2))
def uG:MFx:=fnM 5 1 YM
def JH:OFx:=osq (zcp (yw (gv 2)) (bN 3) (osq (oset 4 λρ _=>op2 ixD (zf xP (aC (gv 3) a0)) (cst (.int 0)) ρ) (V0 (gnF (gvF (gre (gcall zdY (gAC (glF (u0 1 [0,4] (λρ _=>yw (gv 1) ρ) (bN 0) (gjm "holds" j9 (gAC (λρ _=>zf (lF j7) (aC (gv 0) (aC (gv 2) a0)) ρ) gA0)))) gA0))))) (oret λρ _=>cst (.bool false) ρ) os0))) (oret λρ _=>cst (.bool true) ρ)
def ja:MFx:=fnM 5 2 JH
def zeH:RFx:=sq (zT 3 (zf jr (aC (gv 0) (aC (gv 1) a0)))) (sq (zT 4 (zf yl (aC (op2 ixD (gv 3) (cst (.int 0))) a0))) (sq (ifS (zB (zf zbL (aC (yo (zU 1 [4] (yw (gv 2)) (bN 0) (op2 neD (zf yl (aC (gv 0) a0)) (gv 1)))) a0))) (retS (cst (.bool false))) s0)
 (zcr 5 (fnw wG (aC (gv 4) a0)) (osq (osm 6 (gmc uG (gAC (λρ _=>gv 2 ρ) gA0))) (osq (oset 7 λρ _=>zf (lF zZ) (aC (op2 ixD (gv 3) (cst (.int 2))) a0) ρ) (osq (oif (λρ _=>zB (zf zbL (aC (yo (zU 1 [7] (yw (gv 6)) (bN 0) (op2 neD (zf zQ (aC (gv 0) (aC (gv 1) a0))) (cst (.int 0))))) a0)) ρ) (oret λρ _=>cst (.bool false) ρ) os0)
 (zcB (gmA (gre (gjm "holds" j9 (gAC (λρ _=>zf (lF zZ) (aC (op2 ixD (gv 3) (cst (.int 0))) a0) ρ) gA0))) (gmc ja (gAC (λρ _=>gv 6 ρ) (gAC (λρ _=>op2 ixD (gv 3) (cst (.int 1)) ρ) gA0)))))))))))
def Vi:LPx:=fnF 8 3 zeH
end L2.Fu
namespace L2.Fu
open PySem WS WD WD.DT
open PySem.Builtin.Int (intBits)
def zbh{i:Nat}{fi f:RPx}{ρ:Ro}{ds:LPd}{d:PdX}{a:Nat}(h1:gk i ρ=some ds)(h2:f ρ=some d)(h3:fi ρ=some (.int (a:Int)))(h4:a<ds.length):siS i fi f ρ=some (.nx (ρ.set i (.ow (ds.set a d)))):=by
 unfold siS;rw[h1,qk,h2,qk,h3];show(ixN ds.length (a:Int)).bind _=_
 have e:ixN ds.length (a:Int)=some a:=by
  unfold ixN;rw[qf (by omega),qf (by omega)];simp
 rw[e];rfl
def Yf{n:Nat}{f g:Z1x}(hn:n<=1000)(h:∀i,i<n->intBits (f i)<=1000000/\intBits (g i)<=1000000):zQ [.list (xK n f),.list (xK n g)]=some (.int (yq n λi=>f i*g i)):=by
 have hl:(List.range n).length<=16777216:=by rw[qA];omega
 have ec:zU 2 [] (Uu false false (aC (gv 0) (aC (gv 1) a0))) (b2 (bN 0) (bN 1)) (op2 yR (gv 0) (gv 1)) [.pu (.list (xK n f)),.pu (.list (xK n g))]=some (xK n λi=>f i*g i):=yf (xs:=List.range n) (e:=λi=>.tuple [.int (f i),.int (g i)]) (d:=λi=>.int (f i*g i)) (zjk _ rfl) hl λi hi=>by
   have hi:=qL.mp hi;exact UU.trans ((zc rfl rfl).trans (xk (jG (h i hi).1 (h i hi).2 (by omega))))
 have es:zjc [.list (xK n λi=>f i*g i)]=some (.int (yq n λi=>f i*g i)):=by
  show(vf zff (xK n λi=>f i*g i)).map (λns=>PyData.int ns.sum)=_
  rw[zea,kD,zar]
 exact ya rfl (zO ((zd (zk (yc ec) rfl)).trans es))
def zcG{n:Nat}{t:Z1x}{c:Nat->Nat->Int}(hn:n<=1000)(ht:∀a,a<n->intBits (t a)<=1000000)(hc:∀a b,a<n->b<n->intBits (c a b)<=1000000):j7 [.list (xK n t),.list ((List.range n).map λb=>.list (xK n λa=>c a b))]=some (xK n λb=>yq n λa=>t a*c a b):=by
 refine vp rfl (vz ?_);exact yf (xs:=List.range n) (e:=λb=>.list (xK n λa=>c a b)) (d:=λb=>.int (yq n λa=>t a*c a b)) (jK rfl) (by simpa using qw hn (by decide)) λb hb=>by
  have hb:=qL.mp hb;exact yG.trans ((zd rfl).trans (Yf hn λa ha=>⟨ht a ha,hc a b ha hb⟩))
noncomputable def gl(f:Z1x):Nat->Nat
 |0=>0
 |n+1=>Int.gcd (f n) (gl f n:Int)
theorem Yx{f g:Z1x}:∀n,(∀i,i<n->f i=g i)->gl f n=gl g n
 |0,_=>rfl
 |n+1,h=>by
  show Int.gcd (f n) _=Int.gcd (g n) _
  rw[h n (kI n),Yx n λi hi=>h i (mC hi)]
theorem zd8(f:Z1x)(c:Nat):∀n,gl (λi=>(c:Int)*f i) n=c*gl f n
 |0=>rfl
 |n+1=>by
  show Int.gcd ((c:Int)*f n) _=c*Int.gcd (f n) _
  rw[zd8 f c n,mR,Int.gcd_mul_left,kP]
theorem Zn(f:Z1x):∀n i,i<n->(gl f n:Int) ∣ f i
 |0,i,h=>absurd h (kX _)
 |n+1,i,h=>by
  show((Int.gcd (f n) (gl f n:Int):Nat):Int) ∣ f i
  by_cases e:i=n
  ·rw[e];exact Int.gcd_dvd_left ..
  ·exact Int.dvd_trans (Int.gcd_dvd_right ..) (Zn f n i (by omega))
theorem zg3{a b:Int}{f:Z1x}:∀n,(∀i,i<n->a ∣ b*f i)->a ∣ b*(gl f n:Int)
 |0,_=>by
  show a ∣ b*((0:Nat):Int)
  simp
 |n+1,h=>by
  show a ∣ b*((Int.gcd (f n) (gl f n:Int):Nat):Int)
  have h1:=h n (kI n);have h2:=zg3 n λi hi=>h i (mC hi)
  have h3:a ∣ ((Int.gcd (b*f n) (b*(gl f n:Int)):Nat):Int):=Int.dvd_coe_gcd h1 h2;rw[Int.gcd_mul_left] at h3;rw[<-Int.natAbs_dvd_natAbs] at h3 ⊢;rw[q9,kP];rw[kP] at h3;exact h3
def Prim(n:Nat)(r:Z1x):Prop:=(∀i,i<n->r i=0)\/gl r n=1
def Prim.le{n:Nat}{r z:Z1x}(h:Prim n r){a b:Int}(ha:a≠0)(hb:b≠0)(e:∀i,i<n->a*z i=b*r i):∀i,i<n->(r i).natAbs<=(z i).natAbs:=λi hi=>by
 rcases h with h|h
 ·rw[h i hi];exact kE _
 ·have h1:a ∣ b*(gl r n:Int):=zg3 n λi hi=>⟨z i,(e i hi).symm⟩
  rw[h] at h1;have⟨t,ht⟩:=h1;have e1:z i=t*r i:=by
   have h2:=e i hi;have h3:b=a*t:=by rw[<-ht];simp
   rw[h3,Int.mul_assoc] at h2;exact Int.eq_of_mul_eq_mul_left ha h2
  have ht0:t≠0:=λz=>by
   rw[z,hU] at ht
   have:b*((1:Nat):Int)=b:=by simp
   omega
  rw[e1,q9]
  have:1<=t.natAbs:=by omega
  exact Nat.le_mul_of_pos_left _ (by omega)
def zih{n i:Nat}{f:Z1x}{d:PdX}(h:(xK n f)[i]?=some d):d=.int (f i):=by
 unfold xK at h;rw[qo] at h;have⟨j,e1,e2⟩:=map_some h;obtain⟨_,e3⟩:=qm.mp e1;rw[List.getElem_range] at e3;rw[<-e2,<-e3]
def wN{n:Nat}{f:Z1x}(hn:n<=1000)(hf:∀i,i<n->intBits (f i)<=8000):∃(r:Z1x)(g:Nat),xp [.list (xK n f)]=some (xK n r)/\0<g/\(∀i,i<n->f i=(g:Int)*r i)/\Prim n r:=by
 obtain⟨ρ1,e1,o,rfl⟩:=UI (ds:=xK n f) (it:=yw (gv 0)) (bd:=bN 2) (b:=zT 1 (zf yZ (aC (gv 2) (aC (gv 1) a0))))
  (ρ0:=[.pu (.list (xK n f)),.pu (.int 0),.no]) (λi ρ=>∃o,ρ=[.pu (.list (xK n f)),.pu (.int (gl f i:Int)),o]) rfl ⟨.no,rfl⟩
  (λi d ρ hd ⟨o,e⟩=>by
   subst e;have e:=zih hd;subst e;exact⟨_,_,rfl,zG ((zd rfl).trans (va _ _)),.pu (.int (f i)),rfl⟩)
 have hl:(xK n f).length=n:=by simp[xK]
 rw[hl] at e1;have et:zB (op2 ltI (gv 1) (cst (.int 2))) [.pu (.list (xK n f)),.pu (.int (gl f n:Int)),o]=some (decide ((gl f n:Int)<2)):=zE rfl;by_cases h:gl f n<2
 ·refine⟨f,1,vp rfl ((zy (zG rfl)).trans ((zy e1).trans ((zmx (d:=xK n f) ?_)))),by decide,λi _=>by simp,?_⟩
  ·exact(vb (et.trans (qM some (qB (by omega))))).trans (vz ((xE rfl).trans rfl))
  ·by_cases z:gl f n=0
   ·left
    intro i hi
    have:=Zn f n i hi;rw[z] at this;simpa using this
   ·right
    omega
 ·have hp:(0:Int)<gl f n:=by omega
  refine⟨λi=>(f i).fdiv (gl f n:Int),gl f n,vp rfl ((zy (zG rfl)).trans ((zy e1).trans ((zy ((jD (et.trans (qM some (qI (by omega))))).trans rfl)).trans (vz ?_)))),by omega,λi hi=>?_,?_⟩
  ·refine yf (xs:=List.range n) (e:=λi=>.int (f i)) (d:=λi=>.int ((f i).fdiv (gl f n:Int))) (jK rfl) (by simpa using qw hn (by decide)) λi hi=>?_
   have hi:=qL.mp hi;exact yG.trans ((zc rfl rfl).trans (ji (by omega) (by
    rw[kP];have h1:∃j,j<n/\f j≠0:=by
     refine mY λq=>?_
     have h0:∀j,j<n->f j=0:=λj hj=>mY λz=>q ⟨j,hj,z⟩
     have:gl f n=0:=by
      have e:gl f n=gl (λi=>((0:Nat):Int)*f i) n:=Yx n λi hi=>by rw[h0 i hi];simp
      rw[e,zd8];simp
     omega
    have⟨j,hj,hz⟩:=h1;have h2:gl f n<=(f j).natAbs:=gM (by omega) (by
     have:=Zn f n j hj;rw[<-Int.natAbs_dvd_natAbs] at this;simpa using this)
    have h3:(f j).natAbs<2 ^ 8000:=ma.mp (hf j hj);have h4:gl f n<2 ^ 8000:=qN h2 h3
    have h5:(gl f n).log2<8000:=(nL (by omega)).mpr h4;omega)))
  ·have⟨c,hc⟩:=Zn f n i hi;have e:(f i).fdiv (gl f n:Int)=c:=by
    rw[hc,m9 _ (by omega)]
   show f i=(gl f n:Int)*(f i).fdiv (gl f n:Int)
   rw[e,<-hc]
  ·right
   have e:gl f n=gl (λi=>((gl f n:Nat):Int)*(f i).fdiv (gl f n:Int)) n:=Yx n λi hi=>by
    have⟨c,hc⟩:=Zn f n i hi;have e:(f i).fdiv (gl f n:Int)=c:=by
     rw[hc,m9 _ (by omega)]
    rw[e,<-hc]
   rw[zd8] at e;exact Nat.eq_of_mul_eq_mul_left (show 0<gl f n by omega) (by rw[Nat.mul_one];exact e.symm)
section
variable{f g:OFx}{ρ ρ':Ro}{fs fs':Ob}{d:PdX}{ds:LPd}
def zW(h:f ρ fs=some (.nx ρ' fs')):osq f g ρ fs=g ρ' fs':=by unfold osq;rw[h]
def Uv(h:f ρ fs=some (.rt d fs')):osq f g ρ fs=some (.rt d fs'):=by unfold osq;rw[h]
def ub{i:Nat}{h:OLx}(e:h ρ fs=some ds):J7 i h ρ fs=some (.nx (ρ.set i (.ow ds)) fs):=by unfold J7;rw[e];rfl
def UW{i:Nat}{h:OPx}(e:h ρ fs=some d):oset i h ρ fs=some (.nx (ρ.set i (.pu d)) fs):=by unfold oset;rw[e];rfl
def j0{h:OPx}(e:h ρ fs=some d):oret h ρ fs=some (.rt d fs):=by unfold oret;rw[e];rfl
def zaF{x:Str}{h:OPx}(e:h ρ fs=some d)(hl:fs.length<1000):ofl x h ρ fs=some (.nx ρ (zP x (.pu d) fs)):=by unfold ofl;rw[e,qk,qf hl]
def uI{x:Str}{h:OLx}(e:h ρ fs=some ds)(hl:fs.length<1000):ZG x h ρ fs=some (.nx ρ (zP x (.ow ds) fs)):=by unfold ZG;rw[e,qk,qf hl]
def ziW{x:Str}{C2:AdX}{h:Ro->Ob->Option Ob}{gs:Ob}(e:h ρ fs=some gs)(hl:fs.length<1000):zjF x C2 h ρ fs=some (.nx ρ (zP x (.ob C2 gs) fs)):=by unfold zjF;rw[e,qk,qf hl]
def zeI{c:Ro->Ob->Option Bool}(h:c ρ fs=some true):oif c f g ρ fs=f ρ fs:=by unfold oif;rw[h];rfl
def zbS{c:Ro->Ob->Option Bool}(h:c ρ fs=some false):oif c f g ρ fs=g ρ fs:=by unfold oif;rw[h];rfl
def zdo{c:Ro->Ob->Option (Bool×Ob)}(h:c ρ fs=some (true,fs')):V0 c f g ρ fs=f ρ fs':=by unfold V0;rw[h];rfl
def zdv{c:Ro->Ob->Option (Bool×Ob)}(h:c ρ fs=some (false,fs')):V0 c f g ρ fs=g ρ fs':=by unfold V0;rw[h];rfl
def zlv{h:Ro->Ob->Option (PyData×Ob)}(e:h ρ fs=some (d,fs')):oex h ρ fs=some (.nx ρ fs'):=by unfold oex;rw[e];rfl
def YZ{i:Nat}{h:Ro->Ob->Option (PyData×Ob)}(e:h ρ fs=some (d,fs')):osm i h ρ fs=some (.nx (ρ.set i (.pu d)) fs'):=by unfold osm;rw[e];rfl
def zdS{x:Str}{h:OPx}(e1:fld x fs=some (.ow ds))(e:h ρ fs=some d)(hl:ds.length<16777216):oap x h ρ fs=some (.nx ρ (zP x (.ow (ds++[d])) fs)):=by
 unfold oap;rw[e1];dsimp only;rw[e,qk,qf hl]
def zlN{i j:Nat}{x:Str}{h:OPx}(e1:fld x fs=some (.ow ds))(e:h ρ fs=some (.int (j:Int)))(hl:ds.length<=16777216)(hd:ds[j]?=some d):opo i x h ρ fs=some (.nx (ρ.set i (.pu d)) (zP x (.ow (ds.eraseIdx j)) fs)):=by
 obtain⟨hj,_⟩:=qm.mp hd;unfold opo;rw[e1,e];dsimp only;rw[qf ⟨by omega,by omega,hl⟩,kb,hd];rfl
def zlP{i k j:Nat}{h:OPx}(e1:ρ[k]?=some (.ow ds))(e:h ρ fs=some (.int (j:Int)))(hl:ds.length<=16777216)(hd:ds[j]?=some d):opl i k h ρ fs=some (.nx ((ρ.set k (.ow (ds.eraseIdx j))).set i (.pu d)) fs):=by
 obtain⟨hj,_⟩:=qm.mp hd;unfold opl;rw[e1,e];dsimp only;rw[qf ⟨by omega,by omega,hl⟩,kb,hd];rfl
def zkO{i:Nat}{x:Str}(e1:ρ[i]?=some (.ow ds))(hl:fs.length<1000):ofm x i ρ fs=some (.nx (ρ.set i .no) (zP x (.ow ds) fs)):=by
 unfold ofm;rw[e1];dsimp only;rw[qf hl]
def zi1{j:Nat}{x y:Str}{es:LPd}{h:OPx}(e1:fld y fs=some (.ow ds))(e:h ρ fs=some (.int (j:Int)))(hl:ds.length<=16777216)(hd:ds[j]?=some d)(e2:fld x (zP y (.ow (ds.eraseIdx j)) fs)=some (.ow es))(hl2:es.length<16777216):zg9 x y h ρ fs=some (.nx ρ (zP x (.ow (es++[d])) (zP y (.ow (ds.eraseIdx j)) fs))):=by
 obtain⟨hj,_⟩:=qm.mp hd;unfold zg9;rw[e1,e];dsimp only;rw[qf ⟨by omega,by omega,hl⟩,kb,hd,qk,e2];dsimp only;rw[qf hl2]
def zcX{T:Nat}{F:LNt}{fi:OLx}{b:PyData->Ro->Option Ro}{fe:RPx}{α:Type}{xs:List α}{e d:α->PyData}(h1:fi ρ fs=some (xs.map e))(hl:xs.length<=16777216)(h2:∀x∈xs,(b (e x) (compEnv T F ρ)).bind fe=some (d x)):ocomp T F fi b fe ρ fs=some (xs.map d):=by
 unfold ocomp;rw[h1,qk,qf (by rw[qe];exact hl),uq];exact Jx h2
def zak{T:Nat}{F:LNt}{fi:OLx}{b:PyData->Ro->Option Ro}{fe:OPx}{α:Type}{xs:List α}{e d:α->PyData}(h1:fi ρ fs=some (xs.map e))(hl:xs.length<=16777216)(h2:∀x∈xs,(b (e x) (compEnv T F ρ)).bind (λρ'=>fe ρ' fs)=some (d x)):u0 T F fi b fe ρ fs=some (xs.map d):=by
 unfold u0;rw[h1,qk,qf (by rw[qe];exact hl),uq];exact Jx h2
def zdl{C2:AdX}{y m:Str}{h:MFx}{ga:OLx}{gs gs':Ob}(e1:fld y fs=some (.ob C2 gs))(e2:fld m gs=none)(e3:ga ρ fs=some ds)(e4:h gs ds=some (d,gs')):gmn C2 y m h ga ρ fs=some (d,zP y (.ob C2 gs') fs):=by
 unfold gmn;rw[e1];dsimp only;rw[qf ⟨rfl,by rw[e2];rfl⟩,e3,qk,e4];rfl
def Uk{m:Str}{h:MFx}{ga:OLx}(e2:fld m fs=none)(e3:ga ρ fs=some ds)(e4:h fs ds=some (d,fs')):gms m h ga ρ fs=some (d,fs'):=by
 unfold gms;rw[qf (by rw[e2];rfl),e3];exact e4
def yz{h:OPx}{ga:OLx}(e1:h ρ fs=some d)(e2:ga ρ fs=some ds):gAC h ga ρ fs=some (d::ds):=by unfold gAC;rw[e1,qk,e2];rfl
def Jl{h:PyData->PyData->Option PyData}{a b:OPx}{x y:PdX}(e1:a ρ fs=some x)(e2:b ρ fs=some y):gop h a b ρ fs=h x y:=by unfold gop;rw[e1,qk,e2];rfl
def v8{h:LPx}{ga:OLx}(e:ga ρ fs=some ds):gcall h ga ρ fs=h ds:=by unfold gcall;rw[e];rfl
def zeo{x:Str}(e:fld x fs=some (.pu d)):gf x ρ fs=some d:=by unfold gf;rw[e]
def Jm{x:Str}(e:fld x fs=some (.ow ds)):gg x ρ fs=some (.list ds):=by unfold gg;rw[e]
def zlw{h:OPx}{c:Bool}(e:h ρ fs=some (.bool c)):gbo h ρ fs=some c:=by unfold gbo;rw[e]
def zaM{h:Ro->Ob->Option Bool}{c:Bool}(e:h ρ fs=some c):gtF h ρ fs=some (c,fs):=by unfold gtF;rw[e];rfl
def VZ{h:Ro->Ob->Option (PyData×Ob)}{c:Bool}(e:h ρ fs=some (.bool c,fs')):gvF h ρ fs=some (c,fs'):=by unfold gvF;rw[e]
def zgO{h:Ro->Ob->Option (Bool×Ob)}{c:Bool}(e:h ρ fs=some (c,fs')):gnF h ρ fs=some (!c,fs'):=by unfold gnF;rw[e];rfl
def zmm{a b:Ro->Ob->Option (Bool×Ob)}(e:a ρ fs=some (true,fs')):gaF a b ρ fs=b ρ fs':=by unfold gaF;rw[e];rfl
def zmJ{a b:Ro->Ob->Option (Bool×Ob)}(e:a ρ fs=some (false,fs')):gaF a b ρ fs=some (false,fs'):=by unfold gaF;rw[e];rfl
def zku{h:OPx}(e:h ρ fs=some (.list ds)):gsq h ρ fs=some ds:=by unfold gsq;rw[e]
def zln{ga:OLx}{xs ys:LPd}(e:ga ρ fs=some [.list xs,.list ys]):gzp false false ga ρ fs=some (UD xs ys):=by unfold gzp;rw[e];rfl
def w8{n m:Nat}{b:OFx}(hm:ds.length=m)(h:b (.no::(ds.map Sl.pu++List.replicate (n - (m+1)) .no)) fs=some (.rt d fs')):fnM n m b fs ds=some (d,fs'):=by unfold fnM;rw[qf hm,h]
def zec{n m:Nat}{b:OFx}(hm:ds.length=m)(h:b (.no::(ds.map Sl.pu++List.replicate (n - (m+1)) .no)) fs=some (.nx ρ' fs')):fnM n m b fs ds=some (.none,fs'):=by unfold fnM;rw[qf hm,h]
def UR{h:LLx}{es:LPd}(e:h ds=some es):lF h ds=some (.list es):=by unfold lF;rw[e];rfl
end
noncomputable def spR(fr tk ch:LPd)(pv:PdX):Ob:=[(Str.ofString "free",.ow fr),(Str.ofString "taken",.ow tk),(Str.ofString "checks",.ow ch),(Str.ofString "pivot",.pu pv)]
noncomputable def reR(ss:LPd)(CS:AdX)(sp:Ob)(ws rs wt:LPd)(a:PdX):Ob:=[(Str.ofString "steps",.ow ss),(Str.ofString "span",.ob CS sp),(Str.ofString "words",.ow ws),(Str.ofString "rows",.ow rs),(Str.ofString "waiting",.ow wt),(Str.ofString "asked",.pu a)]
section
variable{fr tk ch fr':LPd}{pv pv':PdX}
def zeS:fld "free" (spR fr tk ch pv)=some (.ow fr):=rfl
def zif:fld "taken" (spR fr tk ch pv)=some (.ow tk):=rfl
def JL:fld "checks" (spR fr tk ch pv)=some (.ow ch):=rfl
def zhz:fld "pivot" (spR fr tk ch pv)=some (.pu pv):=rfl
def zjR:fld "full" (spR fr tk ch pv)=none:=rfl
def WV:fld "take" (spR fr tk ch pv)=none:=rfl
def zcc:zP "free" (.ow fr') (spR fr tk ch pv)=spR fr' tk ch pv:=rfl
def zfS:zP "taken" (.ow fr') (spR fr tk ch pv)=spR fr fr' ch pv:=rfl
def Ye:zP "checks" (.ow fr') (spR fr tk ch pv)=spR fr tk fr' pv:=rfl
def zfI:zP "pivot" (.pu pv') (spR fr tk ch pv)=spR fr tk ch pv':=rfl
def zmc{c d:LPd}{e:PdX}:zP "pivot" (.pu e) (zP "checks" (.ow d) (zP "taken" (.ow c) (zP "free" (.ow fr) [])))=spR fr c d e:=rfl
end
section
variable{ss ws rs wt xs:LPd}{CS:AdX}{sp sp':Ob}{a a':PdX}
def zc9:fld "steps" (reR ss CS sp ws rs wt a)=some (.ow ss):=rfl
def zaR:fld "span" (reR ss CS sp ws rs wt a)=some (.ob CS sp):=rfl
def zb7:fld "words" (reR ss CS sp ws rs wt a)=some (.ow ws):=rfl
def za8:fld "rows" (reR ss CS sp ws rs wt a)=some (.ow rs):=rfl
def Ux:fld "waiting" (reR ss CS sp ws rs wt a)=some (.ow wt):=rfl
def YF:fld "asked" (reR ss CS sp ws rs wt a)=some (.pu a):=rfl
def zlH:fld "row_led_on" (reR ss CS sp ws rs wt a)=none:=rfl
def ziY:fld "keep" (reR ss CS sp ws rs wt a)=none:=rfl
def V8:fld "onward" (reR ss CS sp ws rs wt a)=none:=rfl
def Zo:zP "span" (.ob CS sp') (reR ss CS sp ws rs wt a)=reR ss CS sp' ws rs wt a:=rfl
def zfy:zP "words" (.ow xs) (reR ss CS sp ws rs wt a)=reR ss CS sp xs rs wt a:=rfl
def zg8:zP "rows" (.ow xs) (reR ss CS sp ws rs wt a)=reR ss CS sp ws xs wt a:=rfl
def zc2:zP "waiting" (.ow xs) (reR ss CS sp ws rs wt a)=reR ss CS sp ws rs xs a:=rfl
def zfw:zP "asked" (.pu a') (reR ss CS sp ws rs wt a)=reR ss CS sp ws rs wt a':=rfl
def zmE:zP "asked" (.pu a) (zP "waiting" (.ow wt) (zP "rows" (.ow rs) (zP "words" (.ow ws) (zP "span" (.ob CS sp) (zP "steps" (.ow ss) [])))))=reR ss CS sp ws rs wt a:=rfl
end
abbrev zR(n:Nat)(r:Z1x):PyData:=.list (xK n r)
noncomputable abbrev zC(i:Nat):PyData:=.int (i:Int)
def zio(t:Bool)(n:Nat)(f:Q1x):qd t n f=sqD t (((List.range n).map f).map fr):=by
 cases t<;>(show _=sqD _ _;unfold sqD;rw[k6];rfl)
def zh1{t:Bool}{n M N:Nat}{f:Q1x}(hn:n<=42)(hM:0<M)(sM:Sz M)(sN:Sz N)(hf:∀i,i<n->InB M N (f i)):∃(r:Z1x)(c:Rat),zZ [qd t n f]=some (xK n r)/\c≠0/\(∀i,i<n->(r i:Rat)=c*f i)/\Prim n r:=by
 have hd:∀q∈(List.range n).map f,q.den ∣ M:=λq hq=>by
  obtain⟨a,ha,rfl⟩:=ky.mp hq;exact(hf a (qL.mp ha)).den
 have hB0:0<jW ((List.range n).map f):=zcz _;have hB1:jW ((List.range n).map f) ∣ M:=Yb _ hd
 have hB2:∀a,a<n->(f a).den ∣ jW ((List.range n).map f):=λa ha=>zbP _ _ (ky.mpr ⟨a,qL.mpr ha,rfl⟩)
 have eb:xi [qd t n f]=some (.int (jW ((List.range n).map f):Int)):=by
  rw[zio];exact Jg hM sM hd
 have et:jf [qd t n f,.int (jW ((List.range n).map f):Int)]=some (xK n λi=>x6 (f i) (jW ((List.range n).map f))):=U9 (t:=t) (n:=n) (f:=f) (by omega) hB0 (Sz.mono (gM hM hB1) sM) λa ha=>⟨hB2 a ha,((hf a ha).bq sM sN).n⟩
 have bt:∀a,a<n->intBits (x6 (f a) (jW ((List.range n).map f)))<=8000:=λa ha=>qw (sN.bits (YB (hf a ha) hB1 (ve (hB2 a ha)))) (by decide)
 obtain⟨r,g,e,hg,hr,hp⟩:=wN (n:=n) (f:=λi=>x6 (f i) (jW ((List.range n).map f))) (by omega) bt;have hg':(g:Rat)≠0:=xV hg;have hB':((jW ((List.range n).map f):Nat):Rat)≠0:=xV hB0
 refine⟨r,(jW ((List.range n).map f):Nat) / (g:Rat),vp rfl (vz ((xE (zk (yc ((xE (zk rfl (zk ((zd rfl).trans eb) rfl))).trans et)) rfl)).trans e)),?_,λi hi=>?_,hp⟩
 ·intro z;have h1:(jW ((List.range n).map f):Nat) / (g:Rat)*(g:Rat)=((jW ((List.range n).map f):Nat):Rat):=mj hg';rw[z,kC] at h1;exact hB' h1.symm
 ·have h1:((x6 (f i) (jW ((List.range n).map f)):Int):Rat)=(g:Rat)*(r i:Rat):=by
   rw[hr i hi,kf,kz]
  rw[ve (hB2 i hi)] at h1;grind
def za4{n M N:Nat}{f:Q1x}(hn:n<=42)(hM:0<M)(sM:Sz M)(sN:Sz N)(hf:∀i,i<n->InB M N (f i)):∃(r:Z1x)(c:Rat),zZ [yE n f]=some (xK n r)/\c≠0/\(∀i,i<n->(r i:Rat)=c*f i)/\Prim n r:=zh1 (t:=true) hn hM sM sN hf
def zi7{n k:Nat}{f:Q1x}(hn:n<=42)(hk:k<=399)(hf:∀i,i<n->Sk k (f i)):∃(r:Z1x)(c:Rat),zZ [yE n f]=some (xK n r)/\c≠0/\(∀i,i<n->(r i:Rat)=c*f i)/\Prim n r:=za4 hn (xA k) (sz6 (by omega)) (Sz.WJ (by omega)) hf
def zbU{n i:Nat}(hn:n<=1000)(hi:i<n):wo [zC i,zC n]=some (xK n (xB i)):=by
 refine vp rfl ?_;refine(zy (yO (zeD (n:=n) (d:=.int 0) (J0 rfl (by decide)) rfl hn))).trans ((zy (zbh (a:=i) (ds:=(List.range n).map λ_=>.int 0) rfl rfl rfl (by simpa using hi))).trans (vz ?_));show some (((List.range n).map λ_=>PyData.int 0).set i (.int 1))=some (xK n (xB i))
 congr 1
 refine kT λj=>?_
 unfold xK;rw[gK,qo,qo,qe,qA];by_cases h:i=j
 ·subst h;rw[qf rfl,qf hi,ke hi];simp[xB]
 ·rw[qq h];by_cases hj:j<n
  ·rw[ke hj];simp[xB,gu h]
  ·rw[kN (by simpa using hj)];rfl
def zcF{n:Nat}{c g:Z1x}{p s d:Int}(hn:n<=1000)(hp:intBits p<=1000000)(hs:intBits s<=1000000)(hc:∀x,x<n->intBits (c x)<=1000000)(hg:∀x,x<n->intBits (g x)<=1000000)(hd:d≠0)(hd2:d.natAbs.log2<9000):uB [zR n c,.int s,zR n g,.int p,.int d]=some (xK n (nar p d s g c)):=by
 refine vp rfl (vz ?_);refine yf (xs:=List.range n) (e:=λi=>.tuple [.int (c i),.int (g i)]) (d:=λi=>.int (nar p d s g c i)) ((zet rfl).trans (qM some (JV _ _ n))) (by simpa using qw hn (by decide)) λi hi=>?_
 have hi:=qL.mp hi;exact UU.trans ((zc ((zc ((zc rfl rfl).trans (xk (jG hp (hc i hi) (by omega)))) ((zc rfl rfl).trans (xk (jG hs (hg i hi) (by omega))))).trans rfl) rfl).trans (ji hd hd2))
theorem zcl:∀ns:List Int,PyData.canLayAll0 (ns.map .int)=true/\PyData.depthAll (ns.map .int)=0
 |[]=>⟨rfl,rfl⟩
 |n::ns=>by
  have⟨a,b⟩:=zcl ns;constructor
  ·show(true&&PyData.canLayAll0 (ns.map .int))=true
   rw[a];rfl
  ·show max 0 (PyData.depthAll (ns.map .int))=0
   rw[b];rfl
def shaped_ints(ns:List Int):SeqAt.shaped (.list (ns.map .int))=true/\SeqAt.shaped (.tuple (ns.map .int))=true:=by
 have⟨a,b⟩:=zcl ns;have c:PyData.canLay0 (.list (ns.map .int))=true:=a;have c':PyData.canLay0 (.tuple (ns.map .int))=true:=a
 constructor
 ·unfold SeqAt.shaped;rw[c,mM];refine qB ?_;show PyData.depthAll (ns.map .int)+1<=64
  rw[b];decide
 ·unfold SeqAt.shaped;rw[c',mM];refine qB ?_;show PyData.depthAll (ns.map .int)+1<=64
  rw[b];decide
theorem JE:∀ns ms:List Int,PyData.eqvAll (ns.map PyData.int) (ms.map PyData.int)=decide (ns=ms)
 |[],[]=>rfl
 |[],_::_=>rfl
 |_::_,[]=>rfl
 |n::ns,m::ms=>by
  show(PyData.eqv (.int n) (.int m)&&PyData.eqvAll (ns.map .int) (ms.map .int))=_
  rw[JE ns ms];by_cases h:n=m
  ·by_cases h2:ns=ms<;>simp[PyData.eqv,h,h2]
  ·simp[PyData.eqv,h]
def zbw(ns ms:List Int):eqD (.list (ns.map .int)) (.list (ms.map .int))=some (.bool (decide (ns=ms))):=by
 unfold eqD;rw[qf ⟨(shaped_ints ns).1,(shaped_ints ms).1⟩];show some (PyData.bool (PyData.eqvAll (ns.map .int) (ms.map .int)))=_
 rw[JE]
def zf0(ns ms:List Int):eqD (.tuple (ns.map .int)) (.tuple (ms.map .int))=some (.bool (decide (ns=ms))):=by
 unfold eqD;rw[qf ⟨(shaped_ints ns).2,(shaped_ints ms).2⟩];show some (PyData.bool (PyData.eqvAll (ns.map .int) (ms.map .int)))=_
 rw[JE]
def zie(l:LNt):l.map zC=(l.map λi:Nat=>(i:Int)).map PyData.int:=by rw[k6];rfl
theorem vS(x:Str)(c:Fs):∀fs:Ob,(zP x c fs).length<=fs.length+1
 |[]=>qr _
 |(y,d)::fs=>by
  unfold zP;split
  ·exact nM _
  ·exact mI (vS x c fs)
def spO(n:Nat)(T F:LNt)(C:LZr)(d:Int):Ob:=spR (F.map zC) (T.map zC) (C.map (zR n)) (.int d)
def zcI{n:Nat}(hn:n<=1000):wG [] [zC n]=some (.none,spO n [] (List.range n) ((List.range n).map xB) 1):=by
 refine zec (ρ':=[.no,.pu (zC n)]) rfl ?_;show zeC [.no,.pu (zC n)] []=_
 have e1:ziM (aC (gv 1) a0) [.no,.pu (zC n)]=some ((List.range n).map zC):=by
  show(if -(2 ^ 62)<=(n:Int)/\(n:Int)<=16777216 then some (jV 0 (n:Int).toNat) else none)=_
  rw[qf (by constructor<;>omega),kb];unfold jV;congr 1;exact k7 λi _=>by rw[Int.zero_add]
 have e2:zU 1 [1] (yW (aC (gv 1) a0)) (bN 0) (yo (yQ wo (aC (gv 0) (aC (gv 1) a0)))) [.no,.pu (zC n)]=some ((List.range n).map λi=>zR n (xB i)):=jO (n:=n) (d:=λi=>zR n (xB i)) rfl (by omega) λi hi=>yG.trans (yc ((xE rfl).trans (zbU hn hi)))
 have l1:=vS "free" (.ow ((List.range n).map zC)) [];have l2:=vS "taken" (.ow []) (zP "free" (.ow ((List.range n).map zC)) [])
 have l3:=vS "checks" (.ow ((List.range n).map λi=>zR n (xB i))) (zP "taken" (.ow []) (zP "free" (.ow ((List.range n).map zC)) []));rw[List.length_nil] at l1;refine(zW (uI e1 (by show 0<1000;omega))).trans ?_;refine(zW (uI (ds:=[]) (J0 rfl (by decide)) (by omega))).trans ?_;refine(zW (uI (ds:=(List.range n).map λi=>zR n (xB i)) ?_ (by omega))).trans ?_
 ·exact e2
 refine(zaF (d:=.int 1) rfl (by omega)).trans ?_;rw[zmc];unfold spO;rw[k6];rfl
def zj0{n:Nat}{T F:LNt}{C:LZr}{d:Int}:Yw (spO n T F C d) []=some (.bool (decide (F=[])),spO n T F C d):=by
 refine w8 rfl (j0 ?_);refine(Jl (Jm zeS) rfl).trans ?_;rw[zie];refine(zbw _ []).trans ?_;congr 2;exact kB.mpr (by simp)
noncomputable def nz:Nat->List Int->List Int
 |_,[]=>[]
 |k,x::xs=>if x=0 then nz (k+1) xs else (k:Int)::nz (k+1) xs
theorem zgs:∀(k:Nat)(xs:List Int),nz k xs=[]->∀x∈xs,x=0
 |_,[],_,x,h=>by cases h
 |k,y::xs,e,x,h=>by
  unfold nz at e;split at e
  ·rename_i hy;rcases qu.mp h with z|z
   ·rw[z];exact hy
   ·exact zgs (k+1) xs e x z
  ·cases e
theorem zeL:∀(k:Nat)(xs:List Int),nz k xs≠[]->∃(i:Nat)(x:Int)(r:List Int),nz k xs=((k+i:Nat):Int)::r/\xs[i]?=some x/\x≠0
 |_,[],h=>absurd rfl h
 |k,y::xs,h=>by
  unfold nz at h ⊢;split
  ·rename_i hy;rw[qf hy] at h;obtain⟨i,x,r,e1,e2,e3⟩:=zeL (k+1) xs h;exact⟨i+1,x,r,by rw[e1,show k+(i+1)=k+1+i by omega],by simpa using e2,e3⟩
  ·rename_i hy;exact⟨0,y,nz (k+1) xs,rfl,rfl,hy⟩
def zjp{α β:Type}{h:α->Option (Option β)}{d:α}{r:List α}{y:β}{ys:List β}(e1:h d=some (some y))(e2:wH h r=some ys):wH h (d::r)=some (y::ys):=by
 unfold wH;rw[e1,qk,e2];rfl
def zi2{α β:Type}{h:α->Option (Option β)}{d:α}{r:List α}{ys:List β}(e1:h d=some none)(e2:wH h r=some ys):wH h (d::r)=some ys:=by
 unfold wH;rw[e1,qk,e2];rfl
def zjZ{x:PdX}{r:LPd}:ixD (.list (x::r)) (.int 0)=some x:=by
 show(ixN (r.length+1) 0).bind _=_
 unfold ixN;rw[qf (by omega),qf (by omega)];rfl
def zcC{β:Type}{F:LNt}{ρ:Ro}{x y:PdX}{fe:Ro->Option β}:(b2 (bN 0) (bN 1) (.tuple [x,y]) (compEnv 2 F ρ)).bind fe=fe (.pu x::.pu y::F.map λj=>(ρ[j]?).getD .no):=rfl
theorem ze7{F:LNt}{ρ:Ro}:∀(k:Nat)(xs:List Int),wH (λd=>(b2 (bN 0) (bN 1) d (compEnv 2 F ρ)).bind λρ1=>(zB (op2 neD (gv 1) (cst (PyData.int 0))) ρ1).bind λok=>if ok then (gv 0 ρ1).map some else some none) ((xs.map PyData.int).mapIdx λi d=>.tuple [.int ((k+i:Nat):Int),d])=some ((nz k xs).map PyData.int)
 |_,[]=>rfl
 |k,x::xs=>by
  have ih:=ze7 (F:=F) (ρ:=ρ) (k+1) xs;rw[gr,List.mapIdx_cons];rw[show(λ(i:Nat) (d:PdX)=>PyData.tuple [.int ((k+(i+1):Nat):Int),d])=λi d=>.tuple [.int ((k+1+i:Nat):Int),d] from funext λi=>funext λd=>by rw[show k+(i+1)=k+1+i by omega]];have e:zB (op2 neD (gv 1) (cst (PyData.int 0))) (.pu (.int ((k+0:Nat):Int))::.pu (.int x)::F.map λj=>(ρ[j]?).getD .no)=some (!decide (x=0)):=zE ((zc rfl rfl).trans (vQ x 0))
  unfold nz;by_cases h:x=0
  ·rw[qf h];rw[qB h] at e;refine zi2 ?_ ih;refine zcC.trans ?_;rw[e];rfl
  ·rw[qq h];rw[qI h] at e;refine zjp ?_ ih;refine zcC.trans ?_;rw[e];rfl
theorem jC{α β:Type}(f:α->β):∀(l:List α)(i:Nat),(l.map f).eraseIdx i=(l.eraseIdx i).map f
 |[],_=>by simp
 |_::_,0=>rfl
 |x::l,i+1=>by
  show f x::(l.map f).eraseIdx i=f x::(l.eraseIdx i).map f
  rw[jC f l i]
theorem zip_map{α:Type}(f g:α->PyData):∀l:List α,UD (l.map f) (l.map g)=l.map λx=>.tuple [f x,g x]
 |[]=>rfl
 |x::l=>by
  show PyData.tuple [f x,g x]::UD (l.map f) (l.map g)=_
  rw[zip_map f g l];rfl
def zjj{n:Nat}{c r:Z1x}(hn:n<=1000)(hc:∀x,x<n->intBits (c x)<=400000)(hr:∀x,x<n->intBits (r x)<=400000):intBits (dt n c r)<=1000000:=by
 have h:=JA (f:=λx=>c x*r x) (B:=2 ^ 800000) n λx hx=>by
  rw[q9,show 800000=400000+400000 from rfl,gI];exact ka (g6 (ma.mp (hc x hx))) (g6 (ma.mp (hr x hx)))
 refine ma.mpr (qN h ?_);rw[show 1000000=10+(800000+199990) from rfl,gI,gI 2 800000];have h1:0<2 ^ 800000:=Nat.pow_pos (by decide);have h2:0<2 ^ 199990:=Nat.pow_pos (by decide)
 refine Nat.mul_lt_mul_of_lt_of_le (by omega) (nj _ h2) (pO h1 h2)
def ze8{n:Nat}{T F:LNt}{C:LZr}{d:Int}{r:Z1x}(hn:n<=1000)(hF:C.length=F.length)(hl:F.length<=1000)(hT:T.length<=1000)(hC:∀c∈C,∀x,x<n->intBits (c x)<=400000)(hr:∀x,x<n->intBits (r x)<=400000)(hd:d≠0)(hd2:d.natAbs.log2<9000):((∀c∈C,dt n c r=0)/\vF (spO n T F C d) [zR n r]=some (.bool false,spO n T F C d))\/
  ∃i cg g,C[i]?=some cg/\F[i]?=some g/\dt n cg r≠0/\vF (spO n T F C d) [zR n r]=some (.bool true,spO n (T++[g]) (F.eraseIdx i) ((C.eraseIdx i).map λc=>nar (dt n cg r) d (dt n c r) cg c) (dt n cg r)):=by
 have hlen:C.length<=16777216:=by omega
 have e1:ocomp 1 [1] (gsq (gg "checks")) (bN 0) (zf zQ (aC (gv 0) (aC (gv 1) a0))) [.no,.pu (zR n r),.no,.no,.no,.no,.no,.no] (spO n T F C d)=some (C.map λc=>PyData.int (dt n c r)):=zcX (xs:=C) (e:=zR n) (d:=λc=>PyData.int (dt n c r)) (zku (Jm JL)) hlen λc hc=>yG.trans ((zd rfl).trans (Yf hn λx hx=>⟨qw (hC c hc x hx) (by decide),qw (hr x hx) (by decide)⟩))
 have es:(C.map λc=>PyData.int (dt n c r))=(C.map λc=>dt n c r).map PyData.int:=by rw[k6];rfl
 have e2:∀o3,W7 2 [] (λρ x=>ze5 false (aC (gb 2) a0) ρ) (b2 (bN 0) (bN 1)) (zB (op2 neD (gv 1) (cst (PyData.int 0)))) (gv 0) [.no,.pu (zR n r),.ow (C.map λc=>PyData.int (dt n c r)),o3,.no,.no,.no,.no] (spO n T F C d)=some ((nz 0 (C.map λc=>dt n c r)).map PyData.int):=λo3=>by
  unfold W7;show((some (Wg (C.map λc=>PyData.int (dt n c r)))).bind _)=_
  rw[qk,qf (by unfold Wg;rw[pw,qe];exact hlen),es];unfold Wg
  have:=ze7 (F:=[]) (ρ:=[.no,.pu (zR n r),.ow ((C.map λc=>dt n c r).map PyData.int),o3,.no,.no,.no,.no]) 0 (C.map λc=>dt n c r);rw[show(λ(i:Nat) (d:PdX)=>PyData.tuple [.int ((0+i:Nat):Int),d])=λi d=>.tuple [.int (i:Int),d] from funext λi=>funext λd=>by rw[mU]] at this;exact this
 have e3:zB (op2 eqD (gb 3) (yo (vo a0))) [.no,.pu (zR n r),.ow (C.map λc=>PyData.int (dt n c r)),.ow ((nz 0 (C.map λc=>dt n c r)).map PyData.int),.no,.no,.no,.no]=some (decide (nz 0 (C.map λc=>dt n c r)=[])):=zE ((zc rfl rfl).trans (zbw _ []));by_cases hz:nz 0 (C.map λc=>dt n c r)=[]
 ·refine .inl ⟨λc hc=>zgs 0 _ hz _ (ky.mpr ⟨c,hc,rfl⟩),?_⟩;rw[qB hz] at e3;exact w8 rfl ((zW (ub e1)).trans ((zW (ub (e2 .no))).trans (Uv ((zeI e3).trans (j0 rfl)))))
 ·right
  have⟨i,x,rr,q1,q2,q3⟩:=zeL 0 _ hz;rw[mU] at q1;rw[qo] at q2;have⟨cg,q4,q5⟩:=map_some q2;obtain⟨hi,_⟩:=qm.mp q4;obtain⟨g,q6⟩:∃g,F[i]?=some g:=⟨_,qp (by omega)⟩;rw[<-q5] at q3;refine⟨i,cg,g,q4,q6,q3,?_⟩;rw[qI hz] at e3;have hcg:cg∈C:=qP q4;have bd:∀c∈C,intBits (dt n c r)<=1000000:=λc hc=>zjj hn (hC c hc) hr
  refine w8 rfl ((zW (ub e1)).trans ((zW (ub (e2 .no))).trans ((zW ((zbS e3).trans rfl)).trans ?_)));refine(zW (UW (d:=zC i) ((zc (show gb 3 _=some (PyData.list ((nz 0 (C.map λc=>dt n c r)).map PyData.int)) from rfl) rfl).trans ?_))).trans ?_
  ·rw[q1];exact zjZ
  refine(zW (zlP (ds:=C.map λc=>PyData.int (dt n c r)) (j:=i) (d:=.int (dt n cg r)) rfl rfl (by rw[qe];exact hlen) (by rw[qo,q4];rfl))).trans ?_;refine(zW (zlN (ds:=C.map (zR n)) (j:=i) (d:=zR n cg) JL rfl (by rw[qe];exact hlen) (by rw[qo,q4];rfl))).trans ?_;rw[Ye,jC (zR n),jC (λc=>PyData.int (dt n c r))];have sub:∀c∈C.eraseIdx i,c∈C:=λc hc=>gq hc
  refine(zW (ub (ds:=(C.eraseIdx i).map λc=>zR n (nar (dt n cg r) d (dt n c r) cg c)) (zak (xs:=C.eraseIdx i) (e:=λc=>.tuple [zR n c,.int (dt n c r)]) ((zln (yz (Jm JL) (yz rfl rfl))).trans (qM some (zip_map _ _ _))) (by rw[gZ];split<;>omega) λc hc=>?_))).trans ?_
  ·refine UU.trans ((v8 (ds:=[zR n c,.int (dt n c r),zR n cg,.int (dt n cg r),.int d]) (yz rfl (yz rfl (yz rfl (yz rfl (yz (zeo zhz) rfl)))))).trans (UR (zcF hn (bd cg hcg) (bd c (sub c hc)) (λx hx=>qw (hC c (sub c hc) x hx) (by decide)) (λx hx=>qw (hC cg hcg x hx) (by decide)) hd hd2)))
  refine(zW (zkO rfl (by show 4<1000;omega))).trans ?_;rw[Ye];refine(zW (zaF (d:=.int (dt n cg r)) rfl (by show 4<1000;omega))).trans ?_;rw[zfI];refine(zW (zi1 (ds:=F.map zC) (j:=i) (d:=zC g) (es:=T.map zC) zeS rfl (by rw[qe];omega) (by rw[qo,q6];rfl) (by rw[zcc];exact zif) (by rw[qe];omega))).trans ((j0 rfl).trans ?_);rw[zcc,zfS,jC];unfold spO;rw[qR,k6];rfl
def WI(n:Nat)(st:Q3x)(g:Nat):PyData:=.list ((List.range n).map λb=>.list (xK n λa=>x6 (st g a b) (xb n (st g))))
abbrev WR:=List (List Nat×(Nat->Int))
noncomputable def QL(s:Nat)(r0:Z1x)(L:WR):WR:=([],r0)::L.flatMap λq=>(List.range s).map λg=>(q.1++[g],q.2)
def Wj(n:Nat)(q:List Nat×(Nat->Int)):PyData:=.tuple [xn q.1,zR n q.2]
def RO(CS:AdX)(n s:Nat)(st:Q3x)(r0:Z1x)(L:WR)(T F:LNt)(C:LZr)(d:Int)(a:Nat):Ob:=reR ((List.range s).map (WI n st)) CS (spO n T F C d) (L.map λq=>xn q.1) (L.map λq=>zR n q.2) ((QL s r0 L).map (Wj n)) (zC a)
abbrev RSL(n s:Nat)(st:Q3x)(fi:Q1x)(L:WR)(T F:LNt)(C:LZr)(d:Int)(a:Nat):Prop:=WD.DT.RS n s st fi (L.map (·.1)) (L.map (·.2)) T F C d a
structure Bd(n s:Nat)(st:Q3x)(fi:Q1x)(k B m:Nat):Prop where
 hn:n<=42
 hs:s<=42
 hs0:0<s
 hst:∀g a b,g<s->a<n->b<n->InB k (2 ^ 3192) (st g a b)
 hk0:0<k
 hk:k<=2 ^ 3192
 hB:B<=2 ^ 4000
 hP:∀j,j<=m->(n*B) ^ j<2 ^ 9000
 hw:∀u:List Nat,(∀g∈u,g<s)->u.length<=n - 1->∃(M:Rat)(z:Z1x),M≠0/\∀x,x<n->(z x:Rat)=xw n st fi u x*M/\(z x).natAbs<=B
 hm:∀L T F C d a,RSL n s st fi L T F C d a->L.length<=m
def Sk.inb{k:Nat}{q:Rat}(h:Sk k q)(hk:k<=399):InB (6 ^ k) (2 ^ 3192) q:=InB.mono h (kq (by decide) (by omega))
def zlm{k:Nat}(hk:k<=399):6 ^ k<=2 ^ 3192:=by
 refine qw (gN (show 6<=2 ^ 3 by decide) k) ?_;rw[<-Nat.pow_mul];exact kq (by decide) (by omega)
def zfN{k:Nat}(hk:k<=2 ^ 3192):Sz k:=Sz.mono hk (Sz.WJ (by decide))
structure IV(n s:Nat)(st:Q3x)(fi:Q1x)(L:WR)(T F:LNt)(C:LZr)(d:Int)(a:Nat):Prop where
 rs:RSL n s st fi L T F C d a
 pr:∀q∈L,Prim n q.2
structure R0(n:Nat)(fi:Q1x)(r0:Z1x):Prop where
 ex:∃c:Rat,c≠0/\∀x,x<n->(r0 x:Rat)=c*fi x
 pr:Prim n r0
def zc1(s:Nat)(r0:Z1x)(L:WR):queue s (L.map (·.1))=(QL s r0 L).map (·.1):=by
 unfold queue QL;rw[gr,List.flatMap_map,List.map_flatMap];congr 2;funext q;rw[k6];rfl
def ziU(s:Nat)(r0:Z1x)(L:WR)(q:List Nat×(Nat->Int)):QL s r0 (L++[q])=QL s r0 L++(List.range s).map λg=>(q.1++[g],q.2):=by
 unfold QL;rw[nX];simp
def ze9(c:Rat):(c.num:Rat)=c*(c.den:Rat):=by
 have e:=ve (q:=c) (B:=c.den) (pF _);rw[<-e];unfold x6;rw[Nat.div_self c.den_pos];simp
def uy{n B:Nat}{r z:Z1x}{f:Q1x}{c M:Rat}(h:Prim n r)(hc:c≠0)(hr:∀x,x<n->(r x:Rat)=c*f x)(hM:M≠0)(hz:∀x,x<n->(z x:Rat)=f x*M/\(z x).natAbs<=B):∀x,x<n->(r x).natAbs<=B:=λx hx=>by
 refine qw (h.le (z:=z) (a:=c.num*(M.den:Int)) (b:=M.num*(c.den:Int)) ?_ ?_ (λi hi=>?_) x hx) (hz x hx).2
 ·have:=M.den_pos;exact mi (λe=>hc (mN.mp e)) (by omega)
 ·have:=c.den_pos;exact mi (λe=>hM (mN.mp e)) (by omega)
 ·have h1:=hr i hi;have h2:=(hz i hi).1
  have h3:=ze9 c;have h4:=ze9 M
  have h5:((c.num*(M.den:Int)*z i:Int):Rat)=((M.num*(c.den:Int)*r i:Int):Rat):=by
   rw[kf,kf,kf,kf,kz,kz,h1,h2,h3,h4];generalize (M.den:Rat)=y1;generalize (c.den:Rat)=y2;grind
  exact_mod_cast h5
section
variable{n s k B m:Nat}{st:Q3x}{fi:Q1x}{L:WR}{T F:LNt}{C:LZr}{d:Int}{a:Nat}{r0:Z1x}{CS:AdX}
def ziZ{W:List (List Nat)}{Rw:LZr}(h:WD.DT.RS n s st fi W Rw T F C d a)(hs:0<s){u:LNt}(hu:(queue s W)[a]?=some u)(hF:F≠[]):u.length<n/\∀g∈u,g<s:=by
 have k:=h.rc.keep hu;refine⟨?_,k.signs hs W.length u (by rw[qx (qr _),gA];rfl)⟩
 have:=k.short hs W.length u (by rw[qx (qr _),gA];rfl);have f:=h.sp.few
 have:0<F.length:=List.length_pos_iff.mpr hF;have l1:=h.len;have l2:=h.lenT
 omega
def IV.wlen(h:IV n s st fi L T F C d a)(hs:0<s){q:List Nat×(Nat->Int)}(hq:q∈L):q.1.length<=n - 1/\∀g∈q.1,g<s:=by
 obtain⟨i,hi⟩:=ku hq;obtain⟨hl,_⟩:=qm.mp hi;have e:(L.map (·.1))[i]?=some q.1:=by rw[qo,hi];rfl
 have h1:=h.rs.rc.short hs i q.1 e;have f:=h.rs.sp.few
 have l1:=h.rs.len;have l2:=h.rs.lenT
 rw[qe,qe] at l1;rw[qe] at l2;exact⟨by omega,h.rs.rc.signs hs i q.1 e⟩
def IV.mult(h:IV n s st fi L T F C d a){q:List Nat×(Nat->Int)}(hq:q∈L):∃c:Rat,c≠0/\∀x,x<n->(q.2 x:Rat)=c*xw n st fi q.1 x:=by
 obtain⟨i,hi⟩:=ku hq;exact h.rs.mult i q.1 q.2 (by rw[qo,hi];rfl) (by rw[qo,hi];rfl)
def IV.abs(h:IV n s st fi L T F C d a)(b:Bd n s st fi k B m){q:List Nat×(Nat->Int)}(hq:q∈L):∀x,x<n->(q.2 x).natAbs<=B:=by
 have⟨h1,h2⟩:=h.wlen b.hs0 hq;have⟨M,z,hM,hz⟩:=b.hw q.1 h2 h1;have⟨c,hc,hr⟩:=h.mult hq;exact uy (h.pr q hq) hc hr hM hz
def Bd.bits(b:Bd n s st fi k B m){x:Int}(h:x.natAbs<=B):intBits x<=4001:=jk (qN (qw h b.hB) (kA (by decide) (by decide)))
def Bd.pivot(b:Bd n s st fi k B m)(h:IV n s st fi L T F C d a):d.natAbs.log2<9000:=by
 have hd:=h.rs.sp.d0;refine(nL (by omega)).mpr (qN (h.rs.sp.VO (B:=B) ?_ ?_) (b.hP _ ?_))
 ·have:=h.rs.sp.few;omega
 ·intro r hr x hx;obtain⟨q,hq,rfl⟩:=ky.mp (gh.mp hr);exact h.abs b hq x hx
 ·rw[h9,qe];exact b.hm L T F C d a h.rs
def Bd.check(b:Bd n s st fi k B m)(h:IV n s st fi L T F C d a):∀c∈C,∀x,x<n->intBits (c x)<=400000:=λc hc x hx=>by
 obtain⟨i,hi⟩:=ku hc;have h1:=h.rs.sp.VS (B:=B) h.rs.sp.few (λr hr x hx=>by
  obtain⟨q,hq,rfl⟩:=ky.mp (gh.mp hr);exact h.abs b hq x hx) hi x hx
 have h2:(n*B) ^ (L.map (·.2)).reverse.length<2 ^ 9000:=b.hP _ (by rw[h9,qe];exact b.hm L T F C d a h.rs);refine jk (qN h1 ?_);have h3:n*(n*B) ^ (L.map (·.2)).reverse.length<=2 ^ 6*2 ^ 9000:=ka (qw b.hn (by decide)) (g6 h2)
 rw[<-Nat.pow_add] at h3;exact qN h3 (kA (by decide) (by decide))
def zis(v:LNt)(g:Nat):ixD (xn (v++[g])) (.int (-1))=some (zC g):=by
 unfold xn;rw[qR];show atI (v.map (λg:Nat=>PyData.int (g:Int))++[zC g]) (-1)=_
 unfold atI ixN;rw[qq (by omega),qy,qe,kM,qf (by omega),qk,show(-1+((v.length+1:Nat):Int)).toNat=v.length by omega,qx (by simp),qe,gA];rfl
def zcq(u:LNt):eqD (xn u) (.tuple [])=some (.bool (decide (u=[]))):=by
 have e:xn u=.tuple ((u.map λg:Nat=>(g:Int)).map PyData.int):=by unfold xn;rw[k6];rfl
 rw[e];refine(zf0 _ []).trans ?_;congr 2;exact kB.mpr (by simp)
end
theorem zex{bd:PyData->Ro->Option Ro}{b:OFx}:∀{ds:LPd} {ρ0:Ro} {fs0:Ob} (P:Nat->Ro->Ob->Prop),P 0 ρ0 fs0->
  (∀i d ρ fs,ds[i]?=some d->P i ρ fs->∃ρ1 ρ2 fs2,bd d ρ=some ρ1/\b ρ1 fs=some (.nx ρ2 fs2)/\P (i+1) ρ2 fs2)->∃ρ' fs',vO bd b ds ρ0 fs0=some (.nx ρ' fs')/\P ds.length ρ' fs'
 |[],ρ0,fs0,P,h0,_=>⟨ρ0,fs0,rfl,h0⟩
 |d::r,ρ0,fs0,P,h0,h=>by
  have⟨ρ1,ρ2,fs2,e1,e2,p⟩:=h 0 d ρ0 fs0 rfl h0;obtain⟨ρ',fs',e3,p'⟩:=zex (ds:=r) (ρ0:=ρ2) (fs0:=fs2) (λi=>P (i+1)) p λi d ρ fs e q=>h (i+1) d ρ fs (by simpa using e) q
  refine⟨ρ',fs',?_,p'⟩;unfold vO;rw[e1,qk,e2];exact e3
section
variable{n s k B m:Nat}{st:Q3x}{fi:Q1x}{L:WR}{T F:LNt}{C:LZr}{d:Int}{a:Nat}{r0:Z1x}{CS:AdX}
def zhE{fs:Ob}{x:PdX}:UN fs [xn [],x]=some (x,fs):=w8 rfl (Uv ((zeI (zE ((zc rfl rfl).trans (zcq [])))).trans (j0 rfl)))
def zgl(b:Bd n s st fi k B m){v:LNt}{g:Nat}{p:Z1x}{c:Rat}(hg:g<s)(hb:∀x,x<n->(p x).natAbs<=B)(hc:c≠0)(hp:∀x,x<n->(p x:Rat)=c*xw n st fi v x):∃(r:Z1x)(c':Rat),UN (RO CS n s st r0 L T F C d a) [xn (v++[g]),zR n p]=some (zR n r,RO CS n s st r0 L T F C d a)/\c'≠0/\(∀x,x<n->(r x:Rat)=c'*xw n st fi (v++[g]) x)/\Prim n r:=by
 have hn:=b.hn;obtain⟨_,w1,w2,w3⟩:=uL (n:=n) (M:=k) (f:=st g) b.hn b.hk0 (zfN b.hk) (zfN (qr _)) (λa' b'=>b.hst g a' b' hg);have ht:∀a' b',a'<n->b'<n->(x6 (st g a' b') (xb n (st g))).natAbs<=2 ^ 3192:=λa' b' ha hb'=>YB (b.hst g a' b' hg ha hb') w2 (ve (w3 a' b' ha hb'))
 have h8:(2:Nat) ^ 3192<=2 ^ 3192:=qr _;have e1:=zcG (n:=n) (t:=p) (c:=λa' b'=>x6 (st g a' b') (xb n (st g))) (by omega) (λa' ha=>qw (b.bits (hb a' ha)) (by decide)) λa' b' ha hb'=>qw (jk (m:=3193) (qN (qw (ht a' b' ha hb') h8) (kA (by decide) (by decide)))) (by decide)
 obtain⟨r,g',e2,hg',hr,hpr⟩:=wN (n:=n) (f:=λb'=>yq n λa'=>p a'*x6 (st g a' b') (xb n (st g))) (by omega) λb' hb'=>by
  have h1:=JA (f:=λa'=>p a'*x6 (st g a' b') (xb n (st g))) (B:=2 ^ 4000*2 ^ 3192) n λa' ha=>by
   rw[q9];exact ka (qw (hb a' ha) b.hB) (qw (ht a' b' ha hb') h8)
  refine jk (qN (qw h1 (gJ _ (show n<=2 ^ 6 by omega))) ?_);rw[<-Nat.pow_add,<-Nat.pow_add];exact kA (by decide) (by decide)
 have hL:((xb n (st g):Nat):Rat)≠0:=xV w1;have hG:(g':Rat)≠0:=xV hg'
 refine⟨r,c*(xb n (st g):Nat) / (g':Rat),?_,?_,λx hx=>?_,hpr⟩
 ·refine w8 rfl ((zW ((zbS (zE ((zc rfl rfl).trans ((zcq _).trans ?_)))).trans rfl)).trans (j0 ?_))
  ·rw[qI (by simp)]
  ·refine(v8 (yz (d:=.list (xK n λb'=>yq n λa'=>p a'*x6 (st g a' b') (xb n (st g)))) ((v8 (yz rfl (yz (d:=WI n st g) ((Jl (Jm zc9) (y:=zC g) ((zc rfl rfl).trans (zis v g))).trans (UX hg)) rfl))).trans (UR e1)) rfl)).trans (UR e2)
 ·intro z;have h1:c*(xb n (st g):Nat) / (g':Rat)*(g':Rat)=c*((xb n (st g):Nat):Rat):=mj hG;rw[z,kC] at h1;rcases kH.mp h1.symm with z|z
  ·exact hc z
  ·exact hL z
 ·have h1:((yq n (λa'=>p a'*x6 (st g a' x) (xb n (st g))):Int):Rat)=led n (xw n st fi v) (st g) x*(c*(xb n (st g):Nat)):=by
   rw[Jo];unfold led;rw[<-yt];exact zm n λa' ha=>by
    rw[kf,hp a' ha,ve (w3 a' x ha hx)];grind
  rw[hr x hx,kf,kz] at h1;rw[VX];generalize led n (xw n st fi v) (st g) x=y at h1 ⊢;generalize ((r x:Int):Rat)=y2 at h1 ⊢;grind
def zhh(u:LNt)(g:Nat)(hu:u.length<=1000):Ji (xn u) (.tuple [zC g])=some (xn (u++[g])):=by
 unfold xn;show(if (u.map (λg:Nat=>PyData.int (g:Int))).length+[zC g].length<=16777216 then _ else _)=_
 rw[qf (by rw[qe,kM];omega),qR];rfl
def zjG{ss ws rs wt:LPd}{sp:Ob}{x:PdX}{u:LNt}{r:Z1x}(hs:ss.length=s)(hs2:s<=1000)(hu:u.length<=1000)(hw:ws.length<=1000)(hr:rs.length<=1000)(hwt:wt.length<=1000000):VG (reR ss CS sp ws rs wt x) [xn u,zR n r]=some (.none,reR ss CS sp (ws++[xn u]) (rs++[zR n r]) (wt++(List.range s).map λg=>Wj n (u++[g],r)) x):=by
 obtain⟨ρ',fs',e,o,rfl,rfl⟩:=zex (bd:=bN 3) (b:=oap "waiting" λρ x=>xu (aC (op2 Ji (gv 1) (xu (aC (gv 3) a0))) (aC (gv 2) a0)) ρ) (ds:=jV 0 s) (ρ0:=[.no,.pu (xn u),.pu (zR n r),.no]) (fs0:=reR ss CS sp (ws++[xn u]) (rs++[zR n r]) wt x)
  (λi ρ fs=>∃o,ρ=[.no,.pu (xn u),.pu (zR n r),o]/\fs=reR ss CS sp (ws++[xn u]) (rs++[zR n r]) (wt++(List.range i).map λg=>Wj n (u++[g],r)) x) ⟨.no,rfl,by simp⟩
  (λi dd ρ fs hd ⟨o,e1,e2⟩=>by
   subst e1 e2;obtain⟨hi,rfl⟩:=zei hd;refine⟨_,_,_,rfl,zdS (d:=Wj n (u++[i],r)) Ux ?_ ?_,.pu (zC i),rfl,?_⟩
   ·refine(jY (zk ((zc rfl (jY rfl (by show 1<=16777216;omega))).trans (zhh u i hu)) rfl) (by show 2<=16777216;omega))
   ·rw[qy,qe,qA];omega
   ·rw[zc2,gQ,qR,kU];rfl)
 rw[show(jV 0 s).length=s by simp[jV]] at e;refine zec (ρ':=[.no,.pu (xn u),.pu (zR n r),o]) rfl ((zW (zdS zb7 rfl (by omega))).trans ?_);rw[zfy];refine(zW (zdS za8 rfl (by omega))).trans ?_;rw[zg8];have e2:grn (gAC (gcall yl (gAC (gg "steps") gA0)) gA0) [.no,.pu (xn u),.pu (zR n r),.no] (reR ss CS sp (ws++[xn u]) (rs++[zR n r]) wt x)=some (jV 0 s):=by
  unfold grn;rw[yz (d:=.int (s:Int)) ((v8 (yz (Jm zc9) rfl)).trans (by rw[<-hs];rfl)) rfl];show(if -(2 ^ 62)<=(s:Int)/\(s:Int)<2 ^ 62 then some (jV 0 (s:Int).toNat) else none)=_
  rw[qf (by constructor<;>omega),kb]
 unfold ofor;show(grn (gAC (gcall yl (gAC (gg "steps") gA0)) gA0) [.no,.pu (xn u),.pu (zR n r),.no] (reR ss CS sp (ws++[xn u]) (rs++[zR n r]) wt x)).bind _=_
 rw[e2,qk];exact e
def zgL{la:Q1x}{k0:Nat}(b:Bd n s st fi k B m)(hf:∀i,i<n->InB k0 (2 ^ 3192) (fi i))(hk0:0<k0)(hk:k0<=2 ^ 3192):∃r0,JT CS [] [zv n s fi st la]=some (.none,RO CS n s st r0 [] [] (List.range n) ((List.range n).map xB) 1 0)/\R0 n fi r0:=by
 have hn:=b.hn;have hs:=b.hs
 obtain⟨r0,c,e0,hc,hr,hp⟩:=za4 b.hn hk0 (zfN hk) (zfN (qr _)) hf;refine⟨r0,?_,⟨c,hc,hr⟩,hp⟩;refine zec (ρ':=[.no,.pu (zv n s fi st la)]) rfl ?_;show ze6 CS [.no,.pu (zv n s fi st la)] []=_
 have e1:zU 1 [] (yw (op2 ixD (gv 1) (cst (PyData.int 1)))) (bN 0) (op2 ixD (zf xP (aC (gv 0) a0)) (cst (PyData.int 0))) [.no,.pu (zv n s fi st la)]=some ((List.range s).map (WI n st)):=by
  refine yf (xs:=List.range s) (e:=λg=>y4 n (st g)) (d:=WI n st) (we ((zc rfl rfl).trans vM)) (by rw[qA];omega) λg hg=>?_
  obtain⟨w0,_⟩:=uL (n:=n) (M:=k) (f:=st g) b.hn b.hk0 (zfN b.hk) (zfN (qr _)) (λa' b'=>b.hst g a' b' (qL.mp hg));exact yG.trans ((zc ((zd rfl).trans w0) rfl).trans rfl)
 have e2:fnw wG (aC (zf yl (aC (op2 ixD (gv 1) (cst (PyData.int 0))) a0)) a0) [.no,.pu (zv n s fi st la)]=some (spO n [] (List.range n) ((List.range n).map xB) 1):=by
  unfold fnw;rw[show aC (zf yl (aC (op2 ixD (gv 1) (cst (PyData.int 0))) a0)) a0 [.no,.pu (zv n s fi st la)]=some [zC n] from zk ((zd (zk ((zc rfl rfl).trans jM) rfl)).trans (xT n _)) rfl,qk,zcI (by omega)]
 have l1:=vS "steps" (.ow ((List.range s).map (WI n st))) [];rw[List.length_nil] at l1;refine(zW (uI (ds:=(List.range s).map (WI n st)) ?_ (by show 0<1000;omega))).trans ?_
 ·exact e1
 have l2:=vS "span" (.ob CS (spO n [] (List.range n) ((List.range n).map xB) 1)) (zP "steps" (.ow ((List.range s).map (WI n st))) []);refine(zW (ziW (gs:=spO n [] (List.range n) ((List.range n).map xB) 1) ?_ (by omega))).trans ?_
 ·exact e2
 generalize eF:zP "span" (.ob CS (spO n [] (List.range n) ((List.range n).map xB) 1)) (zP "steps" (.ow ((List.range s).map (WI n st))) [])=fs1 at l2 ⊢;have l3:=vS "words" (.ow []) fs1;refine(zW (uI (ds:=[]) (J0 rfl (by decide)) (by omega))).trans ?_;have l4:=vS "rows" (.ow []) (zP "words" (.ow []) fs1)
 refine(zW (uI (ds:=[]) (J0 rfl (by decide)) (by omega))).trans ?_;have l5:=vS "waiting" (.ow [Wj n ([],r0)]) (zP "rows" (.ow []) (zP "words" (.ow []) fs1));refine(zW (uI (ds:=[Wj n ([],r0)]) (J0 (zk (jY (zk (jY rfl (by show 0<=16777216;omega)) (zk ((zd (zk ((zc rfl rfl).trans jM) rfl)).trans (UR e0)) rfl)) (by show 2<=16777216;omega)) rfl) (by show 1<=16777216;omega)) (by omega))).trans ?_;refine(zaF (d:=.int 0) rfl (by omega)).trans ?_;rw[<-eF,zmE];rfl
end
abbrev zjW(CS:AdX):Ro->Ob->Option (Bool×Ob):=(gaF (gtF (gbo (gop (zdg λi j=>decide (i<j)) (gf "asked") (gcall yl (gAC (gg "waiting") gA0))))) (gnF (gvF (gmn CS "span" "full" Yw gA0))))
abbrev ziJ(CS:AdX):OFx:=(osq (oset 1 (gop ixD (gop ixD (gg "waiting") (gf "asked")) λρ x=>cst (PyData.int 0) ρ)) (osq (osm 2 (gms "row_led_on" UN (gAC (λρ x=>gv 1 ρ) (gAC (gop ixD (gop ixD (gg "waiting") (gf "asked")) λρ x=>cst (PyData.int 1) ρ) gA0)))) (osq (ofl "asked" (gop xN (gf "asked") λρ x=>cst (PyData.int 1) ρ)) (V0 (gvF (gmn CS "span" "take" vF (gAC (λρ x=>gv 2 ρ) gA0))) (osq (oex (gms "keep" VG (gAC (λρ x=>gv 1 ρ) (gAC (λρ x=>gv 2 ρ) gA0)))) (oret λρ x=>gv 2 ρ)) os0))))
abbrev zgf:Ro->Ob->Option (Bool×Ob):=(gtF λρ x=>zB (op2 Yv (gv 5) (cst PyData.none)) ρ)
abbrev zfA(CS:AdX):OFx:=(osq (oif (λρ x=>zB (op2 neD (zf zQ (aC (gv 5) (aC (gv 3) a0))) (cst (PyData.int 0))) ρ) (oret (gtp (gAC (gop ixD (gg "words") λρ x=>op1 zbv (cst (PyData.int 1)) ρ) (gAC (glF (gsl (gg "rows") o0 (oS (op1 zbv (cst (PyData.int 1)))))) gA0)))) os0) (osm 5 (gms "onward" (jg CS) gA0)))
section
variable{c:Ro->Ob->Option (Bool×Ob)}{b:OFx}{f:Nat}{ρ ρ2:Ro}{fs fs' fs2:Ob}{d:PdX}
def za7{N:Nat}{mm:Ro->Ob->Nat}{r:Option Flo}(hN:mm ρ fs=N)(e:J2 c b N ρ fs=r):owh mm c b ρ fs=r:=by
 unfold owh;rw[hN];exact e
def Yr(h:c ρ fs=some (false,fs')):J2 c b (f+1) ρ fs=some (.nx ρ fs'):=by unfold J2;rw[h];rfl
def zda(h:c ρ fs=some (true,fs'))(h2:b ρ fs'=some (.nx ρ2 fs2)):J2 c b (f+1) ρ fs=J2 c b f ρ2 fs2:=by
 rw[J2,h,qk,qf rfl,h2]
def zg5(h:c ρ fs=some (true,fs'))(h2:b ρ fs'=some (.rt d fs2)):J2 c b (f+1) ρ fs=some (.rt d fs2):=by
 rw[J2,h,qk,qf rfl,h2]
end
section
variable{n s k B m:Nat}{st:Q3x}{fi:Q1x}{L:WR}{T F:LNt}{C:LZr}{d:Int}{a:Nat}{r0:Z1x}{CS:AdX}
def IV.skip(h:IV n s st fi L T F C d a){u:LNt}{r:Z1x}{c:Rat}(hu:(queue s (L.map (·.1)))[a]?=some u)(hc:c≠0)(e:∀x,x<n->(r x:Rat)=c*xw n st fi u x)(hz:∀k∈C,dt n k r=0):IV n s st fi L T F C d (a+1):=⟨h.rs.skip hu hc e hz,h.pr⟩
def IV.keep(h:IV n s st fi L T F C d a){u:LNt}{r cg:Z1x}{c:Rat}{i g:Nat}(hu:(queue s (L.map (·.1)))[a]?=some u)(hc:c≠0)(e:∀x,x<n->(r x:Rat)=c*xw n st fi u x)(hr:Prim n r)(hi:C[i]?=some cg)(hg:F[i]?=some g)(hp:dt n cg r≠0):IV n s st fi (L++[(u,r)]) (T++[g]) (F.eraseIdx i) ((C.eraseIdx i).map λc=>nar (dt n cg r) d (dt n c r) cg c) (dt n cg r) (a+1):=by
 refine⟨?_,λq hq=>?_⟩
 ·have:=h.rs.keep hu hc e hi hg hp;unfold RSL;rw[qR,qR];exact this
 ·rcases qg.mp hq with z|z
  ·exact h.pr q z
  ·rw[qE.mp z];exact hr
def zgq:(QL s r0 L).length=1+L.length*s:=by
 unfold QL;rw[qS,List.length_flatMap]
 have:(L.map λq=>((List.range s).map λg=>(q.1++[g],q.2)).length)=List.replicate L.length s:=by
  rw[List.eq_replicate_iff];exact⟨by simp,λx hx=>by
   have⟨q,_,e⟩:=ky.mp hx;rw[<-e];simp⟩
 rw[this,List.sum_replicate_nat];omega
def IV.lens(h:IV n s st fi L T F C d a):L.length=T.length/\T.length+F.length=n/\C.length=F.length:=by
 have l1:=h.rs.len;have l2:=h.rs.lenT
 rw[qe,qe] at l1;rw[qe] at l2;exact⟨l2.symm,h.rs.sp.few,h.rs.sp.lenC⟩
def U7{ρ:Ro}:zjW CS ρ (RO CS n s st r0 L T F C d a)=some (decide (a<(QL s r0 L).length)&&!decide (F=[]),RO CS n s st r0 L T F C d a):=by
 have e1:gtF (gbo (gop (zdg λi j=>decide (i<j)) (gf "asked") (gcall yl (gAC (gg "waiting") gA0)))) ρ (RO CS n s st r0 L T F C d a)=some (decide (a<(QL s r0 L).length),RO CS n s st r0 L T F C d a):=by
  refine zaM (zlw ((Jl (zeo YF) (y:=.int ((QL s r0 L).length:Int)) ((v8 (yz (Jm Ux) rfl)).trans ?_)).trans ?_))
  ·show some (PyData.int (((QL s r0 L).map (Wj n)).length:Int))=_
   rw[qe]
  ·show some (PyData.bool (decide ((a:Int)<((QL s r0 L).length:Int))))=_
   congr 2
   exact kB.mpr (by omega)
 by_cases h:a<(QL s r0 L).length
 ·rw[qB h] at e1 ⊢;refine(zmm e1).trans ((zgO (VZ (zdl zaR zjR rfl zj0))).trans ?_);rw[mM];show some (_,zP "span" (.ob CS (spO n T F C d)) (reR _ _ _ _ _ _ _))=_
  rw[Zo];rfl
 ·rw[qI h] at e1 ⊢;exact zmJ e1
def zgB(b:Bd n s st fi k B m)(z:R0 n fi r0):∀(j fuel a:Nat)(o1 o2:Sl),j<fuel->(QL s r0 L).length - a<=j->IV n s st fi L T F C d a->
  (∃a' o1' o2',J2 (zjW CS) (ziJ CS) fuel [.no,o1,o2] (RO CS n s st r0 L T F C d a)=some (.nx [.no,o1',o2'] (RO CS n s st r0 L T F C d a'))/\IV n s st fi L T F C d a'/\((queue s (L.map (·.1))).length<=a'\/F=[]))\/
  ∃(a':Nat)(u:LNt)(r:Z1x)(c:Rat)(i:Nat)(cg:Z1x)(g:Nat),IV n s st fi L T F C d a'/\(queue s (L.map (·.1)))[a']?=some u/\F≠[]/\c≠0/\(∀x,x<n->(r x:Rat)=c*xw n st fi u x)/\Prim n r/\
   IV n s st fi (L++[(u,r)]) (T++[g]) (F.eraseIdx i) ((C.eraseIdx i).map λc=>nar (dt n cg r) d (dt n c r) cg c) (dt n cg r) (a'+1)/\
   J2 (zjW CS) (ziJ CS) fuel [.no,o1,o2] (RO CS n s st r0 L T F C d a)=some (.rt (zR n r) (RO CS n s st r0 (L++[(u,r)]) (T++[g]) (F.eraseIdx i) ((C.eraseIdx i).map λc=>nar (dt n cg r) d (dt n c r) cg c) (dt n cg r) (a'+1))):=by
 have eql:(queue s (L.map (·.1))).length=(QL s r0 L).length:=by rw[zc1 s r0,qe]
 intro j;induction j with
 |zero=>
  intro fuel a o1 o2 hf hj h;obtain⟨f,rfl⟩:∃f,fuel=f+1:=⟨fuel - 1,by omega⟩;refine .inl ⟨a,o1,o2,Yr (U7.trans ?_),h,.inl (by omega)⟩;rw[qI (by omega),mW]
 |succ j ih=>
  intro fuel a o1 o2 hf hj h;obtain⟨f,rfl⟩:∃f,fuel=f+1:=⟨fuel - 1,by omega⟩;by_cases ha:a<(QL s r0 L).length
  ·by_cases hF:F=[]
   ·refine .inl ⟨a,o1,o2,Yr (U7.trans ?_),h,.inr hF⟩;rw[qB hF,Bool.not_true,mX]
   ·have et:zjW CS [.no,o1,o2] (RO CS n s st r0 L T F C d a)=some (true,RO CS n s st r0 L T F C d a):=U7.trans (by rw[qB ha,qI hF];rfl);obtain⟨q,hq⟩:∃q,(QL s r0 L)[a]?=some q:=⟨_,qp ha⟩;have hu:(queue s (L.map (·.1)))[a]?=some q.1:=by rw[zc1 s r0,qo,hq];rfl
    have⟨l1,l2,l3⟩:=h.lens;have hn:=b.hn;have hs:=b.hs
    have⟨u1,u2⟩:=ziZ h.rs b.hs0 hu hF;have hrow:∃(r:Z1x)(c:Rat),UN (RO CS n s st r0 L T F C d a) [xn q.1,zR n q.2]=some (zR n r,RO CS n s st r0 L T F C d a)/\c≠0/\(∀x,x<n->(r x:Rat)=c*xw n st fi q.1 x)/\Prim n r:=by
     have hm:q∈QL s r0 L:=qP hq;unfold QL at hm;rcases qu.mp hm with w|w
     ·subst w;have⟨c,hc,hr⟩:=z.ex;exact⟨r0,c,zhE,hc,hr,z.pr⟩
     ·have⟨q',hq',w⟩:=pL.mp w;have⟨g,hg,w⟩:=ky.mp w;subst w;have⟨c,hc,hr⟩:=h.mult hq';exact zgl (v:=q'.1) (p:=q'.2) b (qL.mp hg) (λx hx=>h.abs b hq' x hx) hc hr
    have⟨r,c,er,hc,hr,hp⟩:=hrow;have hM:=b.hw q.1 u2 (Nat.le_sub_one_of_lt u1);have habs:∀x,x<n->(r x).natAbs<=B:=by
     obtain⟨M,zz,hM,hz⟩:=hM;exact uy hp hc hr hM hz
    have ew:∀ρ:Ro,gop ixD (gg "waiting") (gf "asked") ρ (RO CS n s st r0 L T F C d a)=some (Wj n q):=λρ=>(Jl (Jm Ux) (zeo YF)).trans (U1 (by rw[qo,hq];rfl))
    have s1:ziJ CS [.no,o1,o2] (RO CS n s st r0 L T F C d a)=V0 (gvF (gmn CS "span" "take" vF (gAC (λρ x=>gv 2 ρ) gA0))) (osq (oex (gms "keep" VG (gAC (λρ x=>gv 1 ρ) (gAC (λρ x=>gv 2 ρ) gA0)))) (oret λρ x=>gv 2 ρ)) os0 [.no,.pu (xn q.1),.pu (zR n r)] (RO CS n s st r0 L T F C d (a+1)):=by
     refine(zW (UW (d:=xn q.1) ((Jl (ew _) rfl).trans rfl))).trans ?_;refine(zW (YZ (Uk zlH (yz rfl (yz ((Jl (ew _) rfl).trans rfl) rfl)) er))).trans ?_;refine(zW (zaF (d:=zC (a+1)) ((Jl (zeo YF) rfl).trans rfl) (by show 6<1000;omega))).trans ?_;show V0 _ _ _ _ (zP "asked" (.pu (zC (a+1))) (reR _ _ _ _ _ _ _))=_
     rw[zfw];rfl
    rcases ze8 (n:=n) (T:=T) (F:=F) (C:=C) (d:=d) (r:=r) (by omega) l3 (by omega) (by omega) (b.check h) (λx hx=>qw (b.bits (habs x hx)) (by decide)) h.rs.sp.d0 (b.pivot h) with⟨hz,e⟩|⟨i,cg,g,hi,hg,hnz,e⟩
    ·have s2:ziJ CS [.no,o1,o2] (RO CS n s st r0 L T F C d a)=some (.nx [.no,.pu (xn q.1),.pu (zR n r)] (RO CS n s st r0 L T F C d (a+1))):=by
      refine s1.trans ((zdv (VZ (zdl zaR WV (yz rfl rfl) e))).trans ?_);show some (Flo.nx _ (zP "span" (.ob CS (spO n T F C d)) (reR _ _ _ _ _ _ _)))=_
      rw[Zo];rfl
     rw[zda et s2];exact ih f (a+1) _ _ (by omega) (by omega) (h.skip hu hc hr hz)
    ·right
     refine⟨a,q.1,r,c,i,cg,g,h,hu,hF,hc,hr,hp,h.keep hu hc hr hp hi hg hnz,zg5 et (s1.trans ((zdo (VZ (zdl zaR WV (yz rfl rfl) e))).trans ?_))⟩;show osq _ _ _ (zP "span" (.ob CS (spO n _ _ _ _)) (reR _ _ _ _ _ _ _))=_
     rw[Zo];have hql:(QL s r0 L).length<=1000000:=by
      rw[zgq]
      have:L.length*s<=42*42:=ka (by omega) hs;omega
     refine(zW (zlv (Uk ziY (yz rfl (yz rfl rfl)) (zjG (s:=s) (by simp) (by omega) (by omega) (by rw[qe];omega) (by rw[qe];omega) (by rw[qe];exact hql))))).trans ((j0 rfl).trans ?_);unfold RO;rw[ziU,qR,qR,qR,k6];rfl
  ·refine .inl ⟨a,o1,o2,Yr (U7.trans ?_),h,.inl (by omega)⟩;rw[qI ha,mW]
def zas(b:Bd n s st fi k B m)(z:R0 n fi r0)(h:IV n s st fi L T F C d a):(∃a',jg CS (RO CS n s st r0 L T F C d a) []=some (.none,RO CS n s st r0 L T F C d a')/\IV n s st fi L T F C d a'/\((queue s (L.map (·.1))).length<=a'\/F=[]))\/
  ∃(a':Nat)(u:LNt)(r:Z1x)(c:Rat)(i:Nat)(cg:Z1x)(g:Nat),IV n s st fi L T F C d a'/\(queue s (L.map (·.1)))[a']?=some u/\F≠[]/\c≠0/\(∀x,x<n->(r x:Rat)=c*xw n st fi u x)/\Prim n r/\
   IV n s st fi (L++[(u,r)]) (T++[g]) (F.eraseIdx i) ((C.eraseIdx i).map λc=>nar (dt n cg r) d (dt n c r) cg c) (dt n cg r) (a'+1)/\
   jg CS (RO CS n s st r0 L T F C d a) []=some (zR n r,RO CS n s st r0 (L++[(u,r)]) (T++[g]) (F.eraseIdx i) ((C.eraseIdx i).map λc=>nar (dt n cg r) d (dt n c r) cg c) (dt n cg r) (a'+1)):=by
 have⟨l1,l2,l3⟩:=h.lens;have hn:=b.hn;have hql:(QL s r0 L).length<1000000:=by
  rw[zgq]
  have:L.length*s<=42*42:=ka (by omega) b.hs;omega
 have key:=zgB (CS:=CS) b z (QL s r0 L).length 1000000 a .no .no hql (Nat.sub_le _ _) h;generalize hN:(1000000:Nat)=N at key;rcases key with⟨a',o1,o2,e,h',hd⟩|⟨a',u,r,c,i,cg,g,h1,h2,h3,h4,h5,h6,h7,e⟩
 ·exact .inl ⟨a',w8 rfl ((zW (za7 hN e)).trans (j0 rfl)),h',hd⟩
 ·exact .inr ⟨a',u,r,c,i,cg,g,h1,h2,h3,h4,h5,h6,h7,w8 rfl (Uv (za7 hN e))⟩
end
def difference_eq{n m s k:Nat}{fi gi:Q1x}{st su:Q3x}{la lb:Q1x}(B:Mach m s gi su lb k)(hk:k<=400)(hn:n<=42)(hm:m<=42)(hs:s<=42):jr [zv n s fi st la,zv m s gi su lb]=some (zv (n+m) s (jn n fi gi) (jo n st su) (jn n la λi=>lb i*(-1))):=by
 refine ya rfl ((zy (zkx ((zd rfl).trans V6))).trans (zO ((zd (zk rfl (zk (WB ((zc rfl rfl).trans jM) ((zc rfl rfl).trans vM) ((zd (zk ((zc rfl rfl).trans JC) rfl)).trans (Zz (c:=-1) (by omega) (λi hi=>(B.la i hi).bq hk) ⟨by decide,by decide⟩))) rfl))).trans (zfV hn hm hs))))
def zg2{ga:OLx}{ρ:Ro}{fs:Ob}{ds:LPd}(e:ga ρ fs=some ds)(hl:ds.length<=16777216):gtp ga ρ fs=some (.tuple ds):=by unfold gtp;rw[e,qk,qf hl]
def zht{h:OPx}{ρ:Ro}{fs:Ob}{d:PdX}(e:h ρ fs=some d):Zf h ρ fs=some (.rf d):=by unfold Zf;rw[e];rfl
def zk1{f:OPx}{l h:Ro->Option (Option Int)}{ρ:Ro}{fs:Ob}{ds:LPd}{lo hi:Option Int}(e:f ρ fs=some (.list ds))(e1:l ρ=some lo)(e2:h ρ=some hi):gsl f l h ρ fs=some (cut ds lo hi):=by unfold gsl;rw[e];dsimp only;rw[e1,qk,e2];rfl
def zdJ{f:OLx}{ρ:Ro}{fs:Ob}{ds:LPd}(e:f ρ fs=some ds):glF f ρ fs=some (.list ds):=by unfold glF;rw[e];rfl
def zj3(xs:LPd)(x:PdX):ixD (.list (xs++[x])) (.int (-1))=some x:=by
 show atI (xs++[x]) (-1)=_
 unfold atI ixN;rw[qq (by omega),qy,kM,qf (by omega),qk,show(-1+((xs.length+1:Nat):Int)).toNat=xs.length by omega,qx (qr _),gA];rfl
def zgD(xs:LPd)(x:PdX):cut (xs++[x]) none (some (-1))=xs:=by
 unfold cut HT.sIx;dsimp only;rw[qf (by omega),qy,kM,show(-1+((xs.length+1:Nat):Int)).toNat=xs.length by omega,List.drop_zero,Nat.sub_zero,List.take_append_of_le_length (qr _),hJ]
section
variable{n s k B m:Nat}{st:Q3x}{fi la:Q1x}{L:WR}{T F:LNt}{C:LZr}{d:Int}{a:Nat}{r0 rl:Z1x}{CS:AdX}
def zfX(n s:Nat)(st:Q3x)(fi la:Q1x)(L:WR):Prop:=∃T F C d a,IV n s st fi L T F C d a/\((queue s (L.map (·.1))).length<=a\/F=[])/\∀q∈L,wt n st fi la q.1=0
def zmi(n s:Nat)(st:Q3x)(fi la:Q1x)(L:WR)(u:LNt):Prop:=∃T F C d a,IV n s st fi L T F C d a/\(queue s (L.map (·.1)))[a]?=some u/\F≠[]/\(∀q∈L,wt n st fi la q.1=0)/\wt n st fi la u≠0
def zgG(b:Bd n s st fi k B m)(z:R0 n fi r0){cl:Rat}(hcl:cl≠0)(hl:∀x,x<n->(rl x:Rat)=cl*la x)(hlb:∀x,x<n->intBits (rl x)<=4000){d0 d1 d2:PdX}:∀(j fuel:Nat)(L:WR)(T F:LNt)(C:LZr)(d:Int)(a:Nat)(o:Sl),F.length<=j->j+1<fuel->IV n s st fi L T F C d a->(∀q∈L,wt n st fi la q.1=0)->
  ∃ρ1 fs1,osm 5 (gms "onward" (jg CS) gA0) [.pu d0,.pu d1,.pu d2,.pu (zR n rl),.no,o] (RO CS n s st r0 L T F C d a)=some (.nx ρ1 fs1)/\
   ((∃(L':WR)(T' F':LNt)(C':LZr)(d':Int)(a':Nat)(ρ2:Ro),J2 zgf (zfA CS) fuel ρ1 fs1=some (.nx ρ2 (RO CS n s st r0 L' T' F' C' d' a'))/\zfX n s st fi la L')\/
    (∃(L':WR)(u:LNt)(fs2:Ob),J2 zgf (zfA CS) fuel ρ1 fs1=some (.rt (.tuple [xn u,.list (L'.map λq=>zR n q.2)]) fs2)/\zmi n s st fi la L' u)):=by
 intro j;induction j with
 |zero=>
  intro fuel L T F C d a o hF hf h h0;have hF':F=[]:=mr.mp (by omega);obtain⟨f,rfl⟩:∃f,fuel=f+1:=⟨fuel - 1,by omega⟩;rcases zas (CS:=CS) b z h with⟨a',e,h',hd⟩|⟨a',u,r,c,i,cg,g,h1,h2,h3,_⟩
  ·exact⟨_,_,YZ (Uk V8 rfl e),.inl ⟨L,T,F,C,d,a',_,Yr (zaM (zE rfl)),T,F,C,d,a',h',hd,h0⟩⟩
  ·exact absurd hF' h3
 |succ j ih=>
  intro fuel L T F C d a o hF hf h h0;obtain⟨f,rfl⟩:∃f,fuel=f+1:=⟨fuel - 1,by omega⟩;rcases zas (CS:=CS) b z h with⟨a',e,h',hd⟩|⟨a',u,r,c,i,cg,g,h1,h2,h3,h4,h5,h6,h7,e⟩
  ·exact⟨_,_,YZ (Uk V8 rfl e),.inl ⟨L,T,F,C,d,a',_,Yr (zaM (zE rfl)),T,F,C,d,a',h',hd,h0⟩⟩
  ·refine⟨_,_,YZ (Uk V8 rfl e),?_⟩;have hn:=b.hn;have et:zgf [.pu d0,.pu d1,.pu d2,.pu (zR n rl),.no,.pu (zR n r)] (RO CS n s st r0 (L++[(u,r)]) (T++[g]) (F.eraseIdx i) ((C.eraseIdx i).map λc=>nar (dt n cg r) d (dt n c r) cg c) (dt n cg r) (a'+1))=some (true,RO CS n s st r0 (L++[(u,r)]) (T++[g]) (F.eraseIdx i) ((C.eraseIdx i).map λc=>nar (dt n cg r) d (dt n c r) cg c) (dt n cg r) (a'+1)):=zaM (zE rfl)
   have hb:∀x,x<n->(r x).natAbs<=B:=λx hx=>h7.abs b (q:=(u,r)) (qg.mpr (.inr (qE.mpr rfl))) x hx
   have ew:=Yf (n:=n) (f:=r) (g:=rl) (by omega) λx hx=>⟨qw (b.bits (hb x hx)) (by decide),qw (hlb x hx) (by decide)⟩
   have hv:((dt n r rl:Int):Rat)=wt n st fi la u*(c*cl):=by
    show((yq n (λx=>r x*rl x):Int):Rat)=_
    rw[Jo];unfold wt;rw[<-yt];exact zm n λx hx=>by
     rw[kf,h5 x hx,hl x hx];grind
   have ebl:zB (op2 neD (zf zQ (aC (gv 5) (aC (gv 3) a0))) (cst (PyData.int 0))) [.pu d0,.pu d1,.pu d2,.pu (zR n rl),.no,.pu (zR n r)]=some (!decide (dt n r rl=0)):=zE ((zc ((zd rfl).trans ew) rfl).trans (vQ _ 0));by_cases hz:dt n r rl=0
   ·rw[qB hz] at ebl;have hw0:wt n st fi la u=0:=by
     rw[hz] at hv;rcases kH.mp (show wt n st fi la u*(c*cl)=0 from hv.symm) with q|q
     ·exact q
     ·rcases kH.mp q with q|q
      ·exact absurd q h4
      ·exact absurd q hcl
    obtain⟨hi,_⟩:i<F.length/\True:=by
     refine⟨?_,trivial⟩;refine mY λq=>?_
     have hl1:=h7.lens;have hl2:=h1.lens
     rw[gZ,qq q,qy,kM] at hl1;omega
    have hF1:(F.eraseIdx i).length<=j:=by rw[gZ,qf hi];omega
    obtain⟨ρ1,fs1,e1,e2⟩:=ih f (L++[(u,r)]) (T++[g]) (F.eraseIdx i) _ _ (a'+1) (.pu (zR n r)) hF1 (by omega) h7 (λq hq=>by
     rcases qg.mp hq with w|w
     ·exact h0 q w
     ·rw[qE.mp w];exact hw0)
    have eb:zfA CS [.pu d0,.pu d1,.pu d2,.pu (zR n rl),.no,.pu (zR n r)] (RO CS n s st r0 (L++[(u,r)]) (T++[g]) (F.eraseIdx i) ((C.eraseIdx i).map λc=>nar (dt n cg r) d (dt n c r) cg c) (dt n cg r) (a'+1))=some (.nx ρ1 fs1):=(zW ((zbS ebl).trans rfl)).trans e1;rcases e2 with⟨L',T',F',C',d',a2,ρ2,e3,w⟩|⟨L',u',fs2,e3,w⟩
    ·exact .inl ⟨L',T',F',C',d',a2,ρ2,(zda et eb).trans e3,w⟩
    ·exact .inr ⟨L',u',fs2,(zda et eb).trans e3,w⟩
   ·rw[qI hz] at ebl;refine .inr ⟨L,u,_,zg5 et (Uv ((zeI ebl).trans (j0 ?_))),T,F,C,d,a',h1,h2,h3,h0,λq=>?_⟩
    ·refine zg2 (yz (d:=xn u) ((Jl (Jm zb7) rfl).trans ?_) (yz (d:=.list (L.map λq=>zR n q.2)) ?_ rfl)) (by show 2<=16777216;omega)
     ·rw[qR];exact zj3 _ _
     ·refine(zdJ (zk1 (lo:=none) (hi:=some (-1)) (Jm za8) rfl rfl)).trans ?_;rw[qR];exact qM some (qM PyData.list (zgD _ _))
    ·rw[q,kC] at hv;exact hz (by exact_mod_cast hv)
def zcg{x y:PdX}{k0 l0:Nat}(hd:jr [x,y]=some (zv n s fi st la))(b:Bd n s st fi k B m)(hf:∀i,i<n->Sk k0 (fi i))(hk0:k0<=399)(hla:∀i,i<n->Sk l0 (la i))(hl0:l0<=399):(∃L,jh CS [x,y]=some (.tuple [.none,.list (L.map λq=>zR n q.2)])/\zfX n s st fi la L)\/
  ∃L u,jh CS [x,y]=some (.tuple [xn u,.list (L.map λq=>zR n q.2)])/\zmi n s st fi la L u:=by
 obtain⟨rl,cl,el,hcl,hl,hp⟩:=zi7 (n:=n) (f:=la) b.hn hl0 hla;obtain⟨r0,e0,z⟩:=zgL (CS:=CS) (la:=la) b (λi hi=>(hf i hi).inb hk0) (xA k0) (zlm hk0);have hlb:∀x,x<n->intBits (rl x)<=4000:=λx hx=>by
  have h6:0<6 ^ l0:=xA l0;refine jk (qN (uy (B:=2 ^ (8*l0)) (M:=((6 ^ l0:Nat):Rat)) (z:=λx=>x6 (la x) (6 ^ l0)) hp hcl hl (xV h6) (λx hx=>⟨ve (hla x hx).den,YB (hla x hx) (pF _) (ve (hla x hx).den)⟩) x hx) (kA (by decide) (by omega)))
 have h0:IV n s st fi [] [] (List.range n) ((List.range n).map xB) 1 0:=⟨zkV,λq hq=>by cases hq⟩;have hn:=b.hn
 obtain⟨ρ1,fs1,e1,e2⟩:=zgG (CS:=CS) b z hcl hl hlb (d0:=x) (d1:=y) (d2:=zv n s fi st la) n 1000 [] [] (List.range n) ((List.range n).map xB) 1 0 .no (by rw[qA];omega) (by omega) h0 (λq hq=>by cases hq);have en:fnw (JT CS) (aC (gv 2) a0) [.pu x,.pu y,.pu (zv n s fi st la),.pu (zR n rl),.no,.no]=some (RO CS n s st r0 [] [] (List.range n) ((List.range n).map xB) 1 0):=by
  unfold fnw;show(some [zv n s fi st la]).bind _=_
  rw[qk,e0]
 generalize hN:(1000:Nat)=N at e2;have start:∀res,zcr 4 (fnw (JT CS) (aC (gv 2) a0)) (osq (osm 5 (gms "onward" (jg CS) gA0)) (osq (owh (λx x_1=>1000) zgf (zfA CS)) (Zf (gtp (gAC (λρ x=>cst PyData.none ρ) (gAC (gg "rows") gA0)))))) [.pu x,.pu y,.pu (zv n s fi st la),.pu (zR n rl),.no,.no]=some (.rt res)->jh CS [x,y]=some res:=λres e=>
  ya rfl ((zy (zG ((zd rfl).trans hd))).trans ((zy (zG ((zd (zk ((zc rfl rfl).trans JC) rfl)).trans (UR el)))).trans e))
 rcases e2 with⟨L',T',F',C',d',a',ρ2,e3,w⟩|⟨L',u,fs2,e3,w⟩
 ·refine .inl ⟨L',start _ ?_,w⟩;unfold zcr;rw[en,qk,qf (by show 4<6;omega)];have e4:osq (osm 5 (gms "onward" (jg CS) gA0)) (osq (owh (λx x_1=>1000) zgf (zfA CS)) (Zf (gtp (gAC (λρ x=>cst PyData.none ρ) (gAC (gg "rows") gA0))))) [.pu x,.pu y,.pu (zv n s fi st la),.pu (zR n rl),.no,.no] (RO CS n s st r0 [] [] (List.range n) ((List.range n).map xB) 1 0)=some (.rf (.tuple [.none,.list (L'.map λq=>zR n q.2)])):=by
   exact(zW e1).trans ((zW (za7 hN e3)).trans (zht (zg2 (yz rfl (yz (Jm za8) rfl)) (by show 2<=16777216;omega))))
  show(match osq _ _ [.pu x,.pu y,.pu (zv n s fi st la),.pu (zR n rl),.no,.no] _ with |some (.rt d _)=>some (Fl.rt d)|some (.rf d)=>some (.rt d)|_=>none)=_
  rw[e4]
 ·refine .inr ⟨L',u,start _ ?_,w⟩;unfold zcr;rw[en,qk,qf (by show 4<6;omega)];have e4:osq (osm 5 (gms "onward" (jg CS) gA0)) (osq (owh (λx x_1=>1000) zgf (zfA CS)) (Zf (gtp (gAC (λρ x=>cst PyData.none ρ) (gAC (gg "rows") gA0))))) [.pu x,.pu y,.pu (zv n s fi st la),.pu (zR n rl),.no,.no] (RO CS n s st r0 [] [] (List.range n) ((List.range n).map xB) 1 0)=some (.rt (.tuple [xn u,.list (L'.map λq=>zR n q.2)]) fs2):=(zW e1).trans (Uv (za7 hN e3));show(match osq _ _ [.pu x,.pu y,.pu (zv n s fi st la),.pu (zR n rl),.no,.no] _ with |some (.rt d _)=>some (Fl.rt d)|some (.rf d)=>some (.rt d)|_=>none)=_
  rw[e4]
end
section
variable{n s k B m:Nat}{st:Q3x}{fi la:Q1x}{r0:Z1x}{CS:AdX}
def zjx{i:Nat}{f:Ro->Option Ob}{g:OFx}{ρ:Ro}{gs fs:Ob}{d:PdX}(h1:f ρ=some gs)(hi:i<ρ.length)(h2:g (ρ.set i .no) gs=some (.rt d fs)):zcr i f g ρ=some (.rt d):=by
 unfold zcr;rw[h1,qk,qf hi,h2]
end
def srt(T:LNt):List Nat:=(isort (T.map λ(x:Nat)=>(x:Int))).map Int.toNat
def zgQ{m:Str}{h:Ob->List PyData->Option PyData}{g:OLx}{ρ:Ro}{fs:Ob}{ds:LPd}(e2:fld m fs=none)(e3:g ρ fs=some ds):gjm m h g ρ fs=h fs ds:=by
 unfold gjm;rw[qf (by rw[e2];rfl),e3];rfl
noncomputable abbrev pl(Ts:LNt):Nat->Nat:=λi=>Ts.getD i 0
section
variable{n s k B m:Nat}{st:Q3x}{fi la:Q1x}{CS:AdX}
def zgY{F:LNt}{ρ:Ro}{x:PdX}{fe:OPx}{fs:Ob}:(bN 0 x (compEnv 1 F ρ)).bind (λρ'=>fe ρ' fs)=fe (.pu x::F.map λj=>(ρ[j]?).getD .no) fs:=rfl
end
def JJ{M N:Nat}{q:Rat}(h:InB M N q):((x6 q M:Int):Rat)=q*((M:Nat):Rat)/\(x6 q M).natAbs<=N:=⟨ve h.den,YB h (pF _) (ve h.den)⟩
end L2.Fu
namespace L2.Fu
open PySem WS WD WD.DT
def WN{a b x y z:Nat}(h1:a<=2 ^ x)(h2:b<=2 ^ y)(h:x+y<=z):a*b<=2 ^ z:=qw (ka h1 h2) (by rw[<-Nat.pow_add];exact kq (by decide) h)
def WJ{a x j z:Nat}(h1:a<=2 ^ x)(h:x*j<=z):a ^ j<=2 ^ z:=qw (gN h1 j) (by rw[<-Nat.pow_mul];exact kq (by decide) h)
def zk2(k:Nat):6 ^ k<=2 ^ (3*k):=by rw[pN];exact gN (by decide) k
def lt9{x z:Nat}(h:x<=2 ^ z)(hz:z<9000):x<2 ^ 9000:=qN h (kA (by decide) hz)
end L2.Fu
namespace L2.Fu
open PySem PySem.Spec PyProof.Rows
def Y7:RFx:=(sq (ifS (zB (op2 ltI (op2 ixD (gv 0) (cst (.int 0))) (cst (.int 0)))) (retS (xu (aC (op2 VR (cst (.int 0)) (op2 ixD (gv 0) (cst (.int 1)))) (aC (op2 VR (cst (.int 0)) (op2 ixD (gv 0) (cst (.int 0)))) a0)))) s0)
 (retS (xu (aC (op2 ixD (gv 0) (cst (.int 1))) (aC (op2 ixD (gv 0) (cst (.int 0))) a0)))))
def wc:LPx:=fnF 1 1 Y7
def Zk:RFx:=(sq (x5 1 (zU 1 [] (yw (gv 0)) (bN 0) (yo (yQ ju (aC (gv 0) a0)))))
 (sq (zT 2 (cst (.int 0)))
 (sq (jw (yW (aC (ifE (zB (op2 gtI (zf yl (aC (gb 1) a0)) (cst (.int 0)))) (zf yl (aC (op2 ixD (gb 1) (cst (.int 0))) a0)) (cst (.int 0))) a0)) (bN 3) (sq (x5 4 (uH 1 [1,3] (ui (aC (gv 2) (aC (zf yl (aC (gb 1) a0)) a0))) (bN 0) (zB (op2 neD (op2 ixD (op2 ixD (op2 ixD (gb 1) (gv 0)) (gv 2)) (cst (.int 0))) (cst (.int 0)))) (gv 0)))
 (ifS (zB (op2 gtI (zf yl (aC (gb 4) a0)) (cst (.int 0)))) (sq (zdT 5 1 (op2 ixD (gb 4) (cst (.int 0))))
 (sq (inS 1 (gv 2) (gv 5))
 (sq (jw (ui (aC (op2 xN (gv 2) (cst (.int 1))) (aC (zf yl (aC (gb 1) a0)) a0))) (bN 6) (ifS (zB (op2 neD (op2 ixD (op2 ixD (op2 ixD (gb 1) (gv 6)) (gv 3)) (cst (.int 0))) (cst (.int 0)))) (sq (zT 7 (zf yC (aC (op2 ixD (op2 ixD (gb 1) (gv 6)) (gv 3)) (aC (zf wc (aC (op2 ixD (gv 5) (gv 3)) a0)) a0))))
 (sq (zT 8 (xu (aC (op2 VR (cst (.int 0)) (op2 ixD (gv 7) (cst (.int 0)))) (aC (op2 ixD (gv 7) (cst (.int 1))) a0))))
 (siS 1 (gv 6) (yo (zU 1 [1,5,6,8] (yW (aC (zf yl (aC (gv 5) a0)) a0)) (bN 0) (zf xG (aC (op2 ixD (op2 ixD (gb 1) (gv 3)) (gv 0)) (aC (zf yC (aC (gv 4) (aC (op2 ixD (gv 2) (gv 0)) a0))) a0)))))))) s0))
 (zT 2 (op2 xN (gv 2) (cst (.int 1))))))) s0)))
 (retS (gv 2)))))
def uS:LPx:=fnF 9 1 Zk
def J6:RFx:=(sq (ifS (zB (op2 eqD (zf yl (aC (gv 0) a0)) (cst (.int 0)))) (retS (op2 eqD (zf yl (aC (yo (uH 1 [] (yw (gv 1)) (bN 0) (zB (op2 neD (op2 ixD (gv 0) (cst (.int 0))) (cst (.int 0)))) (gv 0))) a0)) (cst (.int 0)))) s0)
 (retS (op2 eqD (zf uS (aC (yo (zlD zgF (gv 0) (yo (vo (aC (gv 1) a0))))) a0)) (zf uS (aC (gv 0) a0)))))
def y0:LPx:=fnF 2 2 J6
def YG:RFx:=(sq (zT 2 (zf yk (aC (yo (zU 1 [] (yw (op2 ixD (gv 1) (cst (.int 2)))) (bN 0) (xu (aC (op2 VR (cst (.int 0)) (op2 ixD (gv 0) (cst (.int 0)))) (aC (op2 ixD (gv 0) (cst (.int 1))) a0))))) a0)))
 (retS (zf xS (aC (gv 0) (aC (xu (aC (op2 ixD (gv 1) (cst (.int 0))) (aC (op2 ixD (gv 1) (cst (.int 1))) (aC (gv 2) a0)))) a0)))))
def uU:LPx:=fnF 3 2 YG
def Wv:RFx:=(sq (zT 3 (zf uU (aC (gv 0) (aC (gv 1) a0))))
 (sq (x5 4 (zU 1 [] (yw (gv 2)) (bN 0) (yo (yQ ju (aC (gv 0) a0)))))
 (sq (ifS (ZK (zB (Wk y0 (aC (gb 4) (aC (yo (yQ ju (aC (op2 ixD (gv 3) (cst (.int 0))) a0))) a0))))) (retS (cst (.bool false))) s0)
 (sq (frS 4 (jw (yw (gv 4)) (bN 5) (sq (ifS (zB (op2 neD (op2 ixD (zf jT (aC (gv 5) (aC (op2 ixD (gv 3) (cst (.int 2))) a0))) (cst (.int 0))) (cst (.int 0)))) (retS (cst (.bool false))) s0)
 (jw (yw (op2 ixD (gv 3) (cst (.int 1)))) (bN 6) (ifS (ZK (zB (zf y0 (aC (gv 4) (aC (yo (yQ vi (aC (gv 5) (aC (gv 6) a0)))) a0))))) (retS (cst (.bool false))) s0)))))
 (retS (cst (.bool true)))))))
def wF:LPx:=fnF 7 3 Wv
end L2.Fu
namespace L2.Fu
open PySem WS WD WD.DT
open PySem.Builtin.Int (intBits)
def zmy{a b:Nat}{q r:Rat}(hq:Bq a q)(hr:Bq b r):Bq (a+b) (q*r):=by
 have e:q*r=Rat.divInt (q.num*r.num) ((q.den:Int)*(r.den:Int)):=(Vz q r).symm;have hd:=zd3 q r
 rw[e];exact⟨kZ (zh9 _ _) (ng hq.n hr.n),kZ (zk5 hd) (ng hq.d hr.d)⟩
def zdR{a b:Nat}{q r:Rat}(hq:Bq a q)(hr:Bq b r)(h:a+b<=8999):xG [fr q,fr r]=some (fr (q+r)):=by
 refine ya rfl (zO ?_);have e1:op2 yR (op2 ixD (gv 0) (cst (.int 0))) (op2 ixD (gv 1) (cst (.int 1))) [.pu (fr q),.pu (fr r)]=some (.int (q.num*(r.den:Int))):=(zc (ix0 q) (ix1 r)).trans (xk (jG hq.n hr.d (by omega)));have e2:op2 yR (op2 ixD (gv 1) (cst (.int 0))) (op2 ixD (gv 0) (cst (.int 1))) [.pu (fr q),.pu (fr r)]=some (.int (r.num*(q.den:Int))):=(zc (ix0 r) (ix1 q)).trans (xk (jG hr.n hq.d (by omega)))
 have e3:op2 yR (op2 ixD (gv 0) (cst (.int 1))) (op2 ixD (gv 1) (cst (.int 1))) [.pu (fr q),.pu (fr r)]=some (.int ((q.den:Int)*(r.den:Int))):=(zc (ix1 q) (ix1 r)).trans (xk (jG hq.d hr.d (by omega)));refine(zd (zk ((zc e1 e2).trans rfl) (zk e3 rfl))).trans ?_;rw[wy (vE q r) (qw (ng hq.d hr.d) h),zbM]
def Wq{a b:Nat}{q r:Rat}(hq:Bq a q)(hr:Bq b r)(h:a+b<=8999):yC [fr q,fr r]=some (fr (q*r)):=by
 refine ya rfl (zO ?_);have e1:op2 yR (op2 ixD (gv 0) (cst (.int 0))) (op2 ixD (gv 1) (cst (.int 0))) [.pu (fr q),.pu (fr r)]=some (.int (q.num*r.num)):=(zc (ix0 q) (ix0 r)).trans (xk (jG hq.n hr.n (by omega)));have e3:op2 yR (op2 ixD (gv 0) (cst (.int 1))) (op2 ixD (gv 1) (cst (.int 1))) [.pu (fr q),.pu (fr r)]=some (.int ((q.den:Int)*(r.den:Int))):=(zc (ix1 q) (ix1 r)).trans (xk (jG hq.d hr.d (by omega)))
 refine(zd (zk e1 (zk e3 rfl))).trans ?_;rw[wy (vE q r) (qw (ng hq.d hr.d) h),Vz]
def zap{q:Rat}(h:q≠0):(q⁻¹).num=(if q.num<0 then -(q.den:Int) else (q.den:Int))/\(q⁻¹).den=q.num.natAbs:=by
 have h0:q.num≠0:=λe=>h (mN.mp e)
 show(Rat.inv q).num=_/\(Rat.inv q).den=_
 unfold Rat.inv;by_cases z:q.num<0
 ·rw[dif_pos z,qf z];exact⟨rfl,rfl⟩
 ·rw[dif_neg z,dif_pos (by omega),qq z];exact⟨rfl,rfl⟩
def zkX{q:Rat}(h:q≠0):wc [fr q]=some (fr q⁻¹):=by
 have⟨e1,e2⟩:=zap h;have h0:q.num≠0:=λe=>h (mN.mp e)
 have e3:fr q⁻¹=.tuple [.int (if q.num<0 then -(q.den:Int) else (q.den:Int)),.int (q.num.natAbs:Int)]:=by unfold fr;rw[e1,e2]
 rw[e3];have et:zB (op2 ltI (op2 ixD (gv 0) (cst (.int 0))) (cst (.int 0))) [.pu (fr q)]=some (decide (q.num<0)):=zE ((zc (ix0 q) rfl).trans rfl);refine ya rfl ?_;by_cases z:q.num<0
 ·refine Y1 ((vb (et.trans (by rw[qB z]))).trans (zO ?_));refine(jY (zk ((zc rfl (ix1 q)).trans rfl) (zk ((zc rfl (ix0 q)).trans rfl) rfl)) (by show 2<=16777216;omega)).trans ?_;rw[qf z];congr 4
  ·omega
  ·congr 1;congr 1;omega
 ·refine(zy ((jD (et.trans (by rw[qI z]))).trans rfl)).trans (zO ?_);refine(jY (zk (ix1 q) (zk (ix0 q) rfl)) (by show 2<=16777216;omega)).trans ?_;rw[qq z];congr 4;congr 1;omega
def zj7{a:Nat}{q:Rat}(hq:Bq a q)(h:q≠0):Bq a q⁻¹:=by
 have⟨e1,e2⟩:=zap h;refine⟨?_,?_⟩
 ·rw[e1];refine kZ (y:=(q.den:Int)) ?_ hq.d;split<;>simp
 ·rw[e2];exact kZ (y:=q.num) (by simp) hq.n
def zkr{ρ:Ro}{i:Nat}{q:Rat}(h:gv i ρ=some (fr q)):xu (aC (op2 VR (cst (.int 0)) (op2 ixD (gv i) (cst (.int 0)))) (aC (op2 ixD (gv i) (cst (.int 1))) a0)) ρ=some (fr (-q)):=by
 refine(jY (zk ((zc rfl ((zc h rfl).trans (ix0 q))).trans rfl) (zk ((zc h rfl).trans (ix1 q)) rfl)) (by show 2<=16777216;omega)).trans ?_;unfold fr;rw[Rat.neg_num,Rat.neg_den];congr 4;omega
def zj8{a:Nat}{q:Rat}(hq:Bq a q):Bq a (-q):=⟨by rw[Rat.neg_num];exact kZ (y:=q.num) (by simp) hq.n,by rw[Rat.neg_den];exact hq.d⟩
theorem Y2{α:Type}{h:PyData->Option (Option PyData)}{e:α->PyData}{p:α->Bool}:∀{xs:List α},(∀x∈xs,h (e x)=some (if p x then some (e x) else none))->wH h (xs.map e)=some ((xs.filter p).map e)
 |[],_=>rfl
 |x::xs,q=>by
  show(h (e x)).bind _=_
  rw[q x (.head _),qk,Y2 λy hy=>q y (.tail _ hy),List.filter_cons];by_cases z:p x=true
  ·rw[qf z,qf z];rfl
  ·rw[qq z,qq z];rfl
theorem Wo(k:Nat):∀Q:List (Nat->Rat),((List.range Q.length).filter (λi=>decide ((Q.getD i λ_=>0) k≠0))=[]/\pick k Q=none)\/∃i r q,(List.range Q.length).filter (λi=>decide ((Q.getD i λ_=>0) k≠0))=i::r/\Q[i]?=some q/\pick k Q=some (q,Q.eraseIdx i)
 |[]=>.inl ⟨rfl,rfl⟩
 |q::Q=>by
  have e:(List.range (q::Q).length).filter (λi=>decide (((q::Q).getD i λ_=>0) k≠0))=(if decide (q k≠0)=true then [0] else [])++((List.range Q.length).filter (λi=>decide ((Q.getD i λ_=>0) k≠0))).map Nat.succ:=by
   rw[qS,List.range_succ_eq_map,List.filter_cons,List.filter_map];by_cases z:q k≠0
   ·rw[qf (show decide (((q::Q).getD 0 λ_=>0) k≠0)=true from qB z),qf (qB z)];rfl
   ·rw[qq (show ¬decide (((q::Q).getD 0 λ_=>0) k≠0)=true from λw=>z (mz w)),qq λw=>z (mz w)];rfl
  rw[e];by_cases z:q k≠0
  ·refine .inr ⟨0,_,q,by rw[qf (qB z)];rfl,rfl,?_⟩;unfold pick;rw[qf z];rfl
  ·rw[qq λw=>z (mz w),pU];rcases Wo k Q with⟨h1,h2⟩|⟨i,r,q',h1,h2,h3⟩
   ·refine .inl ⟨by rw[h1];rfl,?_⟩;unfold pick;rw[qq z,h2];rfl
   ·refine .inr ⟨i+1,r.map Nat.succ,q',by rw[h1];rfl,by simpa using h2,?_⟩;unfold pick;rw[qq z,h3];rfl
def ziC{i j a:Nat}{g:RPx}{ρ:Ro}{ds:LPd}{d:PdX}(h1:ρ[j]?=some (.ow ds))(h2:g ρ=some (.int (a:Int)))(h3:ds[a]?=some d)(h4:ds.length<=16777216):zdT i j g ρ=some (.nx ((ρ.set j (.ow (ds.eraseIdx a))).set i (.pu d))):=by
 have hl:=(qm.mp h3).1;unfold zdT;rw[h1,h2];show(if 0<=(a:Int)/\(a:Int)<ds.length/\ds.length<=16777216 then _ else none)=_
 rw[qf ⟨by omega,by omega,h4⟩,kb,h3];rfl
def zem{i k:Nat}{fi f:RPx}{ρ:Ro}{ds:LPd}{d:PdX}(h1:gk i ρ=some ds)(h2:fi ρ=some (.int (k:Int)))(h3:f ρ=some d)(hk:k<1000)(hl:ds.length<16777216):inS i fi f ρ=some (.nx (ρ.set i (.ow (ds.take k++d::ds.drop k)))):=by
 unfold inS;rw[h1,qk,h2];show(f ρ).bind _=_
 rw[h3,qk,qf ⟨by omega,by omega,hl⟩,kb]
def zbJ{g:RLx}{ρ:Ro}{a b:Nat}(h:g ρ=some [.int (a:Int),.int (b:Int)])(ha:a<1000000)(hb:b<1000000):ui g ρ=some (jV a (b - a)):=by
 unfold ui;rw[h];show(if -(2 ^ 62)<=(a:Int)/\(a:Int)<2 ^ 62/\-(2 ^ 62)<=(b:Int)/\(b:Int)<2 ^ 62 then some (jV (a:Int) ((b:Int) - (a:Int)).toNat) else none)=_
 rw[qf ⟨by omega,by omega,by omega,by omega⟩,show((b:Int) - (a:Int)).toNat=b - a by omega]
abbrev zt(n:Nat)(Q:LQr):List PyData:=Q.map (yh n)
def zeJ{n a i:Nat}{Dn:LPd}{Q:LQr}{q:Q1x}(hD:Dn.length=a)(h:Q[i]?=some q):(Dn++zt n Q)[a+i]?=some (yh n q):=by
 rw[qx (by omega),qo,show a+i - Dn.length=i by omega,h];rfl
def JR{ds:LPd}{a:Nat}{d:PdX}(h:ds[a]?=some d):ixD (.list ds) (.int (a:Int))=some d:=U1 h
theorem Y5{α β:Type}(f:α->β):∀(l:List α)(i:Nat),(l.map f).eraseIdx i=(l.eraseIdx i).map f
 |[],_=>rfl
 |_::_,0=>rfl
 |a::l,i+1=>qM (f a::·) (Y5 f l i)
def erase_left{n a i:Nat}{Dn:LPd}{Q:LQr}(hD:Dn.length=a):(Dn++zt n Q).eraseIdx (a+i)=Dn++zt n (Q.eraseIdx i):=by
 rw[pz (by omega),show a+i - Dn.length=i by omega,Y5]
abbrev lrB:RFx:=ifS (zB (op2 neD (op2 ixD (op2 ixD (op2 ixD (gb 1) (gv 6)) (gv 3)) (cst (.int 0))) (cst (.int 0)))) (sq (zT 7 (zf yC (aC (op2 ixD (op2 ixD (gb 1) (gv 6)) (gv 3)) (aC (zf wc (aC (op2 ixD (gv 5) (gv 3)) a0)) a0))))
 (sq (zT 8 (xu (aC (op2 VR (cst (.int 0)) (op2 ixD (gv 7) (cst (.int 0)))) (aC (op2 ixD (gv 7) (cst (.int 1))) a0))))
 (siS 1 (gv 6) (yo (zU 1 [1,5,6,8] (yW (aC (zf yl (aC (gv 5) a0)) a0)) (bN 0) (zf xG (aC (op2 ixD (op2 ixD (gb 1) (gv 3)) (gv 0)) (aC (zf yC (aC (gv 4) (aC (op2 ixD (gv 2) (gv 0)) a0))) a0)))))))) s0
def zit{b q:Q1x}{k:Nat}(h:q k=0):el b k q=q:=by
 funext y
 show q y - q k / b k*b y=q y
 rw[h,Rat.div_def,kC,kC];grind
def Vk{ρ:Ro}{f:RPx}{q:Rat}(h:f ρ=some (fr q)):zB (op2 neD (op2 ixD f (cst (.int 0))) (cst (.int 0))) ρ=some (decide (q≠0)):=by
 refine zE ((zc ((zc h rfl).trans (ix0 q)) rfl).trans ((vQ _ _).trans ?_));by_cases z:q=0
 ·subst z;rfl
 ·rw[qI (λe=>z (mN.mp e)),qB z];rfl
def zdW{n k a s:Nat}{Dn:LPd}{b:Q1x}{Q:LQr}{x0 x4:Sl}(hn:n<=42)(hk:k<n)(hb:b k≠0)(hD:Dn.length=a)(hl:a+Q.length<1000)(hs:3*s<=8999)(hB:∀x,x<n->Bq s (b x))(hQ:∀q∈Q,∀x,x<n->Bq s (q x))(hT:∀q∈Q,∀x,x<n->Bq (2*s) (q k*(b k)⁻¹*b x))(y6 y7 y8:Sl):∃o6 o7 o8,jw (ui (aC (op2 xN (gv 2) (cst (.int 1))) (aC (zf yl (aC (gb 1) a0)) a0))) (bN 6) lrB [x0,.ow (Dn++yh n b::zt n Q),.pu (zC a),.pu (zC k),x4,.pu (yh n b),y6,y7,y8]
   =some (.nx [x0,.ow (Dn++yh n b::zt n (Q.map (el b k))),.pu (zC a),.pu (zC k),x4,.pu (yh n b),o6,o7,o8]):=by
 have hlen:(Dn++yh n b::zt n Q).length=a+1+Q.length:=by rw[qy,qS,qe,hD];omega
 have hit:ui (aC (op2 xN (gv 2) (cst (.int 1))) (aC (zf yl (aC (gb 1) a0)) a0)) [x0,.ow (Dn++yh n b::zt n Q),.pu (zC a),.pu (zC k),x4,.pu (yh n b),y6,y7,y8]=some (jV ((a+1:Nat):Int) Q.length):=by
  refine(zbJ (a:=a+1) (b:=a+1+Q.length) (zk ((zc rfl rfl).trans rfl) (zk ((zd (zk rfl rfl)).trans ?_) rfl)) (by omega) (by omega)).trans ?_
  ·show some (PyData.int ((Dn++yh n b::zt n Q).length:Int))=_
   rw[hlen]
  ·rw[show a+1+Q.length - (a+1)=Q.length by omega]
 obtain⟨ρ',e,o6,o7,o8,rfl⟩:=UI (ds:=jV ((a+1:Nat):Int) Q.length) (it:=ui (aC (op2 xN (gv 2) (cst (.int 1))) (aC (zf yl (aC (gb 1) a0)) a0))) (bd:=bN 6) (b:=lrB)
  (ρ0:=[x0,.ow (Dn++yh n b::zt n Q),.pu (zC a),.pu (zC k),x4,.pu (yh n b),y6,y7,y8])
  (λj ρ=>∃o6 o7 o8,ρ=[x0,.ow (Dn++yh n b::(zt n ((Q.take j).map (el b k))++zt n (Q.drop j))),.pu (zC a),.pu (zC k),x4,.pu (yh n b),o6,o7,o8]) hit ⟨y6,y7,y8,by simp⟩
  (λj d ρ hd ⟨o6,o7,o8,e⟩=>by
   subst e;obtain⟨hj,rfl⟩:=Vs hd;obtain⟨q,hq⟩:∃q,Q[j]?=some q:=⟨_,qp hj⟩;have hqm:=qP hq;have hdrop:Q.drop j=q::Q.drop (j+1):=by
    rw[gG hj];rw[qp hj] at hq;cases hq;rfl
   have htake:(Q.take (j+1)).map (el b k)=(Q.take j).map (el b k)++[el b k q]:=by
    rw[mD,hq,qR];rfl
   generalize hL:Dn++yh n b::(zt n ((Q.take j).map (el b k))++zt n (Q.drop j))=left;have hix:left[a+1+j]?=some (yh n q):=by
    rw[<-hL,qx (by omega),show a+1+j - Dn.length=j+1 by omega,kY,qx (by rw[qe,qe,kR];omega),hdrop,qe,qe,kR,show j - min j Q.length=0 by omega];rfl
   have hset:left.set (a+1+j) (yh n (el b k q))=Dn++yh n b::(zt n ((Q.take (j+1)).map (el b k))++zt n (Q.drop (j+1))):=by
    rw[<-hL,List.set_append_right _ _ (by omega),show a+1+j - Dn.length=j+1 by omega,List.set_cons_succ,List.set_append_right _ _ (by rw[qe,qe,kR];omega),qe,qe,kR,show j - min j Q.length=0 by omega,hdrop,htake];show Dn++yh n b::(zt n ((Q.take j).map (el b k))++yh n (el b k q)::zt n (Q.drop (j+1)))=Dn++yh n b::((((Q.take j).map (el b k)++[el b k q]).map (yh n))++zt n (Q.drop (j+1)))
    rw[qR,kU];rfl
   have er:((a+1:Nat):Int)+(j:Int)=((a+1+j:Nat):Int):=by omega
   rw[er];have ex:∀z7 z8,op2 ixD (gb 1) (gv 6) [x0,.ow left,.pu (zC a),.pu (zC k),x4,.pu (yh n b),.pu (zC (a+1+j)),z7,z8]=some (yh n q):=λ_ _=>(zc rfl rfl).trans (JR hix)
   have exk:∀z7 z8,op2 ixD (op2 ixD (gb 1) (gv 6)) (gv 3) [x0,.ow left,.pu (zC a),.pu (zC k),x4,.pu (yh n b),.pu (zC (a+1+j)),z7,z8]=some (fr (q k)):=λz7 z8=>(zc (ex z7 z8) rfl).trans (UZ (t:=false) hk)
   suffices key:∃ρ2,lrB [x0,.ow left,.pu (zC a),.pu (zC k),x4,.pu (yh n b),.pu (zC (a+1+j)),o7,o8]=some (.nx ρ2)/\∃o6 o7 o8,ρ2=[x0,.ow (Dn++yh n b::(zt n ((Q.take (j+1)).map (el b k))++zt n (Q.drop (j+1)))),.pu (zC a),.pu (zC k),x4,.pu (yh n b),o6,o7,o8] by
    have⟨ρ2,k1,k2⟩:=key;exact⟨_,ρ2,rfl,k1,k2⟩
   by_cases z:q k=0
   ·refine⟨_,(jD ((Vk (exk o7 o8)).trans (by rw[qI λw=>w z]))).trans rfl,.pu (zC (a+1+j)),o7,o8,?_⟩;have hself:left.set (a+1+j) (yh n q)=left:=by
     obtain⟨h,e⟩:=qm.mp hix;rw[<-e,List.set_getElem_self]
    rw[<-hset,zit z,hself]
   ·have b1:=hQ q hqm;have bp:=zmy (b1 k hk) (zj7 (hB k hk) hb)
    have e7:zf yC (aC (op2 ixD (op2 ixD (gb 1) (gv 6)) (gv 3)) (aC (zf wc (aC (op2 ixD (gv 5) (gv 3)) a0)) a0)) [x0,.ow left,.pu (zC a),.pu (zC k),x4,.pu (yh n b),.pu (zC (a+1+j)),o7,o8]=some (fr (q k*(b k)⁻¹)):=(zd (zk (exk o7 o8) (zk ((zd (zk ((zc rfl rfl).trans (UZ (t:=false) hk)) rfl)).trans (zkX hb)) rfl))).trans (Wq (b1 k hk) (zj7 (hB k hk) hb) (by omega));refine⟨_,(vb ((Vk (exk o7 o8)).trans (by rw[qB z]))).trans ((zy (zG e7)).trans ((zy (zG (zkr (q:=q k*(b k)⁻¹) rfl))).trans (zbh (a:=a+1+j) (ds:=left) (d:=yh n (el b k q)) rfl (yc ?_) rfl (qm.mp hix).1))),.pu (zC (a+1+j)),.pu (fr (q k*(b k)⁻¹)),.pu (fr (-(q k*(b k)⁻¹))),?_⟩
    ·refine jO (n:=n) (zk ((zd rfl).trans (VQ false n b)) rfl) (by omega) λc hc=>?_
     refine(zd (zk ((zc ((zc (x:=.list left) (y:=zC (a+1+j)) rfl rfl).trans (JR hix)) rfl).trans (UZ (t:=false) hc)) (zk ((zd (zk (x:=fr (-(q k*(b k)⁻¹))) rfl (zk ((zc (x:=yh n b) (y:=zC c) rfl rfl).trans (UZ (t:=false) hc)) rfl))).trans (Wq (zj8 bp) (hB c hc) (by omega))) rfl))).trans ((zdR (b1 c hc) (by rw[show -(q k*(b k)⁻¹)*b c=-(q k*(b k)⁻¹*b c) by grind];exact zj8 (hT q hqm c hc)) (by omega)).trans ?_);refine qM (λt=>some (fr t)) ?_;show q c+-(q k*(b k)⁻¹)*b c=q c - q k / b k*b c
     rw[Rat.div_def];grind
    ·rw[<-hset];rfl)
 refine⟨o6,o7,o8,e.trans ?_⟩;rw[show(jV ((a+1:Nat):Int) Q.length).length=Q.length by simp[jV],hJ,mJ];simp
def zej{t:Rat}{z w:Int}(hz:z≠0)(e:t*(z:Rat)=(w:Rat)):InB z.natAbs w.natAbs t:=by
 by_cases h:0<=z
 ·refine⟨by omega,w,?_,qr _⟩;rw[<-e,<-Rat.intCast_natCast,Int.natAbs_of_nonneg h]
 ·refine⟨by omega,-w,?_,by rw[nU];exact qr _⟩
  have:((z.natAbs:Nat):Rat)=-(z:Rat):=by
   rw[<-Rat.intCast_natCast,<-Rat.intCast_neg];congr 1;omega
  rw[pP,<-e,this];grind
def zmb{n B X s:Nat}{Q:LQr}{R:LZr}{T F:LNt}{C:LZr}{d:Int}(h:Eb n B X Q R T F C d)(h1:X*(n*B) ^ R.length<2 ^ s)(h2:n*((n*(n*B) ^ R.length)*B)<2 ^ s){q:Q1x}(hq:q∈Q)(x:Nat)(hx:x<n):Bq s (q x):=by
 have⟨M,M0,MX,hM⟩:=h.num hq;have⟨S,e,hS⟩:=hM x hx;have d0:=h.sp.d0;have hp:0<M*d.natAbs:=pO M0 (by omega)
 have ib:InB (M*d.natAbs) S.natAbs (q x):=by
  have:=zej (z:=(M:Int)*d) (w:=S) (t:=q x) (mi (by omega) d0) (by rw[kf,kz];exact e);rwa [q9,kP] at this
 refine⟨jk (qN (qw ib.num hS) h2),jk ?_⟩;have h3:(q x).den<=M*d.natAbs:=gM hp ib.den;have h4:M*d.natAbs<=X*(n*B) ^ R.length:=ka MX h.dabs
 show((q x).den:Int).natAbs<2 ^ s
 rw[kP];omega
def zmd{n B X s k:Nat}{Q:LQr}{R:LZr}{T F:LNt}{C:LZr}{d:Int}(h:Eb n B X Q R T F C d)(h1:X*(n*B) ^ R.length<2 ^ s)(h2:n*((n*(n*B) ^ R.length)*B)<2 ^ s){q b:Q1x}(hq:q∈Q)(hb:b∈Q)(hk:k<n)(hbk:b k≠0)(x:Nat)(hx:x<n):Bq (2*s) (q k*(b k)⁻¹*b x):=by
 have⟨M1,p1,q1,hM1⟩:=h.num hq;have⟨M2,p2,q2,hM2⟩:=h.num hb;have⟨S1,e1,b1⟩:=hM1 k hk;have⟨S2,e2,b2⟩:=hM2 k hk;have⟨S3,e3,b3⟩:=hM2 x hx;have d0:=h.sp.d0;have hd:(d:Rat)≠0:=λz=>d0 (by exact_mod_cast z)
 have hS2:S2≠0:=λz=>by
  rw[z] at e2;rcases kH.mp (show b k*((M2:Rat)*(d:Rat))=0 from e2) with w|w
  ·exact hbk w
  ·rcases kH.mp w with w|w
   ·exact xV p2 w
   ·exact hd w
 have hi:=Rat.mul_inv_cancel _ hbk;have ib:=zej (z:=(M1:Int)*d*S2) (w:=S1*S3) (t:=q k*(b k)⁻¹*b x) (mi (mi (by omega) d0) hS2) (by
  rw[kf,kf,kf,kz,<-e1,<-e2,<-e3];generalize (M1:Rat)=m1;generalize (M2:Rat)=m2;generalize (d:Rat)=dd;grind)
 have hp:0<((M1:Int)*d*S2).natAbs:=ib.pos;have t2:2*s=s+s:=by omega
 refine⟨jk ?_,jk ?_⟩
 ·refine qN ib.num ?_;rw[q9,t2,gI];exact Nat.mul_lt_mul'' (qN b1 h2) (qN b3 h2)
 ·rw[kP];refine qN (gM hp ib.den) ?_;rw[q9,q9,kP,t2,gI];exact Nat.mul_lt_mul'' (qN (ka q1 h.dabs) h1) (qN b2 h2)
abbrev lrA:RFx:=sq (x5 4 (uH 1 [1,3] (ui (aC (gv 2) (aC (zf yl (aC (gb 1) a0)) a0))) (bN 0) (zB (op2 neD (op2 ixD (op2 ixD (op2 ixD (gb 1) (gv 0)) (gv 2)) (cst (.int 0))) (cst (.int 0)))) (gv 0)))
 (ifS (zB (op2 gtI (zf yl (aC (gb 4) a0)) (cst (.int 0)))) (sq (zdT 5 1 (op2 ixD (gb 4) (cst (.int 0))))
 (sq (inS 1 (gv 2) (gv 5))
 (sq (jw (ui (aC (op2 xN (gv 2) (cst (.int 1))) (aC (zf yl (aC (gb 1) a0)) a0))) (bN 6) lrB)
 (zT 2 (op2 xN (gv 2) (cst (.int 1))))))) s0)
def LS(n B X:Nat)(L:LQr)(x0:Sl)(k:Nat)(ρ:Ro):Prop:=∃(Dn:LPd)(Q:LQr)(R:LZr)(T F:LNt)(C:LZr)(d:Int)(o3 o4 o5 o6 o7 o8:Sl),ρ=[x0,.ow (Dn++zt n Q),.pu (zC Dn.length),o3,o4,o5,o6,o7,o8]/\Dn.length+Q.length=L.length/\Eb n B X Q R T F C d/\R.length=Dn.length/\rk (n - k) k Q+Dn.length=rk n 0 L
def zdr{n B X s k:Nat}{L:LQr}{x0:Sl}(hn:n<=42)(hk:k<n)(hl:L.length<500)(hs:3*s<=8999)(hz:∀j,j<=L.length->j<=n->X*(n*B) ^ j<2 ^ s/\n*((n*(n*B) ^ j)*B)<2 ^ s){ρ:Ro}(h:LS n B X L x0 k ρ):∃ρ2,lrA (ρ.set 3 (.pu (zC k)))=some (.nx ρ2)/\LS n B X L x0 (k+1) ρ2:=by
 obtain⟨Dn,Q,R,T,F,C,d,o3,o4,o5,o6,o7,o8,rfl,hlen,eb,hR,hrk⟩:=h;show ∃ρ2,lrA [x0,.ow (Dn++zt n Q),.pu (zC Dn.length),.pu (zC k),o4,o5,o6,o7,o8]=some (.nx ρ2)/\_
 have hzR:=hz R.length (by omega) eb.znf;have bq:∀q∈Q,∀x,x<n->Bq s (q x):=λq hq x hx=>zmb eb hzR.1 hzR.2 hq x hx
 have hleft:(Dn++zt n Q).length=Dn.length+Q.length:=by rw[qy,qe]
 have hat:uH 1 [1,3] (ui (aC (gv 2) (aC (zf yl (aC (gb 1) a0)) a0))) (bN 0) (zB (op2 neD (op2 ixD (op2 ixD (op2 ixD (gb 1) (gv 0)) (gv 2)) (cst (.int 0))) (cst (.int 0)))) (gv 0) [x0,.ow (Dn++zt n Q),.pu (zC Dn.length),.pu (zC k),o4,o5,o6,o7,o8]
   =some (((List.range Q.length).filter (λi=>decide ((Q.getD i λ_=>0) k≠0))).map λi:Nat=>PyData.int ((Dn.length:Int)+(i:Int))):=by
  have hr:ui (aC (gv 2) (aC (zf yl (aC (gb 1) a0)) a0)) [x0,.ow (Dn++zt n Q),.pu (zC Dn.length),.pu (zC k),o4,o5,o6,o7,o8]=some (jV (Dn.length:Int) Q.length):=by
   refine(zbJ (a:=Dn.length) (b:=Dn.length+Q.length) (zk rfl (zk ((zd (zk rfl rfl)).trans ?_) rfl)) (by omega) (by omega)).trans (by rw[ba]);show some (PyData.int ((Dn++zt n Q).length:Int))=_
   rw[hleft]
  unfold uH;rw[hr,qk,qf (by simp[jV];omega)];refine Y2 (e:=λi:Nat=>PyData.int ((Dn.length:Int)+(i:Int))) λi hi=>?_
  have hi:=qL.mp hi;obtain⟨q,hq⟩:∃q,Q[i]?=some q:=⟨_,qp hi⟩;have hg:Q.getD i (λ_=>0)=q:=by rw[kv,hq];rfl
  rw[show(Dn.length:Int)+(i:Int)=((Dn.length+i:Nat):Int) by omega];show((zB (op2 neD (op2 ixD (op2 ixD (op2 ixD (gb 1) (gv 0)) (gv 2)) (cst (.int 0))) (cst (.int 0)))) [.pu (zC (Dn.length+i)),.ow (Dn++zt n Q),.pu (zC k)]).bind _=_
  rw[Vk (q:=q k) ((zc ((zc rfl rfl).trans (JR (zeJ rfl hq))) rfl).trans (UZ (t:=false) hk)),qk,hg];by_cases z:decide (q k≠0)=true
  ·rw[qf z,qf z];rfl
  ·rw[qq z,qq z]
 have hkk:n - k=(n - (k+1))+1:=by omega
 rcases Wo k Q with⟨h1,h2⟩|⟨i,rest,q,h1,h2,h3⟩
 ·refine⟨_,(zy (yO hat)).trans ((jD ?_).trans rfl),Dn,Q,R,T,F,C,d,.pu (zC k),.ow [],o5,o6,o7,o8,?_,hlen,eb,hR,?_⟩
  ·rw[h1];exact zE rfl
  ·rw[h1];rfl
  ·rw[<-hrk,hkk];show _=(match pick k Q with |none=>rk (n - (k+1)) (k+1) Q|some p=>1+rk (n - (k+1)) (k+1) (p.2.map (el p.1 k)))+_
   rw[h2]
 ·have hi:i<Q.length:=(qm.mp h2).1;have hqm:=qP h2
  have⟨hb,_⟩:=uA h3;have⟨R',T',F',C',d',eb',hR'⟩:=eb.step hk h3;have hel:(Q.eraseIdx i).length=Q.length - 1:=by rw[gZ,qf hi]
  have qs:∀q'∈Q.eraseIdx i,∀x,x<n->Bq s (q' x):=λq' hq'=>bq q' (gq hq')
  generalize hA:((List.range Q.length).filter (λi=>decide ((Q.getD i λ_=>0) k≠0))).map (λi:Nat=>PyData.int ((Dn.length:Int)+(i:Int)))=atD at hat;have hA0:atD=zC (Dn.length+i)::rest.map (λi:Nat=>PyData.int ((Dn.length:Int)+(i:Int))):=by
   rw[<-hA,h1];show PyData.int ((Dn.length:Int)+(i:Int))::_=_
   rw[show(Dn.length:Int)+(i:Int)=((Dn.length+i:Nat):Int) by omega]
  obtain⟨z6,z7,z8,el⟩:=zdW (n:=n) (k:=k) (a:=Dn.length) (s:=s) (Dn:=Dn) (b:=q) (Q:=Q.eraseIdx i) (x0:=x0) (x4:=.ow atD) hn hk hb rfl (by omega) hs (bq q hqm) qs (λq' hq' x hx=>zmd eb hzR.1 hzR.2 (gq hq') hqm hk hb x hx) o6 o7 o8;have e1:zB (op2 gtI (zf yl (aC (gb 4) a0)) (cst (.int 0))) [x0,.ow (Dn++zt n Q),.pu (zC Dn.length),.pu (zC k),.ow atD,o5,o6,o7,o8]=some true:=by
   refine zE ((zc (x:=.int (atD.length:Int)) rfl rfl).trans ?_);show some (PyData.bool (decide ((0:Int)<(atD.length:Int))))=_
   rw[qB (by rw[hA0,qS];omega)]
  have e2:zdT 5 1 (op2 ixD (gb 4) (cst (.int 0))) [x0,.ow (Dn++zt n Q),.pu (zC Dn.length),.pu (zC k),.ow atD,o5,o6,o7,o8]=some (.nx [x0,.ow (Dn++zt n (Q.eraseIdx i)),.pu (zC Dn.length),.pu (zC k),.ow atD,.pu (yh n q),o6,o7,o8]):=by
   refine(ziC (a:=Dn.length+i) (ds:=Dn++zt n Q) (d:=yh n q) rfl ?_ (zeJ rfl h2) (by omega)).trans ?_
   ·refine(zc (x:=.list atD) rfl rfl).trans ?_;rw[hA0];exact JR (a:=0) rfl
   ·rw[erase_left rfl];rfl
  have e3:inS 1 (gv 2) (gv 5) [x0,.ow (Dn++zt n (Q.eraseIdx i)),.pu (zC Dn.length),.pu (zC k),.ow atD,.pu (yh n q),o6,o7,o8]=some (.nx [x0,.ow (Dn++yh n q::zt n (Q.eraseIdx i)),.pu (zC Dn.length),.pu (zC k),.ow atD,.pu (yh n q),o6,o7,o8]):=by
   refine(zem (k:=Dn.length) (ds:=Dn++zt n (Q.eraseIdx i)) (d:=yh n q) rfl rfl rfl (by omega) (by rw[qy,qe];omega)).trans ?_;rw[List.take_left' rfl,List.drop_left' rfl];rfl
  refine⟨[x0,.ow (Dn++yh n q::zt n ((Q.eraseIdx i).map (WD.DT.el q k))),.pu (zC (Dn.length+1)),.pu (zC k),.ow atD,.pu (yh n q),z6,z7,z8],(zy (yO hat)).trans ((vb e1).trans ((zy e2).trans ((zy e3).trans ((zy el).trans (zG (d:=zC (Dn.length+1)) rfl))))),?_⟩
  ·refine⟨Dn++[yh n q],(Q.eraseIdx i).map (WD.DT.el q k),R',T',F',C',d',.pu (zC k),.ow atD,.pu (yh n q),z6,z7,z8,?_,?_,eb',?_,?_⟩
   ·rw[kU,qy];rfl
   ·rw[qy,qe,kM];omega
   ·rw[hR',hR,qy];rfl
   ·rw[<-hrk,hkk,qy,kM];show _=(match pick k Q with |none=>rk (n - (k+1)) (k+1) Q|some p=>1+rk (n - (k+1)) (k+1) (p.2.map (WD.DT.el p.1 k)))+_
    rw[h3];show _=1+rk (n - (k+1)) (k+1) ((Q.eraseIdx i).map (WD.DT.el q k))+_
    omega
theorem zg6:∀m k,rk m k []=0
 |0,_=>rfl
 |m+1,k=>zg6 m (k+1)
structure Rb(n B X s:Nat)(L:LQr):Prop where
 ex:∀q∈L,∃(l:Z1x)(M:Nat),0<M/\M<=X/\∀x,x<n->(l x).natAbs<=B/\(l x:Rat)=(M:Rat)*q x
 hl:L.length<500
 hs:3*s<=8999
 hz:∀j,j<=L.length->j<=n->X*(n*B) ^ j<2 ^ s/\n*((n*(n*B) ^ j)*B)<2 ^ s
def Ww{n B X s:Nat}{L:LQr}(hn:n<=42)(h:Rb n B X s L):uS [.list (zt n L)]=some (zC (rk n 0 L)):=by
 have hl:=h.hl;have e1:zU 1 [] (yw (gv 0)) (bN 0) (yo (yQ ju (aC (gv 0) a0))) [.pu (.list (zt n L)),.no,.no,.no,.no,.no,.no,.no,.no]=some (zt n L):=yf (xs:=L) (e:=yh n) (jK rfl) (by omega) λq _=>yG.trans rfl
 have start:LS n B X L (.pu (.list (zt n L))) 0 [.pu (.list (zt n L)),.ow (zt n L),.pu (zC 0),.no,.no,.no,.no,.no,.no]:=⟨[],L,[],[],List.range n,(List.range n).map xB,1,.no,.no,.no,.no,.no,.no,rfl,by simp,zkz h.ex,rfl,rfl⟩;have hit:∃w,(w=n\/L=[])/\yW (aC (ifE (zB (op2 gtI (zf yl (aC (gb 1) a0)) (cst (.int 0)))) (zf yl (aC (op2 ixD (gb 1) (cst (.int 0))) a0)) (cst (.int 0))) a0) [.pu (.list (zt n L)),.ow (zt n L),.pu (zC 0),.no,.no,.no,.no,.no,.no]=some (jV 0 w)/\w<=n:=by
  cases L with
  |nil=>exact⟨0,.inr rfl,UP (n:=0) (zk ((zko (zE rfl)).trans rfl) rfl) (by omega),kE _⟩
  |cons q L=>
   refine⟨n,.inl rfl,UP (n:=n) (zk ((zkf (zE ((zc (x:=.int ((zt n (q::L)).length:Int)) rfl rfl).trans ?_))).trans ((zd (zk ((zc rfl rfl).trans (JR (a:=0) (d:=yh n q) rfl)) rfl)).trans (VQ false n q))) rfl) (by omega),qr _⟩;show some (PyData.bool (decide ((0:Int)<((zt n (q::L)).length:Int))))=_
   rw[qB (by rw[qe,qS];omega)]
 obtain⟨w,hw,hit,hwn⟩:=hit;obtain⟨ρ',e2,P⟩:=UI (ds:=jV 0 w) (it:=yW (aC (ifE (zB (op2 gtI (zf yl (aC (gb 1) a0)) (cst (.int 0)))) (zf yl (aC (op2 ixD (gb 1) (cst (.int 0))) a0)) (cst (.int 0))) a0)) (bd:=bN 3) (b:=lrA)
  (ρ0:=[.pu (.list (zt n L)),.ow (zt n L),.pu (zC 0),.no,.no,.no,.no,.no,.no]) (λk ρ=>LS n B X L (.pu (.list (zt n L))) k ρ) hit start λk d ρ hd hP=>by
   obtain⟨hk,rfl⟩:=Vs hd;obtain⟨ρ2,a1,a2⟩:=zdr hn (show k<n by omega) hl h.hs h.hz hP;refine⟨ρ.set 3 (.pu (zC k)),ρ2,?_,a1,a2⟩;rw[show(0:Int)+(k:Int)=(k:Int) by omega];rfl
 rw[show(jV 0 w).length=w by simp[jV]] at P;obtain⟨Dn,Q,R,T,F,C,d,o3,o4,o5,o6,o7,o8,rfl,hlen,_,_,hrk⟩:=P;have hfin:Dn.length=rk n 0 L:=by
  rcases hw with rfl|rfl
  ·rw[gA] at hrk;rw[<-hrk];show _=0+_
   omega
  ·rw[zg6]
   have:Dn.length+Q.length=0:=hlen;omega
 refine ya rfl ?_;refine(zy (yO e1)).trans ((zy (ρ':=[.pu (.list (zt n L)),.ow (zt n L),.pu (zC 0),.no,.no,.no,.no,.no,.no]) rfl).trans ((zy e2).trans (zO ?_)));rw[<-hfin];rfl
def zjb{n:Nat}{x:Q1x}:InQ n [] x↔∀y,y<n->x y=0:=by
 constructor
 ·intro h y hy
  have:=h (λz=>if z=y then 1 else 0) λl hl=>by cases hl
  have e:dq n (λz=>if z=y then 1 else 0) x=x y:=by
   show sumTo n (λz=>(if z=y then (1:Rat) else 0)*x z)=x y
   rw[wd _ n hy λz _ hne=>by rw[qq hne,kC],qf rfl,Rat.one_mul]
  rw[e] at this;exact this
 ·intro h w _;show sumTo n (λz=>w z*x z)=0
  rw[zm n (g:=λ_=>0) λz hz=>by rw[h z hz,gp],xr]
def JF{n B X s:Nat}{L:LQr}{x:Q1x}(hn:n<=42)(h:Rb n B X s (L++[x]))(h':Rb n B X s L):∃b:Bool,y0 [.list (zt n L),yh n x]=some (.bool b)/\(b=true↔InQ n L x):=by
 have hl:=h'.hl;have et:zB (op2 eqD (zf yl (aC (gv 0) a0)) (cst (.int 0))) [.pu (.list (zt n L)),.pu (yh n x)]=some (decide (L=[])):=by
  refine zE ((zc (x:=.int ((zt n L).length:Int)) rfl rfl).trans ((xU _ _).trans ?_));rw[qe];refine qM (λb=>some (PyData.bool b)) (kB.mpr ?_);constructor
  ·intro e;exact mr.mp (by omega)
  ·intro e;rw[e];rfl
 by_cases hL:L=[]
 ·subst hL;have hc:uH 1 [] (yw (gv 1)) (bN 0) (zB (op2 neD (op2 ixD (gv 0) (cst (.int 0))) (cst (.int 0)))) (gv 0) [.pu (.list (zt n [])),.pu (yh n x)]=some (((List.range n).filter λi=>decide (x i≠0)).map λi=>fr (x i)):=by
   unfold uH;rw[show yw (gv 1) [.pu (.list (zt n [])),.pu (yh n x)]=some ((List.range n).map λi=>fr (x i)) from jK rfl,qk,qf (by rw[qe,qA];omega)];refine Y2 (e:=λi:Nat=>fr (x i)) λi _=>?_
   show((zB (op2 neD (op2 ixD (gv 0) (cst (.int 0))) (cst (.int 0)))) [.pu (fr (x i))]).bind (λok=>if ok=true then Option.map some (gv 0 [.pu (fr (x i))]) else some none)=_
   rw[Vk (q:=x i) rfl,qk];by_cases z:decide (x i≠0)=true
   ·rw[qf z,qf z];rfl
   ·rw[qq z,qq z]
  refine⟨_,ya rfl (Y1 ((vb (et.trans (by rw[qB rfl]))).trans (zO ((zc ((zd (zk (yc hc) rfl)).trans rfl) rfl).trans (xU _ _))))),?_⟩;rw[qe,zjb,pk];constructor
  ·intro e y hy;have e2:(List.range n).filter (λi=>decide (x i≠0))=[]:=mr.mp (by omega)
   have:=List.filter_eq_nil_iff.mp e2 y (qL.mpr hy);exact Classical.not_not.mp λz=>this (qB z)
  ·intro e;rw[List.filter_eq_nil_iff.mpr λy hy=>by rw[e y (qL.mp hy)];simp];rfl
 ·have ec:zlD zgF (gv 0) (yo (vo (aC (gv 1) a0))) [.pu (.list (zt n L)),.pu (yh n x)]=some (zt n (L++[x])):=by
   show zgF (.list (zt n L)) (.list [yh n x])=_
   show(if (zt n L).length+[yh n x].length<=16777216 then some (zt n L++[yh n x]) else none)=_
   rw[qf (by rw[qe,kM];omega),show zt n (L++[x])=zt n L++[yh n x] from qR]
  refine⟨_,ya rfl ((zy ((jD (et.trans (by rw[qI hL]))).trans rfl)).trans (zO ((zc ((zd (zk (yc ec) rfl)).trans (Ww hn h)) ((zd rfl).trans (Ww hn h'))).trans (xU _ _)))),?_⟩;rw[<-zfv (n:=n) L x,pk];omega
theorem zcH{bd:PyData->Ro->Option Ro}{b:RFx}{d:PdX}(P:Ro->Prop):∀{ds:LPd} {ρ0:Ro} (p:Nat->Prop),P ρ0->
  (∀i dd ρ,ds[i]?=some dd->P ρ->∃ρ1,bd dd ρ=some ρ1/\((p i/\∃ρ2,b ρ1=some (.nx ρ2)/\P ρ2)\/(¬p i/\b ρ1=some (.rt d))))->
  ((∀i,i<ds.length->p i)/\∃ρ',Y6 bd b ds ρ0=some (.nx ρ')/\P ρ')\/((¬∀i,i<ds.length->p i)/\Y6 bd b ds ρ0=some (.rt d))
 |[],ρ0,p,h0,_=>.inl ⟨λi hi=>absurd hi (kX i),ρ0,rfl,h0⟩
 |dd::r,ρ0,p,h0,h=>by
  have⟨ρ1,e1,q⟩:=h 0 dd ρ0 rfl h0;rcases q with⟨hp,ρ2,e2,hP⟩|⟨hp,e2⟩
  ·have st:Y6 bd b (dd::r) ρ0=Y6 bd b r ρ2:=by
    show(bd dd ρ0).bind _=_
    rw[e1,qk,e2]
   rcases zcH P (ds:=r) (ρ0:=ρ2) (λi=>p (i+1)) hP λi d' ρ e q=>h (i+1) d' ρ (by simpa using e) q with⟨a1,ρ',a2,a3⟩|⟨a1,a2⟩
   ·refine .inl ⟨λi hi=>?_,ρ',st.trans a2,a3⟩;cases i with
    |zero=>exact hp
    |succ i=>exact a1 i (by simpa using hi)
   ·exact .inr ⟨λz=>a1 λi hi=>z (i+1) (by simpa using hi),st.trans a2⟩
  ·refine .inr ⟨λz=>hp (z 0 (by simp)),?_⟩;show(bd dd ρ0).bind _=_
   rw[e1,qk,e2]
def zb0{it:RLx}{bd:PyData->Ro->Option Ro}{b:RFx}{ds:LPd}{ρ0:Ro}{d:PdX}(P:Ro->Prop)(p:Nat->Prop)(hi:it ρ0=some ds)(h0:P ρ0)(h:∀i dd ρ,ds[i]?=some dd->P ρ->∃ρ1,bd dd ρ=some ρ1/\((p i/\∃ρ2,b ρ1=some (.nx ρ2)/\P ρ2)\/(¬p i/\b ρ1=some (.rt d)))):((∀i,i<ds.length->p i)/\∃ρ',jw it bd b ρ0=some (.nx ρ')/\P ρ')\/((¬∀i,i<ds.length->p i)/\jw it bd b ρ0=some (.rt d)):=by
 have e:jw it bd b ρ0=Y6 bd b ds ρ0:=by
  unfold jw;rw[hi];rfl
 rw[e];exact zcH P p h0 h
section
variable{n m s:Nat}{fi gi la lb:Q1x}{st su:Q3x}
def zcJ(hn:n<=42)(hm:m<=42)(hs:s<=42):uU [zv n s fi st la,zv m s gi su lb]=some (zv (n+m) s (jn n fi gi) (jo n st su) (jn n la λi=>-(lb i))):=by
 refine ya rfl ((zy (zG (d:=yE m λi=>-(lb i)) ?_)).trans (zO ?_))
 ·refine(zd (xs:=[.list ((List.range m).map λi=>fr (-(lb i)))]) (zk (yc (yf (xs:=List.range m) (e:=λi=>fr (lb i)) (we ((zc rfl rfl).trans JC)) (by rw[qA];omega) λi _=>yG.trans (zkr (i:=0) rfl))) rfl)).trans rfl
 ·exact(zd (zk rfl (zk ((WB ((zc rfl rfl).trans jM) ((zc rfl rfl).trans vM) rfl).trans rfl) rfl))).trans (wV hn hm hs)
end
def Ex(n B X:Nat)(q:Q1x):Prop:=∃(l:Z1x)(M:Nat),0<M/\M<=X/\∀x,x<n->(l x).natAbs<=B/\(l x:Rat)=(M:Rat)*q x
structure Rz(n B X s len:Nat):Prop where
 hl:len+1<500
 hs:3*s<=8999
 hz:∀j,j<=len+1->j<=n->X*(n*B) ^ j<2 ^ s/\n*((n*(n*B) ^ j)*B)<2 ^ s
def Rz.rb{n B X s:Nat}{L:LQr}(h:Rz n B X s L.length)(hL:∀q∈L,Ex n B X q):Rb n B X s L:=⟨hL,by have:=h.hl;omega,h.hs,λj hj hn=>h.hz j (by omega) hn⟩
def Rz.rb1{n B X s:Nat}{L:LQr}{x:Q1x}(h:Rz n B X s L.length)(hL:∀q∈L,Ex n B X q)(hx:Ex n B X x):Rb n B X s (L++[x]):=⟨λq hq=>by
 rcases qg.mp hq with z|z
 ·exact hL q z
 ·rw[qE.mp z];exact hx,by rw[qy];exact h.hl,h.hs,λj hj hn=>h.hz j (by rw[qy] at hj;exact hj) hn⟩
def Sw(n s:Nat)(fi:Q1x)(st:Q3x)(la:Q1x)(K:LQr):Prop:=InQ n K fi/\∀r∈K,sumTo n (λi=>r i*la i)=0/\∀g,g<s->InQ n K (led n r (st g))
def zaW{n s B X z kr ks kl:Nat}{x y:PdX}{fi la:Q1x}{st:Q3x}{K:LQr}(hb:uU [x,y]=some (zv n s fi st la))(hn:n<=42)(hs:s<=42)(hz:Rz n B X z K.length)(hK:∀q∈K,Ex n B X q)(hfi:Ex n B X fi)(hled:∀r∈K,∀g,g<s->Ex n B X (led n r (st g)))(hkr:∀r∈K,∀i,i<n->Sk kr (r i))(hks:∀g a b,g<s->a<n->b<n->Sk ks (st g a b))(hkl:∀i,i<n->Sk kl (la i))(k1:kr+ks<=398)(k2:kr+kl<=398):∃b:Bool,wF [x,y,.list (zt n K)]=some (.bool b)/\(b=true↔Sw n s fi st la K):=by
 have hl:=hz.hl;have rbK:=hz.rb hK
 obtain⟨b0,e0,i0⟩:=JF hn (hz.rb1 hK hfi) rbK;have ek:zU 1 [] (yw (gv 2)) (bN 0) (yo (yQ ju (aC (gv 0) a0))) [.pu x,.pu y,.pu (.list (zt n K)),.pu (zv n s fi st la),.no,.no,.no]=some (zt n K):=yf (xs:=K) (e:=yh n) (jK rfl) (by omega) λq _=>yG.trans rfl
 have et:ZK (zB (Wk y0 (aC (gb 4) (aC (yo (yQ ju (aC (op2 ixD (gv 3) (cst (.int 0))) a0))) a0)))) [.pu x,.pu y,.pu (.list (zt n K)),.pu (zv n s fi st la),.ow (zt n K),.no,.no]=some (!b0):=zes (zE (zbI (r:=.bool b0) (zk rfl (zk (yc ((xE (zk ((zc rfl rfl).trans jM) rfl)).trans rfl)) rfl)) e0 rfl));have head:∀r,sq (ifS (ZK (zB (Wk y0 (aC (gb 4) (aC (yo (yQ ju (aC (op2 ixD (gv 3) (cst (.int 0))) a0))) a0))))) (retS (cst (.bool false))) s0) r [.pu x,.pu y,.pu (.list (zt n K)),.pu (zv n s fi st la),.ow (zt n K),.no,.no]=if b0=true then r [.pu x,.pu y,.pu (.list (zt n K)),.pu (zv n s fi st la),.ow (zt n K),.no,.no] else some (.rt (.bool false)):=λr=>by
  cases b0 with
  |true=>rw[qf rfl];exact zy ((jD et).trans rfl)
  |false=>rw[qq qF];exact Y1 ((vb et).trans (zO rfl))
 by_cases hb0:b0=true
 ·-- the rows one by one
  have loop:=zb0 (it:=yw (gv 4)) (bd:=bN 5) (ds:=zt n K) (d:=.bool false)
   (b:=sq (ifS (zB (op2 neD (op2 ixD (zf jT (aC (gv 5) (aC (op2 ixD (gv 3) (cst (.int 2))) a0))) (cst (.int 0))) (cst (.int 0)))) (retS (cst (.bool false))) s0)
 (jw (yw (op2 ixD (gv 3) (cst (.int 1)))) (bN 6) (ifS (ZK (zB (zf y0 (aC (gv 4) (aC (yo (yQ vi (aC (gv 5) (aC (gv 6) a0)))) a0))))) (retS (cst (.bool false))) s0)))
   (ρ0:=[.pu x,.pu y,.pu (.list (zt n K)),.pu (zv n s fi st la),.pu (.list (zt n K)),.no,.no]) (λρ=>∃o5 o6,ρ=[.pu x,.pu y,.pu (.list (zt n K)),.pu (zv n s fi st la),.pu (.list (zt n K)),o5,o6])
   (λi=>∀r,K[i]?=some r->sumTo n (λi=>r i*la i)=0/\∀g,g<s->InQ n K (led n r (st g))) (jK rfl) ⟨.no,.no,rfl⟩ (λi dd ρ hd ⟨o5,o6,e⟩=>by
    subst e;rw[qo] at hd;obtain⟨r,hr,rfl⟩:=map_some hd;have hrm:=qP hr;refine⟨_,rfl,?_⟩;have ed:jT [yh n r,yE n la]=some (fr (sumTo n λi=>r i*la i)):=Zr (t:=false) (u:=true) (k:=kr+kl) hn (by omega) λi hi=>⟨(hkr r hrm i hi).bq (by omega),(hkl i hi).bq (by omega),(hkr r hrm i hi).mul (hkl i hi)⟩
    have eT:zB (op2 neD (op2 ixD (zf jT (aC (gv 5) (aC (op2 ixD (gv 3) (cst (.int 2))) a0))) (cst (.int 0))) (cst (.int 0))) [.pu x,.pu y,.pu (.list (zt n K)),.pu (zv n s fi st la),.pu (.list (zt n K)),.pu (yh n r),o6]=some (decide (sumTo n (λi=>r i*la i)≠0)):=Vk ((zd (zk rfl (zk ((zc rfl rfl).trans JC) rfl))).trans ed);by_cases hd0:sumTo n (λi=>r i*la i)=0
    ·have inner:=zb0 (it:=yw (op2 ixD (gv 3) (cst (.int 1)))) (bd:=bN 6) (ds:=(List.range s).map λg=>y4 n (st g)) (d:=.bool false)
      (b:=ifS (ZK (zB (zf y0 (aC (gv 4) (aC (yo (yQ vi (aC (gv 5) (aC (gv 6) a0)))) a0))))) (retS (cst (.bool false))) s0)
      (ρ0:=[.pu x,.pu y,.pu (.list (zt n K)),.pu (zv n s fi st la),.pu (.list (zt n K)),.pu (yh n r),o6]) (λρ=>∃o6,ρ=[.pu x,.pu y,.pu (.list (zt n K)),.pu (zv n s fi st la),.pu (.list (zt n K)),.pu (yh n r),o6])
      (λg=>InQ n K (led n r (st g))) (we ((zc rfl rfl).trans vM)) ⟨o6,rfl⟩ (λg dd ρ hd ⟨o6,e⟩=>by
       subst e;obtain⟨hg,rfl⟩:g<s/\dd=y4 n (st g):=by
        rw[qo] at hd;obtain⟨g',hg',rfl⟩:=map_some hd;have hlt:=(qm.mp hg').1;rw[qA] at hlt;rw[ke hlt] at hg';cases hg';exact⟨hlt,rfl⟩
       refine⟨_,rfl,?_⟩;obtain⟨b1,e1,i1⟩:=JF hn (hz.rb1 hK (hled r hrm g hg)) rbK;have eg:ZK (zB (zf y0 (aC (gv 4) (aC (yo (yQ vi (aC (gv 5) (aC (gv 6) a0)))) a0)))) [.pu x,.pu y,.pu (.list (zt n K)),.pu (zv n s fi st la),.pu (.list (zt n K)),.pu (yh n r),.pu (y4 n (st g))]=some (!b1):=zes (zE ((zd (zk rfl (zk (yc ((xE rfl).trans (zds (t:=false) hn (hkr r hrm) (λa b ha hb=>hks g a b hg ha hb) (by omega)))) rfl))).trans e1));cases b1 with
       |true=>exact .inl ⟨i1.mp rfl,_,(jD eg).trans rfl,_,rfl⟩
       |false=>exact .inr ⟨λz=>(by have:=i1.mpr z;cases this),(vb eg).trans (zO rfl)⟩)
     rw[qe,qA] at inner;rcases inner with⟨a1,ρ',a2,o6',rfl⟩|⟨a1,a2⟩
     ·exact .inl ⟨λr' hr'=>by rw[hr] at hr';cases hr';exact⟨hd0,λg hg=>a1 g hg⟩,_,(zy ((jD (eT.trans (by rw[qI λz=>z hd0]))).trans rfl)).trans a2,_,_,rfl⟩
     ·exact .inr ⟨λz=>a1 λg hg=>(z r hr).2 g hg,(zy ((jD (eT.trans (by rw[qI λz=>z hd0]))).trans rfl)).trans a2⟩
    ·exact .inr ⟨λz=>hd0 (z r hr).1,Y1 ((vb (eT.trans (by rw[qB hd0]))).trans (zO rfl))⟩)
  rw[qe] at loop;have hi0:=i0.mp hb0;rcases loop with⟨a1,ρ',a2,o5,o6,rfl⟩|⟨a1,a2⟩
  ·refine⟨true,ya rfl ((zy (zG ((zd rfl).trans hb))).trans ((zy (yO ek)).trans ((head _).trans ?_))),λ_=>⟨hi0,λr hr=>?_⟩,λ_=>rfl⟩
   ·rw[qf hb0];exact(zy (show frS 4 _ _=_ from a2)).trans (zO rfl)
   ·obtain⟨i,hi⟩:=ku hr;exact a1 i (qm.mp hi).1 r hi
  ·refine⟨false,ya rfl ((zy (zG ((zd rfl).trans hb))).trans ((zy (yO ek)).trans ((head _).trans ?_))),λz=>(by cases z),λz=>absurd (λi _ r hr=>z.2 r (qP hr)) a1⟩;rw[qf hb0];exact Y1 (show frS 4 _ _=_ from a2)
 ·refine⟨false,ya rfl ((zy (zG ((zd rfl).trans hb))).trans ((zy (yO ek)).trans ((head _).trans (qq hb0)))),λz=>(by cases z),λz=>absurd (i0.mpr z.1) hb0⟩
abbrev KL(L:WR):List (Nat->Rat):=L.map λq=>rt q.2
section
variable{n s k B m:Nat}{st:Q3x}{fi la:Q1x}{L:WR}{CS:AdX}
def zfZ{x y:PdX}(h:jh CS [x,y]=some (.tuple [.none,.list (L.map λq=>zR n q.2)]))(hn:n<=42)(hl:L.length<=1000):jc CS [x,y]=some (.list (zt n (KL L))):=by
 refine ya rfl ((zy (zG ((zd rfl).trans h))).trans ((zy ((jD (zE ?_)).trans rfl)).trans (zO (yc ?_))))
 ·rfl
 ·refine(yf (xs:=L) (e:=λq=>zR n q.2) (d:=λq=>yh n (rt q.2)) (jK rfl) (by omega) λq _=>?_).trans (qM some (show _=(L.map λq=>rt q.2).map (yh n) by rw[k6];rfl));refine yG.trans (yc ?_);exact yf (xs:=List.range n) (e:=λi=>.int (q.2 i)) (d:=λi=>fr (rt q.2 i)) (jK rfl) (by rw[qA];omega) λi _=>yG.trans ((jY rfl (by show 2<=16777216;omega)).trans rfl)
def zf2{x y:PdX}{u:LNt}{d:PdX}(h:jh CS [x,y]=some (.tuple [xn u,d])):jc CS [x,y]=some .none:=ya rfl ((zy (zG ((zd rfl).trans h))).trans (Y1 ((vb (zE rfl)).trans (zO rfl))))
def zfX.len(h:zfX n s st fi la L):L.length<=n:=by
 have⟨T,F,C,d,a,h1,h2,h3⟩:=h;have l:=h1.lens;omega
def zfX.abs(h:zfX n s st fi la L)(b:Bd n s st fi k B m):∀q∈L,∀x,x<n->(q.2 x).natAbs<=B:=by
 have⟨T,F,C,d,a,h1,h2,h3⟩:=h;exact λq hq=>h1.abs b hq
end
def Ex.mono{n B X B' X':Nat}{q:Q1x}(h:Ex n B X q)(hB:B<=B')(hX:X<=X'):Ex n B' X' q:=by
 have⟨l,M,h1,h2,h3⟩:=h;exact⟨l,M,h1,qw h2 hX,λx hx=>⟨qw (h3 x hx).1 hB,(h3 x hx).2⟩⟩
def zd0{n M N:Nat}{q:Q1x}(hM:0<M)(h:∀x,x<n->InB M N (q x)):Ex n N M q:=⟨λx=>x6 (q x) M,M,hM,qr _,λx hx=>⟨(JJ (h x hx)).2,by rw[(JJ (h x hx)).1];exact gx _ _⟩⟩
def zh4{B:Nat}{z:Int}(h:z.natAbs<=B):InB 1 B (z:Rat):=⟨by decide,z,by rw[show((1:Nat):Rat)=1 from rfl,Rat.mul_one],h⟩
theorem Uw{α:Type}(p:α->Bool):∀xs:List α,vf Ur (xs.map λx=>PyData.bool (p x))=some (xs.map p)
 |[]=>rfl
 |x::xs=>by
  show(some (p x)).bind (λy=>(vf Ur (xs.map λx=>PyData.bool (p x))).map (y::·))=_
  rw[Uw p xs];rfl
def zeU{α:Type}(p:α->Bool)(xs:List α):zdY [.list (xs.map λx=>PyData.bool (p x))]=some (.bool (xs.all p)):=by
 show(vf Ur (xs.map λx=>PyData.bool (p x))).map _=_
 rw[Uw,kD,List.all_map];rfl
def zfi{α:Type}(p:α->Bool)(xs:List α):zbL [.list (xs.map λx=>PyData.bool (p x))]=some (.bool (xs.any p)):=by
 show(vf Ur (xs.map λx=>PyData.bool (p x))).map _=_
 rw[Uw,kD,List.any_map];rfl
section
variable{ρ:Ro}{fs fs':Ob}{d:PdX}{ds:LPd}
def zky{n m:Nat}{b:Ro->Ob->Option Fl}(hm:ds.length=m)(h:b (.no::(ds.map Sl.pu++List.replicate (n - (m+1)) .no)) fs=some (.rt d)):fnR n m b fs ds=some d:=by unfold fnR;rw[qf hm,h]
def zjq{h:OPx}(e:h ρ fs=some d):rret h ρ fs=some (.rt d):=by unfold rret;rw[e];rfl
def zgR{h:MFx}{g:OLx}(e:g ρ fs=some ds):gmc h g ρ fs=h fs ds:=by unfold gmc;rw[e];rfl
def zgM{h:OPx}(e:h ρ fs=some d):gre h ρ fs=some (d,fs):=by unfold gre;rw[e];rfl
def zmk{f g:Ro->Ob->Option (PyData×Ob)}(e:f ρ fs=some (.bool true,fs')):gmA f g ρ fs=g ρ fs':=by unfold gmA;rw[e]
def zmn{f g:Ro->Ob->Option (PyData×Ob)}(e:f ρ fs=some (.bool false,fs')):gmA f g ρ fs=some (.bool false,fs'):=by unfold gmA;rw[e]
def zca{f:Ro->Ob->Option (PyData×Ob)}(e:f ρ fs=some (d,fs')):zcB f ρ fs=some (.rt d fs'):=by unfold zcB;rw[e];rfl
def zjr{i:Nat}{h:OPx}(e1:gk i ρ=some ds)(e2:h ρ fs=some d)(hl:ds.length<16777216):zgV i h ρ fs=some (.nx (ρ.set i (.ow (ds++[d]))) fs):=by unfold zgV;rw[e1,qk,e2,qk,qf hl]
def zhw{i:Nat}(e1:gk i ρ=some ds):zep i ρ fs=some (.rt (.list ds) fs):=by unfold zep;rw[e1];rfl
def zgA{bd:PyData->Ro->Option Ro}{b:OFx}{ρ1:Ro}(e1:bd d ρ=some ρ1){c:PdX}(e2:b ρ1 fs=some (.rt c fs')):vO bd b (d::ds) ρ fs=some (.rt c fs'):=by
 show(bd d ρ).bind _=_
 rw[e1,qk,e2]
def Vm{bd:PyData->Ro->Option Ro}{b:OFx}{ρ1 ρ2:Ro}(e1:bd d ρ=some ρ1)(e2:b ρ1 fs=some (.nx ρ2 fs')):vO bd b (d::ds) ρ fs=vO bd b ds ρ2 fs':=by
 show(bd d ρ).bind _=_
 rw[e1,qk,e2]
def YC{fi:RLx}{bd:PyData->Ro->Option Ro}{b:OFx}(e:fi ρ=some ds):zcp fi bd b ρ fs=vO bd b ds ρ fs:=by unfold zcp;rw[e];rfl
end
def ze4{fr tk ch:LPd}{pv:PdX}:fld "holds" (spR fr tk ch pv)=none:=rfl
section
variable{n:Nat}{T F:LNt}{C:LZr}{d:Int}
def zct{r:Z1x}(hn:n<=1000)(hl:C.length<=1000)(hC:∀c∈C,∀x,x<n->intBits (c x)<=1000000)(hr:∀x,x<n->intBits (r x)<=1000000):j9 (spO n T F C d) [zR n r]=some (.bool (C.all λc=>decide (dt n c r=0))):=by
 have e:ocomp 1 [1] (gsq (gg "checks")) (bN 0) (op2 eqD (zf zQ (aC (gv 0) (aC (gv 1) a0))) (cst (.int 0))) [.no,.pu (zR n r)] (spO n T F C d)=some (C.map λc=>PyData.bool (decide (dt n c r=0))):=zcX (xs:=C) (e:=zR n) (d:=λc=>PyData.bool (decide (dt n c r=0))) (zku (Jm JL)) (by omega) λc hc=>yG.trans ((zc ((zd rfl).trans (Yf hn λx hx=>⟨hC c hc x hx,hr x hx⟩)) rfl).trans (xU _ _))
 exact zky rfl (zjq ((v8 (yz (zdJ e) rfl)).trans (zeU _ C)))
end
structure Hb(n B:Nat):Prop where
 hn:n<=42
 hB:B<=2 ^ 3900
 hP:∀j,j<=n->(n*B) ^ j<2 ^ 9000
structure NI(n B:Nat)(K:LQr)(W:LZr)(T F:LNt)(C:LZr)(d:Int):Prop where
 sp:DT.Sp n W.reverse T F C d
 lw:W.length=T.length
 ab:∀w∈W,∀x,x<n->(w x).natAbs<=B
 ml:∀w∈W,∃q∈K,∃c:Rat,c≠0/\∀x,x<n->(w x:Rat)=c*q x
 al:∀q∈K,In n W.reverse q
def W5{n:Nat}{w q:Q1x}{r:Z1x}{c:Rat}(h:∀x,x<n->(r x:Rat)=c*q x):dq n w (rt r)=dq n w q*c:=by
 show sumTo n (λx=>w x*(r x:Rat))=sumTo n (λx=>w x*q x)*c
 rw[<-yt];exact zm n λx hx=>by rw[h x hx];grind
def Wl{a c:Rat}(h:a*c=0)(hc:c≠0):a=0:=by
 rcases kH.mp h with z|z
 ·exact z
 ·exact absurd z hc
section
variable{n B:Nat}{K:LQr}{W:LZr}{T F:LNt}{C:LZr}{d:Int}
def NI.len(h:NI n B K W T F C d):W.length+F.length=n:=by
 have:=h.sp.few
 have:=h.lw;omega
def NI.pivot(h:NI n B K W T F C d)(b:Hb n B):d.natAbs.log2<9000:=by
 have hd:=h.sp.d0;have hl:=h.len
 refine(nL (by omega)).mpr (qN (h.sp.VO (B:=B) ?_ ?_) (b.hP _ ?_))
 ·have:=h.sp.few;omega
 ·exact λr hr x hx=>h.ab r (gh.mp hr) x hx
 ·rw[h9];omega
def NI.check(h:NI n B K W T F C d)(b:Hb n B):∀c∈C,∀x,x<n->intBits (c x)<=400000:=λc hc x hx=>by
 obtain⟨i,hi⟩:=ku hc;have hl:=h.len;have h1:=h.sp.VS (B:=B) h.sp.few (λr hr x hx=>h.ab r (gh.mp hr) x hx) hi x hx
 have h2:(n*B) ^ W.reverse.length<2 ^ 9000:=b.hP _ (by rw[h9];omega);refine jk (qN h1 ?_);have h3:n*(n*B) ^ W.reverse.length<=2 ^ 6*2 ^ 9000:=ka (qw b.hn (by decide)) (g6 h2)
 rw[<-Nat.pow_add] at h3;exact qN h3 (kA (by decide) (by decide))
def Hb.bits(b:Hb n B){x:Int}(h:x.natAbs<=B):intBits x<=4000:=jk (qN (qw h b.hB) (kA (by decide) (by decide)))
def NI.holds(h:NI n B K W T F C d)(r:Z1x):(C.all λc=>decide (dt n c r=0))=true↔In n W.reverse (rt r):=by
 rw[nr,<-h.sp.holds];constructor
 ·intro q c hc
  have:=mz (q c hc);rw[Je,this];rfl
 ·intro q c hc
  have:=q c hc;rw[Je] at this;exact qB (by exact_mod_cast this)
def In.mult{R:LZr}{q:Q1x}{r:Z1x}{c:Rat}(hc:c≠0)(h:∀x,x<n->(r x:Rat)=c*q x):In n R (rt r)↔In n R q:=by
 constructor
 ·intro i w hw
  have:=i w hw;rw[W5 h] at this;exact Wl this hc
 ·intro i w hw;rw[W5 h,i w hw,kC]
def NI.step(h:NI n B K W T F C d)(b:Hb n B){q:Q1x}{r:Z1x}{c:Rat}(hc:c≠0)(hr:∀x,x<n->(r x:Rat)=c*q x)(hB:∀x,x<n->(r x).natAbs<=B):(vF (spO n T F C d) [zR n r]=some (.bool false,spO n T F C d)/\NI n B (K++[q]) W T F C d)\/
  ∃T' F' C' d',vF (spO n T F C d) [zR n r]=some (.bool true,spO n T' F' C' d')/\NI n B (K++[q]) (W++[r]) T' F' C' d':=by
 have hl:=h.len;have hn:=b.hn
 have hw:=h.lw;have l3:=h.sp.lenC
 have mlK:∀w∈W,∃q'∈K++[q],∃c:Rat,c≠0/\∀x,x<n->(w x:Rat)=c*q' x:=λw hw=>by
  have⟨q',h1,h2⟩:=h.ml w hw;exact⟨q',nN _ h1,h2⟩
 rcases ze8 (n:=n) (T:=T) (F:=F) (C:=C) (d:=d) (r:=r) (by omega) l3 (by omega) (by omega) (h.check b) (λx hx=>qw (b.bits (hB x hx)) (by decide)) h.sp.d0 (h.pivot b) with⟨hz,e⟩|⟨i,cg,g,hi,hg,hnz,e⟩
 ·refine .inl ⟨e,h.sp,h.lw,h.ab,mlK,λq' hq=>?_⟩;rcases qg.mp hq with z|z
  ·exact h.al q' z
  ·rw[qE.mp z];exact(In.mult hc hr).mp ((h.holds r).mp (List.all_eq_true.mpr λc hc=>qB (hz c hc)))
 ·have er:(W++[r]).reverse=r::W.reverse:=by rw[List.reverse_append];rfl
  refine .inr ⟨_,_,_,_,e,by rw[er];exact h.sp.take hi hg hnz,by rw[qy,qy,h.lw];rfl,λw hw=>?_,λw hw=>?_,λq' hq=>?_⟩
  ·rcases qg.mp hw with z|z
   ·exact h.ab w z
   ·rw[qE.mp z];exact hB
  ·rcases qg.mp hw with z|z
   ·exact mlK w z
   ·rw[qE.mp z];exact⟨q,qQ _ (qE.mpr rfl),c,hc,hr⟩
  ·rw[er];rcases qg.mp hq with z|z
   ·exact λw hw=>h.al q' z w λr' hr'=>hw r' (qz _ hr')
   ·rw[qE.mp z];exact(In.mult hc hr).mp λw hw=>hw r (qZ ..)
def zlg:NI n B [] [] [] (List.range n) ((List.range n).map xB) 1:=⟨zdz n,rfl,λw hw=>(by cases hw),λw hw=>(by cases hw),λw hw=>(by cases hw)⟩
def NI.inq(h:NI n B K W T F C d)(x:Q1x):In n W.reverse x↔InQ n K x:=by
 constructor
 ·intro i w hw;refine i w λr hr=>?_
  obtain⟨q,hq,c,hc,e⟩:=h.ml r (gh.mp hr);rw[W5 e,hw q hq,kC]
 ·intro i w hw;exact i w λl hl=>h.al l hl w hw
def zh0{g:Q2x}{q:Q1x}{r:Z1x}{c:Rat}(h:∀x,x<n->(r x:Rat)=c*q x)(y:Nat):led n (rt r) g y=led n q g y*c:=by
 show sumTo n (λa=>(r a:Rat)*g a y)=sumTo n (λa=>q a*g a y)*c
 rw[<-yt];exact zm n λx hx=>by rw[h x hx];grind
def zhZ(w r:Q1x)(g:Q2x):dq n w (led n r g)=dq n (λa=>sumTo n λb=>w b*g a b) r:=by
 show sumTo n (λb=>w b*sumTo n λa=>r a*g a b)=sumTo n λa=>(sumTo n λb=>w b*g a b)*r a
 have e1:∀b,b<n->w b*sumTo n (λa=>r a*g a b)=sumTo n λa=>r a*g a b*w b:=λb _=>by rw[gx,<-yt]
 rw[zm n e1,u5];exact zm n λa _=>by
  rw[<-yt];exact zm n λb _=>by grind
def NI.sw{s:Nat}{fi la:Q1x}{st:Q3x}(h:NI n B K W T F C d):Sw n s fi st la K↔In n W.reverse fi/\(∀w∈W,dq n (rt w) la=0)/\∀g,g<s->∀w∈W,In n W.reverse (led n (rt w) (st g)):=by
 constructor
 ·rintro⟨h1,h2⟩;refine⟨(h.inq fi).mpr h1,λw hw=>?_,λg hg w hw=>?_⟩
  ·have⟨q,hq,c,hc,e⟩:=h.ml w hw
   have:=(h2 q hq).1;show sumTo n (λx=>(w x:Rat)*la x)=0
   have e2:sumTo n (λx=>(w x:Rat)*la x)=sumTo n (λx=>q x*la x)*c:=by
    rw[<-yt];exact zm n λx hx=>by rw[e x hx];grind
   rw[e2,this,kC]
  ·have⟨q,hq,c,hc,e⟩:=h.ml w hw;refine(h.inq _).mpr λv hv=>?_
   have:=(h2 q hq).2 g hg v hv;show sumTo n (λx=>v x*led n (rt w) (st g) x)=0
   have e2:sumTo n (λx=>v x*led n (rt w) (st g) x)=sumTo n (λx=>v x*led n q (st g) x)*c:=by
    rw[<-yt];exact zm n λx hx=>by rw[zh0 e x];grind
   rw[e2];show dq n v (led n q (st g))*c=0
   rw[this,kC]
 ·rintro⟨h1,h2,h3⟩;refine⟨(h.inq fi).mp h1,λq hq=>⟨?_,λg hg=>(h.inq _).mp λv hv=>?_⟩⟩
  ·have:=h.al q hq la λr hr=>by
    have:=h2 r (gh.mp hr);show sumTo n (λx=>la x*(r x:Rat))=0
    rw[<-this];exact zm n λx _=>gx _ _
   rw[<-this];exact zm n λx _=>gx _ _
  ·rw[zhZ];refine h.al q hq _ λr hr=>?_
   rw[<-zhZ];exact h3 g hg r (gh.mp hr) v hv
end
def Ex.inB{n B X:Nat}{q:Q1x}(h:Ex n B X q):∃M,0<M/\M<=X/\∀x,x<n->InB M B (q x):=by
 have⟨l,M,h1,h2,h3⟩:=h;exact⟨M,h1,h2,λx hx=>⟨h1,l x,by have:=(h3 x hx).2;grind,(h3 x hx).1⟩⟩
def zlJ{t:Bool}{n B X:Nat}{q:Q1x}(b:Hb n B)(hX:X<=2 ^ 3900)(h:Ex n B X q):∃(r:Z1x)(c:Rat),zZ [qd t n q]=some (xK n r)/\c≠0/\(∀i,i<n->(r i:Rat)=c*q i)/\∀x,x<n->(r x).natAbs<=B:=by
 have⟨M,h1,h2,h3⟩:=h.inB;obtain⟨r,c,e,hc,hr,hp⟩:=zh1 (t:=t) b.hn h1 (Sz.mono (qw h2 hX) (Sz.WJ (by decide))) (Sz.mono b.hB (Sz.WJ (by decide))) h3;exact⟨r,c,e,hc,hr,uy (M:=((M:Nat):Rat)) (z:=λx=>x6 (q x) M) hp hc hr (xV h1) λx hx=>JJ (h3 x hx)⟩
abbrev nrB:OFx:=osq (oset 4 λρ _=>zf (lF zZ) (aC (gv 3) a0) ρ) (V0 (gvF (gms "take" vF (gAC (λρ _=>gv 4 ρ) gA0))) (zgV 2 λρ _=>gv 4 ρ) os0)
section
variable{n B X:Nat}
abbrev qds(n:Nat)(P:List (Bool×(Nat->Rat))):List PyData:=P.map λp=>qd p.1 n p.2
theorem Yp(b:Hb n B)(hX:X<=2 ^ 3900){o1:Sl}:∀(P:List (Bool×(Nat->Rat))) (K:LQr) (W:LZr) (T F:LNt) (C:LZr) (d:Int) (o3 o4:Sl),NI n B K W T F C d->(∀p∈P,Ex n B X p.2)->
  ∃W' T' F' C' d' o3' o4',vO (bN 3) nrB (qds n P) [.no,o1,.ow (W.map (zR n)),o3,o4] (spO n T F C d)=some (.nx [.no,o1,.ow (W'.map (zR n)),o3',o4'] (spO n T' F' C' d'))/\NI n B (K++P.map (·.2)) W' T' F' C' d'
 |[],K,W,T,F,C,d,o3,o4,h,_=>⟨W,T,F,C,d,o3,o4,rfl,by rw[pH,kg];exact h⟩
 |p::P,K,W,T,F,C,d,o3,o4,h,hP=>by
  obtain⟨r,c,e,hc,hr,hB⟩:=zlJ (t:=p.1) b hX (hP p (qZ ..));have hl:=h.len;have hn:=b.hn
  have e1:(oset 4 λρ _=>zf (lF zZ) (aC (gv 3) a0) ρ) [.no,o1,.ow (W.map (zR n)),.pu (qd p.1 n p.2),o4] (spO n T F C d)=some (.nx [.no,o1,.ow (W.map (zR n)),.pu (qd p.1 n p.2),.pu (zR n r)] (spO n T F C d)):=UW ((zd rfl).trans (UR e));rcases h.step b hc hr hB with⟨et,h'⟩|⟨T',F',C',d',et,h'⟩
  ·obtain⟨W',T',F',C',d',o3',o4',e2,h2⟩:=Yp b hX (o1:=o1) P (K++[p.2]) W T F C d (.pu (qd p.1 n p.2)) (.pu (zR n r)) h' λq hq=>hP q (qz _ hq)
   refine⟨W',T',F',C',d',o3',o4',(Vm rfl ((zW e1).trans ((zdv (VZ (Uk WV (yz rfl rfl) et))).trans rfl))).trans e2,?_⟩;rw[kU] at h2;exact h2
  ·obtain⟨W',T2,F2,C2,d2,o3',o4',e2,h2⟩:=Yp b hX (o1:=o1) P (K++[p.2]) (W++[r]) T' F' C' d' (.pu (qd p.1 n p.2)) (.pu (zR n r)) h' λq hq=>hP q (qz _ hq)
   refine⟨W',T2,F2,C2,d2,o3',o4',(Vm rfl ((zW e1).trans ((zdo (VZ (Uk WV (yz rfl rfl) et))).trans (zjr rfl rfl (by rw[qe];omega))))).trans ?_,?_⟩
   ·rw[qR] at e2;exact e2
   ·rw[kU] at h2;exact h2
def zc4(b:Hb n B)(hX:X<=2 ^ 3900){P:List (Bool×(Nat->Rat))}(hP:∀p∈P,Ex n B X p.2):∃W T F C d,uG (spO n [] (List.range n) ((List.range n).map xB) 1) [.list (qds n P)]=some (.list (W.map (zR n)),spO n T F C d)/\NI n B (P.map (·.2)) W T F C d:=by
 obtain⟨W,T,F,C,d,o3,o4,e,h⟩:=Yp b hX (o1:=.pu (.list (qds n P))) P [] [] [] (List.range n) ((List.range n).map xB) 1 .no .no zlg hP;exact⟨W,T,F,C,d,w8 rfl ((zW (ub rfl)).trans ((zW ((YC (jK rfl)).trans e)).trans (zhw rfl))),h⟩
end
abbrev swB:OFx:=osq (oset 4 λρ _=>op2 ixD (zf xP (aC (gv 3) a0)) (cst (.int 0)) ρ) (V0 (gnF (gvF (gre (gcall zdY (gAC (glF (u0 1 [0,4] (λρ _=>yw (gv 1) ρ) (bN 0) (gjm "holds" j9 (gAC (λρ _=>zf (lF j7) (aC (gv 0) (aC (gv 2) a0)) ρ) gA0)))) gA0))))) (oret λρ _=>cst (.bool false) ρ) os0)
section
variable{n B s M N:Nat}{K:LQr}{W:LZr}{T F:LNt}{C:LZr}{d:Int}{st:Q3x}
def zhX(h:NI n B K W T F C d)(b:Hb n B){g:Nat}(hM:0<M)(sM:Sz M)(sN:Sz N)(hst:∀x y,x<n->y<n->InB M N (st g x y))(o1 o2:Sl)(ho:o1=.pu (.list (W.map (zR n))))(o4:Sl):∃(col:PdX)(c:Bool),swB [.no,o1,o2,.pu (y4 n (st g)),o4] (spO n T F C d)=(if c then some (.nx [.no,o1,o2,.pu (y4 n (st g)),.pu col] (spO n T F C d)) else some (.rt (.bool false) (spO n T F C d)))/\(c=true↔∀w∈W,In n W.reverse (led n (rt w) (st g))):=by
 subst ho;have hl:=h.len;have hn:=b.hn
 have l3:=h.sp.lenC;obtain⟨w0,w1,w2,w3⟩:=uL (n:=n) (M:=M) (N:=N) (f:=st g) b.hn hM sM sN hst;have tb:∀x y,x<n->y<n->(x6 (st g x y) (xb n (st g))).natAbs<=N:=λx y hx hy=>YB (hst x y hx hy) w2 (ve (w3 x y hx hy))
 let z:(Nat->Int)->Nat->Int:=λw y=>yq n λa=>w a*x6 (st g a y) (xb n (st g))
 have zr:∀w:Nat->Int,∀y,y<n->(z w y:Rat)=((xb n (st g):Nat):Rat)*led n (rt w) (st g) y:=λw y hy=>by
  show((yq n λa=>w a*x6 (st g a y) (xb n (st g)):Int):Rat)=_
  rw[Jo,gx];show _=sumTo n (λa=>(w a:Rat)*st g a y)*_
  rw[<-yt];exact zm n λa ha=>by rw[kf,ve (w3 a y ha hy)];grind
 have zb:∀w∈W,∀y,y<n->intBits (z w y)<=1000000:=λw hw y hy=>by
  have h1:(z w y).natAbs<=n*(B*N):=by
   have:∀m,m<=n->(yq m λa=>w a*x6 (st g a y) (xb n (st g))).natAbs<=m*(B*N):=λm=>by
    induction m with
    |zero=>intro _;exact kE _
    |succ m ih=>
     intro hm;have e:(w m*x6 (st g m y) (xb n (st g))).natAbs<=B*N:=by
      rw[q9];exact ka (h.ab w hw m (by omega)) (tb m y (by omega) hy)
     have i1:=ih (by omega);have i2:=Int.natAbs_add_le (yq m λa=>w a*x6 (st g a y) (xb n (st g))) (w m*x6 (st g m y) (xb n (st g)))
     show(yq m (λa=>w a*x6 (st g a y) (xb n (st g)))+w m*x6 (st g m y) (xb n (st g))).natAbs<=_
     rw[gH];omega
   exact this n (qr _)
  have h2:N<2 ^ 4000:=by
   have:=ma.mp sN;simpa using this
  have h3:n*(B*N)<=2 ^ 6*(2 ^ 3900*2 ^ 4000):=ka (qw hn (by decide)) (ka b.hB (g6 h2));rw[<-Nat.pow_add,<-Nat.pow_add] at h3;exact qw (jk (m:=8000) (qN (qw h1 h3) (kA (by decide) (by decide)))) (by decide)
 have e1:(oset 4 λρ _=>op2 ixD (zf xP (aC (gv 3) a0)) (cst (.int 0)) ρ) [.no,.pu (.list (W.map (zR n))),o2,.pu (y4 n (st g)),o4] (spO n T F C d)=some (.nx [.no,.pu (.list (W.map (zR n))),o2,.pu (y4 n (st g)),.pu (WI n st g)] (spO n T F C d)):=UW ((zc ((zd rfl).trans w0) rfl).trans rfl);have e2:u0 1 [0,4] (λρ _=>yw (gv 1) ρ) (bN 0) (gjm "holds" j9 (gAC (λρ _=>zf (lF j7) (aC (gv 0) (aC (gv 2) a0)) ρ) gA0)) [.no,.pu (.list (W.map (zR n))),o2,.pu (y4 n (st g)),.pu (WI n st g)] (spO n T F C d)=some (W.map λw=>PyData.bool (C.all λc=>decide (dt n c (z w)=0))):=by
  refine zak (xs:=W) (e:=zR n) (d:=λw=>PyData.bool (C.all λc=>decide (dt n c (z w)=0))) (jK rfl) (by omega) λw hw=>zgY.trans ((zgQ ze4 (yz ((zd rfl).trans (UR (zcG (c:=λa y=>x6 (st g a y) (xb n (st g))) (by omega) (λa ha=>qw (b.bits (h.ab w hw a ha)) (by decide)) λa y ha hy=>qw (sN.bits (tb a y ha hy)) (by decide)))) rfl)).trans ?_)
  exact zct (r:=z w) (by omega) (by omega) (λc hc x hx=>qw (h.check b c hc x hx) (by decide)) (zb w hw)
 have iw:∀w∈W,((C.all λc=>decide (dt n c (z w)=0))=true↔In n W.reverse (led n (rt w) (st g))):=λw hw=>(h.holds (z w)).trans (In.mult (xV w1) (zr w))
 refine⟨WI n st g,W.all λw=>C.all λc=>decide (dt n c (z w)=0),?_,?_⟩
 ·have e3:∀r,r=(W.all λw=>C.all λc=>decide (dt n c (z w)=0))->gnF (gvF (gre (gcall zdY (gAC (glF (u0 1 [0,4] (λρ _=>yw (gv 1) ρ) (bN 0) (gjm "holds" j9 (gAC (λρ _=>zf (lF j7) (aC (gv 0) (aC (gv 2) a0)) ρ) gA0)))) gA0)))) [.no,.pu (.list (W.map (zR n))),o2,.pu (y4 n (st g)),.pu (WI n st g)] (spO n T F C d)=some (!r,spO n T F C d):=λr hr=>by
   subst hr;exact zgO (VZ (zgM ((v8 (yz (zdJ e2) rfl)).trans (zeU _ W))))
  cases hc:(W.all λw=>C.all λc=>decide (dt n c (z w)=0)) with
  |true=>rw[qf rfl];exact(zW e1).trans ((zdv (e3 true hc.symm)).trans rfl)
  |false=>rw[qq qF];exact(zW e1).trans ((zdo (e3 false hc.symm)).trans (j0 rfl))
 ·rw[nr];exact⟨λq w hw=>(iw w hw).mp (q w hw),λq w hw=>(iw w hw).mpr (q w hw)⟩
theorem zax(h:NI n B K W T F C d)(b:Hb n B)(hM:0<M)(sM:Sz M)(sN:Sz N)(o2:Sl):∀(gs:LNt)(o3 o4:Sl),(∀g∈gs,∀x y,x<n->y<n->InB M N (st g x y))->
  (∃o3' o4',vO (bN 3) swB (gs.map λg=>y4 n (st g)) [.no,.pu (.list (W.map (zR n))),o2,o3,o4] (spO n T F C d)=some (.nx [.no,.pu (.list (W.map (zR n))),o2,o3',o4'] (spO n T F C d))/\∀g∈gs,∀w∈W,In n W.reverse (led n (rt w) (st g)))\/
  (vO (bN 3) swB (gs.map λg=>y4 n (st g)) [.no,.pu (.list (W.map (zR n))),o2,o3,o4] (spO n T F C d)=some (.rt (.bool false) (spO n T F C d))/\¬∀g∈gs,∀w∈W,In n W.reverse (led n (rt w) (st g)))
 |[],o3,o4,_=>.inl ⟨o3,o4,rfl,λg hg=>by cases hg⟩
 |g::gs,o3,o4,hg=>by
  obtain⟨col,c,e,i⟩:=zhX (st:=st) (g:=g) h b hM sM sN (hg g (qZ ..)) _ o2 rfl o4;cases c with
  |false=>exact .inr ⟨zgA rfl e,λq=>by have:=i.mpr (q g (qZ ..));cases this⟩
  |true=>
   rcases zax h b hM sM sN o2 gs (.pu (y4 n (st g))) (.pu col) (λg' hg'=>hg g' (qz _ hg')) with⟨o3',o4',e',q⟩|⟨e',q⟩
   ·refine .inl ⟨o3',o4',(Vm rfl e).trans e',λg' hg'=>?_⟩;rcases qu.mp hg' with z|z
    ·rw[z];exact i.mp rfl
    ·exact q g' z
   ·exact .inr ⟨(Vm rfl e).trans e',λz=>q λg' hg'=>z g' (qz _ hg')⟩
def zgx(h:NI n B K W T F C d)(b:Hb n B)(hM:0<M)(sM:Sz M)(sN:Sz N)(hst:∀g x y,g<s->x<n->y<n->InB M N (st g x y)):∃c:Bool,ja (spO n T F C d) [.list (W.map (zR n)),VV n s st]=some (.bool c,spO n T F C d)/\(c=true↔∀g,g<s->∀w∈W,In n W.reverse (led n (rt w) (st g))):=by
 rcases zax (st:=st) h b hM sM sN (.pu (VV n s st)) (List.range s) .no .no (λg hg x y=>hst g x y (qL.mp hg)) with⟨o3,o4,e,q⟩|⟨e,q⟩
 ·exact⟨true,w8 rfl ((zW ((YC (we rfl)).trans e)).trans (j0 rfl)),λ_ g hg=>q g (qL.mpr hg),λ_=>rfl⟩
 ·exact⟨false,w8 rfl (Uv ((YC (we rfl)).trans e)),λz=>(by cases z),λz=>absurd (λg hg=>z g (qL.mp hg)) q⟩
def zhi{X M0 N0 M2 N2:Nat}{x y:PdX}{fi la:Q1x}{P:List (Bool×(Nat->Rat))}(hd:jr [x,y]=some (zv n s fi st la))(b:Hb n B)(hX:X<=2 ^ 3900)(hP:∀p∈P,Ex n B X p.2)(hl:P.length<=1000)(hM:0<M)(sM:Sz M)(sN:Sz N)(hst:∀g x y,g<s->x<n->y<n->InB M N (st g x y))(h0:0<M0)(sM0:Sz M0)(sN0:Sz N0)(hfi:∀i,i<n->InB M0 N0 (fi i))(h2:0<M2)(sM2:Sz M2)(sN2:Sz N2)(hla:∀i,i<n->InB M2 N2 (la i)):∃c:Bool,Vi [x,y,.list (qds n P)]=some (.bool c)/\(c=true↔Sw n s fi st la (P.map (·.2))):=by
 have hn:=b.hn;have⟨W,T,F,C,d,eN,h⟩:=zc4 b hX hP
 have⟨rf,cf,ef,hcf,hrf,hpf⟩:=za4 hn h0 sM0 sN0 hfi;have⟨rl,cl,el,hcl,hrl,hpl⟩:=za4 hn h2 sM2 sN2 hla;have bf:∀x,x<n->intBits (rf x)<=4000:=λx hx=>sN0.bits (uy (M:=((M0:Nat):Rat)) (z:=λx=>x6 (fi x) M0) hpf hcf hrf (xV h0) (λx hx=>JJ (hfi x hx)) x hx)
 have bl:∀x,x<n->intBits (rl x)<=4000:=λx hx=>sN2.bits (uy (M:=((M2:Nat):Rat)) (z:=λx=>x6 (la x) M2) hpl hcl hrl (xV h2) (λx hx=>JJ (hla x hx)) x hx)
 obtain⟨cs,eS,iS⟩:=zgx (s:=s) (st:=st) h b hM sM sN hst;have hlW:=h.len;have l3:=h.sp.lenC
 have eh:=zct (T:=T) (F:=F) (C:=C) (d:=d) (r:=rf) (n:=n) (by omega) (by omega) (λc hc x hx=>qw (h.check b c hc x hx) (by decide)) (λx hx=>qw (bf x hx) (by decide));have ih:=(h.holds rf).trans (In.mult hcf hrf)
 have eA:zB (zf zbL (aC (yo (zU 1 [4] (yw (gv 2)) (bN 0) (op2 neD (zf yl (aC (gv 0) a0)) (gv 1)))) a0)) [.pu x,.pu y,.pu (.list (qds n P)),.pu (zv n s fi st la),.pu (zC n),.no,.no,.no]=some false:=by
  refine zE ((zd (zk (yc (yf (xs:=P) (e:=λp=>qd p.1 n p.2) (d:=λ_=>PyData.bool false) (jK rfl) (by omega) λp _=>yG.trans ((zc ((zd rfl).trans (VQ _ _ _)) rfl).trans ((vQ _ _).trans (by rw[qB rfl];rfl))))) rfl)).trans ((zfi (λ_=>false) P).trans ?_));congr 2;rw[pI];exact λ_ _=>qF
 have eB:zB (zf zbL (aC (yo (zU 1 [7] (yw (gv 6)) (bN 0) (op2 neD (zf zQ (aC (gv 0) (aC (gv 1) a0))) (cst (.int 0))))) a0)) [.pu x,.pu y,.pu (.list (qds n P)),.pu (zv n s fi st la),.pu (zC n),.no,.pu (.list (W.map (zR n))),.pu (zR n rl)]=some (W.any λw=>!decide (dt n w rl=0)):=zE ((zd (zk (yc (yf (xs:=W) (e:=zR n) (d:=λw=>PyData.bool (!decide (dt n w rl=0))) (jK rfl) (by omega) λw hw=>yG.trans ((zc ((zd rfl).trans (Yf (by omega) λx hx=>⟨qw (b.bits (h.ab w hw x hx)) (by decide),qw (bl x hx) (by decide)⟩)) rfl).trans (vQ _ _)))) rfl)).trans (zfi (λw=>!decide (dt n w rl=0)) W));have iB:(W.any λw=>!decide (dt n w rl=0))=false↔∀w∈W,dq n (rt w) la=0:=by
  rw[pI];have one:∀w:Nat->Int,dt n w rl=0↔dq n (rt w) la=0:=λw=>by
   have e:dq n (rt w) (rt rl)=dq n (rt w) la*cl:=W5 hrl;rw[Je] at e;constructor
   ·intro z;rw[z] at e;exact Wl e.symm hcl
   ·intro z;rw[z,kC] at e;exact_mod_cast e
  constructor
  ·intro q w hw
   have:=q w hw;exact(one w).mp (by simpa using this)
  ·intro q w hw
   have:=(one w).mpr (q w hw);simp[this]
 have eM:fnw wG (aC (gv 4) a0) [.pu x,.pu y,.pu (.list (qds n P)),.pu (zv n s fi st la),.pu (zC n),.no,.no,.no]=some (spO n [] (List.range n) ((List.range n).map xB) 1):=by
  unfold fnw;show(some [zC n]).bind _=_
  rw[qk,zcI (by omega)]
 have head:∀c fs',osq (oif (λρ _=>zB (zf zbL (aC (yo (zU 1 [7] (yw (gv 6)) (bN 0) (op2 neD (zf zQ (aC (gv 0) (aC (gv 1) a0))) (cst (.int 0))))) a0)) ρ) (oret λρ _=>cst (.bool false) ρ) os0)
   (zcB (gmA (gre (gjm "holds" j9 (gAC (λρ _=>zf (lF zZ) (aC (op2 ixD (gv 3) (cst (.int 0))) a0) ρ) gA0))) (gmc ja (gAC (λρ _=>gv 6 ρ) (gAC (λρ _=>op2 ixD (gv 3) (cst (.int 1)) ρ) gA0))))) [.pu x,.pu y,.pu (.list (qds n P)),.pu (zv n s fi st la),.pu (zC n),.no,.pu (.list (W.map (zR n))),.pu (zR n rl)] (spO n T F C d)=some (.rt (.bool c) fs')->Vi [x,y,.list (qds n P)]=some (.bool c):=λc fs' e=>
  ya rfl ((zy (zG ((zd rfl).trans hd))).trans ((zy (zG ((zd (zk ((zc rfl rfl).trans jM) rfl)).trans (xT _ _)))).trans ((zy ((jD eA).trans rfl)).trans
   (zjx eM (by show 5<8;omega) ((zW (YZ ((zgR (yz rfl rfl)).trans eN))).trans ((zW (UW ((zd (zk ((zc rfl rfl).trans JC) rfl)).trans (UR el)))).trans e))))))
 by_cases hB:(W.any λw=>!decide (dt n w rl=0))=true
 ·rw[hB] at eB;refine⟨false,head false _ (Uv ((zeI eB).trans (j0 rfl))),λz=>(by cases z),λz=>?_⟩
  have:=iB.mpr (h.sw.mp z).2.1;rw[hB] at this;cases this
 ·have hB:=pJ.mpr hB;rw[hB] at eB;have eH:gre (gjm "holds" j9 (gAC (λρ _=>zf (lF zZ) (aC (op2 ixD (gv 3) (cst (.int 0))) a0) ρ) gA0)) [.pu x,.pu y,.pu (.list (qds n P)),.pu (zv n s fi st la),.pu (zC n),.no,.pu (.list (W.map (zR n))),.pu (zR n rl)] (spO n T F C d)=some (.bool (C.all λc=>decide (dt n c rf=0)),spO n T F C d):=zgM ((zgQ ze4 (yz ((zd (zk ((zc rfl rfl).trans jM) rfl)).trans (UR ef)) rfl)).trans eh)
  by_cases hH:(C.all λc=>decide (dt n c rf=0))=true
  ·rw[hH] at eH;refine⟨cs,head cs (spO n T F C d) ((zW ((zbS eB).trans rfl)).trans (zca ((zmk eH).trans ((zgR (yz rfl (yz ((zc rfl rfl).trans vM) rfl))).trans eS)))),?_⟩;rw[h.sw,iS];exact⟨λz=>⟨ih.mp hH,iB.mp hB,z⟩,λz=>z.2.2⟩
  ·have hH':=pJ.mpr hH;rw[hH'] at eH;exact⟨false,head false (spO n T F C d) ((zW ((zbS eB).trans rfl)).trans (zca (zmn eH))),λz=>(by cases z),λz=>absurd (ih.mpr (h.sw.mp z).1) hH⟩
end
end L2.Fu
namespace L2.Fu
open PySem WS WD WD.DT
def Tb(a b:Nat)(q:Rat):Prop:=InB (6 ^ a) (2 ^ b) q
def Tb.zero(a b:Nat):Tb a b 0:=InB.zero (xA a)
def Tb.mul{a b c d:Nat}{q r:Rat}(h:Tb a b q)(k:Tb c d r):Tb (a+c) (b+d) (q*r):=by
 have:=InB.mul h k;rw[<-Nat.pow_add,<-Nat.pow_add] at this;exact this
def Tb.up{a b c d:Nat}{q:Rat}(h:Tb a b q)(hc:a<=c)(hd:b+3*(c - a)<=d):Tb c d q:=by
 obtain⟨e,rfl⟩:=p9 hc
 have:=InB.up h (c:=6 ^ e) (xA e);rw[<-Nat.pow_add] at this;exact this.mono (WN (qr _) (zk2 e) (by omega))
def Tb.sum{n a b v:Nat}{f:Q1x}(hn:n<=2 ^ v)(h:∀i,i<n->Tb a b (f i)):Tb a (b+v) (sumTo n f):=(JN (xA a) n h).mono (WN hn (qr _) (by omega))
def Tb.sk{a b k:Nat}{q:Rat}(h:Tb a b q)(hk:a<=k)(hb:b+3*(k - a)<=8*k):Sk k q:=Tb.up h hk hb
def Tb.neg{a b:Nat}{q:Rat}(h:Tb a b q):Tb a b (-q):=by
 have⟨x,e,hx⟩:=h.ex;exact⟨h.pos,-x,by rw[pP,<-e];grind,by rw[nU];exact hx⟩
def Fq.tb{q:Rat}(h:Fq q):Tb 1 5 q:=h
structure Wm(n s:Nat)(fi:Q1x)(st:Q3x)(p q:Nat)(α β:Nat->Nat):Prop where
 fi:∀x,x<n->Tb (α x) (β x) (fi x)
 st:∀g x y,g<s->x<n->y<n->st g x y=0\/(α x<=α y/\β x<=β y/\Tb (α y - α x+p) (β y - β x+q) (st g x y))
theorem Wm.row{n s p q v:Nat}{fi:Q1x}{st:Q3x}{α β:Nat->Nat}(h:Wm n s fi st p q α β)(hn:n<=2 ^ v):∀(l:Nat)(u:LNt),u.length=l->(∀g∈u,g<s)->∀y,y<n->Tb (α y+l*p) (β y+l*(q+v)) (xw n st fi u y)
 |0,u,hu,_,y,hy=>by
  have e:u=[]:=mr.mp hu;subst e;rw[Nat.zero_mul,Nat.zero_mul];exact h.fi y hy
 |l+1,u,hu,hg,y,hy=>by
  rcases zjM u with e|⟨w,g,e⟩
  ·rw[e] at hu;simp at hu
  subst e;have hw:w.length=l:=by simpa using hu
  have ih:=h.row hn l w hw λg' hg'=>hg g' (qg.mpr (.inl hg'))
  have hgs:g<s:=hg g (qg.mpr (.inr (qE.mpr rfl)));rw[VX]
  have:=Tb.sum (a:=α y+(l+1)*p) (b:=β y+l*(q+v)+q) (f:=λx=>xw n st fi w x*st g x y) hn λx hx=>by
   rcases h.st g x y hgs hx hy with z|⟨z1,z2,z3⟩
   ·rw[z,gp];exact Tb.zero _ _
   ·have e1:α x+l*p+(α y - α x+p)=α y+(l+1)*p:=by rw[gH];omega
    have e2:β x+l*(q+v)+(β y - β x+q)=β y+l*(q+v)+q:=by omega
    have:=(ih x hx).mul z3;rw[e1,e2] at this;exact this
  rw[show β y+(l+1)*(q+v)=β y+l*(q+v)+q+v by rw[gH];omega];exact this
noncomputable def jnN(n:Nat)(f g:Nat->Nat):Nat->Nat:=λx=>if x<n then f x else g (x - n)
def Wm.add{n m s p q:Nat}{fi gi:Q1x}{st su:Q3x}{α β α' β':Nat->Nat}(A:Wm n s fi st p q α β)(B:Wm m s gi su p q α' β'):Wm (n+m) s (jn n fi gi) (jo n st su) p q (jnN n α α') (jnN n β β') where
 fi:=λx hx=>by
  unfold jn jnN;by_cases z:x<n
  ·rw[qf z,qf z,qf z];exact A.fi x z
  ·rw[qq z,qq z,qq z];exact B.fi (x - n) (by omega)
 st:=λg x y hg hx hy=>by
  unfold jo jnM jn jnN;by_cases z:x<n
  ·rw[qf z];by_cases w:y<n
   ·rw[qf w,qf z,qf w,qf z,qf w];exact A.st g x y hg z w
   ·rw[qq w];exact .inl rfl
  ·rw[qq z];by_cases w:y<n
   ·rw[qf w];exact .inl rfl
   ·rw[qq w,qq z,qq w,qq z,qq w];exact B.st g (x - n) (y - n) hg (by omega) (by omega)
structure jR(n s:Nat)(fi:Q1x)(st:Q3x)(la:Q1x)(a b:Nat):Prop where
 fi:∀x,x<n->Tb a b (fi x)
 st:∀g x y,g<s->x<n->y<n->Tb a b (st g x y)
 la:∀x,x<n->Tb a b (la x)
section
variable{n m s a b:Nat}{fi gi la lb:Q1x}{st su:Q3x}
def zcK.tb(h:zcK n s fi st la):jR n s fi st la 1 5:=⟨λx hx=>(h.fi x hx).tb,λg x y hg hx hy=>(h.st g x y hg hx hy).tb,λx hx=>(h.la x hx).tb⟩
def jR.up{c d:Nat}(h:jR n s fi st la a b)(hc:a<=c)(hd:b+3*(c - a)<=d):jR n s fi st la c d:=⟨λx hx=>(h.fi x hx).up hc hd,λg x y hg hx hy=>(h.st g x y hg hx hy).up hc hd,λx hx=>(h.la x hx).up hc hd⟩
def jR.wm(h:jR n s fi st la a b):Wm n s fi st a b (λ_=>a) λ_=>b:=⟨h.fi,λg x y hg hx hy=>.inr ⟨qr _,qr _,by rw[gA,gA,mU,mU];exact h.st g x y hg hx hy⟩⟩
def jR.turned(h:jR n s fi st la a b):jR n s la (λg x y=>st g y x) fi a b:=⟨h.la,λg x y hg hx hy=>h.st g y x hg hy hx,h.fi⟩
def ZT{f g:Q1x}(hf:∀x,x<n->Tb a b (f x))(hg:∀x,x<m->Tb a b (g x))(x:Nat)(hx:x<n+m):Tb a b (jn n f g x):=by
 unfold jn;by_cases z:x<n
 ·rw[qf z];exact hf x z
 ·rw[qq z];exact hg (x - n) (by omega)
def jR.add(A:jR n s fi st la a b)(B:jR m s gi su lb a b):jR (n+m) s (jn n fi gi) (jo n st su) (jn n la lb) a b where
 fi:=ZT A.fi B.fi
 st:=λg x y hg hx hy=>by
  unfold jo jnM;by_cases z:x<n
  ·rw[qf z];exact ZT (λy hy=>A.st g x y hg z hy) (λy _=>Tb.zero _ _) y hy
  ·rw[qq z];exact ZT (λy _=>Tb.zero _ _) (λy hy=>B.st g (x - n) y hg (by omega) hy) y hy
 la:=ZT A.la B.la
end
end L2.Fu
namespace L2.Fu
open PySem WS WD WD.DT
open PySem.Builtin.Int (intBits)
section
variable{n m s β:Nat}{fi gi la lb:Q1x}{st su:Q3x}{CS:AdX}
def jR.mach{a b k:Nat}(h:jR n s fi st la a b)(hk:a<=k)(hb:b+3*(k - a)<=8*k):Mach n s fi st la k:=⟨λx hx=>(h.fi x hx).sk hk hb,λg x y hg hx hy=>(h.st g x y hg hx hy).sk hk hb,λx hx=>(h.la x hx).sk hk hb⟩
end
end L2.Fu
namespace L2.Fu
open PySem PySem.Spec PyProof.Rows WS WD WD.DT
section
variable{n s:Nat}{fi la:Q1x}{st:Q3x}{i j:Nat}{c:Rat}
theorem UC(hi:i<n)(hj:j<n)(hij:i≠j):∀(u:LNt)(r:Q1x),xw n (vB i j c st) (trn i j c r) u=trn i j c (xw n st r u)
 |[],_=>rfl
 |g::u,r=>by
  show xw n (vB i j c st) (led n (trn i j c r) (vB i j c st g)) u=trn i j c (xw n st (led n r (st g)) u)
  rw[show led n (trn i j c r) (vB i j c st g)=trn i j c (led n r (st g)) from funext λb=>zad hi hj hij r g b];exact UC hi hj hij u _
def zf9(hij:i≠j):(λg a b=>vB i j c st g b a)=vB j i (-c) λg a b=>st g b a:=by
 funext g a b
 unfold vB trn;by_cases h1:b=i<;>by_cases h2:a=j
 ·subst h1 h2;simp only [qf,qq hij,qq (gu hij)]<;>grind
 ·subst h1;simp only [qf,qq h2,qq hij,qq (gu hij)]<;>grind
 ·subst h2;simp only [qf,qq h1,qq hij,qq (gu hij)]<;>grind
 ·simp only [qq h1,qq h2]
def zde(hi:i<n)(hj:j<n)(hij:i≠j)(v:LNt):zgZ n (vB i j c st) (trn j i (-c) la) v=trn j i (-c) (zgZ n st la v):=by
 rw[<-uV (vB i j c st),<-uV st la v,zf9 hij];exact UC hj hi (gu hij) v.reverse la
def Zm{a b:Nat}{f:Q1x}(hi:i<n)(hj:j<n)(hf:∀x,x<n->Tb a b (f x))(hc:Tb 1 5 c)(x:Nat)(hx:x<n):Tb (a+1) (b+6) (trn i j c f x):=by
 unfold trn;split
 ·have h1:Tb (a+1) (b+5) (f j):=(hf j hj).up (by omega) (by omega);have h2:Tb (a+1) (b+5) (c*f i):=by
   have:=hc.mul (hf i hi);rw[pG 1 a,pG 5 b] at this;exact this
  have:=InB.add h1 h2;rw[<-Nat.two_mul,<-Nat.pow_succ'] at this;exact this
 ·exact(hf x hx).up (by omega) (by omega)
def zhP{a b:Nat}(hi:i<n)(hj:j<n)(A:jR n s fi st la a b)(hc:Tb 1 5 c):jR n s (trn i j c fi) (vB i j c st) (trn j i (-c) la) (a+2) (b+12) where
 fi:=λx hx=>(Zm hi hj A.fi hc x hx).up (by omega) (by omega)
 st:=λg x y hg hx hy=>by
  have R:∀x,x<n->∀y,y<n->Tb (a+1) (b+6) (trn i j c (st g x) y):=λx hx=>Zm hi hj (λy hy=>A.st g x y hg hx hy) hc
  unfold vB;split
  ·have h1:Tb (a+2) (b+11) (trn i j c (st g i) y):=(R i hi y hy).up (by omega) (by omega);have h2:Tb (a+2) (b+11) (-c*trn i j c (st g j) y):=by
    have:=hc.neg.mul (R j hj y hy);rw[show 1+(a+1)=a+2 by omega,show 5+(b+6)=b+11 by omega] at this;exact this
   have:=InB.add h1 h2;rw[<-Nat.two_mul,<-Nat.pow_succ'] at this;exact this
  ·exact(R x hx y hy).up (by omega) (by omega)
 la:=λx hx=>(Zm hj hi A.la hc.neg x hx).up (by omega) (by omega)
structure Kb(n s:Nat)(fi:Q1x)(st:Q3x)(la:Q1x)(t:Nat):Prop where
 row:∀u:List Nat,(∀g∈u,g<s)->∀x,x<n->Tb (1+u.length+t) (5+u.length*8+6*t) (xw n st fi u x)
 col:∀u:List Nat,(∀g∈u,g<s)->∀x,x<n->Tb (1+u.length+t) (5+u.length*8+6*t) (zgZ n st la u x)
 mt:jR n s fi st la (1+2*t) (5+12*t)
def Kb.new(A:jR n s fi st la 1 5)(hn:n<=8):Kb n s fi st la 0 where
 row:=λu hg x hx=>by
  have:=A.wm.row (v:=3) (by omega) u.length u rfl hg x hx;rw[Nat.mul_one] at this;exact this
 col:=λu hg x hx=>by
  have:=A.turned.wm.row (v:=3) (by omega) u.reverse.length u.reverse rfl (λg h=>hg g (gh.mp h)) x hx;rw[uV,h9,Nat.mul_one] at this;exact this
 mt:=A
def Kb.mix{t:Nat}(A:Kb n s fi st la t)(hi:i<n)(hj:j<n)(hij:i≠j)(hc:Tb 1 5 c):Kb n s (trn i j c fi) (vB i j c st) (trn j i (-c) la) (t+1) where
 row:=λu hg x hx=>by
  rw[UC hi hj hij];exact Zm hi hj (A.row u hg) hc x hx
 col:=λu hg x hx=>by
  rw[zde hi hj hij];exact Zm hj hi (A.col u hg) hc.neg x hx
 mt:=zhP hi hj A.mt hc
def Kb.up{t:Nat}(A:Kb n s fi st la t):Kb n s fi st la (t+1) where
 row:=λu hg x hx=>(A.row u hg x hx).up (by omega) (by omega)
 col:=λu hg x hx=>(A.col u hg x hx).up (by omega) (by omega)
 mt:=A.mt.up (by omega) (by omega)
end
section
variable{n m s:Nat}{fi gi:Q1x}{st su:Q3x}{la lb:Q1x}
def zfT(c:Int){more:Nat}(hm:n+more<=8)(hs:s<=42)(A:zcK n s fi st la):∃fi' st' la',Wa [zv n s fi st la,.int c,.int (more:Int)]=some (zv (n+more) s fi' st' la')/\Kb (n+more) s fi' st' la' 3/\∀ws,wt (n+more) st' fi' la' ws=wt n st fi la ws:=by
 have ln0:∀(n':Nat)(fi:Q1x)(st:Q3x)(la:Q1x)(ρ:Ro),gv 0 ρ=some (zv n' s fi st la)->zf yl (aC (op2 ixD (gv 0) (cst (.int 0))) a0) ρ=some (.int (n':Int)):=λn' fi st la ρ h=>(zd (zk ((zc h rfl).trans jM) rfl)).trans (xT n' _)
 have step1:∃fi1 st1 la1 c5 c6,(ifS (zB (op2 gtI (gv 2) (cst (.int 0)))) (sq (zT 5 (zf yr (aC (gv 1) (aC (gv 2) (aC (gv 4) a0)))))
   (sq (zT 6 (zf yk (aC (yo (zU 1 [] (yW (aC (gv 2) a0)) (bN 0) (xu (aC (cst (.int 0)) (aC (cst (.int 1)) a0))))) a0)))
   (ifS (zB (op2 eqD (op2 yy (gv 1) (cst (.int 2))) (cst (.int 0)))) (zT 0 (zf xS (aC (gv 0) (aC (xu (aC (gv 6) (aC (op2 ixD (gv 5) (cst (.int 1))) (aC (op2 ixD (gv 5) (cst (.int 2))) a0)))) a0)))) (zT 0 (zf xS (aC (gv 0) (aC (xu (aC (op2 ixD (gv 5) (cst (.int 0))) (aC (op2 ixD (gv 5) (cst (.int 1))) (aC (gv 6) a0)))) a0))))))) s0)
   [.pu (zv n s fi st la),.pu (.int c),.pu (.int (more:Int)),.pu (.int (n:Int)),.pu (.int (s:Int)),.no,.no,.no,.no,.no]=some (.nx [.pu (zv (n+more) s fi1 st1 la1),.pu (.int c),.pu (.int (more:Int)),.pu (.int (n:Int)),.pu (.int (s:Int)),c5,c6,.no,.no,.no])/\Kb (n+more) s fi1 st1 la1 0/\∀ws,wt (n+more) st1 fi1 la1 ws=wt n st fi la ws:=by
  by_cases z:more=0
  ·subst z;exact⟨fi,st,la,.no,.no,(jD (zE rfl)).trans rfl,Kb.new A.tb (by omega),λws=>rfl⟩
  ·obtain⟨gi,su,lb,e,B⟩:=vx c (n:=more) (s:=s) (by omega) hs;have B1:=B.tb;have none:zf yk (aC (yo (zU 1 [] (yW (aC (gv 2) a0)) (bN 0) (xu (aC (cst (.int 0)) (aC (cst (.int 1)) a0))))) a0) [.pu (zv n s fi st la),.pu (.int c),.pu (.int (more:Int)),.pu (.int (n:Int)),.pu (.int (s:Int)),.pu (zv more s gi su lb),.no,.no,.no,.no]=some (yE more λ_=>0):=(zd (xs:=[.list ((List.range more).map λ_=>fr 0)]) (zk (yc (jO (n:=more) rfl (by omega) λi _=>yG.trans rfl)) rfl)).trans rfl
   obtain⟨r2,hr2,er2⟩:=Vc (i:=c) (m:=2) (by decide);have cond:zB (op2 eqD (op2 yy (gv 1) (cst (.int 2))) (cst (.int 0))) [.pu (zv n s fi st la),.pu (.int c),.pu (.int (more:Int)),.pu (.int (n:Int)),.pu (.int (s:Int)),.pu (zv more s gi su lb),.pu (yE more λ_=>0),.no,.no,.no]=some (decide ((r2:Int)=0)):=zE ((zc ((zc rfl rfl).trans er2) rfl).trans (xU _ _));have gt:zB (op2 gtI (gv 2) (cst (.int 0))) [.pu (zv n s fi st la),.pu (.int c),.pu (.int (more:Int)),.pu (.int (n:Int)),.pu (.int (s:Int)),.no,.no,.no,.no,.no]=some true:=(zE (show _=some (PyData.bool (decide ((0:Int)<(more:Int)))) from rfl)).trans (by rw[qB (by omega)])
   have pre:∀g:Ro->Option Fl,_:=λg=>(vb gt (f:=sq (zT 5 (zf yr (aC (gv 1) (aC (gv 2) (aC (gv 4) a0))))) (sq (zT 6 (zf yk (aC (yo (zU 1 [] (yW (aC (gv 2) a0)) (bN 0) (xu (aC (cst (.int 0)) (aC (cst (.int 1)) a0))))) a0))) g)) (g:=s0)).trans ((zy (zG ((zd rfl).trans e))).trans (zy (zG none)))
   by_cases q:r2=0
   ·refine⟨jn n fi λ_=>0,jo n st su,jn n la lb,_,_,(pre _).trans ((vb (cond.trans (by rw[qB (by omega)]))).trans ((zG (d:=zv (n+more) s (jn n fi λ_=>0) (jo n st su) (jn n la lb)) ((zd (zk rfl (zk (x:=zv more s (λ_=>0) su lb) (WB rfl ((zc rfl rfl).trans vM) ((zc rfl rfl).trans JC)) rfl))).trans (wV (by omega) (by omega) hs))).trans rfl)),Kb.new (A.tb.add ⟨λ_ _=>Tb.zero 1 5,B1.st,B1.la⟩) (by omega),λws=>?_⟩;rw[Yu ws _ fi (λ_=>0) λx _=>rfl,J9 ws _ λx _=>rfl];grind
   ·refine⟨jn n fi gi,jo n st su,jn n la λ_=>0,_,_,(pre _).trans ((jD (cond.trans (by rw[qI (by omega)]))).trans ((zG (d:=zv (n+more) s (jn n fi gi) (jo n st su) (jn n la λ_=>0)) ((zd (zk rfl (zk (x:=zv more s gi su λ_=>0) (WB ((zc rfl rfl).trans jM) ((zc rfl rfl).trans vM) rfl) rfl))).trans (wV (by omega) (by omega) hs))).trans rfl)),Kb.new (A.tb.add ⟨B1.fi,B1.st,λ_ _=>Tb.zero 1 5⟩) (by omega),λws=>?_⟩;rw[Yu ws _ fi gi λx _=>rfl,zaJ];grind
 have⟨fi1,st1,la1,c5,c6,e1,A1,w1⟩:=step1;obtain⟨ρ1,e2,c',fi2,st2,la2,o7,o8,o9,A2,w2,rfl⟩:=uR (n:=3) (g:=aC (cst (.int 3)) a0) (bd:=bN 7)
  (b:=sq (zT 1 (op2 yy (op2 xN (op2 yR (gv 1) (cst (.int 48271))) (cst (.int 31))) (cst (.int 2147483647))))
   (sq (zT 8 (op2 yy (op2 yj (gv 1) (cst (.int 5))) (zf maxD (aC (cst (.int 1)) (aC (gv 3) a0)))))
   (sq (zT 9 (op2 yy (op2 yj (gv 1) (cst (.int 35))) (zf maxD (aC (cst (.int 1)) (aC (gv 3) a0)))))
   (ifS (zB (op2 neD (gv 8) (gv 9))) (zT 0 (zf wO (aC (gv 0) (aC (gv 8) (aC (gv 9) (aC (zf yK (aC (op2 yj (gv 1) (cst (.int 300))) a0)) a0)))))) s0))))
  (ρ0:=[.pu (zv (n+more) s fi1 st1 la1),.pu (.int c),.pu (.int (more:Int)),.pu (.int ((n+more:Nat):Int)),.pu (.int (s:Int)),c5,c6,.no,.no,.no])
  (λi ρ=>∃(c':Int)(fi':Q1x)(st':Q3x)(la':Q1x)(o7 o8 o9:Sl),Kb (n+more) s fi' st' la' i/\(∀ws,wt (n+more) st' fi' la' ws=wt n st fi la ws)/\ρ=[.pu (zv (n+more) s fi' st' la'),.pu (.int c'),.pu (.int (more:Int)),.pu (.int ((n+more:Nat):Int)),.pu (.int (s:Int)),c5,c6,o7,o8,o9])
  rfl (by decide) ⟨c,fi1,st1,la1,.no,.no,.no,A1,w1,rfl⟩ λt ρ ht ⟨c',fi',st',la',o7,o8,o9,A',w',q⟩=>by
   subst q;obtain⟨u,hu,eu⟩:=Vc (i:=c'*48271+31) (m:=2147483647) (by decide);have mx:∀ρ:Ro,gv 3 ρ=some (.int ((n+more:Nat):Int))->zf maxD (aC (cst (.int 1)) (aC (gv 3) a0)) ρ=some (.int ((max 1 (n+more):Nat):Int)):=λρ h=>by
    refine(zd (zk rfl (zk h rfl))).trans ?_;show some (PyData.int (if ((n+more:Nat):Int)>1 then ((n+more:Nat):Int) else 1))=_
    congr 2
    split<;>omega
   obtain⟨i,hi,ei⟩:=Vc (i:=(u:Int).fdiv 5) (m:=max 1 (n+more)) (by omega);obtain⟨j,hj,ej⟩:=Vc (i:=(u:Int).fdiv 35) (m:=max 1 (n+more)) (by omega);obtain⟨qc,hqc,sqc⟩:=v5 ((u:Int).fdiv 300);have pre:∀g:Ro->Option Fl,(sq (zT 1 (op2 yy (op2 xN (op2 yR (gv 1) (cst (.int 48271))) (cst (.int 31))) (cst (.int 2147483647))))
     (sq (zT 8 (op2 yy (op2 yj (gv 1) (cst (.int 5))) (zf maxD (aC (cst (.int 1)) (aC (gv 3) a0)))))
     (sq (zT 9 (op2 yy (op2 yj (gv 1) (cst (.int 35))) (zf maxD (aC (cst (.int 1)) (aC (gv 3) a0))))) g)))
     [.pu (zv (n+more) s fi' st' la'),.pu (.int c'),.pu (.int (more:Int)),.pu (.int ((n+more:Nat):Int)),.pu (.int (s:Int)),c5,c6,.pu (.int (t:Int)),o8,o9]=g [.pu (zv (n+more) s fi' st' la'),.pu (.int (u:Int)),.pu (.int (more:Int)),.pu (.int ((n+more:Nat):Int)),.pu (.int (s:Int)),c5,c6,.pu (.int (t:Int)),.pu (.int (i:Int)),.pu (.int (j:Int))]:=λg=>by
    refine(zy (zG (d:=.int (u:Int)) ((zc ((zc ((zc rfl rfl).trans (UB (j:=48271) (by decide))) rfl).trans rfl) rfl).trans eu))).trans ?_;refine(zy (zG (d:=.int (i:Int)) ((zc ((zc rfl rfl).trans (yp (j:=5) (by decide) (by decide))) (mx _ rfl)).trans ei))).trans ?_;exact zy (zG (d:=.int (j:Int)) ((zc ((zc rfl rfl).trans (yp (j:=35) (by decide) (by decide))) (mx _ rfl)).trans ej))
   have cond:zB (op2 neD (gv 8) (gv 9)) [.pu (zv (n+more) s fi' st' la'),.pu (.int (u:Int)),.pu (.int (more:Int)),.pu (.int ((n+more:Nat):Int)),.pu (.int (s:Int)),c5,c6,.pu (.int (t:Int)),.pu (.int (i:Int)),.pu (.int (j:Int))]=some (!decide ((i:Int)=(j:Int))):=zE ((zc rfl rfl).trans (vQ _ _));by_cases z:i=j
   ·exact⟨_,_,rfl,(pre _).trans ((jD (cond.trans (qM (λb=>some (!b)) (qB (by omega))))).trans rfl),(u:Int),fi',st',la',.pu (.int (t:Int)),.pu (.int (i:Int)),.pu (.int (j:Int)),A'.up,w',rfl⟩
   ·have hi':i<n+more:=by omega
    have hj':j<n+more:=by omega
    refine⟨_,_,rfl,(pre _).trans ((vb (cond.trans (qM (λb=>some (!b)) (qI (by omega))))).trans (zG ((zd (zk rfl (zk rfl (zk rfl (zk ((zd (zk ((zc rfl rfl).trans (yp (j:=300) (by decide) (by decide))) rfl)).trans hqc) rfl))))).trans (zic (k:=13) (by omega) hs hi' hj' (by decide) (A'.mt.mach (by omega) (by omega)) sqc.sk)))),(u:Int),_,_,_,.pu (.int (t:Int)),.pu (.int (i:Int)),.pu (.int (j:Int)),A'.mix hi' hj' z sqc.tb,λws=>(zc7 hi' hj' z ws fi').trans (w' ws),rfl⟩
 refine⟨fi2,st2,la2,ya rfl ?_,A2,w2⟩;refine(zy (zG (ln0 n fi st la _ rfl))).trans ((zy (zG (zaX (i:=0) rfl))).trans ((zy e1).trans ((zy (zG (d:=.int ((n+more:Nat):Int)) ((zc rfl rfl).trans (by rw[pV];rfl)))).trans ((zy e2).trans (zO rfl)))))
end
end L2.Fu
namespace K10
open PySem PySem.Spec PyProof.Rows L2 L2.Fu
def J5:RFx:=(zha 1 0 (zcm 0 1 [] (yw (gv 0)) (bN 0) (λρ=>((yQ ju (aC (gv 0) a0)) ρ).map λds=>(show NT 1 from ds))) (nsq (nset 3 (op2 yy (gv 2) (cst (.int 4))))
 (nsq (zcO 0 4 (op2 yy (op2 yj (gv 2) (cst (.int 4))) (zf maxD (aC (cst (.int 1)) (aC (zf yl (aC (gb 0) a0)) a0)))))
 (fzq (zbF 0 (orT (zB (op2 eqD (gv 3) (cst (.int 0)))) (orT (zB (op2 eqD (zf yl (aC (gb 0) a0)) (cst (.int 0)))) (zB (op2 eqD (gv 1) (cst (.int 0)))))) (Yk 0 (inS 0 (gv 4) (yo (zU 1 [] (yW (aC (gv 1) a0)) (bN 0) (xu (aC (cst (.int 0)) (aC (cst (.int 1)) a0))))))) (fzq (zbF 0 (zB (op2 eqD (gv 3) (cst (.int 1)))) (Yk 0 (ppS 0 (gv 4))) (fzq (zbF 0 (zB (op2 eqD (gv 3) (cst (.int 2)))) (Yk 0 (apS 0 (yo (yQ ju (aC (op2 ixD (gb 0) (gv 4)) a0))))) (nsq (nput (nbI (λ_=>some []) (gv 4)) (op2 yy (op2 yj (gv 2) (cst (.int 64))) (gv 1)) (zf yK (aC (op2 yj (gv 2) (cst (.int 512))) a0))) (Yk 0 s0))) s0)) s0)) (Uo (gk 0))))))
def jy:LLx:=fnL 5 3 J5
def zkl(CS:AdX):RFx:=(sq (zT 1 (op2 xN (cst (.int 1)) (op2 yy (zf zM (aC (gv 0) (aC (cst (.int 0)) a0))) (cst (.int 2)))))
 (sq (zT 2 (zf yr (aC (zf zM (aC (gv 0) (aC (cst (.int 1)) a0))) (aC (op2 yy (op2 yj (zf zM (aC (gv 0) (aC (cst (.int 0)) a0))) (cst (.int 2))) (cst (.int 4))) (aC (gv 1) a0)))))
 (sq (zT 3 (zf zM (aC (gv 0) (aC (cst (.int 2)) a0))))
 (sq (zT 4 (zf Wa (aC (gv 2) (aC (zf zM (aC (gv 0) (aC (cst (.int 3)) a0))) (aC (zf minD (aC (op2 VR (cst (.int 3)) (zf yl (aC (op2 ixD (gv 2) (cst (.int 0))) a0))) (aC (op2 yy (op2 yj (gv 3) (cst (.int 4))) (cst (.int 2))) a0))) a0)))))
 (sq (ifS (zB (op2 eqD (op2 yy (gv 3) (cst (.int 4))) (cst (.int 1)))) (zT 4 (zf yr (aC (zf zM (aC (gv 0) (aC (cst (.int 3)) a0))) (aC (op2 yy (op2 yj (gv 3) (cst (.int 4))) (cst (.int 4))) (aC (gv 1) a0))))) s0)
 (sq (zT 5 (op2 xN (zf yl (aC (op2 ixD (gv 2) (cst (.int 0))) a0)) (zf yl (aC (op2 ixD (gv 4) (cst (.int 0))) a0))))
 (sq (zT 6 (zf (jc CS) (aC (gv 2) (aC (gv 4) a0))))
 (sq (ifS (orT (zB (op2 isD (gv 6) (cst .none))) (zB (op2 eqD (op2 yy (gv 3) (cst (.int 4))) (cst (.int 2))))) (sq (x5 6 (vo a0))
 (jw (yW (aC (op2 yy (op2 yj (gv 3) (cst (.int 16))) (cst (.int 4))) a0)) (bN 7) (sq (zT 8 (zf yr (aC (zf zM (aC (gv 0) (aC (op2 xN (cst (.int 5)) (gv 7)) a0))) (aC (gv 5) (aC (cst (.int 1)) a0)))))
 (apS 6 (yo (yQ ju (aC (op2 ixD (gv 8) (cst (.int 0))) a0))))))) s0)
 (sq (frS 6 (ifS (zB (op2 eqD (op2 yy (zf zM (aC (gv 0) (aC (cst (.int 4)) a0))) (cst (.int 2))) (cst (.int 1)))) (x5 6 (yQ jy (aC (gv 6) (aC (gv 5) (aC (op2 yj (zf zM (aC (gv 0) (aC (cst (.int 4)) a0))) (cst (.int 2))) a0))))) s0))
 (sq (frS 6 (zT 9 (op2 yy (op2 yj (zf zM (aC (gv 0) (aC (cst (.int 4)) a0))) (cst (.int 2))) (cst (.int 3)))))
 (sq (x5 10 (zU 1 [] (yw (gv 6)) (bN 0) (yo (yQ ju (aC (gv 0) a0)))))
 (sq (jw (yW (aC (zf yl (aC (gv 6) a0)) a0)) (bN 7) (ifS (orT (zB (op2 eqD (gv 9) (cst (.int 1)))) (za6 (zB (op2 eqD (gv 9) (cst (.int 2)))) (zB (op2 eqD (op2 yy (gv 7) (cst (.int 2))) (cst (.int 0)))))) (siS 10 (gv 7) (zf yk (aC (op2 ixD (gv 6) (gv 7)) a0))) s0))
 (sq (x5 11 (yQ ju (aC (gb 10) a0)))
 (sq (zT 12 (Wk Vi (aC (gv 2) (aC (gv 4) (aC (gb 10) a0)))))
 (retS (zfJ (op1 (ziS "bool") (gv 12)) (zfJ (op2 eqD (gv 12) (zf wF (aC (gv 2) (aC (gv 4) (aC (gv 6) a0))))) (op2 eqD (gb 10) (gb 11)))))))))))))))))))
def zkv(CS:AdX):LPx:=fnF 13 1 (zkl CS)
end K10
namespace K10
open PySem WS WD WD.DT L2 L2.Fu
open PySem.Builtin.Int (intBits)
def Okd(k:Nat)(d:PdX):Prop:=PyData.canLay0 d=true/\PyData.depth d<=k/\PyData.eqv d d=true
theorem zaI{k:Nat}:∀ds:List PyData,(∀d∈ds,Okd k d)->PyData.canLayAll0 ds=true/\PyData.depthAll ds<=k/\PyData.eqvAll ds ds=true
 |[],_=>⟨rfl,kE _,rfl⟩
 |d::ds,h=>by
  obtain⟨a,b,c⟩:=zaI ds λx hx=>h x (qz _ hx)
  obtain⟨a',b',c'⟩:=h d (qZ ..);refine⟨?_,?_,?_⟩
  ·show(PyData.canLay0 d&&PyData.canLayAll0 ds)=true
   rw[a,a'];rfl
  ·show max (PyData.depth d) (PyData.depthAll ds)<=k
   omega
  ·show(PyData.eqv d d&&PyData.eqvAll ds ds)=true
   rw[c,c'];rfl
def zfm(i:Int):Okd 0 (.int i):=⟨rfl,qr _,by simp[PyData.eqv]⟩
def zfl{k:Nat}{ds:LPd}(h:∀d∈ds,Okd k d):Okd (k+1) (.tuple ds):=by
 have⟨a,b,c⟩:=zaI ds h;exact⟨a,mI b,c⟩
def zfc{k:Nat}{ds:LPd}(h:∀d∈ds,Okd k d):Okd (k+1) (.list ds):=by
 have⟨a,b,c⟩:=zaI ds h;exact⟨a,mI b,c⟩
def zlY(t:Bool)(n:Nat)(f:Q1x):Okd 2 (qd t n f):=by
 have h:∀d∈(List.range n).map (λi=>fr (f i)),Okd 1 d:=λd hd=>by
  obtain⟨i,_,rfl⟩:=ky.mp hd;refine zfl λd hd=>?_
  rcases qu.mp hd with rfl|hd
  ·exact zfm _
  ·rw[qE.mp hd];exact zfm _
 cases t
 ·exact zfc h
 ·exact zfl h
def zhD{k:Nat}{d:PdX}(h:Okd k d)(hk:k<=64):eqD d d=some (.bool true):=by
 have⟨a,b,c⟩:=h;have s:SeqAt.shaped d=true:=by
  unfold SeqAt.shaped;rw[a,mM];exact qB (qw b hk)
 unfold eqD;rw[qf ⟨s,s⟩,c]
def Rw(N b:Nat)(q:Q1x):Prop:=∀i,i<N->InB 6 (2 ^ b) (q i)
def Rw.zje{N b:Nat}{q:Q1x}(h:∀i,i<N->Fq (q i))(hb:5<=b):Rw N b q:=λi hi=>InB.mono (h i hi) (qw (show 32<=2 ^ 5 by decide) (kq (by decide) hb))
def Rw.zlx{N b:Nat}{r:Z1x}(h:∀i,i<N->(r i).natAbs<=2 ^ b):Rw N (b+3) (rt r):=λi hi=>by
 have:=InB.up (zh4 (h i hi)) (c:=6) (by decide);rw[nJ] at this;exact this.mono (WN (qr _) (show 6<=2 ^ 3 by decide) (qr _))
def Rw.ex{N b:Nat}{q:Q1x}(h:Rw N b q):Ex N (2 ^ b) 6 q:=zd0 (by decide) h
def Rw.sk{N b k:Nat}{q:Q1x}(h:Rw N b q)(hk:0<k)(hb:b+3*(k - 1)<=8*k):∀i,i<N->Sk k (q i):=λi hi=>by
 have:Tb 1 b (q i):=h i hi;exact this.sk hk hb
abbrev tL(N:Nat)(R:LQr):List (NT 1):=R.map λq=>(show NT 1 from(List.range N).map λi=>fr (q i))
abbrev tR(N:Nat)(R:LQr):NT 2:=tL N R
def YO(N:Nat)(R:LQr):Jd (tR N R)=zt N R:=by
 show(R.map λq=>(show NT 1 from(List.range N).map λi=>fr (q i))).map (toD 1)=R.map (yh N)
 rw[k6];refine k7 λq _=>?_
 show PyData.list (((List.range N).map λi=>fr (q i)).map (toD 0))=.list ((List.range N).map λi=>fr (q i))
 congr 1
 exact List.map_id' _
theorem zbW{α β γ:Type}{h:α->Option β}{e:γ->α}{f:γ->β}:∀{xs:List γ},(∀x∈xs,h (e x)=some (f x))->vf h (xs.map e)=some (xs.map f)
 |[],_=>rfl
 |x::xs,q=>by
  show(h (e x)).bind _=_
  rw[q x (qZ ..),qk,zbW λy hy=>q y (qz _ hy)];rfl
def zjU{i:Nat}{f:RPx}{ρ:Ro}{ds:LPd}{a:Nat}(h1:gk i ρ=some ds)(h3:f ρ=some (.int (a:Int)))(h4:a<ds.length)(h5:ds.length<=16777216):ppS i f ρ=some (.nx (ρ.set i (.ow (ds.eraseIdx a)))):=by
 unfold ppS;rw[h1,qk,h3];dsimp only;first
  |rw[qf ⟨by omega,by omega,h5⟩,kb]
  |rw[qf ⟨by omega,by omega⟩,kb]
def zkg{N a:Nat}{R:LQr}{q:Q1x}(h:R[a]?=some q):ixD (.list (zt N R)) (.int (a:Int))=some (yh N q):=JR (by rw[qo,h];rfl)
noncomputable def zf4(q:Q1x)(j:Nat)(v:Rat):Nat->Rat:=λi=>if i=j then v else q i
def zjd(N:Nat)(q:Q1x)(j:Nat)(v:Rat):((List.range N).map λi=>fr (q i)).set j (fr v)=(List.range N).map λi=>fr (zf4 q j v i):=by
 refine kT λi=>?_
 by_cases hi:i<N
 ·rw[qo,ke hi];by_cases h:j=i
  ·subst h;rw[kn (by simpa using hi)];show some (fr v)=some (fr (if j=j then v else q j))
   rw[qf rfl]
  ·rw[qG h,qo,ke hi];show some (fr (q i))=some (fr (if i=j then v else q i))
   rw[qq (gu h)]
 ·rw[kN (by simpa using hi),kN (by simpa using hi)]
def zhH{x:List (NT 1)}{a:Nat}{y:NT 1}{ds:LPd}(h:x[a]?=some y):ZF 1 (show NT 2 from x) [a] ds=(show NT 2 from x.set a (show NT 1 from ds)):=by
 show ZF (0+1) (show NT 2 from x) (a::[]) ds=_
 simp only [ZF];rw[h]
def zi5{n i:Nat}{cf:Ro->Option (NT (n+1))}{g:Ro->NT (n+1)->Option (NR n)}{ρ:Ro}{x:NT (n+1)}{r:Fl}(h1:cf ρ=some x)(hi:i<ρ.length)(h2:g (ρ.set i .no) x=some (.fz r)):zha n i cf g ρ=some r:=by
 unfold zha;rw[h1,qk,qf hi,h2]
def zef{n:Nat}{f g:Ro->NT (n+1)->Option (NR n)}{ρ ρ':Ro}{x x':NT (n+1)}(h:f ρ x=some (.nx ρ' x')):nsq f g ρ x=g ρ' x':=by unfold nsq;rw[h]
def V7{f:Ro->NT 2->Option (NR 1)}{h:RFx}{ρ ρ':Ro}{x:NT 2}{fl:Fl}(e:f ρ x=some (.fz (.nx ρ')))(e2:h ρ'=some fl):fzq f h ρ x=some (.fz fl):=by unfold fzq;rw[e];dsimp only;rw[e2];rfl
def zdU{ℓ:Nat}{c:Ro->Option Bool}{f g:Ro->NT 2->Option (NR 1)}{ρ:Ro}{x:NT 2}(h:c (ρ.set ℓ (.ow (Jd x)))=some true):zbF ℓ c f g ρ x=f ρ x:=by unfold zbF;rw[h];rfl
def VE{ℓ:Nat}{c:Ro->Option Bool}{f g:Ro->NT 2->Option (NR 1)}{ρ:Ro}{x:NT 2}(h:c (ρ.set ℓ (.ow (Jd x)))=some false):zbF ℓ c f g ρ x=g ρ x:=by unfold zbF;rw[h];rfl
def U0{ℓ:Nat}{h:RFx}{ρ:Ro}{x:NT 2}{fl:Fl}(e:h (ρ.set ℓ (.ow (Jd x)))=some fl):Yk ℓ h ρ x=some (.fz fl):=by unfold Yk;rw[e];rfl
def zed{f g:Ro->Option Bool}{ρ:Ro}{a b:Bool}(h1:f ρ=some a)(h2:g ρ=some b):orT f g ρ=some (a || b):=by
 cases a
 ·exact zhT h1 h2
 ·exact zj9 h1
def zdA{N b:Nat}{R:LQr}(c:Int)(hN:N<=42)(hl:R.length<=100)(hR:∀q∈R,Rw N b q)(hb:5<=b):∃R',jy [.list (zt N R),zC N,.int c]=some (zt N R')/\R'.length<=R.length+1/\∀q∈R',Rw N b q:=by
 obtain⟨w,hw,ew⟩:=xy c (m:=4) (by decide);obtain⟨a,ha,ea⟩:=xy (c.fdiv 4) (m:=max 1 R.length) (by omega);have hlen:(zt N R).length=R.length:=qe _;have e0:zcm 0 1 [] (yw (gv 0)) (bN 0) (λρ=>((yQ ju (aC (gv 0) a0)) ρ).map λds=>(show NT 1 from ds)) [.pu (.list (zt N R)),.pu (zC N),.pu (.int c),.no,.no]=some (tR N R):=by
  unfold zcm;show((some (zt N R)).bind _)=_
  rw[qk,qf (by rw[hlen];omega),zbW (e:=yh N) (f:=λq=>(show NT 1 from(List.range N).map λi=>fr (q i))) λq _=>rfl];rfl
 have e1:nset (n:=1) 3 (op2 yy (gv 2) (cst (.int 4))) [.no,.pu (zC N),.pu (.int c),.no,.no] (tR N R)=some (.nx [.no,.pu (zC N),.pu (.int c),.pu (zC w),.no] (tR N R)):=by
  unfold nset;rw[show op2 yy (gv 2) (cst (.int 4)) [.no,.pu (zC N),.pu (.int c),.no,.no]=some (zC w) from(zc rfl rfl).trans ((xf (by decide)).trans (qM (λz=>some (PyData.int z)) ew))];rfl
 have mx:maxD [.int 1,.int ((zt N R).length:Int)]=some (.int ((max 1 R.length:Nat):Int)):=by
  rw[hlen];show some (PyData.int (if (R.length:Int)>1 then (R.length:Int) else 1))=_
  congr 2
  split<;>omega
 have e2:zcO 0 4 (op2 yy (op2 yj (gv 2) (cst (.int 4))) (zf maxD (aC (cst (.int 1)) (aC (zf yl (aC (gb 0) a0)) a0)))) [.no,.pu (zC N),.pu (.int c),.pu (zC w),.no] (tR N R)=some (.nx [.no,.pu (zC N),.pu (.int c),.pu (zC w),.pu (zC a)] (tR N R)):=by
  unfold zcO;rw[YO,show op2 yy (op2 yj (gv 2) (cst (.int 4))) (zf maxD (aC (cst (.int 1)) (aC (zf yl (aC (gb 0) a0)) a0))) (List.set [.no,.pu (zC N),.pu (.int c),.pu (zC w),.no] 0 (.ow (zt N R)))=some (zC a) from(zc ((zc rfl rfl).trans (yp (j:=4) (by decide) (by decide))) ((zd (zk rfl (zk ((zd rfl).trans rfl) rfl))).trans mx)).trans ((xf (by omega)).trans (qM (λz=>some (PyData.int z)) ea))];rfl
 let ρ2:Ro:=[.no,.pu (zC N),.pu (.int c),.pu (zC w),.pu (zC a)]
 have st:ρ2.set 0 (.ow (Jd (tR N R)))=[.ow (zt N R),.pu (zC N),.pu (.int c),.pu (zC w),.pu (zC a)]:=by rw[YO];rfl
 have tw:∀(k:Nat),zB (op2 eqD (gv 3) (cst (.int (k:Int)))) (ρ2.set 0 (.ow (Jd (tR N R))))=some (decide (w=k)):=λk=>by
  rw[st];refine zE ((zc rfl rfl).trans ((xU _ _).trans ?_));congr 2;exact kB.mpr (by omega)
 have t0:orT (zB (op2 eqD (gv 3) (cst (.int 0)))) (orT (zB (op2 eqD (zf yl (aC (gb 0) a0)) (cst (.int 0)))) (zB (op2 eqD (gv 1) (cst (.int 0))))) (ρ2.set 0 (.ow (Jd (tR N R))))=some (decide (w=0) || (decide (R.length=0) || decide (N=0))):=by
  refine zed (tw 0) (zed ?_ ?_)
  ·rw[st];refine zE ((zc (x:=.int ((zt N R).length:Int)) ((zd rfl).trans rfl) rfl).trans ((xU _ _).trans ?_));rw[hlen];congr 2;exact kB.mpr (by omega)
  ·rw[st];refine zE ((zc rfl rfl).trans ((xU _ _).trans ?_));congr 2;exact kB.mpr (by omega)
 have fin:∀{f:Ro->NT 2->Option (NR 1)} {R':LQr},f ρ2 (tR N R)=some (.fz (.nx [.ow (zt N R'),.pu (zC N),.pu (.int c),.pu (zC w),.pu (zC a)]))->zha 1 0 (zcm 0 1 [] (yw (gv 0)) (bN 0) (λρ=>((yQ ju (aC (gv 0) a0)) ρ).map λds=>(show NT 1 from ds))) (nsq (nset 3 (op2 yy (gv 2) (cst (.int 4))))
   (nsq (zcO 0 4 (op2 yy (op2 yj (gv 2) (cst (.int 4))) (zf maxD (aC (cst (.int 1)) (aC (zf yl (aC (gb 0) a0)) a0))))) (fzq f (Uo (gk 0))))) [.pu (.list (zt N R)),.pu (zC N),.pu (.int c),.no,.no]=some (.rl (zt N R')):=λh=>
  zi5 e0 (by show 0<5;omega) ((zef e1).trans ((zef e2).trans (V7 h (vz rfl))))
 by_cases h0:(decide (w=0) || (decide (R.length=0) || decide (N=0)))=true
 ·-- a row of noughts
  rw[h0] at t0;refine⟨R.take a++(λ_=>0)::R.drop a,vp rfl (fin ((zdU t0).trans (U0 ?_))),?_,λq hq=>?_⟩
  ·rw[st];refine(zem (k:=a) (ds:=zt N R) (d:=yh N λ_=>0) rfl rfl (yc ?_) (by omega) (by rw[hlen];omega)).trans ?_
   ·exact jO (n:=N) (d:=λ_=>fr 0) rfl (by omega) λi _=>yG.trans ((jY rfl (by show 2<=16777216;omega)).trans rfl)
   ·rw[show(zt N R).take a++(yh N λ_=>0)::(zt N R).drop a=zt N (R.take a++(λ_=>0)::R.drop a) by show _=List.map (yh N) _;rw[qR,gr,List.map_take,List.map_drop]];rfl
  ·rw[qy,qS,kR,nk];omega
  ·rcases qg.mp hq with z|z
   ·exact hR q (List.mem_of_mem_take z)
   ·rcases qu.mp z with z|z
    ·rw[z];exact λi _=>InB.zero (by decide)
    ·exact hR q (List.mem_of_mem_drop z)
 ·have h0':=pJ.mpr h0;rw[h0'] at t0;rw[Bool.or_eq_false_iff,Bool.or_eq_false_iff] at h0';have hw0:w≠0:=pj h0'.1
  have hR0:R.length≠0:=pj h0'.2.1;have hN0:N≠0:=pj h0'.2.2
  have ha':a<R.length:=by omega
  obtain⟨q,hq⟩:∃q,R[a]?=some q:=⟨_,qp ha'⟩;by_cases h1:w=1
  ·-- one left out
   have t1:=tw 1;rw[qB h1] at t1;refine⟨R.eraseIdx a,vp rfl (fin ((VE t0).trans (V7 ((zdU t1).trans (U0 ?_)) rfl))),?_,λq hq=>hR q (gq hq)⟩
   ·rw[st];refine(zjU (a:=a) (ds:=zt N R) rfl rfl (by rw[hlen];exact ha') (by rw[hlen];omega)).trans ?_;rw[jC];rfl
   ·rw[gZ];split<;>omega
  ·have t1:=tw 1;rw[qI h1] at t1;by_cases h2:w=2
   ·-- one told twice
    have t2:=tw 2;rw[qB h2] at t2;refine⟨R++[q],vp rfl (fin ((VE t0).trans (V7 ((VE t1).trans (V7 ((zdU t2).trans (U0 ?_)) rfl)) rfl))),by rw[qy];exact qr _,λq' hq'=>?_⟩
    ·rw[st];refine(Jj (ds:=zt N R) (d:=yh N q) rfl (yc ((xE (zk ((zc rfl rfl).trans (zkg hq)) rfl)).trans rfl)) (by rw[hlen];omega)).trans ?_;rw[show zt N R++[yh N q]=zt N (R++[q]) by show _=List.map (yh N) _;rw[qR];rfl];rfl
    ·rcases qg.mp hq' with z|z
     ·exact hR q' z
     ·rw[qE.mp z];exact hR q (qP hq)
   ·-- one number changed
    have t2:=tw 2;rw[qI h2] at t2;obtain⟨j,hj,ej⟩:=xy (c.fdiv 64) (m:=N) (by omega);obtain⟨v,ev,hv⟩:=v5 (c.fdiv 512);refine⟨R.set a (zf4 q j v),vp rfl (fin ((VE t0).trans (V7 ((VE t1).trans (V7 ((VE t2).trans ((zef (ρ':=ρ2) (x':=tR N (R.set a (zf4 q j v))) ?_).trans (U0 ?_))) rfl)) rfl))),by rw[kJ];omega,λq' hq'=>?_⟩
    ·unfold nput;rw[show zf yK (aC (op2 yj (gv 2) (cst (.int 512))) a0) ρ2=some (fr v) from(zd (zk ((zc rfl rfl).trans (yp (j:=512) (by decide) (by decide))) rfl)).trans ev,qk];rw[show nbI (λ_=>some []) (gv 4) ρ2=some [a] from by
      unfold nbI;show(match (some (zC a):Option PyData) with |some (.int i)=>if 0<=i then some ([]++[i.toNat]) else none|_=>none)=_
      dsimp only;rw[qf (by omega),kb];rfl,qk]
     have eg:zge 1 (tR N R) [a]=some ((List.range N).map λi=>fr (q i)):=by
      show((tL N R)[a]?).bind (λy=>zge 0 y [])=_
      rw[show(tL N R)[a]?=some (show NT 1 from(List.range N).map λi=>fr (q i)) by
       show(R.map λq=>(show NT 1 from(List.range N).map λi=>fr (q i)))[a]?=_
       rw[qo,hq];rfl]
      rfl
     rw[eg,qk];rw[show op2 yy (op2 yj (gv 2) (cst (.int 64))) (gv 1) ρ2=some (zC j) from(zc ((zc rfl rfl).trans (yp (j:=64) (by decide) (by decide))) rfl).trans ((xf (by omega)).trans (qM (λz=>some (PyData.int z)) ej))];dsimp only;unfold ixN;rw[qf (by omega),qe,qA,qf (by omega),qk,kb,zjd];congr 2;refine(zhH (y:=(show NT 1 from(List.range N).map λi=>fr (q i))) (by
       show(R.map λq=>(show NT 1 from(List.range N).map λi=>fr (q i)))[a]?=_
       rw[qo,hq];rfl)).trans ?_
     show(R.map λq=>(show NT 1 from(List.range N).map λi=>fr (q i))).set a (show NT 1 from(List.range N).map λi=>fr (zf4 q j v i))=(R.set a (zf4 q j v)).map λq=>(show NT 1 from(List.range N).map λi=>fr (q i))
     rw[List.map_set]
    ·rw[YO];rfl
    ·rcases List.mem_or_eq_of_mem_set hq' with z|z
     ·exact hR q' z
     ·rw[z];intro i hi;unfold zf4;split
      ·exact InB.mono hv (qw (show 32<=2 ^ 5 by decide) (kq (by decide) hb))
      ·exact hR q (qP hq) i hi
def ziv{n m:Nat}{st su:Q3x}(g:Nat)(r q:Q1x)(x:Nat)(hx:x<n+m):led (n+m) (jn n r q) (jo n st su g) x=jn n (led n r (st g)) (led m q (su g)) x:=by
 show sumTo (n+m) (λa=>jn n r q a*jo n st su g a x)=_
 rw[jE];have e1:∀a,a<n->jn n r q a*jo n st su g a x=if x<n then r a*st g a x else 0:=λa ha=>by
  unfold jo jnM jn;rw[qf ha,qf ha];split
  ·rfl
  ·exact gp _
 have e2:∀a,a<m->jn n r q (n+a)*jo n st su g (n+a) x=if x<n then 0 else q a*su g a (x - n):=λa ha=>by
  rw[zbK];unfold jo jnM jn;rw[qq (show ¬n+a<n by omega),show n+a - n=a by omega];split
  ·exact gp _
  ·rfl
 rw[zm n e1,zm m e2];unfold jn;by_cases h:x<n
 ·simp only [qf h];rw[xr];show _=sumTo n λa=>r a*st g a x
  grind
 ·simp only [qq h];rw[xr];show _=sumTo m λa=>q a*su g a (x - n)
  grind
theorem zcZ{n m:Nat}{st su:Q3x}:∀(u:LNt)(r q f:Q1x),(∀x,x<n+m->f x=jn n r q x)->∀x,x<n+m->xw (n+m) (jo n st su) f u x=jn n (xw n st r u) (xw m su q u) x
 |[],_,_,_,h,x,hx=>h x hx
 |g::u,r,q,f,h,x,hx=>by
  show xw (n+m) (jo n st su) (led (n+m) f (jo n st su g)) u x=jn n (xw n st (led n r (st g)) u) (xw m su (led m q (su g)) u) x
  refine zcZ u _ _ _ (λy hy=>?_) x hx;rw[<-ziv g r q y hy];exact zm _ λa ha=>by rw[h a ha]
structure Mk(n s:Nat)(fi:Q1x)(st:Q3x)(la:Q1x):Prop where
 mt:jR n s fi st la 7 41
 row:∀u:List Nat,(∀g∈u,g<s)->∀x,x<n->Tb (4+u.length) (23+8*u.length) (xw n st fi u x)
def Mk.zje{n s:Nat}{fi la:Q1x}{st:Q3x}(h:zcK n s fi st la)(hn:n<=8):Mk n s fi st la:=⟨h.tb.up (by decide) (by decide),λu hg x hx=>Tb.up ((Kb.new (la:=la) h.tb hn).row u hg x hx) (by omega) (by omega)⟩
def Mk.of_K{n s:Nat}{fi la:Q1x}{st:Q3x}(h:Kb n s fi st la 3):Mk n s fi st la:=⟨h.mt,λu hg x hx=>Tb.up (h.row u hg x hx) (by omega) (by omega)⟩
section
variable{n m s:Nat}{fi gi la lb:Q1x}{st su:Q3x}{CS:AdX}
def zhv(A:Mk n s fi st la)(B:Mk m s gi su lb)(hN:n+m<=6)(hs:s<=42)(hs0:0<s):(∃K,jc CS [zv n s fi st la,zv m s gi su lb]=some (.list (zt (n+m) K))/\K.length<=n+m/\∀q∈K,Rw (n+m) 66 q)\/jc CS [zv n s fi st la,zv m s gi su lb]=some .none:=by
 have D:=A.mt.add B.mt;have hd:=difference_eq (fi:=fi) (st:=st) (la:=la) (B.mt.mach (k:=13) (by decide) (by decide)) (by decide) (show n<=42 by omega) (show m<=42 by omega) hs
 have bd:Bd (n+m) s (jo n st su) (jn n fi gi) (6 ^ 7) (2 ^ 63) (n+m):={
  hn:=by omega
  hs:=hs
  hs0:=hs0
  hst:=λg x y hg hx hy=>InB.mono (D.st g x y hg hx hy) (kq (by decide) (by decide))
  hk0:=xA 7
  hk:=qw (zk2 7) (kq (by decide) (by decide))
  hB:=kq (by decide) (by decide)
  hP:=λj hj=>lt9 (WJ (WN (show n+m<=2 ^ 4 by omega) (qr _) (qr _)) (qr _)) (by omega)
  hw:=λu hg hu=>by
   refine⟨((6 ^ (4+u.length):Nat):Rat),λx=>x6 (xw (n+m) (jo n st su) (jn n fi gi) u x) (6 ^ (4+u.length)),xV (xA _),λx hx=>JJ (N:=2 ^ 63) ?_⟩;rw[zcZ u fi gi (jn n fi gi) (λ_ _=>rfl) x hx];unfold jn;by_cases q:x<n
   ·rw[qf q];exact Tb.up (A.row u hg x q) (by omega) (by omega)
   ·rw[qq q];exact Tb.up (B.row u hg (x - n) (by omega)) (by omega) (by omega)
  hm:=λL T F C d a h=>by
   have l1:=h.lenT;have l2:=h.sp.few
   rw[qe] at l1;omega }
 have hla:∀i,i<n+m->Sk 13 (jn n la (λi=>lb i*(-1)) i):=λi hi=>(ZT A.mt.la (λx hx=>by rw[show lb x*(-1)=-(lb x) by grind];exact(B.mt.la x hx).neg) i hi).sk (by decide) (by decide)
 rcases zcg (CS:=CS) (k0:=13) (l0:=13) hd bd (λi hi=>(D.fi i hi).sk (by decide) (by decide)) (by decide) hla (by decide) with⟨L,e,w⟩|⟨L,u,e,w⟩
 ·have hL:=w.len;have habs:=w.abs bd
  refine .inl ⟨KL L,zfZ (n:=n+m) e (by omega) (by omega),by rw[qe];exact hL,λq hq=>?_⟩;obtain⟨r,hr,rfl⟩:=ky.mp hq;exact Rw.zlx (habs r hr)
 ·exact .inr (zf2 e)
def looks(A:Mk n s fi st la)(B:Mk m s gi su lb)(hN:n+m<=6)(hs:s<=42){P:List (Bool×(Nat->Rat))}(hP:∀q∈P.map (·.2),Rw (n+m) 66 q)(hl:P.length<=300):∃c:Bool,Vi [zv n s fi st la,zv m s gi su lb,.list (qds (n+m) P)]=some (.bool c)/\wF [zv n s fi st la,zv m s gi su lb,.list (zt (n+m) (P.map (·.2)))]=some (.bool c):=by
 have D:=A.mt.add B.mt;have hd:=difference_eq (fi:=fi) (st:=st) (la:=la) (B.mt.mach (k:=13) (by decide) (by decide)) (by decide) (show n<=42 by omega) (show m<=42 by omega) hs
 have hlaT:∀i,i<n+m->Tb 7 41 (jn n la (λi=>lb i*(-1)) i):=ZT A.mt.la (λx hx=>by rw[show lb x*(-1)=-(lb x) by grind];exact(B.mt.la x hx).neg);have s6:Sz (6 ^ 7):=sz6 (by decide)
 have s2:Sz (2 ^ 41):=Sz.WJ (by decide);have hb:Hb (n+m) (2 ^ 66):=⟨by omega,kq (by decide) (by decide),λj hj=>lt9 (WJ (WN (show n+m<=2 ^ 4 by omega) (qr _) (qr _)) (qr _)) (by omega)⟩
 obtain⟨c,e1,i1⟩:=zhi (X:=6) hd hb (by decide) (λp hp=>(hP p.2 (ky.mpr ⟨p,hp,rfl⟩)).ex) (by omega) (xA 7) s6 s2 D.st (xA 7) s6 s2 D.fi (xA 7) s6 s2 hlaT;have hfn:(λi=>lb i*(-1))=λi=>-(lb i):=by funext i;grind
 have eb:=zcJ (n:=n) (m:=m) (s:=s) (fi:=fi) (gi:=gi) (st:=st) (su:=su) (la:=la) (lb:=lb) (by omega) (by omega) hs;rw[<-hfn] at eb;have z:Rz (n+m) (2 ^ 111) (6 ^ 8) 2990 (P.map (·.2)).length:=by
  refine⟨by rw[qe];omega,by decide,λj hj hjn=>?_⟩;have b1:(n+m)*2 ^ 111<=2 ^ 115:=WN (show n+m<=2 ^ 4 by omega) (qr _) (by omega);have b2:((n+m)*2 ^ 111) ^ j<=2 ^ (115*6):=WJ b1 (nV _ (by omega))
  constructor
  ·exact qN (WN (zk2 8) b2 (qr _)) (kA (by decide) (by omega))
  ·exact qN (WN (show n+m<=2 ^ 4 by omega) (WN (WN (show n+m<=2 ^ 4 by omega) b2 (qr _)) (qr (2 ^ 111)) (qr _)) (qr _)) (kA (by decide) (by omega))
 obtain⟨c2,e2,i2⟩:=zaW (kr:=20) (ks:=13) (kl:=13) eb (by omega) hs z
  (λq hq=>(hP q hq).ex.mono (kq (by decide) (by decide)) (by decide))
  ((zd0 (xA 7) λx hx=>D.fi x hx).mono (kq (by decide) (by decide)) (kq (by decide) (by decide)))
  (λq hq g hg=>(zd0 (M:=6*6 ^ 7) (N:=(n+m)*(2 ^ 66*2 ^ 41)) (by decide) λy hy=>JN (by decide) (n+m) λx hx=>(hP q hq x hx).mul (D.st g x y hg hx hy)).mono (WN (show n+m<=2 ^ 4 by omega) (WN (qr _) (qr _) (qr _)) (by omega)) (by decide))
  (λq hq=>(hP q hq).sk (by decide) (by decide))
  (λg x y hg hx hy=>(D.st g x y hg hx hy).sk (by decide) (by decide)) (λi hi=>(hlaT i hi).sk (by decide) (by decide)) (by decide) (by decide)
 refine⟨c,e1,?_⟩;rw[e2,Bool.eq_iff_iff.mpr (i2.trans i1.symm)]
end
noncomputable def fl(w j:Nat):Bool:=decide (w=1) || (decide (w=2)&&decide (j % 2=0))
def hd(w i:Nat)(R:LQr):List (Bool×(Nat->Rat)):=R.mapIdx λj q=>(decide (j<i)&&fl w j,q)
def zlI(w i:Nat)(R:LQr):(hd w i R).map (·.2)=R:=by
 refine kT λj=>?_
 unfold hd;rw[qo,nO];cases R[j]?<;>rfl
def U3(N w i j:Nat)(R:LQr):(qds N (hd w i R))[j]?=(R[j]?).map λq=>qd (decide (j<i)&&fl w j) N q:=by
 unfold qds hd;rw[qo,nO];cases R[j]?<;>rfl
def zjy(N w:Nat)(R:LQr):qds N (hd w 0 R)=zt N R:=by
 refine kT λj=>?_
 rw[U3,qo,qI (kX j),mW];rfl
def zl1{N w i:Nat}{R:LQr}{q:Q1x}(hq:R[i]?=some q)(hf:fl w i=true):(qds N (hd w i R)).set i (yE N q)=qds N (hd w (i+1) R):=by
 refine kT λj=>?_
 rw[U3];by_cases h:i=j
 ·subst h;rw[kn (by
   have:=(qm.mp hq).1;unfold qds hd;rw[qe,pw];exact this),hq,qB (kI i),mM,hf]
  rfl
 ·rw[qG h,U3,kB.mpr (show j<i↔j<i+1 by omega)]
def zji{N w i:Nat}{R:LQr}(hf:fl w i=false):qds N (hd w i R)=qds N (hd w (i+1) R):=by
 refine kT λj=>?_
 rw[U3,U3];by_cases h:i=j
 ·subst h;rw[hf,mX,mX]
 ·rw[kB.mpr (show j<i↔j<i+1 by omega)]
def zjI{N w:Nat}{R:LQr}(hl:R.length<=1000)(hN:N<=1000){o0 o1 o2 o3 o4 o5 o7 o8 o11 o12:Sl}:∃o7',jw (yW (aC (zf yl (aC (gv 6) a0)) a0)) (bN 7) (ifS (orT (zB (op2 eqD (gv 9) (cst (.int 1)))) (za6 (zB (op2 eqD (gv 9) (cst (.int 2)))) (zB (op2 eqD (op2 yy (gv 7) (cst (.int 2))) (cst (.int 0)))))) (siS 10 (gv 7) (zf yk (aC (op2 ixD (gv 6) (gv 7)) a0))) s0)
   [o0,o1,o2,o3,o4,o5,.pu (.list (zt N R)),o7,o8,.pu (zC w),.ow (zt N R),o11,o12]=some (.nx [o0,o1,o2,o3,o4,o5,.pu (.list (zt N R)),o7',o8,.pu (zC w),.ow (qds N (hd w R.length R)),o11,o12]):=by
 obtain⟨ρ',e,o7',rfl⟩:=uR (n:=R.length) (g:=aC (zf yl (aC (gv 6) a0)) a0) (bd:=bN 7) (b:=ifS (orT (zB (op2 eqD (gv 9) (cst (.int 1)))) (za6 (zB (op2 eqD (gv 9) (cst (.int 2)))) (zB (op2 eqD (op2 yy (gv 7) (cst (.int 2))) (cst (.int 0)))))) (siS 10 (gv 7) (zf yk (aC (op2 ixD (gv 6) (gv 7)) a0))) s0)
  (ρ0:=[o0,o1,o2,o3,o4,o5,.pu (.list (zt N R)),o7,o8,.pu (zC w),.ow (zt N R),o11,o12]) (λi ρ=>∃o7',ρ=[o0,o1,o2,o3,o4,o5,.pu (.list (zt N R)),o7',o8,.pu (zC w),.ow (qds N (hd w i R)),o11,o12])
  (zk ((zd rfl).trans (by show some (PyData.int ((zt N R).length:Int))=_;rw[qe])) rfl) (by omega) ⟨o7,by rw[zjy]⟩ (λi ρ hi ⟨o7',e⟩=>by
   subst e;obtain⟨q,hq⟩:∃q,R[i]?=some q:=⟨_,qp hi⟩;have t:(orT (zB (op2 eqD (gv 9) (cst (.int 1)))) (za6 (zB (op2 eqD (gv 9) (cst (.int 2)))) (zB (op2 eqD (op2 yy (gv 7) (cst (.int 2))) (cst (.int 0)))))) [o0,o1,o2,o3,o4,o5,.pu (.list (zt N R)),.pu (zC i),o8,.pu (zC w),.ow (qds N (hd w i R)),o11,o12]=some (fl w i):=by
    refine zed ?_ ?_
    ·refine zE ((zc rfl rfl).trans ((xU _ _).trans ?_));congr 2;exact kB.mpr (by omega)
    ·have h1:zB (op2 eqD (gv 9) (cst (.int 2))) [o0,o1,o2,o3,o4,o5,.pu (.list (zt N R)),.pu (zC i),o8,.pu (zC w),.ow (qds N (hd w i R)),o11,o12]=some (decide (w=2)):=by
      refine zE ((zc rfl rfl).trans ((xU _ _).trans ?_));congr 2;exact kB.mpr (by omega)
     have h2:zB (op2 eqD (op2 yy (gv 7) (cst (.int 2))) (cst (.int 0))) [o0,o1,o2,o3,o4,o5,.pu (.list (zt N R)),.pu (zC i),o8,.pu (zC w),.ow (qds N (hd w i R)),o11,o12]=some (decide (i % 2=0)):=by
      refine zE ((zc ((zc rfl rfl).trans (xf (by decide))) rfl).trans ((xU _ _).trans ?_));congr 2;refine kB.mpr ?_;rw[Int.fmod_eq_emod_of_nonneg _ (by decide)];omega
     cases hw:decide (w=2) with
     |true=>rw[hw] at h1;rw[mM];exact zk0 h1 h2
     |false=>rw[hw] at h1;rw[mW];exact zkM h1
   refine⟨_,_,rfl,?_,.pu (zC i),rfl⟩;cases hf:fl w i with
   |true=>
    rw[hf] at t;refine(vb t).trans ((zbh (a:=i) (ds:=qds N (hd w i R)) (d:=yE N q) rfl ((zd (zk ((zc rfl rfl).trans (zkg hq)) rfl)).trans rfl) rfl (by unfold qds hd;rw[qe,pw];exact hi)).trans ?_);rw[zl1 hq hf];rfl
   |false=>
    rw[hf] at t;rw[zji hf] at t ⊢;exact(jD t).trans rfl)
 exact⟨o7',e⟩
def zhM{i:Nat}{g:RFx}{ρ ρ':Ro}{r:Fl}(h:frz i ρ=ρ')(e:g ρ'=some r):frS i g ρ=some r:=by
 show g (frz i ρ)=_
 rw[h];exact e
def zkA(CS:AdX)(ns:List Int):zkv CS [.list (ns.map PyData.int)]=some (.bool true):=by
 have⟨c0,h0⟩:=jU ns 0;have⟨c1,h1⟩:=jU ns 1;have⟨c2,h2⟩:=jU ns 2;have⟨c3,h3⟩:=jU ns 3;have⟨c4,h4⟩:=jU ns 4;obtain⟨r,hr,er⟩:=xy c0 (m:=2) (by decide);obtain⟨n,hn,en⟩:=xy (c0.fdiv 2) (m:=4) (by decide);obtain⟨k4,hk4,ek4⟩:=xy c2 (m:=4) (by decide);obtain⟨u2,hu2,eu2⟩:=xy (c2.fdiv 4) (m:=2) (by decide);obtain⟨u4,hu4,eu4⟩:=xy (c2.fdiv 4) (m:=4) (by decide);obtain⟨kd,hkd,ekd⟩:=xy (c2.fdiv 16) (m:=4) (by decide);obtain⟨p,hp,ep⟩:=xy c4 (m:=2) (by decide);obtain⟨w,hw,ew⟩:=xy (c4.fdiv 2) (m:=3) (by decide);obtain⟨fi,st,la,e1,A0⟩:=vx c1 (n:=n) (s:=1+r) (by omega) (by omega);have A:Mk n (1+r) fi st la:=Mk.zje A0 (by omega);obtain⟨more,hmore,emore⟩:∃more:Nat,n+more<=3/\minD [.int ((3:Int) - (n:Int)),.int ((u2:Nat):Int)]=some (.int (more:Int)):=by
  refine⟨min (3 - n) u2,by omega,?_⟩;show some (PyData.int (if ((u2:Nat):Int)<(3:Int) - (n:Int) then ((u2:Nat):Int) else (3:Int) - (n:Int)))=_
  congr 2
  split<;>omega
 obtain⟨gk_,sk_,lk_,e2,K2,_⟩:=zfT c3 (more:=more) (by omega) (by omega) A0;obtain⟨gd_,sd_,ld_,e3,D2⟩:=vx c3 (n:=u4) (s:=1+r) (by omega) (by omega);have es:(1:Int)+(r:Int)=((1+r:Nat):Int):=by omega
 obtain⟨m,gi,su,lb,hm,B,e4⟩:∃m gi su lb,m<=3/\Mk m (1+r) gi su lb/\(ifS (zB (op2 eqD (op2 yy (gv 3) (cst (.int 4))) (cst (.int 1)))) (zT 4 (zf yr (aC (zf zM (aC (gv 0) (aC (cst (.int 3)) a0))) (aC (op2 yy (op2 yj (gv 3) (cst (.int 4))) (cst (.int 4))) (aC (gv 1) a0))))) s0)
   [.pu (.list (ns.map PyData.int)),.pu (zC (1+r)),.pu (zv n (1+r) fi st la),.pu (.int c2),.pu (zv (n+more) (1+r) gk_ sk_ lk_),.no,.no,.no,.no,.no,.no,.no,.no]=some (.nx [.pu (.list (ns.map PyData.int)),.pu (zC (1+r)),.pu (zv n (1+r) fi st la),.pu (.int c2),.pu (zv m (1+r) gi su lb),.no,.no,.no,.no,.no,.no,.no,.no]):=by
  have t:zB (op2 eqD (op2 yy (gv 3) (cst (.int 4))) (cst (.int 1))) [.pu (.list (ns.map PyData.int)),.pu (zC (1+r)),.pu (zv n (1+r) fi st la),.pu (.int c2),.pu (zv (n+more) (1+r) gk_ sk_ lk_),.no,.no,.no,.no,.no,.no,.no,.no]=some (decide (k4=1)):=by
   refine zE ((zc ((zc rfl rfl).trans ((xf (by decide)).trans (qM (λz=>some (PyData.int z)) ek4))) rfl).trans ((xU _ _).trans ?_));congr 2;exact kB.mpr (by omega)
  by_cases h:k4=1
  ·rw[qB h] at t;refine⟨u4,gd_,sd_,ld_,by omega,Mk.zje D2 (by omega),(vb t).trans ((zG ((zd (zk ((zd rfl).trans h3) (zk ((zc ((zc rfl rfl).trans (yp (j:=4) (by decide) (by decide))) rfl).trans ((xf (by decide)).trans (qM (λz=>some (PyData.int z)) eu4))) (zk rfl rfl)))).trans e3)).trans rfl)⟩
  ·rw[qI h] at t;exact⟨n+more,gk_,sk_,lk_,hmore,Mk.of_K K2,(jD t).trans rfl⟩
 have hN:n+m<=6:=by omega
 obtain⟨d6,e6,h6⟩:∃d6,jc CS [zv n (1+r) fi st la,zv m (1+r) gi su lb]=some d6/\(d6=.none\/∃K,d6=.list (zt (n+m) K)/\K.length<=6/\∀q∈K,Rw (n+m) 66 q):=by
  rcases zhv (CS:=CS) A B hN (by omega) (by omega) with⟨K,e,l,hK⟩|e
  ·exact⟨_,e,.inr ⟨K,rfl,by omega,hK⟩⟩
  ·exact⟨_,e,.inl rfl⟩
 obtain⟨R0,o6,o7,o8,ho6,lR0,hR0,e7⟩:∃R0 o6 o7 o8,(o6=.ow (zt (n+m) R0)\/o6=.pu (.list (zt (n+m) R0)))/\R0.length<=6/\(∀q∈R0,Rw (n+m) 66 q)/\(ifS (orT (zB (op2 isD (gv 6) (cst .none))) (zB (op2 eqD (op2 yy (gv 3) (cst (.int 4))) (cst (.int 2))))) (sq (x5 6 (vo a0))
   (jw (yW (aC (op2 yy (op2 yj (gv 3) (cst (.int 16))) (cst (.int 4))) a0)) (bN 7) (sq (zT 8 (zf yr (aC (zf zM (aC (gv 0) (aC (op2 xN (cst (.int 5)) (gv 7)) a0))) (aC (gv 5) (aC (cst (.int 1)) a0)))))
   (apS 6 (yo (yQ ju (aC (op2 ixD (gv 8) (cst (.int 0))) a0))))))) s0)
   [.pu (.list (ns.map PyData.int)),.pu (zC (1+r)),.pu (zv n (1+r) fi st la),.pu (.int c2),.pu (zv m (1+r) gi su lb),.pu (zC (n+m)),.pu d6,.no,.no,.no,.no,.no,.no]=some (.nx [.pu (.list (ns.map PyData.int)),.pu (zC (1+r)),.pu (zv n (1+r) fi st la),.pu (.int c2),.pu (zv m (1+r) gi su lb),.pu (zC (n+m)),o6,o7,o8,.no,.no,.no,.no]):=by
  have t2:zB (op2 eqD (op2 yy (gv 3) (cst (.int 4))) (cst (.int 2))) [.pu (.list (ns.map PyData.int)),.pu (zC (1+r)),.pu (zv n (1+r) fi st la),.pu (.int c2),.pu (zv m (1+r) gi su lb),.pu (zC (n+m)),.pu d6,.no,.no,.no,.no,.no,.no]=some (decide (k4=2)):=by
   refine zE ((zc ((zc rfl rfl).trans ((xf (by decide)).trans (qM (λz=>some (PyData.int z)) ek4))) rfl).trans ((xU _ _).trans ?_));congr 2;exact kB.mpr (by omega)
  have drawn:∃R0 o7 o8,R0.length<=6/\(∀q∈R0,Rw (n+m) 66 q)/\(sq (x5 6 (vo a0))
   (jw (yW (aC (op2 yy (op2 yj (gv 3) (cst (.int 16))) (cst (.int 4))) a0)) (bN 7) (sq (zT 8 (zf yr (aC (zf zM (aC (gv 0) (aC (op2 xN (cst (.int 5)) (gv 7)) a0))) (aC (gv 5) (aC (cst (.int 1)) a0)))))
   (apS 6 (yo (yQ ju (aC (op2 ixD (gv 8) (cst (.int 0))) a0)))))))
   [.pu (.list (ns.map PyData.int)),.pu (zC (1+r)),.pu (zv n (1+r) fi st la),.pu (.int c2),.pu (zv m (1+r) gi su lb),.pu (zC (n+m)),.pu d6,.no,.no,.no,.no,.no,.no]=some (.nx [.pu (.list (ns.map PyData.int)),.pu (zC (1+r)),.pu (zv n (1+r) fi st la),.pu (.int c2),.pu (zv m (1+r) gi su lb),.pu (zC (n+m)),.ow (zt (n+m) R0),o7,o8,.no,.no,.no,.no]):=by
   obtain⟨ρ',e,Q,o7,o8,lQ,hQ,rfl⟩:=uR (n:=kd) (g:=aC (op2 yy (op2 yj (gv 3) (cst (.int 16))) (cst (.int 4))) a0) (bd:=bN 7) (b:=sq (zT 8 (zf yr (aC (zf zM (aC (gv 0) (aC (op2 xN (cst (.int 5)) (gv 7)) a0))) (aC (gv 5) (aC (cst (.int 1)) a0)))))
     (apS 6 (yo (yQ ju (aC (op2 ixD (gv 8) (cst (.int 0))) a0)))))
    (ρ0:=[.pu (.list (ns.map PyData.int)),.pu (zC (1+r)),.pu (zv n (1+r) fi st la),.pu (.int c2),.pu (zv m (1+r) gi su lb),.pu (zC (n+m)),.ow [],.no,.no,.no,.no,.no,.no])
    (λi ρ=>∃(Q:LQr)(o7 o8:Sl),Q.length=i/\(∀q∈Q,Rw (n+m) 66 q)/\ρ=[.pu (.list (ns.map PyData.int)),.pu (zC (1+r)),.pu (zv n (1+r) fi st la),.pu (.int c2),.pu (zv m (1+r) gi su lb),.pu (zC (n+m)),.ow (zt (n+m) Q),o7,o8,.no,.no,.no,.no])
    (zk ((zc ((zc rfl rfl).trans (yp (j:=16) (by decide) (by decide))) rfl).trans ((xf (by decide)).trans (qM (λz=>some (PyData.int z)) ekd))) rfl) (by omega) ⟨[],.no,.no,rfl,λq hq=>(by cases hq),rfl⟩ (λi ρ hi ⟨Q,o7,o8,lQ,hQ,e⟩=>by
     subst e;obtain⟨ci,hci⟩:=jU ns (5+i);obtain⟨f',s',l',em,F'⟩:=vx ci (n:=n+m) (s:=1) (by omega) (by decide);refine⟨_,_,rfl,(zy (zG ((zd (zk ((zd (zk rfl (zk ((zc rfl rfl).trans (show xN (.int 5) (zC i)=some (.int ((5+i:Nat):Int)) from qM (λz=>some (PyData.int z)) (by omega))) rfl))).trans hci) (zk rfl rfl))).trans em))).trans (Jj (ds:=zt (n+m) Q) (d:=yh (n+m) f') rfl (yc ((xE (zk ((zc rfl rfl).trans jM) rfl)).trans rfl)) (by rw[qe];omega)),Q++[f'],.pu (zC i),.pu (zv (n+m) 1 f' s' l'),by rw[qy,lQ];rfl,λq hq=>?_,?_⟩
     ·rcases qg.mp hq with z|z
      ·exact hQ q z
      ·rw[qE.mp z];exact Rw.zje F'.fi (by decide)
     ·rw[show zt (n+m) (Q++[f'])=zt (n+m) Q++[yh (n+m) f'] by show List.map (yh (n+m)) (Q++[f'])=_;rw[qR];rfl];rfl)
   exact⟨Q,o7,o8,by omega,hQ,(zy (yO rfl)).trans e⟩
  rcases h6 with rfl|⟨K,rfl,lK,hK⟩
  ·have⟨R0,o7,o8,l,h,e⟩:=drawn;exact⟨R0,_,o7,o8,.inl rfl,l,h,(vb (zj9 (zE rfl))).trans e⟩
  ·by_cases hk:k4=2
   ·have⟨R0,o7,o8,l,h,e⟩:=drawn;rw[qB hk] at t2;exact⟨R0,_,o7,o8,.inl rfl,l,h,(vb (zhT (zE rfl) t2)).trans e⟩
   ·rw[qI hk] at t2;exact⟨K,_,.no,.no,.inr rfl,lK,hK,(jD (zhT (zE rfl) t2)).trans rfl⟩
 have fz:∀{x:Sl} {R:LQr} {y7 y8 y9:Sl},(x=.ow (zt (n+m) R)\/x=.pu (.list (zt (n+m) R)))->frz 6 [.pu (.list (ns.map PyData.int)),.pu (zC (1+r)),.pu (zv n (1+r) fi st la),.pu (.int c2),.pu (zv m (1+r) gi su lb),.pu (zC (n+m)),x,y7,y8,y9,.no,.no,.no]=[.pu (.list (ns.map PyData.int)),.pu (zC (1+r)),.pu (zv n (1+r) fi st la),.pu (.int c2),.pu (zv m (1+r) gi su lb),.pu (zC (n+m)),.pu (.list (zt (n+m) R)),y7,y8,y9,.no,.no,.no]:=λh=>by
  rcases h with rfl|rfl<;>rfl
 obtain⟨R,o6',ho6',lR,hR,e8⟩:∃R o6',(o6'=.ow (zt (n+m) R)\/o6'=.pu (.list (zt (n+m) R)))/\R.length<=7/\(∀q∈R,Rw (n+m) 66 q)/\(ifS (zB (op2 eqD (op2 yy (zf zM (aC (gv 0) (aC (cst (.int 4)) a0))) (cst (.int 2))) (cst (.int 1)))) (x5 6 (yQ jy (aC (gv 6) (aC (gv 5) (aC (op2 yj (zf zM (aC (gv 0) (aC (cst (.int 4)) a0))) (cst (.int 2))) a0))))) s0)
   [.pu (.list (ns.map PyData.int)),.pu (zC (1+r)),.pu (zv n (1+r) fi st la),.pu (.int c2),.pu (zv m (1+r) gi su lb),.pu (zC (n+m)),.pu (.list (zt (n+m) R0)),o7,o8,.no,.no,.no,.no]=some (.nx [.pu (.list (ns.map PyData.int)),.pu (zC (1+r)),.pu (zv n (1+r) fi st la),.pu (.int c2),.pu (zv m (1+r) gi su lb),.pu (zC (n+m)),o6',o7,o8,.no,.no,.no,.no]):=by
  have t:zB (op2 eqD (op2 yy (zf zM (aC (gv 0) (aC (cst (.int 4)) a0))) (cst (.int 2))) (cst (.int 1))) [.pu (.list (ns.map PyData.int)),.pu (zC (1+r)),.pu (zv n (1+r) fi st la),.pu (.int c2),.pu (zv m (1+r) gi su lb),.pu (zC (n+m)),.pu (.list (zt (n+m) R0)),o7,o8,.no,.no,.no,.no]=some (decide (p=1)):=by
   refine zE ((zc ((zc ((zd rfl).trans h4) rfl).trans ((xf (by decide)).trans (qM (λz=>some (PyData.int z)) ep))) rfl).trans ((xU _ _).trans ?_));congr 2;exact kB.mpr (by omega)
  by_cases h:p=1
  ·rw[qB h] at t;obtain⟨R',e,l,hR'⟩:=zdA (c4.fdiv 2) (N:=n+m) (by omega) (by omega) hR0 (by decide);exact⟨R',_,.inl rfl,by omega,hR',(vb t).trans ((yO ((xE (zk rfl (zk rfl (zk ((zc ((zd rfl).trans h4) rfl).trans (yp (j:=2) (by decide) (by decide))) rfl)))).trans e)).trans rfl)⟩
  ·rw[qI h] at t;exact⟨R0,_,.inr rfl,by omega,hR0,(jD t).trans rfl⟩
 obtain⟨o7',e9⟩:=zjI (N:=n+m) (w:=w) (R:=R) (by omega) (by omega) (o0:=.pu (.list (ns.map PyData.int))) (o1:=.pu (zC (1+r))) (o2:=.pu (zv n (1+r) fi st la)) (o3:=.pu (.int c2)) (o4:=.pu (zv m (1+r) gi su lb)) (o5:=.pu (zC (n+m))) (o7:=o7) (o8:=o8) (o11:=.no) (o12:=.no);have hs:=zlI w R.length R;obtain⟨c,eS,eL⟩:=looks A B hN (by omega) (P:=hd w R.length R) (by rw[hs];exact hR) (by
  have:=qM List.length hs;rw[qe] at this;omega)
 rw[hs] at eL;refine ya rfl ?_;refine(zy (zG (d:=zC (1+r)) ?_)).trans ?_
 ·refine(zc rfl ((zc ((zd rfl).trans h0) rfl).trans (xf (by decide)))).trans ?_;show _=some (PyData.int ((1+r:Nat):Int))
  rw[<-es,<-er];rfl
 refine(zy (zG (d:=zv n (1+r) fi st la) ?_)).trans ?_
 ·refine(zd (zk ((zd rfl).trans h1) (zk ((zc ((zc ((zd rfl).trans h0) rfl).trans (yp (j:=2) (by decide) (by decide))) rfl).trans (xf (by decide))) (zk rfl rfl)))).trans ?_;rw[<-e1,<-en];rfl
 refine(zy (zG (d:=.int c2) ((zd rfl).trans h2))).trans ?_;refine(zy (zG (d:=zv (n+more) (1+r) gk_ sk_ lk_) ?_)).trans ?_
 ·refine(zd (zk rfl (zk ((zd rfl).trans h3) (zk ((zd (zk ((zc rfl ((zd (zk ((zc rfl rfl).trans jM) rfl)).trans (xT _ _))).trans rfl) (zk ((zc ((zc rfl rfl).trans (yp (j:=4) (by decide) (by decide))) rfl).trans ((xf (by decide)).trans (qM (λz=>some (PyData.int z)) eu2))) rfl))).trans emore) rfl)))).trans e2
 refine(zy e4).trans ?_;refine(zy (zG (d:=zC (n+m)) ?_)).trans ?_
 ·exact(zc ((zd (zk ((zc rfl rfl).trans jM) rfl)).trans (xT _ _)) ((zd (zk ((zc rfl rfl).trans jM) rfl)).trans (xT _ _))).trans (qM (λz=>some (PyData.int z)) (by omega))
 refine(zy (zG ((zd rfl).trans e6))).trans ?_;refine(zy e7).trans ?_;refine(zy (zhM (fz ho6) e8)).trans ?_;refine(zy (zhM (fz ho6') (zG ((zc ((zc ((zd rfl).trans h4) rfl).trans (yp (j:=2) (by decide) (by decide))) rfl).trans ((xf (by decide)).trans (qM (λz=>some (PyData.int z)) ew)))))).trans ?_;refine(zy (yO (yf (xs:=R) (e:=yh (n+m)) (d:=yh (n+m)) (jK rfl) (by omega) λq _=>yG.trans rfl))).trans ?_;refine(zy e9).trans ?_;refine(zy (yO (d:=qds (n+m) (hd w R.length R)) rfl)).trans ?_;refine(zy (zG (zbI (r:=.bool c) rfl eS rfl))).trans (zO ?_);refine zgp rfl (zgp ((zc rfl ((zd rfl).trans eL)).trans ?_) ?_)
 ·cases c<;>rfl
 ·exact(zc rfl rfl).trans (zhD (zfc (k:=2) λd hd=>by
   obtain⟨p,_,rfl⟩:=ky.mp hd;exact zlY _ _ _) (by decide))
end K10
namespace K10
open PySem PySem.Spec PyProof.Rows L2 L2.Fu
noncomputable def top(i:Nat):Stmt:=PySem.Challenge.pw_wordscales_k10_what_rows_show.main.body.getD i (.Pass ⟨0,0,0,0⟩)
noncomputable abbrev blts:List Str:=["len","abs","isinstance","int","bool","tuple","list","range","zip","sum","max","min","enumerate","any","all"]
abbrev vm:Stmt:=top 3
def x9:zD ["one","other","rest"] ["one","other"] (ze vm):=scx
abbrev Yi:Stmt:=top 4
def Wc:zD ["top","bottom","common"] ["top","bottom"] (ze Yi):=scx
abbrev zaz:Stmt:=top 5
def zhG:zD ["one","other"] ["one","other"] (ze zaz):=scx
abbrev vH:Stmt:=top 6
def jq:zD ["fractions","bottom","fraction"] ["fractions"] (ze vH):=scx
abbrev wQ:Stmt:=top 7
def za9:zD ["fractions","bottom"] ["fractions","bottom"] (ze wQ):=scx
abbrev jm:Stmt:=top 8
def x8:zD ["tops","common","top"] ["tops"] (ze jm):=scx
abbrev jj:Stmt:=top 9
def Vh:zD ["ones","others"] ["ones","others"] (ze jj):=scx
abbrev Vx:Stmt:=top 14
def zfL:zD ["tops","columns"] ["tops","columns"] (ze Vx):=scx
abbrev vV:Stmt:=top 15
def jB:zD ["step","numbers","row","bottom","columns"] ["step"] (ze vV):=scx
abbrev Vq:Stmt:=top 16
def zgk:zD ["step","room"] ["step","room"] (ze Vq):=scx
abbrev Ve:Stmt:=top 18
def zai:zD ["one","other","steps"] ["one","other"] (ze Ve):=scx
abbrev vG:Stmt:=top 19
def vw:zD ["one","other","one_signs","other_signs"] ["one","other"] (ze vG):=scx
abbrev VW:Stmt:=top 20
def zdV:zD ["rooms"] ["rooms"] (ze VW):=scx
abbrev vP:Stmt:=top 21
def ZD:zD ["row","fraction"] ["row","fraction"] (ze vP):=scx
abbrev Jb:Stmt:=top 22
def J8:zD ["one_step","other_step","crossings"] ["one_step","other_step"] (ze Jb):=scx
abbrev jA:Stmt:=top 23
def wq:zD ["one_step","crossings","other_step","one_rows","other_rows"] ["one_step","crossings","other_step"] (ze jA):=scx
abbrev Jv:Stmt:=top 25
def zbm:zD ["row"] ["row"] (ze Jv):=scx
abbrev UA:Stmt:=top 26
def Wt:zD ["place","places","row"] ["place","places"] (ze UA):=scx
abbrev u6:Stmt:=top 27
def zcu:zD ["check","number","gone","pivot","divisor"] ["check","number","gone","pivot","divisor"] (ze u6):=scx
abbrev uO:Stmt:=top 32
def WA:zD ["one","other","told"] ["one","other"] (ze uO):=scx
abbrev U6:Stmt:=top 33
def uu:zD ["one","other","rows","machine","rooms","span","kept","last"] ["one","other","rows"] (ze U6):=scx
abbrev uE:Stmt:=top 34
def ZE:zD ["one","other"] ["one","other"] (ze uE):=scx
abbrev Uq:Stmt:=top 35
def jQ:zD ["one","other","machine","last","reach","row"] ["one","other"] (ze Uq):=scx
abbrev UE:Stmt:=top 36
def wL:zD ["span","rows","kept","row","whole"] ["span","rows"] (ze UE):=scx
abbrev vd:Stmt:=top 37
def vI:zD ["span","rows","steps","step","columns"] ["span","rows","steps"] (ze vd):=scx
abbrev wR:Stmt:=top 39
def YE:zD ["script","k"] ["script","k"] (ze wR):=scx
abbrev VD:Stmt:=top 41
def vq:zD ["top","bottom","a","b","rest"] ["top","bottom"] (ze VD):=scx
abbrev Ut:Stmt:=top 42
def zcY:zD ["one","other"] ["one","other"] (ze Ut):=scx
abbrev Js:Stmt:=top 43
def za1:zD ["one","other"] ["one","other"] (ze Js):=scx
abbrev V9:Stmt:=top 44
def uN:zD ["one","other","total","k"] ["one","other"] (ze V9):=scx
abbrev v9:Stmt:=top 45
def WH:zD ["cell"] ["cell"] (ze v9):=scx
abbrev w9:Stmt:=top 46
def yJ:zD ["cell","rooms","signs","out","k","steps","sign","rows","a","at"] ["cell","rooms","signs"] (ze w9):=scx
abbrev JS:Stmt:=top 47
def Up:zD ["row","step","out","b"] ["row","step"] (ze JS):=scx
abbrev xR:Stmt:=top 50
def x3:zD ["one","other","left","right","steps","k","rows"] ["one","other"] (ze xR):=scx
abbrev vt:Stmt:=top 51
def wJ:zD ["row","i","j","c","out"] ["row","i","j","c"] (ze vt):=scx
abbrev jP:Stmt:=top 52
def xO:zD ["machine","i","j","c","less","first","last","steps","step","rows"] ["machine","i","j","c"] (ze jP):=scx
abbrev JO:Stmt:=top 53
def yX:zD ["machine","cell","more","rooms","signs","idle","none","k","i","j"] ["machine","cell","more"] (ze JO):=scx
abbrev vn:Stmt:=top 54
def xo:zD ["rows","left","done","k","at","base","r","part","less"] ["rows"] (ze vn):=scx
abbrev Um:Stmt:=top 55
def zb3:zD ["part"] ["part"] (ze Um):=scx
abbrev vA:Stmt:=top 56
def Zb:zD ["rows","row"] ["rows","row"] (ze vA):=scx
abbrev uJ:Stmt:=top 57
def We:zD ["one","other","less"] ["one","other"] (ze uJ):=scx
abbrev wM:Stmt:=top 58
def j8:zD ["one","other","rows","both","known","row","step"] ["one","other","rows"] (ze wM):=scx
abbrev jz:Stmt:=top 59
def j3:zD ["rows","many","cell","way","at"] ["rows","many","cell"] (ze jz):=scx
abbrev WG:Stmt:=top 60
def jd:zD ["script","signs","one","cell","other","many","rows","k","part","way","handed","kept","found"] ["script"] (ze WG):=scx
abbrev V5:Stmt:=inClass (top 28) 3
def uZ:zD ["self","row","sums","unmet","turn","pivot","gone","left"] ["self","row"] (ze V5):=scx
abbrev zdf:Stmt:=inClass (top 28) 1
def zjS:zD ["self"] ["self"] (ze zdf):=scx
abbrev YQ:Stmt:=inClass (top 29) 1
def VC:zD ["self","word","row"] ["self"] (ze YQ):=scx
abbrev zgS:Stmt:=inClass (top 29) 2
def zlG:zD ["self","word","row"] ["self","word","row"] (ze zgS):=scx
abbrev zdK:Stmt:=inClass (top 29) 3
def zey:zD ["self","word","row","sign"] ["self","word","row"] (ze zdK):=scx
abbrev W0:Stmt:=inClass (top 29) 0
def zgu:zD ["self","machine"] ["self","machine"] (ze W0):=scx
abbrev W6:Stmt:=inClass (top 28) 0
def zgv:zD ["self","places"] ["self","places"] (ze W6):=scx
abbrev WZ:Stmt:=inClass (top 28) 2
def zik:zD ["self","row"] ["self","row"] (ze WZ):=scx
abbrev DX(k:Nat)(x:Str)(ps:List Str)(f:List PyData->Option PyData)(P:Program)(w:World)(K:PySem.W.Frag)(mg:Str->Option Value)(base:Heap):Prop:=xC P w K mg base k x ps f
abbrev xq:=DX 1 "whole_pair_sum" ["ones","others"] zQ
abbrev uP:=DX 5 "difference" ["one","other"] jr
abbrev uQ:=DX 3 "whole_step" ["step"] xP
abbrev zfa:=DX 6 "shows" ["one","other","rows"] Vi
abbrev J3:=DX 1 "_law_cell_at" ["script","k"] zM
abbrev J1:=DX 1 "_law_low" ["top","bottom"] uz
abbrev jX:=DX 2 "_law_fraction" ["cell"] yK
abbrev wW:=DX 3 "_law_machine" ["cell","rooms","signs"] yr
abbrev uT:=DX 1 "_law_beside" ["one","other"] xS
abbrev vD:=DX 2 "_law_times" ["one","other"] yC
abbrev wC:=DX 2 "_law_plus" ["one","other"] xG
abbrev Wu:=DX 4 "_law_mixed" ["machine","i","j","c"] wO
abbrev zan:=DX 5 "_law_kin" ["machine","cell","more"] Wa
abbrev Jh:=DX 1 "refuse_unlike" ["one","other"] vK
abbrev jt:=DX 1 "common_divisor" ["one","other"] yZ
abbrev zcL:=DX 2 "lowest" ["top","bottom"] Ys
abbrev zeR:=DX 3 "times" ["one","other"] zbq
abbrev Vp:=DX 4 "scaled_row" ["row","fraction"] u7
abbrev VH:=DX 1 "noughts" ["rooms"] ue
abbrev Ui:=DX 2 "joined_step" ["one_step","crossings","other_step"] w6
abbrev Vb:=DX 3 "added_step" ["one_step","other_step"] uY
abbrev zcN:=DX 4 "beside" ["one","other"] Ze
abbrev vJ:=DX 2 "shared_bottom" ["fractions"] xi
abbrev zc6:=DX 1 "column" ["step","room"] Vo
abbrev YI:=DX 2 "_law_both" ["one","other"] uU
abbrev YL:=DX 1 "_law_over" ["part"] wc
abbrev Zh:=DX 3 "_law_rank" ["rows"] uS
abbrev Uj:=DX 4 "_law_in_span" ["rows","row"] y0
abbrev V4:=DX 3 "_law_dot" ["one","other"] jT
abbrev Wf:=DX 5 "_law_shown" ["one","other","rows"] wF
abbrev NBP(P:Program)(w:World)(base:Heap)(mg:Str->Option Value):Prop:=NoB mg blts
section
variable{P:Program}{w:World}{K:FRx}{mg:Str->Option Value}{base:Heap}{CS CR:AdX}
theorem Ud{f:Str×NameKind->Str×NameKind}(h1:∀p,(f p).1=p.1)(h2:∀p,(p.2=.cell\/p.2=.free)->((f p).2=.cell\/(f p).2=.free)):∀{names:List (Str×NameKind)} {x:Str},(names.lookup x=some .cell\/names.lookup x=some .free)->
  ((names.map f).lookup x=some .cell\/(names.map f).lookup x=some .free)
 |[],_,h=>by simp at h
 |p::r,x,h=>by
  have ih:=@Ud f h1 h2 r x;have e:(f p)=(p.1,(f p).2):=Prod.ext (h1 p) rfl
  rw[gr,e];cases hb:x==p.1 with
  |false=>
   have h':r.lookup x=some .cell\/r.lookup x=some .free:=by simpa only [List.lookup,hb] using h
   simpa only [List.lookup,hb] using ih h'
  |true=>
   have h':some p.2=some .cell\/some p.2=some .free:=by simpa only [List.lookup,hb] using h
   have h3:=h2 p (h'.imp qX qX);simp only [List.lookup,hb];exact h3.imp (qM some) (qM some)
def zcd{X:Cx}{scope sc:Scope}{N:LSr}{cl C ex s H}(kind:scope.kind=.function)(nocell:∀y∈scope.names,y.2≠ .cell)(loc:∀y∈scope.names,y.2=.local->scope.names.lookup y.1=some .local)(free:∀y∈scope.names,y.2=.free->sc.names.lookup y.1=some .cell\/sc.names.lookup y.1=some .free):yb (zV X N sc cl C ex s H) scope:=Yz (sc:=PySem.relabel sc X.env) rfl kind nocell loc λy hy hf=>
 Ud (λp=>by dsimp only;split<;>rfl) (λp hp=>by dsimp only;split;exact Or.inl rfl;exact hp) (free y hy hf)
def zlL(h:WO K mg CS "Span" "__init__" "Span.__init__" W6)(NB:NBP P w base mg)(cl:Cls K CS)(n1:zS K CS "free")(n2:zS K CS "taken")(n3:zS K CS "checks")(n4:zS K CS "pivot")(cb:xY P w K mg base 1 "unit_row" ["place","places"] wo):Ini P w K mg base 3 CS "Span" ["self","places"] wG:=(Ini.mk (N:=["self","places"]) (m:=1) h zgv (um2 λ_ _ _ _ _ _ _ _=>rfl) rfl (by decide) (λf cdv A outer s H E hr=>
  (zK (u3 cl n1 (FL.gl (zlT rfl rfl (nbg NB) rfl (nbg NB) (za (zg 1) zi))))
  (zK (u3 cl n2 (FL.gl (xQ zi)))
  (zK (u3 cl n3 (FL.gl (yB (Ts:=["place"]) (F:=[1]) rfl (FI.fib (yF rfl (nbg NB) (za (zg 1) zi))) (csx (sc:=ze W6)) (xX rfl rfl xM) (fgc 0) (λ_ _ _ _ _=>(FL.fe (vX cb hr rfl (za (zg 0) (za (zg 1) zi))))))))
  (yN (zbf cl n4 (FE.ge zY))))))))
def zl4(h:vU K CS "take" "Span.take" V5)(NB:NBP P w base mg)(cl:Cls K CS)(nF:zS K CS "free")(nT:zS K CS "taken")(nC:zS K CS "checks")(nP:zS K CS "pivot")(bw:xq P w K mg base)(cc:xY P w K mg base 1 "narrowed" ["check","number","gone","pivot","divisor"] uB):Met P w K mg base 4 CS "take" ["self","row"] vF:=(Met.mk (N:=["self","row","sums","unmet","turn","pivot","gone","left"]) (m:=1) h uZ (um2 λ_ _ _ _ _ _ _ _=>rfl) rfl (by decide) (λf cdv A outer s H E hr=>
  (zK (zjo 2 (Ts:=["check"]) (F:=[1]) uZ.nd rfl (zeG (wz cl nC)) (csx (sc:=ze V5)) (xX rfl rfl xM) (fgc 0) (λ_ _ _ _ _=>(zw bw hr rfl (za (zg 0) (za (zg 1) zi)))))
  (zK (zgg 3 (Ts:=["turn","number"]) (F:=[]) uZ.nd rfl (FIB.gib (zhm false rfl (nbg NB) (zj (yd 2) zu))) (csx (sc:=ze V5)) xM (λ_ _ _ _ _=>(JZ rfl (z9 0 (show(["turn","number"]:LSr).Nodup by decide+kernel)) (z9 1 (show(["turn","number"]:LSr).Nodup by decide+kernel)))) (λ_ _ _ _ _=>(ym (wa hr.units) Jq (qv 1) qi (nomark _))) (λ_ _ _ _ _=>(zg 0)))
  (zK (zeX (FT.gt (ym (xv hr.units) jv (yd 3) (FL.fb (xQ zi)) (nomark _))) (yN (wB (FE.ge Ub))) uX)
  (zK (YD 4 uZ.nd (FE.ge (zx (yd 3) qi (λ_ _=>rfl))))
  (zK (ziQ 5 2 uZ.nd (FE.ge (zg 4)))
  (zK (zix 6 uZ.nd cl nC (FE.ge (zg 4)))
  (zK (zhb 7 0 (Ts:=["check","number"]) (F:=[0,5,6]) uZ.nd rfl (zj2 false false rfl (nbg NB) (uf (wz cl nC) (uf (FB.gb (yd 2)) Vt))) (csx (sc:=ze V5)) (xX rfl rfl (xX rfl rfl (xX rfl rfl xM))) rfl (λ_ _ _ _ _=>(JZ rfl (z9 0 (show(["check","number","self","pivot","gone"]:LSr).Nodup by decide+kernel)) (z9 1 (show(["check","number","self","pivot","gone"]:LSr).Nodup by decide+kernel)))) (λ_ _ _ _ _=>(zjJ cc.df hr rfl (uo (FE.gj (zg 0)) (uo (FE.gj (zg 1)) (uo (FE.gj (zg 4)) (uo (FE.gj (zg 3)) (uo (zkS (j:=2) cl nP) zeY))))))))
  (zK (ziA 7 cl nC)
  (zK (zbf cl nP (FE.ge (zg 5)))
  (zK (zkU cl nT nF (FE.ge (zg 4)) (by decide+kernel))
  (yN (wB (FE.ge Ub)))))))))))))))
def zkW(h:vU K CS "full" "Span.full" zdf)(cl:Cls K CS)(nF:zS K CS "free"):Met P w K mg base 1 CS "full" ["self"] Yw:=(Met.mk (N:=["self"]) (m:=0) h zjS (um1 λ_ _ _ _ _ _ _=>rfl) rfl (by decide) (λf cdv A outer s H E hr=>
  (yN (wB (zlu (xv hr.units) jv (wz cl nF) (FB.gb (FL.fb (xQ zi))) (nomark _))))))
def zmG(h:vU K CR "row_led_on" "Reach.row_led_on" zgS)(cl:Cls K CR)(nS:zS K CR "steps")(cj:xY P w K mg base 2 "without_common" ["tops"] xp)(ck:xY P w K mg base 2 "led_on" ["tops","columns"] j7):Met P w K mg base 4 CR "row_led_on" ["self","word","row"] UN:=(Met.mk (N:=["self","word","row"]) (m:=2) h zlG (um3 λ_ _ _ _ _ _ _ _ _=>rfl) rfl (by decide) (λf cdv A outer s H E hr=>
  (zK (zeX (FT.gt (ym (xv hr.units) jv (qv 1) (FE.fb (yI zi)) (nomark _))) (yN (wB (FE.ge (zg 2)))) uX)
  (yN (wB (zew cj.df hr rfl (xI (zew ck.df hr rfl (xI (FE.ge (zg 2)) (xI (Z1 (wz cl nS) (GE.gb (FE.ge (zx (qv 1) (FE.fb (za5 zY)) (λ_ _=>rfl)))) (λ_ _=>rfl)) wb))) wb)))))))
def zhg(h:vU K CR "onward" "Reach.onward" YQ)(NB:NBP P w base mg)(cl:Cls K CR)(cs:Cls K CS)(nA:zS K CR "asked")(nW:zS K CR "waiting")(nS:zS K CR "span")(mF:Met P w K mg base 1 CS "full" ["self"] Yw)(mT:Met P w K mg base 4 CS "take" ["self","row"] vF)(mK:Met P w K mg base 1 CR "keep" ["self","word","row"] VG)(mL:Met P w K mg base 4 CR "row_led_on" ["self","word","row"] UN):Met P w K mg base 5 CR "onward" ["self"] (jg CS):=(Met.mk (N:=["self","word","row"]) (m:=0) h VC (um1 λ_ _ _ _ _ _ _=>rfl) rfl (by decide) (λf cdv A outer s H E hr=>
  (zK (zcS (λ_ _=>1000000) qU (GWM.gtm (ziR (GT.gtm (zlX zbA uK (GE.gb (zaH cl nA)) (GE.gb (Vf zA xj rfl (nbg NB) yx (uf (wz cl nW) Vt))) (nomark _))) (zhn (zeE (WT (zhf cl nS cs mF hr))))))
   (zK (YD 1 VC.nd (Z1 (GE.gb (Z1 (wz cl nW) (GE.gb (zaH cl nA)) (λ_ _=>rfl))) (FB.gb qi) (λ_ _=>rfl)))
   (zK (WX 2 VC.nd (zaZ cl mL hr (xI (FE.ge (zg 1)) (xI (Z1 (GE.gb (Z1 (wz cl nW) (GE.gb (zaH cl nA)) (λ_ _=>rfl))) (FB.gb qi) (λ_ _=>rfl)) wb))))
   (zK (zbf cl nA (zmB j4 jZ (GE.gb (zaH cl nA)) (FB.gb qi)))
   (yN (zd5 (WT (ziT cl nS cs mT hr (xI (FE.ge (zg 2)) wb))) (zK (zme (zaZ cl mK hr (xI (FE.ge (zg 1)) (xI (FE.ge (zg 2)) wb)))) (yN (wB (FE.ge (zg 2))))) uX))))))
  (yN (wB (FE.ge VA))))))
def zkY(h:vU K CR "keep" "Reach.keep" zdK)(NB:NBP P w base mg)(cl:Cls K CR)(nWd:zS K CR "words")(nR:zS K CR "rows")(nS:zS K CR "steps")(nW:zS K CR "waiting"):Met P w K mg base 1 CR "keep" ["self","word","row"] VG:=(Met.mk (N:=["self","word","row","sign"]) (m:=2) h zey (um3 λ_ _ _ _ _ _ _ _ _=>rfl) rfl (by decide) (λf cdv A outer s H E hr=>
  (zK (zg0 cl nWd (FE.ge (zg 1)))
  (zK (zg0 cl nR (FE.ge (zg 2)))
  (yN (zls qU rfl (zdx rfl (nbg NB) (xI (Vf zA xj rfl (nbg NB) yx (uf (wz cl nS) Vt)) wb)) (z9 3 zey.nd)
   (yN (zg0 cl nW (FE.ge (yI (za (zF j6 vT (qv 1) (FE.fb (yI (za (zg 3) zi)))) (za (zg 2) zi))))))))))))
def zbV(h:HasDef K mg "compared" Uq)(bA:uP P w K mg base)(bh:xY P w K mg base 3 "whole_row" ["row"] zZ)(bw:xq P w K mg base)(iR:Ini P w K mg base 5 CR "Reach" ["self","machine"] (JT CS))(mO:Met P w K mg base 5 CR "onward" ["self"] (jg CS))(cl:Cls K CR)(nWd:zS K CR "words")(nR:zS K CR "rows"):xC P w K mg base 8 "compared" ["one","other"] (jh CS):=(xC.mk (N:=["one","other","machine","last","reach","row"]) (m:=2) h jQ (um2 λ_ _ _ _ _ _ _ _=>rfl) rfl (λf cdv A outer s H E hr=>
  (zh (zL 2 jQ.nd (zw bA hr rfl (za (zg 0) (za (zg 1) zi))))
  (zh (zL 3 jQ.nd (zw bh.df hr rfl (za (zx (qv 2) qi (λ_ _=>rfl)) zi)))
  (zeq 4 jQ.nd (zaT iR hr rfl (za (zg 2) zi))
  (zK (WX 5 jQ.nd (zcW cl mO hr))
  (zK (zcS (λ_ _=>1000) qU (GT.gtm (FT.gt (ym ze2 zb8 (qv 5) (FE.fb VA) (nomark _))))
   (zK (zeX (FT.gt (ym (wa hr.units) Jq (FE.fb (zw bw hr rfl (za (zg 5) (za (zg 3) zi)))) qi (nomark _))) (yN (wB (zle (xI (Z1 (wz cl nWd) (FB.gb (FE.fb (za5 zY))) (λ_ _=>rfl)) (xI (GL.ge (zib (wz cl nR) zeW (JI (za5 zY)))) wb))))) uX)
   (yN (WX 5 jQ.nd (zcW cl mO hr)))))
  (yN (zjv (zlj (zce (FE.gz VA) (zce (zlp cl nR) ziH))))))))))))
def zjN(h:WO K mg CR "Reach" "__init__" "Reach.__init__" W0)(NB:NBP P w base mg)(cl:Cls K CR)(n1:zS K CR "steps")(n2:zS K CR "span")(n3:zS K CR "words")(n4:zS K CR "rows")(n5:zS K CR "waiting")(n6:zS K CR "asked")(bK:uQ P w K mg base)(cm:xY P w K mg base 3 "whole_row" ["row"] zZ)(iS:Ini P w K mg base 3 CS "Span" ["self","places"] wG):Ini P w K mg base 5 CR "Reach" ["self","machine"] (JT CS):=(Ini.mk (N:=["self","machine"]) (m:=1) h zgu (um2 λ_ _ _ _ _ _ _ _=>rfl) rfl (by decide) (λf cdv A outer s H E hr=>
  (zK (u3 cl n1 (FL.gl (yB (Ts:=["step"]) (F:=[]) rfl (yH (FE.fb (zx (qv 1) qi (λ_ _=>rfl)))) (csx (sc:=ze W0)) xM (fgc 0) (λ_ _ _ _ _=>(zx (FE.fb (zw bK hr rfl (za (zg 0) zi))) qi (λ_ _=>rfl))))))
  (zK (zjE cl n2 (FN.gn (zaT iS hr rfl (za (zH zA xj rfl (nbg NB) yx (zj (FE.fb (zx (qv 1) qi (λ_ _=>rfl))) zu)) zi))))
  (zK (u3 cl n3 (FL.gl (xQ zi)))
  (zK (u3 cl n4 (FL.gl (xQ zi)))
  (zK (u3 cl n5 (FL.gl (xQ (za (yI (za (yI zi) (za (zw cm.df hr rfl (za (zx (qv 1) qi (λ_ _=>rfl)) zi)) zi))) zi))))
  (yN (zbf cl n6 (FE.ge zY))))))))))
def zjw(h:vU K CS "holds" "Span.holds" WZ)(NB:NBP P w base mg)(cl:Cls K CS)(nC:zS K CS "checks")(bw:xq P w K mg base):zc0 P w K mg base 2 CS "holds" ["self","row"] j9:=zc0.mk (k:=1) (N:=["self","row"]) (m:=1) (b:=zfk) h zik (um2 λ_ _ _ _ _ _ _ _=>rfl) rfl (by decide) (λf cdv A outer s H E hr=>
  (zjz (zkL (Vf (zch rfl) zkm rfl (nbg NB) zhS (uf (GE.gb (GL.ge (zjX (Ts:=["check"]) (F:=[1]) rfl (zeG (wz cl nC)) (csx (sc:=ze WZ)) (xX rfl rfl xM) (fgc 0) (λ_ _ _ _ _=>(UH (xv hr.units) jv (FE.fb (zw bw hr rfl (za (zg 0) (za (zg 1) zi)))) qi (nomark _)))))) Vt)))))
def zbE(h:HasDef K mg "new_rows" UE)(bh:xY P w K mg base 3 "whole_row" ["row"] zZ)(cl:Cls K CS)(mT:Met P w K mg base 4 CS "take" ["self","row"] vF):zaG P w K mg base 5 CS "new_rows" ["span","rows"] uG:=zaG.mk (k:=4) (N:=["span","rows","kept","row","whole"]) (m:=1) (b:=YM) h wL (um2 λ_ _ _ _ _ _ _ _=>rfl) rfl (by decide) (λf cdv A outer s H E hr=>
  (zK (zi9 2 wL.nd (FL.gl (xQ zi)))
  (zK (zeB qU rfl (Jr (zg 1)) (z9 3 wL.nd)
   (zK (YD 4 wL.nd (FE.ge (zw bh.df hr rfl (za (zg 3) zi))))
   (yN (zd5 (WT (zaZ cl mT hr (xI (FE.ge (zg 4)) wb))) (yN (zlU 2 (FE.ge (zg 4)))) uX))))
  (yN (ziy 2)))))
def WL(h:HasDef K mg "stays_within" vd)(NB:NBP P w base mg)(bK:uQ P w K mg base)(bG:xY P w K mg base 2 "led_on" ["tops","columns"] j7)(cl:Cls K CS)(mH:zc0 P w K mg base 2 CS "holds" ["self","row"] j9):zaG P w K mg base 4 CS "stays_within" ["span","rows","steps"] ja:=zaG.mk (k:=3) (N:=["span","rows","steps","step","columns"]) (m:=2) (b:=JH) h vI (um3 λ_ _ _ _ _ _ _ _ _=>rfl) rfl (by decide) (λf cdv A outer s H E hr=>
  (zK (zeB qU rfl (Jr (zg 2)) (z9 3 vI.nd)
   (zK (YD 4 vI.nd (FE.ge (zx (FE.fb (zw bK hr rfl (za (zg 3) zi))) qi (λ_ _=>rfl))))
   (yN (zd5 (zeE (WT (GE.gm (Vf (zch rfl) zkm rfl (nbg NB) zhS (uf (GE.gb (GL.ge (zhy 0 (Ts:=["row"]) (F:=[0,4]) rfl (FIB.gib (yH (qv 1))) (csx (sc:=ze vd)) (xX rfl rfl (xX rfl rfl xM)) rfl (fgc 0) (λ_ _ _ _ _=>zj4 cl mH hr (uo (FE.gj (zw bG.df hr rfl (za (zg 0) (za (zg 2) zi)))) zeY))))) Vt))))) (yN (wB (FE.ge Ub))) uX))))
  (yN (wB (FE.ge Ub)))))
def zii(h:HasDef K mg "shows" U6)(NB:NBP P w base mg)(bA:uP P w K mg base)(bh:xY P w K mg base 3 "whole_row" ["row"] zZ)(bw:xq P w K mg base)(iS:Ini P w K mg base 3 CS "Span" ["self","places"] wG)(cl:Cls K CS)(mH:zc0 P w K mg base 2 CS "holds" ["self","row"] j9)(dN:zaG P w K mg base 5 CS "new_rows" ["span","rows"] uG)(dS:zaG P w K mg base 4 CS "stays_within" ["span","rows","steps"] ja):zfa P w K mg base:=xC.mk (k:=5) (N:=["one","other","rows","machine","rooms","span","kept","last"]) (m:=3) (b:=zeH) h uu (um3 λ_ _ _ _ _ _ _ _ _=>rfl) rfl (λf cdv A outer s H E hr=>
  (zh (zL 3 uu.nd (zw bA hr rfl (za (zg 0) (za (zg 1) zi))))
  (zh (zL 4 uu.nd (zH zA xj rfl (nbg NB) yx (zj (FE.fb (zx (qv 3) qi (λ_ _=>rfl))) zu)))
  (zh (jS (zaL (zH (zb2 rfl) zkn rfl (nbg NB) zhW (zj (FL.fb (yB (Ts:=["row"]) (F:=[4]) rfl (yH (qv 2)) (csx (sc:=ze U6)) (xX rfl rfl xM) (fgc 0) (λ_ _ _ _ _=>(UH (wa hr.units) Jq (FE.fb (zH zA xj rfl (nbg NB) yx (zj (qv 0) zu))) (qv 1) (nomark _))))) zu))) (zo (ye Ub)) yT)
  (zeq 5 uu.nd (zaT iS hr rfl (za (zg 4) zi))
  (zK (WX 6 uu.nd (zeV dN hr rfl (xI (FE.ge (zg 2)) wb)))
  (zK (YD 7 uu.nd (FE.ge (zw bh.df hr rfl (za (zx (qv 3) qi (λ_ _=>rfl)) zi))))
  (zK (zeX (FT.gt (zaL (zH (zb2 rfl) zkn rfl (nbg NB) zhW (zj (FL.fb (yB (Ts:=["row"]) (F:=[7]) rfl (yH (qv 6)) (csx (sc:=ze U6)) (xX rfl rfl xM) (fgc 0) (λ_ _ _ _ _=>(UH (wa hr.units) Jq (FE.fb (zw bw hr rfl (za (zg 0) (za (zg 1) zi)))) qi (nomark _))))) zu)))) (yN (wB (FE.ge Ub))) uX)
  (yN (zjn (zkR (GE.gm (zgU cl mH hr (xI (FE.ge (zw bh.df hr rfl (za (zx (qv 3) qi (λ_ _=>rfl)) zi))) wb))) (zkI (zeV dS hr rfl (xI (FE.ge (zg 6)) (xI (FE.ge (zx (qv 3) qi (λ_ _=>rfl))) wb)))))))))))))))
def Yo(h:HasDef K mg "_law_cell_at" wR)(NB:NBP P w base mg):J3 P w K mg base:=xC.mk (N:=["script","k"]) (m:=2) (b:=J4) h YE (um2 λ_ _ _ _ _ _ _ _=>rfl) rfl (λf cdv A outer s H E hr=> 
  (zh (jS (ym zbA uK (qv 1) (FE.fb (zH zA xj rfl (nbg NB) yx (zj (qv 0) zu))) (nomark _)) (zo (ye (zx (qv 0) (qv 1)))) yT)
   (zo (ye zY))))
def zdh(h:HasDef K mg "_law_low" VD)(NB:NBP P w base mg):J1 P w K mg base:=xC.mk (N:=["top","bottom","a","b","rest"]) (m:=2) (b:=zal) h vq (um2 λ_ _ _ _ _ _ _ _=>rfl) rfl (λf cdv A outer s H E hr=> 
  (zh (zL 2 vq.nd (zH zcv zj6 rfl (nbg NB) zhj (zj (qv 0) zu)))
   (zh (zL 3 vq.nd (zg 1))
   (zh (zc8 YU qU (ym zeP uK (qv 3) qi (nomark _)) (zh (zL 4 vq.nd (zF yM xt (qv 2) (qv 3)))
   (zh (zL 2 vq.nd (zg 3))
   (zo (zL 3 vq.nd (zg 4))))))
   (zo (ye (yI (za (zF yn yL (qv 0) (qv 2)) (za (zF yn yL (qv 1) (qv 2)) zi)))))))))
def WM(h:HasDef K mg "_law_fraction" v9)(NB:NBP P w base mg)(bj:J1 P w K mg base):jX P w K mg base:=xC.mk (N:=["cell"]) (m:=1) (b:=JG) h WH (um1 λ_ _ _ _ _ _ _=>rfl) rfl (λf cdv A outer s H E hr=> 
  (zo (ye (zw bj hr rfl (za (zF Jz JD (FE.fb (zF yM xt (qv 0) qi)) qi) (za (zx (FL.fb (xQ (za zY (za zY (za zY (za zY (za zY zi))))))) (FE.fb (zF yM xt (FE.fb (zF yn yL (qv 0) qi)) qi))) zi))))))
def Yg(h:HasDef K mg "_law_machine" w9)(NB:NBP P w base mg)(bo:jX P w K mg base):wW P w K mg base:=xC.mk (N:=["cell","rooms","signs","out","k","steps","sign","rows","a","at"]) (m:=3) (b:=vy) h yJ (um3 λ_ _ _ _ _ _ _ _ _=>rfl) rfl (λf cdv A outer s H E hr=> 
  (zh (xF 3 yJ.nd (xQ zi))
   (zh (jb qU rfl (yF rfl (nbg NB) (za (zF xc xJ (qv 1) (FE.fb (zF j4 jZ qi (FE.fb (zF xc xJ (qv 1) (qv 2)))))) zi)) (z9 4 yJ.nd) (zh (zL 0 yJ.nd (zF yM xt (FE.fb (zF j4 jZ (FE.fb (zF xc xJ (qv 0) qi)) qi)) qi))
   (zo (jN 3 (zbX (ym (xv hr.units) jv (FE.fb (zF yM xt (FE.fb (zF yn yL (qv 0) qi)) qi)) qi (nomark _)) (yI (za zY (za zY zi))) (zw bo hr rfl (za (zF yn yL (qv 0) qi) zi)))))))
   (zh (xF 5 yJ.nd (xQ zi))
   (zh (jb qU rfl (yF rfl (nbg NB) (za (zg 2) zi)) (z9 6 yJ.nd) (zh (xF 7 yJ.nd (xQ zi))
   (zh (jb qU rfl (yF rfl (nbg NB) (za (zg 1) zi)) (z9 8 yJ.nd) (zh (zL 9 yJ.nd (zF j4 jZ (FE.fb (zF xc xJ qi (qv 1))) (FE.fb (zF xc xJ (FE.fb (zF j4 jZ (FE.fb (zF xc xJ (qv 6) (qv 1))) (qv 8))) (qv 1)))))
   (zo (jN 7 (yi zI xa rfl (nbg NB) yA (zj (FL.fb (Yc (yd 3) (JI (zg 9)) (JI (zF j4 jZ (qv 9) (qv 1))))) zu))))))
   (zo (jN 5 (yi zI xa rfl (nbg NB) yA (zj (yd 7) zu)))))))
   (zo (ye (yI (za (yi zI xa rfl (nbg NB) yA (zj (FL.fb (Yc (yd 3) zeW (JI (zg 1)))) zu)) (za (yi zI xa rfl (nbg NB) yA (zj (yd 5) zu)) (za (yi zI xa rfl (nbg NB) yA (zj (FL.fb (Yc (yd 3) (JI (zg 1)) (JI (zF xc xJ qi (qv 1))))) zu)) zi)))))))))))
def ZL(h:HasDef K mg "_law_beside" xR)(NB:NBP P w base mg):uT P w K mg base:=xC.mk (N:=["one","other","left","right","steps","k","rows"]) (m:=2) (b:=UQ) h x3 (um2 λ_ _ _ _ _ _ _ _=>rfl) rfl (λf cdv A outer s H E hr=> 
  (zh (zL 2 x3.nd (yi zI xa rfl (nbg NB) yA (zj (FL.fb (yB (Ts:=["k"]) (F:=[]) rfl (yH (FE.fb (zx (qv 0) qi))) (csx (sc:=ze xR)) xM (fgc 0) (λ_ _ _ _ _=>(yI (za zY (za zY zi)))))) zu)))
   (zh (zL 3 x3.nd (yi zI xa rfl (nbg NB) yA (zj (FL.fb (yB (Ts:=["k"]) (F:=[]) rfl (yH (FE.fb (zx (qv 1) qi))) (csx (sc:=ze xR)) xM (fgc 0) (λ_ _ _ _ _=>(yI (za zY (za zY zi)))))) zu)))
   (zh (xF 4 x3.nd (xQ zi))
   (zh (jb qU rfl (yF rfl (nbg NB) (za (zH zA xj rfl (nbg NB) yx (zj (FE.fb (zx (qv 0) qi)) zu)) zi)) (z9 5 x3.nd) (zh (uM 6 (Ts:=["row"]) (F:=[3]) x3.nd rfl (yH (FE.fb (zx (FE.fb (zx (qv 0) qi)) (qv 5)))) (csx (sc:=ze xR)) (xX rfl rfl xM) (fgc 0) (λ_ _ _ _ _=>(zF j6 vT (qv 0) (qv 1))))
   (zo (jN 4 (yi zI xa rfl (nbg NB) yA (zj (FL.fb (zhQ (zdB 6) (FL.fk (yB (Ts:=["row"]) (F:=[2]) rfl (yH (FE.fb (zx (FE.fb (zx (qv 1) qi)) (qv 5)))) (csx (sc:=ze xR)) (xX rfl rfl xM) (fgc 0) (λ_ _ _ _ _=>(zF j6 vT (qv 1) (qv 0))))))) zu))))))
   (zo (ye (yI (za (zF j6 vT (FE.fb (zx (qv 0) qi)) (FE.fb (zx (qv 1) qi))) (za (yi zI xa rfl (nbg NB) yA (zj (yd 4) zu)) (za (zF j6 vT (FE.fb (zx (qv 0) qi)) (FE.fb (zx (qv 1) qi))) zi)))))))))))
def zay(h:HasDef K mg "_law_times" Js)(NB:NBP P w base mg)(bj:J1 P w K mg base):vD P w K mg base:=xC.mk (N:=["one","other"]) (m:=2) (b:=Wh) h za1 (um2 λ_ _ _ _ _ _ _ _=>rfl) rfl (λf cdv A outer s H E hr=> 
  (zo (ye (zw bj hr rfl (za (zF xc xJ (FE.fb (zx (qv 0) qi)) (FE.fb (zx (qv 1) qi))) (za (zF xc xJ (FE.fb (zx (qv 0) qi)) (FE.fb (zx (qv 1) qi))) zi))))))
def zcU(h:HasDef K mg "_law_plus" Ut)(NB:NBP P w base mg)(bj:J1 P w K mg base):wC P w K mg base:=xC.mk (N:=["one","other"]) (m:=2) (b:=YN) h zcY (um2 λ_ _ _ _ _ _ _ _=>rfl) rfl (λf cdv A outer s H E hr=> 
  (zo (ye (zw bj hr rfl (za (zF j4 jZ (FE.fb (zF xc xJ (FE.fb (zx (qv 0) qi)) (FE.fb (zx (qv 1) qi)))) (FE.fb (zF xc xJ (FE.fb (zx (qv 1) qi)) (FE.fb (zx (qv 0) qi))))) (za (zF xc xJ (FE.fb (zx (qv 0) qi)) (FE.fb (zx (qv 1) qi))) zi))))))
def Vj(h:HasDef K mg "_law_turned_row" vt)(NB:NBP P w base mg)(bb:vD P w K mg base)(bc:wC P w K mg base):xY P w K mg base 3 "_law_turned_row" ["row","i","j","c"] yY:=xY.mk (N:=["row","i","j","c","out"]) (m:=4) (b:=uj) h wJ (λ_ _ _ _ _ _ us hl=>match us,hl with |[_,_,_,_],_=>rfl) rfl (λf cdv A outer s H E hr=> 
  (zh (xF 4 wJ.nd (xZ y3 wU rfl (nbg NB) vc (zj (qv 0) zu)))
   (zh (UT 4 (zg 2) (zw bc hr rfl (za (zx (yd 4) (qv 2)) (za (zw bb hr rfl (za (zg 3) (za (zx (yd 4) (qv 1)) zi))) zi))))
   (zo (WQ 4)))))
def zbt(h:HasDef K mg "_law_mixed" jP)(NB:NBP P w base mg)(bF:xY P w K mg base 3 "_law_turned_row" ["row","i","j","c"] yY)(bb:vD P w K mg base)(bc:wC P w K mg base):Wu P w K mg base:=xC.mk (N:=["machine","i","j","c","less","first","last","steps","step","rows"]) (m:=4) (b:=Wy) h xO (λ_ _ _ _ _ _ us hl=>match us,hl with |[_,_,_,_],_=>rfl) rfl (λf cdv A outer s H E hr=> 
  (zh (zL 4 xO.nd (yI (za (zF Jz JD qi (FE.fb (zx (qv 3) qi))) (za (zx (qv 3) qi) zi))))
   (zh (xF 5 xO.nd (vX bF hr rfl (za (zx (qv 0) qi) (za (zg 1) (za (zg 2) (za (zg 3) zi))))))
   (zh (xF 6 xO.nd (vX bF hr rfl (za (zx (qv 0) qi) (za (zg 2) (za (zg 1) (za (zg 4) zi))))))
   (zh (xF 7 xO.nd (xQ zi))
   (zh (jb qU rfl (Jr (zx (qv 0) qi)) (z9 8 xO.nd) (zh (xF 9 xO.nd (yB (Ts:=["row"]) (F:=[1,2,3]) rfl (yH (qv 8)) (csx (sc:=ze jP)) (xX rfl rfl (xX rfl rfl (xX rfl rfl xM))) (fgc 0) (λ_ _ _ _ _=>(FL.fe (vX bF hr rfl (za (zg 0) (za (zg 1) (za (zg 2) (za (zg 3) zi)))))))))
   (zh (UT 9 (zg 1) (FL.fe (yB (Ts:=["b"]) (F:=[1,2,4,9]) rfl (FI.fib (yF rfl (nbg NB) (za (zH zA xj rfl (nbg NB) yx (zj (yd 9) zu)) zi))) (csx (sc:=ze jP)) (xX rfl rfl (xX rfl rfl (xX rfl rfl (xX rfl rfl xM)))) (fgc 0) (λ_ _ _ _ _=>(zw bc hr rfl (za (zx (FE.fb (zx (yd 4) (qv 1))) (qv 0)) (za (zw bb hr rfl (za (zg 3) (za (zx (FE.fb (zx (yd 4) (qv 2))) (qv 0)) zi))) zi)))))))
   (zo (jN 7 (yi zI xa rfl (nbg NB) yA (zj (FL.fb (yB (Ts:=["row"]) (F:=[]) rfl (yH (yd 9)) (csx (sc:=ze jP)) xM (fgc 0) (λ_ _ _ _ _=>(yi zI xa rfl (nbg NB) yA (zj (qv 0) zu))))) zu)))))))
   (zo (ye (yI (za (yi zI xa rfl (nbg NB) yA (zj (yd 5) zu)) (za (yi zI xa rfl (nbg NB) yA (zj (yd 7) zu)) (za (yi zI xa rfl (nbg NB) yA (zj (yd 6) zu)) zi))))))))))))
def zdH(h:HasDef K mg "_law_kin" JO)(NB:NBP P w base mg)(bu:wW P w K mg base)(bx:uT P w K mg base)(bo:jX P w K mg base)(bM:Wu P w K mg base):zan P w K mg base:=xC.mk (N:=["machine","cell","more","rooms","signs","idle","none","k","i","j"]) (m:=3) (b:=zaq) h yX (um3 λ_ _ _ _ _ _ _ _ _=>rfl) rfl (λf cdv A outer s H E hr=> 
  (zh (zL 3 yX.nd (zH zA xj rfl (nbg NB) yx (zj (FE.fb (zx (qv 0) qi)) zu)))
   (zh (zL 4 yX.nd (zH zA xj rfl (nbg NB) yx (zj (FE.fb (zx (qv 0) qi)) zu)))
   (zh (jS (ym zeP uK (qv 2) qi (nomark _)) (zh (zL 5 yX.nd (zw bu hr rfl (za (zg 1) (za (zg 2) (za (zg 4) zi)))))
   (zh (zL 6 yX.nd (yi zI xa rfl (nbg NB) yA (zj (FL.fb (yB (Ts:=["k"]) (F:=[]) rfl (FI.fib (yF rfl (nbg NB) (za (zg 2) zi))) (csx (sc:=ze JO)) xM (fgc 0) (λ_ _ _ _ _=>(yI (za zY (za zY zi)))))) zu)))
   (zo (jS (ym (xv hr.units) jv (FE.fb (zF yM xt (qv 1) qi)) qi (nomark _)) (zo (zL 0 yX.nd (zw bx hr rfl (za (zg 0) (za (yI (za (zg 6) (za (zx (qv 5) qi) (za (zx (qv 5) qi) zi)))) zi))))) (zo (zL 0 yX.nd (zw bx hr rfl (za (zg 0) (za (yI (za (zx (qv 5) qi) (za (zx (qv 5) qi) (za (zg 6) zi)))) zi))))))))) yT)
   (zh (zL 3 yX.nd (zF j4 jZ (qv 3) (qv 2)))
   (zh (jb qU rfl (yF rfl (nbg NB) (za zY zi)) (z9 7 yX.nd) (zh (zL 1 yX.nd (zF yM xt (FE.fb (zF j4 jZ (FE.fb (zF xc xJ (qv 1) qi)) qi)) qi))
   (zh (zL 8 yX.nd (zF yM xt (FE.fb (zF yn yL (qv 1) qi)) (FE.fb (zH (VJ rfl) zh6 rfl (nbg NB) zd1 (zj qi (zj (qv 3) zu))))))
   (zh (zL 9 yX.nd (zF yM xt (FE.fb (zF yn yL (qv 1) qi)) (FE.fb (zH (VJ rfl) zh6 rfl (nbg NB) zd1 (zj qi (zj (qv 3) zu))))))
   (zo (jS (ym (wa hr.units) Jq (qv 8) (qv 9) (nomark _)) (zo (zL 0 yX.nd (zw bM hr rfl (za (zg 0) (za (zg 8) (za (zg 9) (za (zw bo hr rfl (za (zF yn yL (qv 1) qi) zi)) zi))))))) yT))))))
   (zo (ye (zg 0)))))))))
def VY(h:HasDef K mg "refuse_unlike" vG)(NB:NBP P w base mg):Jh P w K mg base:=xC.mk (N:=["one","other","one_signs","other_signs"]) (m:=2) (b:=Jf) h vw (um2 λ_ _ _ _ _ _ _ _=>rfl) rfl (λf cdv A outer s H E hr=> 
  (zh (zL 2 vw.nd (zH zA xj rfl (nbg NB) yx (zj (FE.fb (zx (qv 0) qi)) zu)))
   (zh (zL 3 vw.nd (zH zA xj rfl (nbg NB) yx (zj (FE.fb (zx (qv 1) qi)) zu)))
   (zo (jS (ym (wa hr.units) Jq (qv 2) (qv 3) (nomark _)) (zo zhk) yT)))))
def Vn(h:HasDef K mg "common_divisor" vm)(NB:NBP P w base mg):jt P w K mg base:=xC.mk (N:=["one","other","rest"]) (m:=2) (b:=uk) h x9 (um2 λ_ _ _ _ _ _ _ _=>rfl) rfl (λf cdv A outer s H E hr=> 
  (zh (zc8 wK qU (ym (wa hr.units) Jq (qv 1) qi (nomark _)) (zh (zL 2 x9.nd (zF yM xt (qv 0) (qv 1)))
   (zh (zL 0 x9.nd (zg 1))
   (zo (zL 1 x9.nd (zg 2))))))
   (zo (ye (zH zcv zj6 rfl (nbg NB) zhj (zj (qv 0) zu))))))
def zfD(h:HasDef K mg "lowest" Yi)(NB:NBP P w base mg)(br:jt P w K mg base):zcL P w K mg base:=xC.mk (N:=["top","bottom","common"]) (m:=2) (b:=zcs) h Wc (um2 λ_ _ _ _ _ _ _ _=>rfl) rfl (λf cdv A outer s H E hr=> 
  (zh (zL 2 Wc.nd (zw br hr rfl (za (zg 0) (za (zg 1) zi))))
   (zh (jS (ym zbA uK (qv 1) qi (nomark _)) (zo (zL 2 Wc.nd (za5 (zg 2)))) yT)
   (zo (ye (yI (za (zF yn yL (qv 0) (qv 2)) (za (zF yn yL (qv 1) (qv 2)) zi))))))))
def zhF(h:HasDef K mg "times" zaz)(NB:NBP P w base mg)(bO:zcL P w K mg base):zeR P w K mg base:=xC.mk (N:=["one","other"]) (m:=2) (b:=zfh) h zhG (um2 λ_ _ _ _ _ _ _ _=>rfl) rfl (λf cdv A outer s H E hr=> 
  (zo (ye (zw bO hr rfl (za (zF xc xJ (FE.fb (zx (qv 0) qi)) (FE.fb (zx (qv 1) qi))) (za (zF xc xJ (FE.fb (zx (qv 0) qi)) (FE.fb (zx (qv 1) qi))) zi))))))
def Zw(h:HasDef K mg "scaled_row" vP)(NB:NBP P w base mg)(bP:zeR P w K mg base):Vp P w K mg base:=xC.mk (N:=["row","fraction"]) (m:=2) (b:=Vg) h ZD (um2 λ_ _ _ _ _ _ _ _=>rfl) rfl (λf cdv A outer s H E hr=> 
  (zo (ye (yi zI xa rfl (nbg NB) yA (zj (FL.fb (yB (Ts:=["number"]) (F:=[1]) rfl (yH (qv 0)) (csx (sc:=ze vP)) (xX rfl rfl xM) (fgc 0) (λ_ _ _ _ _=>(zw bP hr rfl (za (zg 0) (za (zg 1) zi)))))) zu)))))
def zdj(h:HasDef K mg "noughts" VW)(NB:NBP P w base mg)(c_NOUGHT:GC K mg "NOUGHT" (.tuple [.int 0,.int 1])):VH P w K mg base:=xC.mk (N:=["rooms"]) (m:=1) (b:=zah) h zdV (um1 λ_ _ _ _ _ _ _=>rfl) rfl (λf cdv A outer s H E hr=> 
  (zo (ye (zF zjm zi4 (FE.fb (yI (za (zeu c_NOUGHT rfl) zi))) (qv 0)))))
def YS(h:HasDef K mg "joined_step" jA)(NB:NBP P w base mg)(bB:VH P w K mg base):Ui P w K mg base:=xC.mk (N:=["one_step","crossings","other_step","one_rows","other_rows"]) (m:=3) (b:=Uh) h wq (um3 λ_ _ _ _ _ _ _ _ _=>rfl) rfl (λf cdv A outer s H E hr=> 
  (zh (uM 3 (Ts:=["row","across"]) (F:=[]) wq.nd rfl (WY true false rfl (nbg NB) (zj (qv 0) (zj (qv 1) zu))) (csx (sc:=ze jA)) xM (λ_ _ _ _ _=>(JZ rfl (z9 0 (show(["row","across"]:LSr).Nodup by decide+kernel)) (z9 1 (show(["row","across"]:LSr).Nodup by decide+kernel)))) (λ_ _ _ _ _=>(zF j6 vT (qv 0) (qv 1))))
   (zh (uM 4 (Ts:=["row"]) (F:=[0]) wq.nd rfl (yH (qv 2)) (csx (sc:=ze jA)) (xX rfl rfl xM) (fgc 0) (λ_ _ _ _ _=>(zF j6 vT (FE.fb (zw bB hr rfl (za (zH zA xj rfl (nbg NB) yx (zj (qv 1) zu)) zi))) (qv 0))))
   (zo (ye (yi zI xa rfl (nbg NB) yA (zj (FL.fb (zhQ (zdB 3) (zdB 4))) zu)))))))
def Zv(h:HasDef K mg "added_step" Jb)(NB:NBP P w base mg)(bB:VH P w K mg base)(bQ:Ui P w K mg base):Vb P w K mg base:=xC.mk (N:=["one_step","other_step","crossings"]) (m:=2) (b:=US) h J8 (um2 λ_ _ _ _ _ _ _ _=>rfl) rfl (λf cdv A outer s H E hr=> 
  (zh (xF 2 J8.nd (zh8 (FL.fk (xQ (za (zw bB hr rfl (za (zH zA xj rfl (nbg NB) yx (zj (qv 1) zu)) zi)) zi))) (zH zA xj rfl (nbg NB) yx (zj (qv 0) zu))))
   (zo (FS.frz 2 (ye (zw bQ hr rfl (za (zg 0) (za (zg 2) (za (zg 1) zi)))))))))
def zga(h:HasDef K mg "beside" Ve)(NB:NBP P w base mg)(bR:Vb P w K mg base):zcN P w K mg base:=xC.mk (N:=["one","other","steps"]) (m:=2) (b:=zcj) h zai (um2 λ_ _ _ _ _ _ _ _=>rfl) rfl (λf cdv A outer s H E hr=> 
  (zh (uM 2 (Ts:=["one_step","other_step"]) (F:=[]) zai.nd rfl (WY true true rfl (nbg NB) (zj (FE.fb (zx (qv 0) qi)) (zj (FE.fb (zx (qv 1) qi)) zu))) (csx (sc:=ze Ve)) xM (λ_ _ _ _ _=>(JZ rfl (z9 0 (show(["one_step","other_step"]:LSr).Nodup by decide+kernel)) (z9 1 (show(["one_step","other_step"]:LSr).Nodup by decide+kernel)))) (λ_ _ _ _ _=>(zw bR hr rfl (za (zg 0) (za (zg 1) zi)))))
   (zo (ye (yI (za (zF j6 vT (FE.fb (zx (qv 0) qi)) (FE.fb (zx (qv 1) qi))) (za (yi zI xa rfl (nbg NB) yA (zj (yd 2) zu)) (za (zF j6 vT (FE.fb (zx (qv 0) qi)) (FE.fb (zx (qv 1) qi))) zi))))))))
def Zx(h:HasDef K mg "difference" uE)(NB:NBP P w base mg)(c_MINUS_ONE:GC K mg "MINUS_ONE" (.tuple [.int (-1),.int 1]))(bS:Jh P w K mg base)(bT:Vp P w K mg base)(bU:zcN P w K mg base):uP P w K mg base:=xC.mk (N:=["one","other"]) (m:=2) (b:=Vv) h ZE (um2 λ_ _ _ _ _ _ _ _=>rfl) rfl (λf cdv A outer s H E hr=> 
  (zh (ziP (zw bS hr rfl (za (zg 0) (za (zg 1) zi))))
   (zo (ye (zw bU hr rfl (za (zg 0) (za (yI (za (zx (qv 1) qi) (za (zx (qv 1) qi) (za (zw bT hr rfl (za (zx (qv 1) qi) (za (zeu c_MINUS_ONE rfl) zi))) zi)))) zi)))))))
def Wb(h:HasDef K mg "shared_bottom" vH)(NB:NBP P w base mg)(br:jt P w K mg base):vJ P w K mg base:=xC.mk (N:=["fractions","bottom","fraction"]) (m:=1) (b:=Jc) h jq (um1 λ_ _ _ _ _ _ _=>rfl) rfl (λf cdv A outer s H E hr=> 
  (zh (zL 1 jq.nd zY)
   (zh (jb qU rfl (Jr (zg 0)) (z9 2 jq.nd) (zo (zL 1 jq.nd (zF xc xJ (qv 1) (FE.fb (zF yn yL (FE.fb (zx (qv 2) qi)) (FE.fb (zw br hr rfl (za (zg 1) (za (zx (qv 2) qi) zi))))))))))
   (zo (ye (zg 1))))))
def zbl(h:HasDef K mg "tops_over" wQ)(NB:NBP P w base mg):xY P w K mg base 1 "tops_over" ["fractions","bottom"] jf:=xY.mk (N:=["fractions","bottom"]) (m:=2) (b:=WE) h za9 (um2 λ_ _ _ _ _ _ _ _=>rfl) rfl (λf cdv A outer s H E hr=> 
  (zo (JQ (yB (Ts:=["fraction"]) (F:=[1]) rfl (yH (qv 0)) (csx (sc:=ze wQ)) (xX rfl rfl xM) (fgc 0) (λ_ _ _ _ _=>(zF xc xJ (FE.fb (zx (qv 0) qi)) (FE.fb (zF yn yL (qv 1) (FE.fb (zx (qv 0) qi))))))))))
def Vd(h:HasDef K mg "without_common" jm)(NB:NBP P w base mg)(br:jt P w K mg base):xY P w K mg base 2 "without_common" ["tops"] xp:=xY.mk (N:=["tops","common","top"]) (m:=1) (b:=ug) h x8 (um1 λ_ _ _ _ _ _ _=>rfl) rfl (λf cdv A outer s H E hr=> 
  (zh (zL 1 x8.nd zY)
   (zh (jb qU rfl (Jr (zg 0)) (z9 2 x8.nd) (zo (zL 1 x8.nd (zw br hr rfl (za (zg 2) (za (zg 1) zi))))))
   (zh (jS (ym zbA uK (qv 1) qi (nomark _)) (zo (JQ (xZ y3 wU rfl (nbg NB) vc (zj (qv 0) zu)))) yT)
   (zo (JQ (yB (Ts:=["top"]) (F:=[1]) rfl (yH (qv 0)) (csx (sc:=ze jm)) (xX rfl rfl xM) (fgc 0) (λ_ _ _ _ _=>(zF yn yL (qv 0) (qv 1))))))))))
def zbp(h:HasDef K mg "whole_row" Jv)(NB:NBP P w base mg)(bC:vJ P w K mg base)(bD:xY P w K mg base 1 "tops_over" ["fractions","bottom"] jf)(bH:xY P w K mg base 2 "without_common" ["tops"] xp):xY P w K mg base 3 "whole_row" ["row"] zZ:=xY.mk (N:=["row"]) (m:=1) (b:=Wd) h zbm (um1 λ_ _ _ _ _ _ _=>rfl) rfl (λf cdv A outer s H E hr=> 
  (zo (JQ (vX bH hr rfl (za (FL.fe (vX bD hr rfl (za (zg 0) (za (zw bC hr rfl (za (zg 0) zi)) zi)))) zi)))))
def Vw(h:HasDef K mg "whole_pair_sum" jj)(NB:NBP P w base mg):xq P w K mg base:=xC.mk (N:=["ones","others"]) (m:=2) (b:=uc) h Vh (um2 λ_ _ _ _ _ _ _ _=>rfl) rfl (λf cdv A outer s H E hr=> 
  (zo (ye (zH (zhu rfl) zmt rfl (nbg NB) zk4 (zj (FL.fb (yB (Ts:=["one","other"]) (F:=[]) rfl (WY false false rfl (nbg NB) (zj (qv 0) (zj (qv 1) zu))) (csx (sc:=ze jj)) xM (λ_ _ _ _ _=>(JZ rfl (z9 0 (show(["one","other"]:LSr).Nodup by decide+kernel)) (z9 1 (show(["one","other"]:LSr).Nodup by decide+kernel)))) (λ_ _ _ _ _=>(zF xc xJ (qv 0) (qv 1))))) zu)))))
def zfG(h:HasDef K mg "column" Vq)(NB:NBP P w base mg):zc6 P w K mg base:=xC.mk (N:=["step","room"]) (m:=2) (b:=zbO) h zgk (um2 λ_ _ _ _ _ _ _ _=>rfl) rfl (λf cdv A outer s H E hr=> 
  (zo (ye (yi zI xa rfl (nbg NB) yA (zj (FL.fb (yB (Ts:=["row"]) (F:=[1]) rfl (yH (qv 0)) (csx (sc:=ze Vq)) (xX rfl rfl xM) (fgc 0) (λ_ _ _ _ _=>(zx (qv 0) (qv 1))))) zu)))))
def Zu(h:HasDef K mg "whole_step" vV)(NB:NBP P w base mg)(bC:vJ P w K mg base)(bV:zc6 P w K mg base)(bD:xY P w K mg base 1 "tops_over" ["fractions","bottom"] jf):uQ P w K mg base:=xC.mk (N:=["step","numbers","row","bottom","columns"]) (m:=1) (b:=Vl) h jB (um1 λ_ _ _ _ _ _ _=>rfl) rfl (λf cdv A outer s H E hr=> 
  (zh (xF 1 jB.nd (xQ zi))
   (zh (jb qU rfl (Jr (zg 0)) (z9 2 jB.nd) (zo (zd4 1 (qv 2))))
   (zh (zL 3 jB.nd (Zl bC hr rfl (zj (yd 1) zu)))
   (zh (uM 4 (Ts:=["room"]) (F:=[0,3]) jB.nd rfl (FI.fib (yF rfl (nbg NB) (za (zH zA xj rfl (nbg NB) yx (zj (qv 0) zu)) zi))) (csx (sc:=ze vV)) (xX rfl rfl (xX rfl rfl xM)) (fgc 0) (λ_ _ _ _ _=>(FL.fe (vX bD hr rfl (za (zw bV hr rfl (za (zg 1) (za (zg 0) zi))) (za (zg 2) zi))))))
   (zo (FS.frz 4 (ye (yI (za (zg 4) (za (zg 3) zi)))))))))))
def zb4(h:HasDef K mg "unit_row" UA)(NB:NBP P w base mg):xY P w K mg base 1 "unit_row" ["place","places"] wo:=xY.mk (N:=["place","places","row"]) (m:=2) (b:=YH) h Wt (um2 λ_ _ _ _ _ _ _ _=>rfl) rfl (λf cdv A outer s H E hr=> 
  (zh (xF 2 Wt.nd (zh8 (FL.fk (xQ (za zY zi))) (zg 1)))
   (zh (UT 2 (zg 0) zY)
   (zo (WQ 2)))))
def zbR(h:HasDef K mg "narrowed" u6)(NB:NBP P w base mg):xY P w K mg base 1 "narrowed" ["check","number","gone","pivot","divisor"] uB:=xY.mk (N:=["check","number","gone","pivot","divisor"]) (m:=5) (b:=Y4) h zcu (λ_ _ _ _ _ _ us hl=>match us,hl with |[_,_,_,_,_],_=>rfl) rfl (λf cdv A outer s H E hr=> 
  (zo (JQ (yB (Ts:=["mine","theirs"]) (F:=[1,3,4]) rfl (WY false false rfl (nbg NB) (zj (qv 0) (zj (qv 2) zu))) (csx (sc:=ze u6)) (xX rfl rfl (xX rfl rfl (xX rfl rfl xM))) (λ_ _ _ _ _=>(JZ rfl (z9 0 (show(["mine","theirs","number","pivot","divisor"]:LSr).Nodup by decide+kernel)) (z9 1 (show(["mine","theirs","number","pivot","divisor"]:LSr).Nodup by decide+kernel)))) (λ_ _ _ _ _=>(zF yn yL (FE.fb (zF Jz JD (FE.fb (zF xc xJ (qv 3) (qv 0))) (FE.fb (zF xc xJ (qv 2) (qv 1))))) (qv 4)))))))
def zfH(h:HasDef K mg "led_on" Vx)(NB:NBP P w base mg)(bz:xq P w K mg base):xY P w K mg base 2 "led_on" ["tops","columns"] j7:=xY.mk (N:=["tops","columns"]) (m:=2) (b:=zbz) h zfL (um2 λ_ _ _ _ _ _ _ _=>rfl) rfl (λf cdv A outer s H E hr=> 
  (zo (JQ (yB (Ts:=["entering"]) (F:=[0]) rfl (yH (qv 1)) (csx (sc:=ze Vx)) (xX rfl rfl xM) (fgc 0) (λ_ _ _ _ _=>(zw bz hr rfl (za (zg 1) (za (zg 0) zi))))))))
def zcQ(h:HasDef K mg "rows_for" uO)(NB:NBP P w base mg)(bW:xC P w K mg base 8 "compared" ["one","other"] (jh CS)):xC P w K mg base 9 "rows_for" ["one","other"] (jc CS):=xC.mk (N:=["one","other","told"]) (m:=2) (b:=Yj CS) h WA (um2 λ_ _ _ _ _ _ _ _=>rfl) rfl (λf cdv A outer s H E hr=> 
  (zh (zL 2 WA.nd (zw bW hr rfl (za (zg 0) (za (zg 1) zi))))
   (zh (jS (ym ze2 zb8 (FE.fb (zx (qv 2) qi)) (FE.fb VA) (nomark _)) (zo (ye VA)) yT)
   (zo (ye (FL.fe (yB (Ts:=["row"]) (F:=[]) rfl (yH (FE.fb (zx (qv 2) qi))) (csx (sc:=ze uO)) xM (fgc 0) (λ_ _ _ _ _=>(FL.fe (yB (Ts:=["top"]) (F:=[]) rfl (yH (qv 0)) (zcd rfl (by decide+kernel) (by decide+kernel) (by decide+kernel)) xM (fgc 0) (λ_ _ _ _ _=>(yI (za (zg 0) (za zY zi))))))))))))))
def YY(h:HasDef K mg "_law_spoiled" jz)(NB:NBP P w base mg)(bo:jX P w K mg base):xY P w K mg base 3 "_law_spoiled" ["rows","many","cell"] jy:=xY.mk (N:=["rows","many","cell","way","at"]) (m:=3) (b:=J5) h j3 (um3 λ_ _ _ _ _ _ _ _ _=>rfl) rfl (λf cdv A outer s H E hr=> 
  (zfx 0 (Ts:=["row"]) (F:=[]) j3.nd rfl (yH (qv 0)) (csx (sc:=ze jz)) xM (fgc 0) (λ_ _ _ _ _=>(FL.fnl (xZ y3 wU rfl (nbg NB) vc (zj (qv 0) zu)))) (YA (zlW 3 j3.nd (zF yM xt (qv 2) qi))
 (YA (zjC 4 j3.nd (zF yM xt (FE.fb (zF yn yL (qv 2) qi)) (FE.fb (zH (VJ rfl) zh6 rfl (nbg NB) zd1 (zj qi (zj (FE.fb (zH zA xj rfl (nbg NB) yx (zj (yd 0) zu))) zu))))))
 (zdL (zdD (FW.ft (ze0 (ym (xv hr.units) jv (qv 3) qi (nomark _)) (ze0 (ym (xv hr.units) jv (FE.fb (zH zA xj rfl (nbg NB) yx (zj (yd 0) zu))) qi (nomark _)) (zd7 (ym (xv hr.units) jv (qv 1) qi (nomark _)))))) (U2 (zo (ZY 0 (zg 4) (FL.fe (yB (Ts:=["k"]) (F:=[]) rfl (FI.fib (yF rfl (nbg NB) (za (zg 1) zi))) (csx (sc:=ze jz)) xM (fgc 0) (λ_ _ _ _ _=>(yI (za zY (za zY zi))))))))) (zdL (zdD (ym (xv hr.units) jv (qv 3) qi (nomark _)) (U2 (zo (zja 0 (zg 4)))) (zdL (zdD (ym (xv hr.units) jv (qv 3) qi (nomark _)) (U2 (zo (jN 0 (FL.fe (xZ y3 wU rfl (nbg NB) vc (zj (FE.fb (zx (yd 0) (qv 4))) zu)))))) (YA (zk6 (zmD ziV (zg 4) (λ_ _=>rfl)) (zF yM xt (FE.fb (zF yn yL (qv 2) qi)) (qv 1)) (zw bo hr rfl (za (zF yn yL (qv 2) qi) zi))) (U2 yT))) yT)) yT)) (zo (WQ 0)))))))
def zbQ(h:HasDef K mg "_law_both" uJ)(NB:NBP P w base mg)(bx:uT P w K mg base):YI P w K mg base:=xC.mk (N:=["one","other","less"]) (m:=2) (b:=YG) h We (um2 λ_ _ _ _ _ _ _ _=>rfl) rfl (λf cdv A outer s H E hr=> 
  (zh (zL 2 We.nd (yi zI xa rfl (nbg NB) yA (zj (FL.fb (yB (Ts:=["part"]) (F:=[]) rfl (yH (FE.fb (zx (qv 1) qi))) (csx (sc:=ze uJ)) xM (fgc 0) (λ_ _ _ _ _=>(yI (za (zF Jz JD qi (FE.fb (zx (qv 0) qi))) (za (zx (qv 0) qi) zi)))))) zu)))
   (zo (ye (zw bx hr rfl (za (zg 0) (za (yI (za (zx (qv 1) qi) (za (zx (qv 1) qi) (za (zg 2) zi)))) zi)))))))
def zb6(h:HasDef K mg "_law_over" Um)(NB:NBP P w base mg):YL P w K mg base:=xC.mk (N:=["part"]) (m:=1) (b:=Y7) h zb3 (um1 λ_ _ _ _ _ _ _=>rfl) rfl (λf cdv A outer s H E hr=> 
  (zh (jS (ym zbA uK (FE.fb (zx (qv 0) qi)) qi (nomark _)) (zo (ye (yI (za (zF Jz JD qi (FE.fb (zx (qv 0) qi))) (za (zF Jz JD qi (FE.fb (zx (qv 0) qi))) zi))))) yT)
   (zo (ye (yI (za (zx (qv 0) qi) (za (zx (qv 0) qi) zi)))))))
def zbZ(h:HasDef K mg "_law_rank" vn)(NB:NBP P w base mg)(bX:YL P w K mg base)(bb:vD P w K mg base)(bc:wC P w K mg base):Zh P w K mg base:=xC.mk (N:=["rows","left","done","k","at","base","r","part","less"]) (m:=1) (b:=Zk) h xo (um1 λ_ _ _ _ _ _ _=>rfl) rfl (λf cdv A outer s H E hr=> 
  (zh (xF 1 xo.nd (yB (Ts:=["row"]) (F:=[]) rfl (yH (qv 0)) (csx (sc:=ze vn)) xM (fgc 0) (λ_ _ _ _ _=>(FL.fe (xZ y3 wU rfl (nbg NB) vc (zj (qv 0) zu))))))
   (zh (zL 2 xo.nd zY)
   (zh (jb qU rfl (yF rfl (nbg NB) (za (zbX (ym zeP uK (FE.fb (zH zA xj rfl (nbg NB) yx (zj (yd 1) zu))) qi (nomark _)) (zH zA xj rfl (nbg NB) yx (zj (FE.fb (zx (yd 1) qi)) zu)) zY) zi)) (z9 3 xo.nd) (zh (zgb 4 (Ts:=["r"]) (F:=[1,3]) xo.nd rfl (FI.fib (zab rfl (nbg NB) (za (zg 2) (za (zH zA xj rfl (nbg NB) yx (zj (yd 1) zu)) zi)))) (csx (sc:=ze vn)) (xX rfl rfl (xX rfl rfl xM)) (fgc 0) (λ_ _ _ _ _=>(ym (wa hr.units) Jq (FE.fb (zx (FE.fb (zx (FE.fb (zx (yd 1) (qv 0))) (qv 2))) qi)) qi (nomark _))) (λ_ _ _ _ _=>(zg 0)))
   (zo (jS (ym zeP uK (FE.fb (zH zA xj rfl (nbg NB) yx (zj (yd 4) zu))) qi (nomark _)) (zh (zkD 5 1 xo.nd (zx (yd 4) qi))
   (zh (ZY 1 (zg 2) (zg 5))
   (zh (jb qU rfl (zab rfl (nbg NB) (za (zF j4 jZ (qv 2) qi) (za (zH zA xj rfl (nbg NB) yx (zj (yd 1) zu)) zi))) (z9 6 xo.nd) (zo (jS (ym (wa hr.units) Jq (FE.fb (zx (FE.fb (zx (FE.fb (zx (yd 1) (qv 6))) (qv 3))) qi)) qi (nomark _)) (zh (zL 7 xo.nd (zw bb hr rfl (za (zx (FE.fb (zx (yd 1) (qv 6))) (qv 3)) (za (zw bX hr rfl (za (zx (qv 5) (qv 3)) zi)) zi))))
   (zh (zL 8 xo.nd (yI (za (zF Jz JD qi (FE.fb (zx (qv 7) qi))) (za (zx (qv 7) qi) zi))))
   (zo (UT 1 (zg 6) (FL.fe (yB (Ts:=["c"]) (F:=[1,5,6,8]) rfl (FI.fib (yF rfl (nbg NB) (za (zH zA xj rfl (nbg NB) yx (zj (qv 5) zu)) zi))) (csx (sc:=ze vn)) (xX rfl rfl (xX rfl rfl (xX rfl rfl (xX rfl rfl xM)))) (fgc 0) (λ_ _ _ _ _=>(zw bc hr rfl (za (zx (FE.fb (zx (yd 1) (qv 3))) (qv 0)) (za (zw bb hr rfl (za (zg 4) (za (zx (qv 2) (qv 0)) zi))) zi)))))))))) yT)))
   (zo (zL 2 xo.nd (zF j4 jZ (qv 2) qi)))))) yT))))
   (zo (ye (zg 2)))))))
def Yn(h:HasDef K mg "_law_in_span" vA)(NB:NBP P w base mg)(bI:Zh P w K mg base):Uj P w K mg base:=xC.mk (N:=["rows","row"]) (m:=2) (b:=J6) h Zb (um2 λ_ _ _ _ _ _ _ _=>rfl) rfl (λf cdv A outer s H E hr=> 
  (zh (jS (ym (xv hr.units) jv (FE.fb (zH zA xj rfl (nbg NB) yx (zj (qv 0) zu))) qi (nomark _)) (zo (ye (UH (xv hr.units) jv (FE.fb (zH zA xj rfl (nbg NB) yx (zj (FL.fb (zf6 (Ts:=["part"]) (F:=[]) rfl (yH (qv 1)) (csx (sc:=ze vA)) xM (fgc 0) (λ_ _ _ _ _=>(ym (wa hr.units) Jq (FE.fb (zx (qv 0) qi)) qi (nomark _))) (λ_ _ _ _ _=>(zg 0)))) zu))) qi (nomark _)))) yT)
   (zo (ye (UH (xv hr.units) jv (FE.fb (zw bI hr rfl (za (FL.fe (zl8 ziD zju (qv 0) (FL.fb (xQ (za (zg 1) zi))))) zi))) (FE.fb (zw bI hr rfl (za (zg 0) zi))) (nomark _))))))
def zdt(h:HasDef K mg "_law_dot" V9)(NB:NBP P w base mg)(bb:vD P w K mg base)(bc:wC P w K mg base):V4 P w K mg base:=xC.mk (N:=["one","other","total","k"]) (m:=2) (b:=Z3) h uN (um2 λ_ _ _ _ _ _ _ _=>rfl) rfl (λf cdv A outer s H E hr=> 
  (zh (zL 2 uN.nd (yI (za zY (za zY zi))))
   (zh (jb qU rfl (yF rfl (nbg NB) (za (zH zA xj rfl (nbg NB) yx (zj (qv 0) zu)) zi)) (z9 3 uN.nd) (zo (zL 2 uN.nd (zw bc hr rfl (za (zg 2) (za (zw bb hr rfl (za (zx (qv 0) (qv 3)) (za (zx (qv 1) (qv 3)) zi))) zi))))))
   (zo (ye (zg 2))))))
def zdc(h:HasDef K mg "_law_led" JS)(NB:NBP P w base mg)(bE:V4 P w K mg base):xY P w K mg base 4 "_law_led" ["row","step"] vi:=xY.mk (N:=["row","step","out","b"]) (m:=2) (b:=zaa) h Up (um2 λ_ _ _ _ _ _ _ _=>rfl) rfl (λf cdv A outer s H E hr=> 
  (zh (xF 2 Up.nd (xQ zi))
   (zh (jb qU rfl (yF rfl (nbg NB) (za (zH zA xj rfl (nbg NB) yx (zj (qv 0) zu)) zi)) (z9 3 Up.nd) (zo (jN 2 (zw bE hr rfl (za (zg 0) (za (FL.fe (yB (Ts:=["a"]) (F:=[1,3]) rfl (FI.fib (yF rfl (nbg NB) (za (zH zA xj rfl (nbg NB) yx (zj (qv 0) zu)) zi))) (csx (sc:=ze JS)) (xX rfl rfl (xX rfl rfl xM)) (fgc 0) (λ_ _ _ _ _=>(zx (FE.fb (zx (qv 1) (qv 0))) (qv 2))))) zi))))))
   (zo (WQ 2)))))
def zaD(h:HasDef K mg "_law_shown" wM)(NB:NBP P w base mg)(bY:YI P w K mg base)(bJ:Uj P w K mg base)(bE:V4 P w K mg base)(bZ:xY P w K mg base 4 "_law_led" ["row","step"] vi):Wf P w K mg base:=xC.mk (N:=["one","other","rows","both","known","row","step"]) (m:=3) (b:=Wv) h j8 (um3 λ_ _ _ _ _ _ _ _ _=>rfl) rfl (λf cdv A outer s H E hr=> 
  (zh (zL 3 j8.nd (zw bY hr rfl (za (zg 0) (za (zg 1) zi))))
   (zh (uM 4 (Ts:=["row"]) (F:=[]) j8.nd rfl (yH (qv 2)) (csx (sc:=ze wM)) xM (fgc 0) (λ_ _ _ _ _=>(FL.fe (xZ y3 wU rfl (nbg NB) vc (zj (qv 0) zu)))))
   (zh (jS (zhL (zaL (Zl bJ hr rfl (zj (yd 4) (zj (FL.fb (xZ y3 wU rfl (nbg NB) vc (zj (FE.fb (zx (qv 3) qi)) zu))) zu))))) (zo (ye Ub)) yT)
   (zh (FS.frz 4 (jb qU rfl (Jr (zg 4)) (z9 5 j8.nd) (zh (jS (ym (wa hr.units) Jq (FE.fb (zx (FE.fb (zw bE hr rfl (za (zg 5) (za (zx (qv 3) qi) zi)))) qi)) qi (nomark _)) (zo (ye Ub)) yT)
   (zo (jb qU rfl (Jr (zx (qv 3) qi)) (z9 6 j8.nd) (zo (jS (zhL (zaL (zw bJ hr rfl (za (zg 4) (za (FL.fe (vX bZ hr rfl (za (zg 5) (za (zg 6) zi)))) zi))))) (zo (ye Ub)) yT)))))))
   (zo (ye Ub)))))))
def zlf{f:AdX}{fd:FuncData}(F:Fun K "law" "law" WG f fd)(NB:NBP P w base mg)(bg:J3 P w K mg base)(bu:wW P w K mg base)(b4:zan P w K mg base)(b5:xC P w K mg base 9 "rows_for" ["one","other"] (jc CS))(b6:xY P w K mg base 3 "_law_spoiled" ["rows","many","cell"] jy)(b7:zfa P w K mg base)(b8:Wf P w K mg base):wk P w K mg base CX0 10 f fd ["script"] (spF K (zkv CS)):=FnF.mk (N:=["script","signs","one","cell","other","many","rows","k","part","way","handed","kept","found"]) (m:=1) (b:=zkl CS) F jd rfl (λcdv A outer s H E hr=> 
  (zh (zL 1 jd.nd (zF j4 jZ qi (FE.fb (zF yM xt (FE.fb (zw bg hr rfl (za (zg 0) (za zY zi)))) qi))))
   (zh (zL 2 jd.nd (zw bu hr rfl (za (zw bg hr rfl (za (zg 0) (za zY zi))) (za (zF yM xt (FE.fb (zF yn yL (FE.fb (zw bg hr rfl (za (zg 0) (za zY zi)))) qi)) qi) (za (zg 1) zi)))))
   (zh (zL 3 jd.nd (zw bg hr rfl (za (zg 0) (za zY zi))))
   (zh (zL 4 jd.nd (zw b4 hr rfl (za (zg 2) (za (zw bg hr rfl (za (zg 0) (za zY zi))) (za (zH (zf3 rfl) zmR rfl (nbg NB) zly (zj (FE.fb (zF Jz JD qi (FE.fb (zH zA xj rfl (nbg NB) yx (zj (FE.fb (zx (qv 2) qi)) zu))))) (zj (FE.fb (zF yM xt (FE.fb (zF yn yL (qv 3) qi)) qi)) zu))) zi)))))
   (zh (jS (ym (xv hr.units) jv (FE.fb (zF yM xt (qv 3) qi)) qi (nomark _)) (zo (zL 4 jd.nd (zw bu hr rfl (za (zw bg hr rfl (za (zg 0) (za zY zi))) (za (zF yM xt (FE.fb (zF yn yL (qv 3) qi)) qi) (za (zg 1) zi)))))) yT)
   (zh (zL 5 jd.nd (zF j4 jZ (FE.fb (zH zA xj rfl (nbg NB) yx (zj (FE.fb (zx (qv 2) qi)) zu))) (FE.fb (zH zA xj rfl (nbg NB) yx (zj (FE.fb (zx (qv 4) qi)) zu)))))
   (zh (zL 6 jd.nd (zw b5 hr rfl (za (zg 2) (za (zg 4) zi))))
   (zh (jS (FW.ft (ze0 (ym zkZ zmj (qv 6) (FE.fb VA) (nomark _)) (zd7 (ym (xv hr.units) jv (FE.fb (zF yM xt (qv 3) qi)) qi (nomark _))))) (zh (xF 6 jd.nd (xQ zi))
   (zo (jb qU rfl (yF rfl (nbg NB) (za (zF yM xt (FE.fb (zF yn yL (qv 3) qi)) qi) zi)) (z9 7 jd.nd) (zh (zL 8 jd.nd (zw bu hr rfl (za (zw bg hr rfl (za (zg 0) (za (zF j4 jZ qi (qv 7)) zi))) (za (zg 5) (za zY zi)))))
   (zo (jN 6 (FL.fe (xZ y3 wU rfl (nbg NB) vc (zj (FE.fb (zx (qv 8) qi)) zu))))))))) yT)
   (zh (FS.frz 6 (jS (ym (xv hr.units) jv (FE.fb (zF yM xt (FE.fb (zw bg hr rfl (za (zg 0) (za zY zi)))) qi)) qi (nomark _)) (zo (xF 6 jd.nd (vX b6 hr rfl (za (zg 6) (za (zg 5) (za (zF yn yL (FE.fb (zw bg hr rfl (za (zg 0) (za zY zi)))) qi) zi)))))) yT))
   (zh (FS.frz 6 (zL 9 jd.nd (zF yM xt (FE.fb (zF yn yL (FE.fb (zw bg hr rfl (za (zg 0) (za zY zi)))) qi)) qi)))
   (zh (uM 10 (Ts:=["row"]) (F:=[]) jd.nd rfl (yH (qv 6)) (csx (sc:=ze WG)) xM (fgc 0) (λ_ _ _ _ _=>(FL.fe (xZ y3 wU rfl (nbg NB) vc (zj (qv 0) zu)))))
   (zh (jb qU rfl (yF rfl (nbg NB) (za (zH zA xj rfl (nbg NB) yx (zj (qv 6) zu)) zi)) (z9 7 jd.nd) (zo (jS (FW.ft (ze0 (ym (xv hr.units) jv (qv 9) qi (nomark _)) (zd7 (FW.ft (zkJ (ym (xv hr.units) jv (qv 9) qi (nomark _)) (zjh (ym (xv hr.units) jv (FE.fb (zF yM xt (qv 7) qi)) qi (nomark _)))))))) (zo (UT 10 (zg 7) (yi zI xa rfl (nbg NB) yA (zj (FE.fb (zx (qv 6) (qv 7))) zu)))) yT)))
   (zh (xF 11 jd.nd (xZ y3 wU rfl (nbg NB) vc (zj (yd 10) zu)))
   (zh (zL 12 jd.nd (Zl b7 hr rfl (zj (qv 2) (zj (qv 4) (zj (yd 10) zu)))))
   (zo (ye (zgt (zlh (qv 12) rfl (nbg NB) rfl (nbg NB) zin) (zgt (UH (xv hr.units) jv (qv 12) (FE.fb (zw b8 hr rfl (za (zg 2) (za (zg 4) (za (zg 6) zi))))) (nomark _)) (zlz (UH (xv hr.units) jv (yd 10) (yd 11) (nomark _))))))))))))))))))))))
end
end K10
namespace K10
open PySem L2 L2.Fu
abbrev NI(K:FRx)(x:Str)(f:AdX):Prop:=W.nsIn K mainGlobals x=some (some (.ref f))
abbrev LK(K:FRx)(f:AdX)(x q:Str)(st:Stmt)(oc:Value)(od:Option Addr)(kV dc pm:Value)(an:Option Addr)(cd ct:Value)(sl:Array (Option Value)):Prop:=K.lookup f=some ⟨oc,od,.func (W.fnOf x q (jl st) (yV st) (ze st) .none kV dc pm an cd ct),sl⟩
abbrev CI(K:FRx)(c:Value)(x:Str):Prop:=W.codeIn K c x=true
abbrev KI(K:FRx)(f:AdX):Prop:=W.keepIn K (.ref f)=true
abbrev FI0(K:FRx)(C:AdX)(x:Str):Prop:=W.findIn K (.ref C) x=some none
abbrev HD(K:FRx)(x:Str)(st:Stmt):Prop:=∃f oc od kV dc pm an cd ct sl,NI K x f/\LK K f x x st oc od kV dc pm an cd ct sl/\CI K cd x/\KI K f
abbrev MD(K:FRx)(C:AdX)(m q:Str)(st:Stmt):Prop:=∃f oc od kV dc pm an cd ct sl,W.findIn K (.ref C) m=some (some (.ref f))/\W.isFn K (.ref f)=true/\LK K f m q st oc od kV dc pm an cd ct sl/\CI K cd q/\KI K f
def hdef{K:FRx}{h:Heap}{mg:Str->Option Value}{x:Str}{st:Stmt}(X:K.In h)(G:h.Ns mainGlobals mg)(a:HD K x st):HasDef K mg x st:=by
 obtain⟨_,_,_,_,_,_,_,_,_,_,a,l,c,k⟩:=a;exact⟨_,_,zaO (st:=st) l c k,W.mg_of X G a⟩
def hmeth{K:FRx}{C:AdX}{m q:Str}{st:Stmt}(a:MD K C m q st):vU K C m q st:=by
 obtain⟨_,_,_,_,_,_,_,_,_,_,a,i,l,c,k⟩:=a;exact⟨_,_,zaO (st:=st) l c k,⟨a,i,k⟩⟩
def hini{K:FRx}{h:Heap}{mg:Str->Option Value}{C:AdX}{n q:Str}{st:Stmt}(X:K.In h)(G:h.Ns mainGlobals mg)(a:MD K C "__init__" q st)(aC:W.nsIn K mainGlobals n=some (some (.ref C)))(mk:W.makesIn K C=true)(kc:W.keepIn K (.ref C)=true):WO K mg C n "__init__" q st:=by
 obtain⟨_,_,_,_,_,_,_,_,_,_,a,i,l,c,k⟩:=a;exact⟨_,_,zaO (st:=st) l c k,⟨mk,a,i,kc⟩,W.mg_of X G aC⟩
def zl6{K:FRx}{x:Str}{st:Stmt}{f:AdX}{oc kV dc pm cd ct:Value}{od an:Option Addr}{sl:Array (Option Value)}(a:NI K x f)(l:LK K f x x st oc od kV dc pm an cd ct sl)(c:CI K cd x)(k:KI K f):HD K x st:=⟨f,oc,od,kV,dc,pm,an,cd,ct,sl,a,l,c,k⟩
def zl7{K:FRx}{C:AdX}{m q:Str}{st:Stmt}{f:AdX}{oc kV dc pm cd ct:Value}{od an:Option Addr}{sl:Array (Option Value)}(a:W.findIn K (.ref C) m=some (some (.ref f)))(i:W.isFn K (.ref f)=true)(l:LK K f m q st oc od kV dc pm an cd ct sl)(c:CI K cd q)(k:KI K f):MD K C m q st:=⟨f,oc,od,kV,dc,pm,an,cd,ct,sl,a,i,l,c,k⟩
def zjs(K:FRx)(l:LSr):Prop:=∀x∈l,W.nsIn K mainGlobals x=some none
def zig{K:FRx}:zjs K []:=λ_ h=>by cases h
def zfR{K:FRx}{x:Str}{l:LSr}(h:W.nsIn K mainGlobals x=some none)(r:zjs K l):zjs K (x::l):=λy hy=>by
 rcases qu.mp hy with rfl|hy
 ·exact h
 ·exact r y hy
def all_mk{l:W.OpenLaw}{w:World}{K:FRx}{h:Heap}{mg:Str->Option Value}{fa CS CR:AdX}(X:K.In h)(G:h.Ns mainGlobals mg)(hfa:mg "law"=some (.ref fa))(a1:HD K "_law_cell_at" wR)(a2:HD K "_law_low" VD)(a3:HD K "_law_fraction" v9)(a4:HD K "_law_machine" w9)(a5:HD K "_law_beside" xR)(a6:HD K "_law_times" Js)(a7:HD K "_law_plus" Ut)(a8:HD K "_law_turned_row" vt)(a9:HD K "_law_mixed" jP)(a10:HD K "_law_kin" JO)(a11:HD K "refuse_unlike" vG)(a12:HD K "common_divisor" vm)(a13:HD K "lowest" Yi)(a14:HD K "times" zaz)(a15:HD K "scaled_row" vP)(a16:HD K "noughts" VW)(a17:HD K "joined_step" jA)(a18:HD K "added_step" Jb)(a19:HD K "beside" Ve)(a20:HD K "difference" uE)(a21:HD K "shared_bottom" vH)(a22:HD K "tops_over" wQ)(a23:HD K "without_common" jm)(a24:HD K "whole_row" Jv)(a25:HD K "whole_pair_sum" jj)(a26:HD K "column" Vq)(a27:HD K "whole_step" vV)(a28:HD K "unit_row" UA)(a29:HD K "narrowed" u6)(a30:HD K "led_on" Vx)(a31:HD K "compared" Uq)(a32:HD K "rows_for" uO)(a33:HD K "_law_spoiled" jz)(a34:HD K "shows" U6)(a35:HD K "_law_both" uJ)(a36:HD K "_law_over" Um)(a37:HD K "_law_rank" vn)(a38:HD K "_law_in_span" vA)(a39:HD K "_law_dot" V9)(a40:HD K "_law_led" JS)(a41:HD K "_law_shown" wM)(a42:HD K "new_rows" UE)(a43:HD K "stays_within" vd)(a44:HD K "law" WG)(aCS:W.nsIn K mainGlobals "Span"=some (some (.ref CS)))(pgS:W.plainGet K CS Str.empty=true)(hdS:W.hasDictIn K CS=true)(poS:W.plainOver K CS=true)(saS:W.findIn K (.ref CS) "__setattr__"=some (some (.builtin "object.__setattr__")))(mkS:W.makesIn K CS=true)(kcS:W.keepIn K (.ref CS)=true)(nS_free:FI0 K CS "free")(nS_taken:FI0 K CS "taken")(nS_checks:FI0 K CS "checks")(nS_pivot:FI0 K CS "pivot")(aCR:W.nsIn K mainGlobals "Reach"=some (some (.ref CR)))(pgR:W.plainGet K CR Str.empty=true)(hdR:W.hasDictIn K CR=true)(poR:W.plainOver K CR=true)(saR:W.findIn K (.ref CR) "__setattr__"=some (some (.builtin "object.__setattr__")))(mkR:W.makesIn K CR=true)(kcR:W.keepIn K (.ref CR)=true)(nR_steps:FI0 K CR "steps")(nR_span:FI0 K CR "span")(nR_words:FI0 K CR "words")(nR_rows:FI0 K CR "rows")(nR_waiting:FI0 K CR "waiting")(nR_asked:FI0 K CR "asked")(m1:MD K CS "__init__" "Span.__init__" W6)(m2:MD K CS "full" "Span.full" zdf)(m3:MD K CS "take" "Span.take" V5)(m4:MD K CR "__init__" "Reach.__init__" W0)(m5:MD K CR "onward" "Reach.onward" YQ)(m6:MD K CR "row_led_on" "Reach.row_led_on" zgS)(m7:MD K CR "keep" "Reach.keep" zdK)(m8:MD K CS "holds" "Span.holds" WZ)(zs:zjs K blts){gt1_0 gt1_1:Tok}{ga1:AdX}{gd1:Option Addr}{gn1:Nat}{gs1:Array (Option Value)}(g_1:W.nsIn K mainGlobals "NOUGHT"=some (some (.ref ga1)))(gl1:K.lookup ga1=some ⟨.type "tuple",gd1,.seq #[.int 0 gt1_0,.int 1 gt1_1] gn1,gs1⟩){gt2_0 gt2_1:Tok}{ga2:AdX}{gd2:Option Addr}{gn2:Nat}{gs2:Array (Option Value)}(g_2:W.nsIn K mainGlobals "MINUS_ONE"=some (some (.ref ga2)))(gl2:K.lookup ga2=some ⟨.type "tuple",gd2,.seq #[.int (-1) gt2_0,.int 1 gt2_1] gn2,gs2⟩)
  :∃fd:FuncData,(∀(s:ShX)(v:Value),BindsTo s fd ⟨[v],[]⟩ [("script",v)])/\∀base:Heap,K.In base->base.Ns mainGlobals mg->wk l.prog w K mg base CX0 10 fa fd ["script"] (zel K):=by
 have⟨_,_,_,kV,dc,pm,an,cd,ct,_,aL,lL,cL,kL⟩:=a44;have e:=hfa.symm.trans (W.mg_of X G aL);cases e;have c_NOUGHT:GC K mg "NOUGHT" (.tuple [.int 0,.int 1]):=zeN (W.mg_of X G g_1) gl1
 have c_MINUS_ONE:GC K mg "MINUS_ONE" (.tuple [.int (-1),.int 1]):=zeN (W.mg_of X G g_2) gl2;have clS:Cls K CS:=⟨pgS,hdS,poS,saS⟩
 have clR:Cls K CR:=⟨pgR,hdR,poR,saR⟩;refine⟨W.fnOf "law" "law" (jl WG) (yV WG) (ze WG) .none kV dc pm an cd ct,λs v=>.of_eq rfl,λbase _ _=>?_⟩;have NB:NBP l.prog w base mg:=λx hx=>W.mg_none_of X G (zs x hx)
 have bg:=Yo (hdef X G a1) NB ;have bj:=zdh (hdef X G a2) NB
 have bo:=WM (hdef X G a3) NB bj;have bu:=Yg (hdef X G a4) NB bo
 have bx:=ZL (hdef X G a5) NB ;have bb:=zay (hdef X G a6) NB bj
 have bc:=zcU (hdef X G a7) NB bj;have bF:=Vj (hdef X G a8) NB bb bc
 have bM:=zbt (hdef X G a9) NB bF bb bc;have b4:=zdH (hdef X G a10) NB bu bx bo bM
 have bS:=VY (hdef X G a11) NB ;have br:=Vn (hdef X G a12) NB
 have bO:=zfD (hdef X G a13) NB br;have bP:=zhF (hdef X G a14) NB bO
 have bT:=Zw (hdef X G a15) NB bP;have bB:=zdj (hdef X G a16) NB c_NOUGHT
 have bQ:=YS (hdef X G a17) NB bB;have bR:=Zv (hdef X G a18) NB bB bQ
 have bU:=zga (hdef X G a19) NB bR;have bA:=Zx (hdef X G a20) NB c_MINUS_ONE bS bT bU
 have bC:=Wb (hdef X G a21) NB br;have bD:=zbl (hdef X G a22) NB
 have bH:=Vd (hdef X G a23) NB br;have bh:=zbp (hdef X G a24) NB bC bD bH
 have bz:=Vw (hdef X G a25) NB ;have bV:=zfG (hdef X G a26) NB
 have b9:=Zu (hdef X G a27) NB bC bV bD;have cn:=zb4 (hdef X G a28) NB
 have cq:=zbR (hdef X G a29) NB ;have bG:=zfH (hdef X G a30) NB bz
 have iS:=zlL (hini X G m1 aCS mkS kcS) NB clS nS_free nS_taken nS_checks nS_pivot cn;have mF:=zkW (P:=l.prog) (w:=w) (base:=base) (mg:=mg) (hmeth m2) clS nS_free
 have mT:=zl4 (hmeth m3) NB clS nS_free nS_taken nS_checks nS_pivot bz cq;have mL:=zmG (hmeth m6) clR nR_steps bH bG
 have mK:=zkY (hmeth m7) NB clR nR_words nR_rows nR_steps nR_waiting;have mO:=zhg (hmeth m5) NB clR clS nR_asked nR_waiting nR_span mF mT mK mL
 have iR:=zjN (hini X G m4 aCR mkR kcR) NB clR nR_steps nR_span nR_words nR_rows nR_waiting nR_asked b9 bh iS;have bW:=zbV (hdef X G a31) bA bh bz iR mO clR nR_words nR_rows
 have b5:=zcQ (hdef X G a32) NB bW;have b6:=YY (hdef X G a33) NB bo
 have mH:=zjw (hmeth m8) NB clS nS_checks bz;have dN:=zbE (hdef X G a42) bh clS mT
 have dS:=WL (hdef X G a43) NB b9 bG clS mH;have b7:=zii (hdef X G a34) NB bA bh bz iS clS mH dN dS
 have bY:=zbQ (hdef X G a35) NB bx;have bX:=zb6 (hdef X G a36) NB
 have bI:=zbZ (hdef X G a37) NB bX bb bc;have bJ:=Yn (hdef X G a38) NB bI
 have bE:=zdt (hdef X G a39) NB bb bc;have bZ:=zdc (hdef X G a40) NB bE
 have b8:=zaD (hdef X G a41) NB bY bJ bE bZ;exact zjL (λns _=>zkA _ ns) (zlf (zaO (st:=WG) lL cL kL) NB bg bu b4 b5 b6 b7 b8)
def walk{l:W.OpenLaw}{q:Program}{loose:LSr}{XP:(Str->Option Value)->Heap->Prop}{YP:World->Heap->Prop}{d:DefRec}{K:Params->W.Frag}(hn:l.most=some 63)(hdf:d.params.defaults=[])(hY:∀(w:World)(h:Heap),YP w h->(K w.params).In h)(F:∀(w:World)(mg:Str->Option Value)(fa:AdX)(h:Heap),(K w.params).In h->h.Ns mainGlobals mg->mg d.name=some (.ref fa)->
   ∃fd:FuncData,(∀(s:ShX)(u:Value),BindsTo s fd ⟨[u],[]⟩ [("script",u)])/\∀base:Heap,(K w.params).In base->base.Ns mainGlobals mg->wk l.prog w (K w.params) mg base CX0 10 fa fd ["script"] (zel (K w.params))):W.WalkO q loose XP YP l.row.toRowW d [] (λf vs=>PySem.call f vs):=L2.zjV (n:=63) (k:=10) (x:="script") (CX:=λ_=>CX0) (sp:=λw=>zel (K w.params)) hn (by decide) hdf ⟨rfl,by decide,by decide⟩ hY F (λ_ _ a ns hl _ hS=>⟨a,ns,rfl,hS,hl,λ_=>rfl⟩) λ_ _ _ _ _ z=>z
end K10
open PySem PySem.W PyProof.Rows
namespace PySem.W.Fast
def tw7350490021339397801:=0
def tw14381543646342087343:=0
def tw9770039777859475840:=0
def tw11386067031348801652:=0
def tw11317678479892031646:=0
def tw14742396623034341436:=0
def tw15136298149275312046:=0
def tw4439473722127980036:=0
def tw6538414617579393377:=0
def tw12416516108866819520:=0
def tw7038651104879990963:=0
def tw6595679160916110059:=0
def tw12014045904175355939:=0
def tw5024419119137283395:=0
def tw10073470310072307339:=0
def tw16884610060973848449:=0
def tw18245742559986859101:=0
def tw12350093239175922212:=0
def tw4169699254052740205:=0
def tw15903858558908185706:=0
def tw10649445094451374579:=0
def tw2525675161014745182:=0
end PySem.W.Fast
set_option maxRecDepth 100000 in
set_option maxHeartbeats 0 in
theorem PySem.Challenge.cw_wordscales_k10_what_rows_show_holds : PySem.Challenge.rw_wordscales_k10_what_rows_show.Holds := by
 w_on;o_law;k_head;(case hw=>w_witness2)
 k_fill
 refine K10.walk (l:=PySem.Challenge.rw_wordscales_k10_what_rows_show) rfl rfl (λw h Y=>PySem.W.kIn_of Y) ?F;case F=>
  intro w mg fa h KX G hmg;refine' K10.all_mk KX G hmg ?a1 ?a2 ?a3 ?a4 ?a5 ?a6 ?a7 ?a8 ?a9 ?a10 ?a11 ?a12 ?a13 ?a14 ?a15 ?a16 ?a17 ?a18 ?a19 ?a20 ?a21 ?a22 ?a23 ?a24 ?a25 ?a26 ?a27 ?a28 ?a29 ?a30 ?a31 ?a32 ?a33 ?a34 ?a35 ?a36 ?a37 ?a38 ?a39 ?a40 ?a41 ?a42 ?a43 ?a44 ?aCS ?pgS ?hdS ?poS ?saS ?mkS ?kcS ?nS_free ?nS_taken ?nS_checks ?nS_pivot ?aCR ?pgR ?hdR ?poR ?saR ?mkR ?kcR ?nR_steps ?nR_span ?nR_words ?nR_rows ?nR_waiting ?nR_asked ?m1 ?m2 ?m3 ?m4 ?m5 ?m6 ?m7 ?m8 ?zs ?g_1 ?gl1 ?g_2 ?gl2;case a1|a2|a3|a4|a5|a6|a7|a8|a9|a10|a11|a12|a13|a14|a15|a16|a17|a18|a19|a20|a21|a22|a23|a24|a25|a26|a27|a28|a29|a30|a31|a32|a33|a34|a35|a36|a37|a38|a39|a40|a41|a42|a43|a44=>
   refine' K10.zl6 ?a ?l ?c ?k;case a=>delta K10.NI;k_is
   case l=>delta K10.LK;k_is
   case c=>delta K10.CI;k_is
   case k=>delta K10.KI;k_is
  case aCS|pgS|hdS|poS|saS|mkS|kcS|aCR|pgR|hdR|poR|saR|mkR|kcR|g_1|gl1|g_2|gl2=>k_is
  case nS_free|nS_taken|nS_checks|nS_pivot|nR_steps|nR_span|nR_words|nR_rows|nR_waiting|nR_asked=>delta K10.FI0;k_is
  case m1|m2|m3|m4|m5|m6|m7|m8=>
   refine' K10.zl7 ?a ?i ?l ?c ?k;case a=>k_is
   case i=>k_is
   case l=>delta K10.LK;k_is
   case c=>delta K10.CI;k_is
   case k=>delta K10.KI;k_is
  case zs=>
   repeat (refine K10.zfR (by k_is) ?_)
   exact K10.zig
#print axioms PySem.Challenge.cw_wordscales_k10_what_rows_show_holds
